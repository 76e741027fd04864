/- A frame under making by a reader: what lies where; and what its text is. -/
import Derived.Test.YtlaeilcipibelaaDoorNums
import Derived.Test.YtlaeilcipibelaaDoorReadWin
import Derived.Test.YtlaeilcipibelaaDoorFText
import Derived.Deep.AppendLies
import Derived.Deep.DrawnRows
import Derived.Deep.RegionLaw
namespace Go.Proofs.YtlaeilcipibelaaDoor
open Go.RowKit

def Win := Int × Int × Int
def winT (q : Win) : List UInt8 := Lib.itoa q.1 ++ 58 :: (Lib.itoa q.2.1 ++ 58 :: Lib.itoa q.2.2)
def Bd3 (q : Win) : Prop := Bd q.1 ∧ Bd q.2.1 ∧ Bd q.2.2
def cellsW (ws : List Win) : List Value := ws.flatMap fun q => [.int .i64 q.1, .int .i64 q.2.1, .int .i64 q.2.2]
theorem cellsW_snoc (ws : List Win) (q : Win) : cellsW (ws ++ [q]) = cellsW ws ++ [.int .i64 q.1, .int .i64 q.2.1, .int .i64 q.2.2] := by simp [cellsW]
theorem cellsW_len (ws : List Win) : (cellsW ws).length = ws.length * 3 := by
  induction ws with
  | nil => rfl
  | cons q ws ih => simp [cellsW] at ih ⊢; omega
/-- The numbers of the windows, one behind the other. -/
def zOf (ws : List Win) (j : Nat) : Int := match ws[j / 3]? with
  | some q => if j % 3 = 0 then q.1 else if j % 3 = 1 then q.2.1 else q.2.2
  | none => 0
theorem zOf_0 {ws : List Win} {i : Nat} {q : Win} (h : ws[i]? = some q) : zOf ws (i * 3) = q.1 := by
  have e : i * 3 / 3 = i := by omega
  simp [zOf, e, h]
theorem zOf_1 {ws : List Win} {i : Nat} {q : Win} (h : ws[i]? = some q) : zOf ws (i * 3 + 1) = q.2.1 := by
  have e : (i * 3 + 1) / 3 = i := by omega
  have e2 : (i * 3 + 1) % 3 = 1 := by omega
  simp [zOf, e, h, e2]
theorem zOf_2 {ws : List Win} {i : Nat} {q : Win} (h : ws[i]? = some q) : zOf ws (i * 3 + 2) = q.2.2 := by
  have e : (i * 3 + 2) / 3 = i := by omega
  have e2 : (i * 3 + 2) % 3 = 2 := by omega
  simp [zOf, e, h, e2]
theorem cellsW_at : ∀ (ws : List Win) (j : Nat), j < ws.length * 3 → (cellsW ws)[j]? = some (.int .i64 (zOf ws j))
  | [], j, h => by simp at h
  | q :: ws, j, h => by
    have e : cellsW (q :: ws) = .int .i64 q.1 :: .int .i64 q.2.1 :: .int .i64 q.2.2 :: cellsW ws := by simp [cellsW]
    rw [e]
    match j with
    | 0 => simp [zOf]
    | 1 => simp [zOf]
    | 2 => simp [zOf]
    | j + 3 =>
      have ih := cellsW_at ws j (by simp at h; omega)
      simp only [List.getElem?_cons_succ]
      rw [ih]
      have e1 : (j + 3) / 3 = j / 3 + 1 := by omega
      have e2 : (j + 3) % 3 = j % 3 := by omega
      simp [zOf, e1, e2]
theorem zOf_bd {ws : List Win} (h : ∀ q ∈ ws, Bd3 q) (j : Nat) : -9223372036854775808 ≤ zOf ws j ∧ zOf ws j ≤ 9223372036854775807 := by
  unfold zOf
  cases e : ws[j / 3]? with
  | none => simp
  | some q =>
    have hq := h q (List.mem_of_getElem? e)
    obtain ⟨⟨a, b⟩, ⟨c, d⟩, f, g⟩ := hq
    simp only
    split
    · omega
    split
    · omega
    · omega

/-- The text s is that of the frame with this number and these windows. -/
def FrameIs (s : List UInt8) (major : Int) (ws : List Win) : Prop := pcs 32 s = Lib.itoa major :: ws.map winT ∧ Bd major ∧ ∀ q ∈ ws, Bd3 q
theorem dig_ne {n : Int} {c : UInt8} (hc : c ∈ Lib.itoa n) : c.toNat ≠ 32 ∧ c.toNat ≠ 58 := by
  by_cases h : n < 0
  · rw [itoa_neg h] at hc
    rcases List.mem_cons.1 hc with rfl | hc
    · exact ⟨by decide, by decide⟩
    · have := dec_dg _ c hc; exact ⟨by have := this.1; omega, by have := this.2; omega⟩
  · rw [itoa_pos (by omega)] at hc
    have := dec_dg _ c hc; exact ⟨by have := this.1; omega, by have := this.2; omega⟩
theorem itoa_no32 (n : Int) : (32 : UInt8) ∉ Lib.itoa n := fun h => (dig_ne h).1 rfl
theorem itoa_no58 (n : Int) : (58 : UInt8) ∉ Lib.itoa n := fun h => (dig_ne h).2 rfl
theorem winT_pcs (q : Win) : pcs 58 (winT q) = [Lib.itoa q.1, Lib.itoa q.2.1, Lib.itoa q.2.2] := by
  unfold winT
  rw [pcs_cut (itoa_no58 _), pcs_cut (itoa_no58 _), pcs_none (itoa_no58 _)]
theorem winT_of {x : List UInt8} {a l p : Int} (h : pcs 58 x = [Lib.itoa a, Lib.itoa l, Lib.itoa p]) : x = winT (a, l, p) := by
  have := pcs_join 58 x
  rw [h] at this
  rw [← this]
  simp [Lib.join, List.intercalate, winT]
theorem winT_no32 (q : Win) : (32 : UInt8) ∉ winT q := by
  unfold winT
  intro h
  rcases List.mem_append.1 h with h | h
  · exact itoa_no32 _ h
  rcases List.mem_cons.1 h with h | h
  · cases h
  rcases List.mem_append.1 h with h | h
  · exact itoa_no32 _ h
  rcases List.mem_cons.1 h with h | h
  · cases h
  · exact itoa_no32 _ h
theorem winT_inj {q r : Win} (hq : Bd3 q) (hr : Bd3 r) (h : winT q = winT r) : q = r := by
  have e := winT_pcs q
  rw [h, winT_pcs r] at e
  simp only [List.cons.injEq, and_true] at e
  obtain ⟨e1, e2, e3⟩ := e
  obtain ⟨a, b, c⟩ := q
  obtain ⟨a', b', c'⟩ := r
  have h1 := itoa_inj hr.1.1 hr.1.2 hq.1.1 hq.1.2 e1
  have h2 := itoa_inj hr.2.1.1 hr.2.1.2 hq.2.1.1 hq.2.1.2 e2
  have h3 := itoa_inj hr.2.2.1 hr.2.2.2 hq.2.2.1 hq.2.2.2 e3
  simp only at h1 h2 h3
  rw [h1, h2, h3]
theorem wins_inj : ∀ {ws vs : List Win}, (∀ q ∈ ws, Bd3 q) → (∀ q ∈ vs, Bd3 q) → ws.map winT = vs.map winT → ws = vs
  | [], [], _, _, _ => rfl
  | [], _ :: _, _, _, h => by simp at h
  | _ :: _, [], _, _, h => by simp at h
  | q :: ws, r :: vs, hq, hr, h => by
    simp only [List.map_cons, List.cons.injEq] at h
    rw [winT_inj (hq q (by simp)) (hr r (by simp)) h.1, wins_inj (fun x hx => hq x (by simp [hx])) (fun x hx => hr x (by simp [hx])) h.2]
/-- A text is that of one frame at most. -/
theorem FrameIs.inj {s : List UInt8} {m m' : Int} {ws ws' : List Win} (h : FrameIs s m ws) (k : FrameIs s m' ws') : m = m' ∧ ws = ws' := by
  have e := h.1
  rw [k.1] at e
  simp only [List.cons.injEq] at e
  exact ⟨(itoa_inj k.2.1.1 k.2.1.2 h.2.1.1 h.2.1.2 e.1).symm, (wins_inj k.2.2 h.2.2 e.2).symm⟩
theorem join_more (sep y : List UInt8) : ∀ xs : List (List UInt8), xs ≠ [] → Lib.join (xs ++ [y]) sep = Lib.join xs sep ++ sep ++ y
  | [], h => absurd rfl h
  | [a], _ => by simp [Lib.join, List.intercalate]
  | a :: b :: t, _ => by
    have ih := join_more sep y (b :: t) (by simp)
    have e : ∀ (c : List UInt8) (r : List (List UInt8)), Lib.join (a :: c :: r) sep = a ++ sep ++ Lib.join (c :: r) sep := fun c r => by simp [Lib.join, List.intercalate]
    rw [List.cons_append, List.cons_append, e, ← List.cons_append, ih, e]
    simp
theorem text_join (major : Int) (ws : List Win) : ∀ k, k ≤ ws.length → (textTo major (zOf ws) k).data.toList = Lib.join (Lib.itoa major :: (ws.take k).map winT) [32]
  | 0, _ => by simp [textTo, decB, Lib.join, List.intercalate]
  | k + 1, h => by
    have ih := text_join major ws k (by omega)
    have hk : k < ws.length := by omega
    have hq : ws[k]? = some ws[k] := List.getElem?_eq_getElem hk
    rw [List.take_succ_eq_append_getElem hk, List.map_append, List.map_singleton, ← List.cons_append, join_more _ _ _ (by simp), ← ih]
    simp only [textTo, winText, zOf_0 hq, zOf_1 hq, zOf_2 hq]
    simp [ByteArray.data_append, decB, winT]
/-- The text of a frame, cut. -/
theorem frame_text {s : ByteArray} {major : Int} {ws : List Win} (h : FrameIs s.data.toList major ws) : textTo major (zOf ws) ws.length = s := by
  apply ByteArray.ext
  apply Array.ext'
  rw [text_join major ws ws.length (Nat.le_refl _), List.take_length, ← h.1]
  exact pcs_join 32 _
theorem frame_nonempty {s : ByteArray} {major : Int} {ws : List Win} (h : FrameIs s.data.toList major ws) : s.size ≠ 0 := by
  intro e
  have h1 : s.data.toList = [] := List.eq_nil_of_length_eq_zero (by rw [len_is]; exact e)
  have h2 := h.1
  rw [h1] at h2
  simp only [pcs, List.cons.injEq] at h2
  have h3 := h2.1
  unfold Lib.itoa at h3
  split at h3
  · cases h3
  · exact dec_ne_nil _ h3.symm

/-- A frame under making: g0 the result's block, gf the frame's. -/
structure FMade (w wr : World) (gf : Nat) (major : Int) (v : Value) (ws : List Win) : Prop where
  res : wr.heap[w.heap.size]? = some (.cells #[.int .i64 0, .slice none 0 0] 26 (0, 0))
  fr : wr.heap[gf]? = some (.cells #[.int .i64 major, v] 26 (0, 0))
  own : wr.ownsRow (gf + 1) 56 3 v ws.length (cellsW ws)
  bel : Below w.heap.size w wr
  lt : w.heap.size < gf
theorem FMade.below {w wr w' : World} {gf : Nat} {major : Int} {v : Value} {ws : List Win} (m : FMade w wr gf major v ws) (hb : Below wr.heap.size wr w') : FMade w w' gf major v ws :=
  ⟨(hb.block _ (Array.getElem?_eq_some_iff.1 m.res).1).trans m.res, (hb.block _ (Array.getElem?_eq_some_iff.1 m.fr).1).trans m.fr, ownsRow_below m.own hb, m.bel.trans (hb.mono m.bel.size), m.lt⟩
theorem FMade.flt {w wr : World} {gf : Nat} {major : Int} {v : Value} {ws : List Win} (m : FMade w wr gf major v ws) : gf < wr.heap.size := (Array.getElem?_eq_some_iff.1 m.fr).1
theorem FMade.cell {w wr : World} {gf : Nat} {major : Int} {v : Value} {ws : List Win} (m : FMade w wr gf major v ws) : wr.cell? ⟨gf, 1, none⟩ = some v := by
  have := m.fr
  simp [World.cell?, this]
theorem FMade.cell0 {w wr : World} {gf : Nat} {major : Int} {v : Value} {ws : List Win} (m : FMade w wr gf major v ws) : wr.cell? ⟨gf, 0, none⟩ = some (.int .i64 major) := by
  have := m.fr
  simp [World.cell?, this]
theorem FMade.grown_fr {w wr w5 : World} {gf : Nat} {major : Int} {v : Value} {ws : List Win} (m : FMade w wr gf major v ws) (hg : wr.grownBy w5 v.ownBlock) : w5.heap[gf]? = some (.cells #[.int .i64 major, v] 26 (0, 0)) :=
  (hg.block _ m.flt (own_afar m.own (by omega))).trans m.fr
theorem FMade.push {w wr w5 : World} {gf : Nat} {major : Int} {v v' : Value} {ws : List Win} {q : Win} (m : FMade w wr gf major v ws) (hg : wr.grownBy w5 v.ownBlock)
    (ho : w5.ownsRow (gf + 1) 56 3 v' (ws.length + 1) (cellsW ws ++ [.int .i64 q.1, .int .i64 q.2.1, .int .i64 q.2.2])) :
    FMade w (w5.setCell ⟨gf, 1, none⟩ v') gf major v' (ws ++ [q]) := by
  have hl := m.lt
  have hf := m.flt
  refine ⟨?_, heap_setCell_same _ _ _ _ _ _ (m.grown_fr hg), ?_, ?_, hl⟩
  · exact ((Below.heap_setCell _ _ _ _ (by simp; omega)).trans (hg.block _ (by omega) (own_afar m.own (by omega)))).trans m.res
  · have h1 : (w5.setCell ⟨gf, 1, none⟩ v').ownsRow (gf + 1) 56 3 v' (ws.length + 1) (cellsW ws ++ [.int .i64 q.1, .int .i64 q.2.1, .int .i64 q.2.2]) := by
      obtain ⟨h1, h2⟩ := ho
      refine ⟨h1, ?_⟩
      rcases h2 with h2 | ⟨g, cap, cur, hv, hgg, hh, rest⟩
      · exact .inl h2
      · exact .inr ⟨g, cap, cur, hv, hgg, (Below.heap_setCell _ _ _ _ (by simp; omega)).trans hh, rest⟩
    rw [List.length_append, cellsW_snoc]
    exact h1
  · refine (m.bel.grown hg m.bel.size (fun k hk => ?_)).setCell (by show w.heap.size ≤ gf; omega) _
    rcases Nat.lt_or_ge k (gf + 1) with h | h
    · exact absurd hk.symm (own_afar m.own h)
    · omega
/-- The windows of the frame, for whoever reads them. -/
theorem FMade.wins {w wr : World} {gf g c : Nat} {major : Int} {ws : List Win} (m : FMade w wr gf major (.slice (some ⟨g, 0, none⟩) ws.length c) ws) : WinsAt wr g ws.length (zOf ws) ∧ gf < g := by
  obtain ⟨hl, ho⟩ := m.own
  rcases ho with ⟨h1, h2⟩ | ⟨g', cap', cur, h1, h2, h3, h4, h5, h6, h7⟩
  · cases h1
  · cases h1
    refine ⟨⟨(Array.getElem?_eq_some_iff.1 h3).1, fun j hj => ?_⟩, by omega⟩
    rw [cell_of_row _ _ _ _ _ _ h3, ← cellsW_at ws j hj, ← h7, List.getElem?_take_of_lt (by omega)]
    simp

end Go.Proofs.YtlaeilcipibelaaDoor
