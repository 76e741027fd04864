/- Readers of frames: how they end, and the frame under making. -/
import Derived.Test.YtlaeilcipibelaaDoorFrameRd
import Derived.Test.YtlaeilcipibelaaDoorFrameNil
namespace Go.Proofs.YtlaeilcipibelaaDoor
open Go.RowKit

theorem len_snoc (ws : List Win) (q : Win) : (ws ++ [q]).length = ws.length + 1 := by simp
theorem len_snoc_le {ws : List Win} {q : Win} {n : Nat} (h : ws.length + 1 ≤ n) : (ws ++ [q]).length ≤ n := by rw [len_snoc]; exact h
theorem len_snoc_int (ws : List Win) (q : Win) : Value.int .i64 ((ws.length : Int) + 1) = Value.int .i64 ((ws ++ [q]).length : Int) := by simp
theorem own_form {w : World} {base e n : Nat} {v : Value} {ws : List Win} (h : w.ownsRow base e 3 v n (cellsW ws)) (hn : n = ws.length) : (v = .slice none 0 0 ∧ ws.length = 0) ∨ ∃ g c, v = .slice (some ⟨g, 0, none⟩) ws.length c ∧ base ≤ g ∧ WinsAt w g ws.length (zOf ws) := by
  subst hn
  rcases h.2 with ⟨h1, h2⟩ | ⟨g, cap, cur, h1, h2, h3, h4, h5, h6, h7⟩
  · exact .inl ⟨h1, h2⟩
  · refine .inr ⟨g, cap, h1, h2, (Array.getElem?_eq_some_iff.1 h3).1, fun j hj => ?_⟩
    rw [cell_of_row _ _ _ _ _ _ h3, ← cellsW_at ws j hj, ← h7, List.getElem?_take_of_lt (by omega)]
    simp
theorem specText_own {w : World} {base : Nat} {major : Int} {v : Value} {ws : List Win} (h : w.ownsRow base 56 3 v ws.length (cellsW ws)) (hb : ∀ q ∈ ws, Bd3 q) (hl : ws.length ≤ 1048576) :
    Calls Tryd.prog 12 #[.agg #[.int .i64 major, v]] w fun e w' => e = .returned (.string (textB major ws.length (zOf ws))) ∧ Below w.heap.size w w' := by
  rcases own_form h rfl with ⟨rfl, h0⟩ | ⟨g, c, rfl, _, hw⟩
  · have := specFrameText_nil major ws.length 0 (zOf ws) w hl (zOf_bd hb) h0
    rw [h0] at this ⊢
    exact this
  · exact specFrameText_any major g ws.length c (zOf ws) w hl (zOf_bd hb) hw
theorem implOk_own {w : World} {base : Nat} {major : Int} {v : Value} {ws : List Win} (h : w.ownsRow base 56 3 v ws.length (cellsW ws)) (hb : ∀ q ∈ ws, Bd3 q) (hl : ws.length ≤ 1048576) :
    Calls Tryd.prog 13 #[.agg #[.int .i64 major, v]] w fun e w' => e = .returned (.bool (frameB major ws.length (zOf ws))) ∧ Below w.heap.size w w' := by
  rcases own_form h rfl with ⟨rfl, h0⟩ | ⟨g, c, rfl, _, hw⟩
  · have := implFrameOk_nil major ws.length 0 (zOf ws) w hl (zOf_bd hb) h0
    rw [h0] at this ⊢
    exact this
  · exact implFrameOk_any major g ws.length c (zOf ws) w hl (zOf_bd hb) hw

/-- How a reader of frames ends: the one right frame whose text it is, in new memory; or none. -/
def RdEnds (s : ByteArray) (w : World) (e : Ending) (w' : World) : Prop :=
  (∃ major v ws, e = .returned (.tuple #[.agg #[.int .i64 major, v], .bool true]) ∧ FrameIs s.data.toList major ws ∧ frameB major ws.length (zOf ws) = true ∧ w'.ownsRow w.heap.size 56 3 v ws.length (cellsW ws)) ∨
  (e = .returned (.tuple #[.agg #[.int .i64 0, .slice none 0 0], .bool false]) ∧ ∀ major ws, FrameIs s.data.toList major ws → frameB major ws.length (zOf ws) = true → False)
theorem set2_heap {x : World} {g t : Nat} {v0 v1 : Value} (h : x.heap[g]? = some (.cells #[v0, v1] t (0, 0))) (u0 u1 : Value) :
    ((x.setCell ⟨g, 0, none⟩ u0).setCell ⟨g, 1, none⟩ u1).heap[g]? = some (.cells #[u0, u1] t (0, 0)) := by
  have h0 := heap_setCell_same _ g 0 _ _ u0 h
  have h1 := heap_setCell_same _ g 1 _ _ u1 h0
  simpa using h1
theorem set2_below {w x : World} {g : Nat} (hb : Below w.heap.size w x) (hg : w.heap.size ≤ g) (u0 u1 : Value) : Below w.heap.size w ((x.setCell ⟨g, 0, none⟩ u0).setCell ⟨g, 1, none⟩ u1) :=
  (hb.setCell hg _).setCell hg _
theorem frameSize : (Tryd.prog.info? 26).map (·.size) = some 2 := by kernel_rfl
/-- A frame and a flag, read where they lie. -/
theorem frameResults {fn : Func} {p u : Tmp} (h : fn.results = #[.cell p 26, .tmp u]) {tmps : Array Value} {w : World} {g : Nat} {v0 v1 : Value} (hp : tmps.getD p undef = .pointer (some ⟨g, 0, none⟩)) (hg : w.heap[g]? = some (.cells #[v0, v1] 26 (0, 0))) :
    (results fn tmps).run Tryd.prog w = .ok (.tuple #[.agg #[v0, v1], tmps.getD u undef]) w := by
  rw [results_cell_tmp h, hp]
  have := run_loadVar_row (P := Tryd.prog) w g _ 26 _ _ _ hg Tryd.underlying26 rfl frameSize
  simp [asAddr, this]
theorem own_set2 {w x : World} {base e size n g : Nat} {v : Value} {xs : List Value} (h : x.ownsRow base e size v n xs) (hg : g < base) (u0 u1 : Value) (_hw : w = w := rfl) : ((x.setCell ⟨g, 0, none⟩ u0).setCell ⟨g, 1, none⟩ u1).ownsRow base e size v n xs := by
  obtain ⟨h1, h2⟩ := h
  refine ⟨h1, ?_⟩
  rcases h2 with h2 | ⟨q, cap, cur, hv, hq, hh, rest⟩
  · exact .inl h2
  · exact .inr ⟨q, cap, cur, hv, hq, (Below.heap_setCell _ _ _ _ (by simp; omega)).trans ((Below.heap_setCell _ _ _ _ (by simp; omega)).trans hh), rest⟩
theorem own_base {w : World} {b b' e size n : Nat} {v : Value} {xs : List Value} (h : w.ownsRow b e size v n xs) (hb : b' ≤ b) : w.ownsRow b' e size v n xs := by
  obtain ⟨h1, h2⟩ := h
  refine ⟨h1, ?_⟩
  rcases h2 with h2 | ⟨q, cap, cur, hv, hq, rest⟩
  · exact .inl h2
  · exact .inr ⟨q, cap, cur, hv, by omega, rest⟩
theorem winInfo : (Tryd.prog.info? 56).map (fun i => (i.zero, i.size, i.bytes)) = some (some (.agg #[.int .i64 0, .int .i64 0, .int .i64 0]), 3, 24) := by kernel_rfl

/-- Where the reading stands. -/
structure RdAt (s : ByteArray) (w wr : World) (gf : Nat) (major : Int) (t : ByteArray) (more : Bool) (v : Value) (ws : List Win) : Prop where
  made : FMade w wr gf major v ws
  pc : pcs 32 s.data.toList = Lib.itoa major :: ws.map winT ++ (if more = true then pcs 32 t.data.toList else [])
  bm : Bd major
  bd : ∀ q ∈ ws, Bd3 q
  tl : t.size ≤ s.size

theorem nums_form {w : World} {b : Nat} {v : Value} {x y z : Int} (h : w.ownsRow b 2 1 v 3 (numV [x, y, z])) : ∃ g c, v = .slice (some ⟨g, 0, none⟩) 3 c ∧ b ≤ g ∧ w.cell? ⟨g, 0, none⟩ = some (.int .i64 x) ∧ w.cell? ⟨g, 1, none⟩ = some (.int .i64 y) ∧ w.cell? ⟨g, 2, none⟩ = some (.int .i64 z) := by
  rcases h.2 with ⟨_, h2⟩ | ⟨g, cap, cur, h1, h2, h3, h4, h5, h6, h7⟩
  · cases h2
  · have key : ∀ j, j < 3 → w.cell? ⟨g, j, none⟩ = (numV [x, y, z])[j]? := fun j hj => by
      rw [cell_of_row _ _ _ _ _ _ h3, ← h7, List.getElem?_take_of_lt (by omega)]
      simp
    exact ⟨g, cap, h1, h2, key 0 (by omega), key 1 (by omega), key 2 (by omega)⟩
/-- The piece at which the reading stands is that of a window, if the text is that of a frame. -/
theorem RdAt.piece {s t a b : ByteArray} {w wr : World} {gf : Nat} {major : Int} {v : Value} {ws : List Win} {f : Bool} (h : RdAt s w wr gf major t true v ws) (hc : CutIs t 32 a b f) {m' : Int} {ws' : List Win} (hf : FrameIs s.data.toList m' ws') :
    ∃ q, Bd3 q ∧ a.data.toList = winT q := by
  have e := h.pc
  rw [if_pos rfl, hc.pcs, hf.1] at e
  have e2 : ws'.map winT = ws.map winT ++ (if f = true then a.data.toList :: pcs 32 b.data.toList else [a.data.toList]) := by
    simpa using (List.cons.inj (by simpa using e)).2
  have hm : a.data.toList ∈ ws'.map winT := by rw [e2]; cases f <;> simp
  obtain ⟨q, hq, e3⟩ := List.mem_map.1 hm
  exact ⟨q, hf.2.2 q hq, e3.symm⟩
theorem RdAt.next {s t a b : ByteArray} {w wr wr' : World} {gf : Nat} {major : Int} {v v' : Value} {ws : List Win} {f : Bool} {q : Win} (h : RdAt s w wr gf major t true v ws) (hc : CutIs t 32 a b f) (hm : FMade w wr' gf major v' (ws ++ [q])) (hq : a.data.toList = winT q) (hb : Bd3 q) : RdAt s w wr' gf major b f v' (ws ++ [q]) := by
  refine ⟨hm, ?_, h.bm, ?_, ?_⟩
  · rw [h.pc, if_pos rfl, hc.pcs, hq]
    cases f <;> simp
  · intro x hx
    rcases List.mem_append.1 hx with hx | hx
    · exact h.bd x hx
    · rw [List.mem_singleton] at hx; subst hx; exact hb
  · have := cut_sizes hc
    have := h.tl
    omega
theorem RdAt.below {s t : ByteArray} {w wr w' : World} {gf : Nat} {major : Int} {v : Value} {ws : List Win} {f : Bool} (h : RdAt s w wr gf major t f v ws) (hb : Below wr.heap.size wr w') : RdAt s w w' gf major t f v ws := ⟨h.made.below hb, h.pc, h.bm, h.bd, h.tl⟩
theorem RdAt.is {s t : ByteArray} {w wr : World} {gf : Nat} {major : Int} {v : Value} {ws : List Win} (h : RdAt s w wr gf major t false v ws) : FrameIs s.data.toList major ws := ⟨by have := h.pc; simpa using this, h.bm, h.bd⟩
theorem RdAt.long {s t : ByteArray} {w wr : World} {gf : Nat} {major : Int} {v : Value} {ws : List Win} {f : Bool} (h : RdAt s w wr gf major t f v ws) (hl : 20 < ws.length) : s.size ≠ 0 ∧ ∀ m' ws', FrameIs s.data.toList m' ws' → frameB m' ws'.length (zOf ws') = true → False := by
  have e := congrArg List.length h.pc
  simp only [List.length_append, List.length_cons, List.length_map] at e
  refine ⟨fun h0 => ?_, fun m' ws' hf hr => ?_⟩
  · have h1 := pcs_len_le 32 s.data.toList
    rw [len_is] at h1
    omega
  · have h1 := congrArg List.length hf.1
    simp only [List.length_cons, List.length_map] at h1
    have := (frameB_out hr).2.2.1
    omega
theorem not_empty {s : ByteArray} (h : s.size ≠ 0) : ¬ (⟨#[]⟩ : ByteArray) = s := fun e => h (by rw [← e]; rfl)

end Go.Proofs.YtlaeilcipibelaaDoor
