/- The text of an op, taken apart: what it can be the text of. No walk. -/
import Derived.Test.YtlaeilcipibelaaGreatDoorOpNames
import Derived.Test.YtlaeilcipibelaaGreatDoorIntRd
import Derived.Test.YtlaeilcipibelaaGreatDoorPieces
namespace Go.Proofs.YtlaeilcipibelaaGreatDoor
open Go.RowKit

/-- An op: kind, two numbers, a text. -/
abbrev OpD := Int × Int × Int × ByteArray
def opOk (o : OpD) : Bool := opB o.1 o.2.1 o.2.2.1 o.2.2.2
def opTx (o : OpD) : ByteArray := opText o.1 o.2.1 o.2.2.1 o.2.2.2
/-- A text is that of a right op. -/
def OpIs (s : ByteArray) (o : OpD) : Prop := opOk o = true ∧ s = opTx o

theorem dig_is {n : Int} {c : UInt8} (hc : c ∈ Lib.itoa n) : c.toNat = 45 ∨ (48 ≤ c.toNat ∧ c.toNat ≤ 57) := by
  by_cases h : 0 ≤ n
  · rw [itoa_pos h] at hc
    exact .inr (dec_dg _ _ hc)
  · rw [itoa_neg (by omega)] at hc
    rcases List.mem_cons.1 hc with h1 | h1
    · subst h1; exact .inl rfl
    · exact .inr (dec_dg _ _ h1)
theorem itoa_blank (n : Int) : (32 : UInt8) ∉ Lib.itoa n := fun h => by have h1 := dig_is h; have h2 : (32 : UInt8).toNat = 32 := rfl; omega
theorem itoa_semi (n : Int) : (59 : UInt8) ∉ Lib.itoa n := fun h => by have h1 := dig_is h; have h2 : (59 : UInt8).toNat = 59 := rfl; omega
theorem itoa_some (n : Int) : Lib.itoa n ≠ [] := by
  by_cases h : 0 ≤ n
  · rw [itoa_pos h]; exact dec_ne_nil _
  · rw [itoa_neg (by omega)]; exact List.cons_ne_nil _ _
theorem bytes_eq {a b : ByteArray} (h : a.data.toList = b.data.toList) : a = b := by
  apply ByteArray.ext
  apply Array.ext'
  exact h
theorem bytes_nil {a : ByteArray} (h : a.data.toList = []) : a = ⟨#[]⟩ := bytes_eq h
theorem decB_list (n : Int) : (decB n).data.toList = Lib.itoa n := by simp [decB]

theorem cut_at {s a b : ByteArray} {c : UInt8} {f : Bool} {x y : List UInt8} (h : CutIs s c a b f) (e : s.data.toList = x ++ c :: y) (hx : c ∉ x) : f = true ∧ a.data.toList = x ∧ b.data.toList = y := by
  rcases h with ⟨h1, h2, h3⟩ | ⟨_, _, _, h3⟩
  · have e1 : a.data.toList ++ c :: b.data.toList = x ++ c :: y := h2.symm.trans e
    have e2 := congrArg (pcs c) e1
    rw [pcs_cut h3, pcs_cut hx] at e2
    have e3 := (List.cons.inj e2).1
    rw [e3] at e1
    have e4 := List.append_cancel_left e1
    exact ⟨h1, e3, (List.cons.inj e4).2⟩
  · exact absurd (by rw [e]; simp) h3
theorem cut_no {s a b : ByteArray} {c : UInt8} {f : Bool} (h : CutIs s c a b f) (hx : c ∉ s.data.toList) : f = false ∧ a = s ∧ b = ⟨#[]⟩ := by
  rcases h with ⟨_, h2, _⟩ | ⟨h0, h1, h2, _⟩
  · exact absurd (by rw [h2]; simp) hx
  · exact ⟨h0, h1, h2⟩

/-- The kind whose word it is; none: 0. -/
def kU (s : ByteArray) : Nat → Int
  | 0 => 0
  | k + 1 => if nameB ((k : Int) + 1) = s then (k : Int) + 1 else kU s k
theorem kinds {k : Int} (h : 1 ≤ k ∧ k ≤ 17) : k = 1 ∨ k = 2 ∨ k = 3 ∨ k = 4 ∨ k = 5 ∨ k = 6 ∨ k = 7 ∨ k = 8 ∨ k = 9 ∨ k = 10 ∨ k = 11 ∨ k = 12 ∨ k = 13 ∨ k = 14 ∨ k = 15 ∨ k = 16 ∨ k = 17 := by omega
theorem kU_name {k : Int} (h : 1 ≤ k ∧ k ≤ 17) : kU (nameB k) 17 = k := by
  rcases kinds h with rfl | rfl | rfl | rfl | rfl | rfl | rfl | rfl | rfl | rfl | rfl | rfl | rfl | rfl | rfl | rfl | rfl <;> decide
theorem name_blank {k : Int} (h : 1 ≤ k ∧ k ≤ 17) : (32 : UInt8) ∉ (nameB k).data.toList := by
  rcases kinds h with rfl | rfl | rfl | rfl | rfl | rfl | rfl | rfl | rfl | rfl | rfl | rfl | rfl | rfl | rfl | rfl | rfl <;> decide
theorem name_semi {k : Int} (h : 1 ≤ k ∧ k ≤ 17) : (59 : UInt8) ∉ (nameB k).data.toList := by
  rcases kinds h with rfl | rfl | rfl | rfl | rfl | rfl | rfl | rfl | rfl | rfl | rfl | rfl | rfl | rfl | rfl | rfl | rfl <;> decide
theorem name_some {k : Int} (h : 1 ≤ k ∧ k ≤ 17) : (nameB k).data.toList ≠ [] := by
  rcases kinds h with rfl | rfl | rfl | rfl | rfl | rfl | rfl | rfl | rfl | rfl | rfl | rfl | rfl | rfl | rfl | rfl | rfl <;> decide
theorem name_inj {k j : Int} (hk : 1 ≤ k ∧ k ≤ 17) (hj : 1 ≤ j ∧ j ≤ 17) (h : nameB k = nameB j) : k = j := by
  have := kU_name hk
  rw [h, kU_name hj] at this
  exact this.symm

/-- What stands behind an op's word. -/
def tailT (o : OpD) : List UInt8 :=
  if o.1 = 8 then Lib.itoa o.2.1 ++ 32 :: (Lib.itoa o.2.2.1 ++ 32 :: o.2.2.2.data.toList)
  else if o.1 = 3 ∨ o.1 = 7 ∨ o.1 = 9 ∨ o.1 = 12 then Lib.itoa o.2.1 ++ 32 :: Lib.itoa o.2.2.1
  else if o.1 = 10 ∨ o.1 = 13 then Lib.itoa o.2.1 ++ 32 :: o.2.2.2.data.toList
  else Lib.itoa o.2.1
theorem opOk_kind {o : OpD} (h : opOk o = true) : 1 ≤ o.1 ∧ o.1 ≤ 17 := by
  have := opR_kind h
  omega
theorem empty_is {s : ByteArray} (h : emptyB s = true) : s = ⟨#[]⟩ := by
  apply bytes_nil
  simpa [emptyB, ByteArray.toList_eq] using h
/-- A right op's fields. -/
theorem opOk_out {o : OpD} (h : opOk o = true) :
    (o.1 = 17 ∧ o.2.1 = 0 ∧ o.2.2.1 = 0 ∧ o.2.2.2 = ⟨#[]⟩) ∨
    (o.1 ≠ 17 ∧ (1 ≤ o.2.1 ∧ o.2.1 ≤ 1000) ∧ (-1 ≤ o.2.2.1 ∧ o.2.2.1 ≤ 1000) ∧ (¬ (o.1 = 8 ∨ isWait o.1) → o.2.2.1 = 0) ∧ (¬ (o.1 = 8 ∨ isText o.1) → o.2.2.2 = ⟨#[]⟩) ∧ plainB o.2.2.2 = true) := by
  obtain ⟨k, n, m, s⟩ := o
  have hk := opR_kind h
  have he : emptyB s = true → plainB s = true := fun h => by rw [empty_is h]; rfl
  simp only [opOk] at h
  by_cases h17 : k = 17
  · subst h17
    simp only [opB, Int.reduceEq, or_self, if_false, if_true, Bool.and_eq_true, decide_eq_true_eq] at h
    exact .inl ⟨rfl, h.1.1, h.1.2, empty_is h.2⟩
  · refine .inr ⟨h17, ?_⟩
    show (1 ≤ n ∧ n ≤ 1000) ∧ (-1 ≤ m ∧ m ≤ 1000) ∧ (¬ (k = 8 ∨ isWait k) → m = 0) ∧ (¬ (k = 8 ∨ isText k) → s = ⟨#[]⟩) ∧ plainB s = true
    unfold opB at h
    split at h
    · rename_i hc
      simp only [Bool.and_eq_true, decide_eq_true_eq] at h
      have h1 := inR_out h.1.1
      exact ⟨h1, by omega, fun _ => h.1.2, fun _ => empty_is h.2, he h.2⟩
    split at h
    · rename_i hc
      simp only [Bool.and_eq_true] at h
      exact ⟨inR_out h.1.1, inR_out h.1.2, fun hn => absurd (.inr hc) hn, fun _ => empty_is h.2, he h.2⟩
    split at h
    · rename_i hc
      simp only [Bool.and_eq_true] at h
      exact ⟨inR_out h.1.1, inR_out h.1.2, fun hn => absurd (.inl hc) hn, fun hn => absurd (.inl hc) hn, h.2⟩
    split at h
    · rename_i hc
      simp only [Bool.and_eq_true, decide_eq_true_eq] at h
      exact ⟨inR_out h.1.1, by omega, fun _ => h.1.2, fun hn => absurd (.inr hc) hn, h.2⟩
    · cases h
theorem opTx_list {o : OpD} (h : opOk o = true) : (opTx o).data.toList = if o.1 = 17 then (nameB 17).data.toList else (nameB o.1).data.toList ++ 32 :: tailT o := by
  obtain ⟨k, n, m, s⟩ := o
  have hk := opR_kind h
  simp only [opTx, opText, tailT]
  rcases hk with rfl | rfl | rfl | rfl | rfl | rfl | rfl | rfl | rfl | rfl | rfl | rfl | rfl | rfl | rfl | rfl | rfl <;> simp [ByteArray.data_append, decB_list]

theorem DecIs.of {s : ByteArray} {n : Int} (h : s.data.toList = Lib.itoa n) (h0 : -1 ≤ n ∧ n ≤ 1000) : DecIs s n := ⟨h, by omega, by omega⟩

/-- The first word. -/
theorem OpIs.one {s a b : ByteArray} {f : Bool} {o : OpD} (h : OpIs s o) (hc : CutIs s 32 a b f) :
    a = nameB o.1 ∧ (1 ≤ o.1 ∧ o.1 ≤ 17) ∧ ((o.1 = 17 ∧ f = false ∧ b = ⟨#[]⟩) ∨ (o.1 ≠ 17 ∧ f = true ∧ b.data.toList = tailT o)) := by
  have hk := opOk_kind h.1
  have e := opTx_list h.1
  rw [← h.2] at e
  by_cases h17 : o.1 = 17
  · rw [if_pos h17] at e
    obtain ⟨h1, h2, h3⟩ := cut_no hc (by rw [e]; exact name_blank (by omega))
    exact ⟨by rw [h2, h17]; exact bytes_eq e, hk, .inl ⟨h17, h1, h3⟩⟩
  · rw [if_neg h17] at e
    obtain ⟨h1, h2, h3⟩ := cut_at hc e (name_blank hk)
    exact ⟨bytes_eq h2, hk, .inr ⟨h17, h1, h3⟩⟩
/-- The second one. -/
theorem tail_one {o : OpD} {r a b : ByteArray} {f : Bool} (h : opOk o = true) (hr : r.data.toList = tailT o) (h17 : o.1 ≠ 17) (hc : CutIs r 32 a b f) :
    DecIs a o.2.1 ∧ ((f = false ∧ b = ⟨#[]⟩ ∧ ¬ (o.1 = 8 ∨ isWait o.1) ∧ ¬ (o.1 = 8 ∨ isText o.1)) ∨ (f = true ∧ o.1 = 8 ∧ b.data.toList = Lib.itoa o.2.2.1 ++ 32 :: o.2.2.2.data.toList) ∨ (f = true ∧ isWait o.1 ∧ b.data.toList = Lib.itoa o.2.2.1) ∨ (f = true ∧ isText o.1 ∧ b = o.2.2.2)) := by
  rcases opOk_out h with ⟨h1, _⟩ | ⟨_, hn, _⟩
  · exact absurd h1 h17
  unfold tailT at hr
  split at hr
  · rename_i h8
    obtain ⟨h1, h2, h3⟩ := cut_at hc hr (itoa_blank _)
    exact ⟨.of h2 (by omega), .inr (.inl ⟨h1, h8, h3⟩)⟩
  split at hr
  · rename_i hw
    obtain ⟨h1, h2, h3⟩ := cut_at hc hr (itoa_blank _)
    exact ⟨.of h2 (by omega), .inr (.inr (.inl ⟨h1, hw, h3⟩))⟩
  split at hr
  · rename_i ht
    obtain ⟨h1, h2, h3⟩ := cut_at hc hr (itoa_blank _)
    exact ⟨.of h2 (by omega), .inr (.inr (.inr ⟨h1, ht, bytes_eq h3⟩))⟩
  · rename_i h8 hw ht
    obtain ⟨h1, h2, h3⟩ := cut_no hc (by rw [hr]; exact itoa_blank _)
    refine ⟨.of (by rw [h2]; exact hr) (by omega), .inl ⟨h1, h3, ?_, ?_⟩⟩
    · rintro (h9 | h9)
      · exact h8 h9
      · exact hw h9
    · rintro (h9 | h9)
      · exact h8 h9
      · exact ht h9
theorem wait_two {o : OpD} {r a b : ByteArray} {f : Bool} (h : opOk o = true) (hr : r.data.toList = Lib.itoa o.2.2.1) (h17 : o.1 ≠ 17) (hc : CutIs r 32 a b f) : f = false ∧ b = ⟨#[]⟩ ∧ DecIs a o.2.2.1 := by
  rcases opOk_out h with ⟨h1, _⟩ | ⟨_, hn, hm, _⟩
  · exact absurd h1 h17
  obtain ⟨h1, h2, h3⟩ := cut_no hc (by rw [hr]; exact itoa_blank _)
  exact ⟨h1, h3, .of (by rw [h2]; exact hr) hm⟩
theorem send_two {o : OpD} {r a b : ByteArray} {f : Bool} (h : opOk o = true) (hr : r.data.toList = Lib.itoa o.2.2.1 ++ 32 :: o.2.2.2.data.toList) (h17 : o.1 ≠ 17) (hc : CutIs r 32 a b f) : f = true ∧ b = o.2.2.2 ∧ DecIs a o.2.2.1 := by
  rcases opOk_out h with ⟨h1, _⟩ | ⟨_, hn, hm, _⟩
  · exact absurd h1 h17
  obtain ⟨h1, h2, h3⟩ := cut_at hc hr (itoa_blank _)
  exact ⟨h1, bytes_eq h3, .of h2 hm⟩

/-- What a reader of a number gives, whatever the text. -/
def IntVal (s : ByteArray) (n : Int) : Prop := DecIs s n ∨ (n = 0 ∧ ∀ j, ¬ DecIs s j)
theorem IntEnds.val {s : ByteArray} {e : Ending} (h : IntEnds s e) : ∃ (n : Int) (b : Bool), e = .returned (.tuple #[.int .i64 n, .bool b]) ∧ IntVal s n := by
  rcases h with ⟨n, h1, h2⟩ | ⟨h1, h2⟩
  · exact ⟨n, true, h1, .inl h2⟩
  · exact ⟨0, false, h1, .inr ⟨rfl, h2⟩⟩
theorem IntVal.eq {s : ByteArray} {n j : Int} (h : IntVal s n) (hj : DecIs s j) : j = n := by
  rcases h with h | ⟨_, h⟩
  · exact hj.inj h
  · exact absurd hj (h j)
theorem dec_empty {n : Int} (h : DecIs ⟨#[]⟩ n) : False := itoa_some n h.1.symm

/-- What the specification reads of an op that stands there. -/
theorem OpIs.spec {s w r a b : ByteArray} {f g : Bool} {o : OpD} {n : Int} (h : OpIs s o) (c1 : CutIs s 32 w r f) (c2 : CutIs r 32 a b g) (hn : IntVal a n) :
    o.1 = kU w 17 ∧ o.2.1 = n ∧ (¬ (o.1 = 8 ∨ isWait o.1) → o.2.2.1 = 0) ∧ (¬ (o.1 = 8 ∨ isText o.1) → o.2.2.2 = ⟨#[]⟩) ∧ (isText o.1 → o.2.2.2 = b) ∧
    ((o.1 = 8 ∨ isWait o.1) → ∀ {x y : ByteArray} {e : Bool} {m : Int}, CutIs b 32 x y e → IntVal x m → o.2.2.1 = m ∧ (o.1 = 8 → o.2.2.2 = y)) := by
  obtain ⟨h1, hk, h2⟩ := h.one c1
  have k1 : o.1 = kU w 17 := by rw [h1, kU_name hk]
  rcases h2 with ⟨h17, hf, hb⟩ | ⟨h17, hf, hb⟩
  · rcases opOk_out h.1 with ⟨_, q1, q2, q3⟩ | ⟨q, _⟩
    · refine ⟨k1, ?_, fun _ => q2, fun _ => q3, fun ht => ?_, fun hw => ?_⟩
      · subst hb
        obtain ⟨_, e1, _⟩ := cut_no c2 (by simp)
        rcases hn with hn | ⟨hn, _⟩
        · rw [e1] at hn
          exact (dec_empty hn).elim
        · rw [q1, hn]
      · exact absurd ht (by unfold isText; omega)
      · exact absurd hw (by unfold isWait; omega)
    · exact absurd h17 q
  · rcases opOk_out h.1 with ⟨q, _⟩ | ⟨_, _, _, q3, q4, _⟩
    · exact absurd q h17
    obtain ⟨d1, d2⟩ := tail_one h.1 hb h17 c2
    refine ⟨k1, hn.eq d1, q3, q4, fun ht => ?_, fun hw x y e m c3 hm => ?_⟩
    · rcases d2 with ⟨_, _, _, d⟩ | ⟨_, d, _⟩ | ⟨_, d, _⟩ | ⟨_, _, d⟩
      · exact absurd (.inr ht) d
      · exact absurd ht (by unfold isText; omega)
      · exact absurd ht (by unfold isText isWait at *; omega)
      · exact d.symm
    · rcases d2 with ⟨_, _, d, _⟩ | ⟨_, d, d3⟩ | ⟨_, d, d3⟩ | ⟨_, d, _⟩
      · exact absurd hw d
      · obtain ⟨_, e2, e3⟩ := send_two h.1 d3 h17 c3
        exact ⟨hm.eq e3, fun _ => e2.symm⟩
      · obtain ⟨_, _, e3⟩ := wait_two h.1 d3 h17 c3
        exact ⟨hm.eq e3, fun h8 => absurd d (by unfold isWait; omega)⟩
      · exact absurd hw (by unfold isText isWait at *; omega)

/-- A right op's text has no semicolon and is not empty. -/
theorem plain_semi {s : ByteArray} (h : plainB s = true) : (59 : UInt8) ∉ s.data.toList := fun hm => by
  simp only [plainB, Bool.and_eq_true] at h
  have h1 := List.all_eq_true.1 h.2 _ hm
  exact absurd h1 (by decide)
theorem opTx_semi {o : OpD} (h : opOk o = true) : (59 : UInt8) ∉ (opTx o).data.toList := by
  have hk := opOk_kind h
  rw [opTx_list h]
  split
  · exact name_semi (by omega)
  · rename_i h17
    rcases opOk_out h with ⟨q, _⟩ | ⟨_, _, _, _, _, q⟩
    · exact absurd q h17
    have hp := plain_semi q
    have i1 := itoa_semi o.2.1
    have i2 := itoa_semi o.2.2.1
    have i3 := name_semi hk
    have hne : (59 : UInt8) ≠ 32 := by decide
    have ht : (59 : UInt8) ∉ tailT o := by
      unfold tailT
      split
      · simp only [List.mem_append, List.mem_cons, not_or]; exact ⟨i1, hne, i2, hne, hp⟩
      split
      · simp only [List.mem_append, List.mem_cons, not_or]; exact ⟨i1, hne, i2⟩
      split
      · simp only [List.mem_append, List.mem_cons, not_or]; exact ⟨i1, hne, hp⟩
      · exact i1
    simp only [List.mem_append, List.mem_cons, not_or]
    exact ⟨i3, hne, ht⟩
theorem opTx_some {o : OpD} (h : opOk o = true) : (opTx o).data.toList ≠ [] := by
  rw [opTx_list h]
  split
  · exact name_some (by omega)
  · intro e
    have := congrArg List.length e
    simp at this

end Go.Proofs.YtlaeilcipibelaaGreatDoor
