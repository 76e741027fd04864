/- What the program's reader has met, and what op it can be: by the kinds. No walk. -/
import Derived.Test.YtlaeilcipibelaaGreatDoorPRdW
import Derived.Test.YtlaeilcipibelaaGreatDoorL2Op
namespace Go.Proofs.YtlaeilcipibelaaGreatDoor
open Go.RowKit

/-- The first word is that of the kind k. -/
structure First (s : ByteArray) (k : Int) (b : ByteArray) (f : Bool) : Prop where
  cut : CutIs s 32 (nameB k) b f
  rng : 1 ≤ k ∧ k ≤ 17
theorem First.kind {s b : ByteArray} {k : Int} {f : Bool} (h : First s k b f) {o : OpD} (ho : OpIs s o) : o.1 = k := by
  obtain ⟨h1, h2, _⟩ := ho.one h.cut
  exact (name_inj h.rng h2 h1).symm
theorem First.tail {s b : ByteArray} {k : Int} {f : Bool} (h : First s k b f) (h17 : k ≠ 17) {o : OpD} (ho : OpIs s o) : o.1 = k ∧ f = true ∧ b.data.toList = tailT o := by
  have hk := h.kind ho
  obtain ⟨_, _, h3⟩ := ho.one h.cut
  rcases h3 with ⟨h3, _⟩ | ⟨_, h4, h5⟩
  · exact absurd (hk.symm.trans h3) h17
  · exact ⟨hk, h4, h5⟩
theorem First.mk_is {s b : ByteArray} {k n m : Int} {t : ByteArray} (h : First s k b true) (h17 : k ≠ 17) (ho : opB k n m t = true) (hb : b.data.toList = tailT (k, n, m, t)) : OpIs s (k, n, m, t) := by
  refine ⟨ho, bytes_eq ?_⟩
  rw [opTx_list (o := (k, n, m, t)) ho, if_neg h17, ← hb]
  rcases h.cut with ⟨_, h2, _⟩ | ⟨h1, _⟩
  · exact h2
  · cases h1
/-- No number stands there. -/
theorem First.no_number {s b : ByteArray} {k : Int} {f : Bool} (h : First s k b f) (h17 : k ≠ 17) (hno : f = true → ∀ x y g n, CutIs b 32 x y g → ¬ DecIs x n) (o : OpD) : ¬ OpIs s o := fun ho => by
  obtain ⟨h1, h2, h3⟩ := h.tail h17 ho
  exact hno h2 _ _ _ _ (libCut_is b 32) (tail_one ho.1 h3 (by rw [h1]; exact h17) (libCut_is b 32)).1
theorem num_not {k : Int} (h : isNum k) : ¬ (k = 8 ∨ isWait k) ∧ ¬ (k = 8 ∨ isText k) ∧ k ≠ 17 := by unfold isNum at h; unfold isWait isText; omega
theorem wait_not {k : Int} (h : isWait k) : ¬ (k = 8 ∨ isText k) ∧ k ≠ 8 ∧ k ≠ 17 := by unfold isWait at h; unfold isText; omega
theorem text_not {k : Int} (h : isText k) : ¬ (k = 8 ∨ isWait k) ∧ k ≠ 8 ∧ k ≠ 17 := by unfold isText at h; unfold isWait; omega
theorem dec_eq {s : ByteArray} {n j : Int} (h : DecIs s n) (hj : DecIs s j) : j = n := hj.inj h

/-- A kind with one number. -/
theorem First.num {s b x y : ByteArray} {k n : Int} {f g : Bool} (h : First s k b f) (hk : isNum k) (c : CutIs b 32 x y g) (hd : DecIs x n) {o : OpD} (ho : OpIs s o) : g = false ∧ o = (k, n, 0, ⟨#[]⟩) := by
  obtain ⟨n1, n2, n3⟩ := num_not hk
  obtain ⟨h1, h2, h3⟩ := h.tail n3 ho
  obtain ⟨d1, d2⟩ := tail_one ho.1 h3 (by rw [h1]; exact n3) c
  rcases opOk_out ho.1 with ⟨q, _⟩ | ⟨_, _, _, q3, q4, _⟩
  · exact absurd (h1.symm.trans q) n3
  refine ⟨?_, op_eq h1 (dec_eq hd d1) (q3 (by rw [h1]; exact n1)) (q4 (by rw [h1]; exact n2))⟩
  rcases d2 with ⟨d, _⟩ | ⟨_, d, _⟩ | ⟨_, d, _⟩ | ⟨_, d, _⟩
  · exact d
  · exact absurd (.inl (h1.symm.trans d)) n1
  · exact absurd (.inr (by rw [← h1]; exact d)) n1
  · exact absurd (.inr (by rw [← h1]; exact d)) n2
theorem First.num_is {s b x y : ByteArray} {k n : Int} (h : First s k b true) (hk : isNum k) (c : CutIs b 32 x y false) (hd : DecIs x n) (ho : opB k n 0 ⟨#[]⟩ = true) : OpIs s (k, n, 0, ⟨#[]⟩) := by
  obtain ⟨n1, n2, n3⟩ := num_not hk
  refine h.mk_is n3 ho ?_
  rcases c with ⟨c, _⟩ | ⟨_, c, _⟩
  · cases c
  · subst c
    unfold isWait isText at *
    simp only [tailT]
    rw [if_neg (by omega), if_neg (by omega), if_neg (by omega)]
    exact hd.1
/-- A kind with two numbers. -/
theorem First.wait1 {s b x y : ByteArray} {k n : Int} {f g : Bool} (h : First s k b f) (hk : isWait k) (c : CutIs b 32 x y g) (hd : DecIs x n) {o : OpD} (ho : OpIs s o) : g = true ∧ o.1 = k ∧ o.2.1 = n ∧ o.2.2.2 = ⟨#[]⟩ ∧ y.data.toList = Lib.itoa o.2.2.1 := by
  obtain ⟨n1, n2, n3⟩ := wait_not hk
  obtain ⟨h1, h2, h3⟩ := h.tail n3 ho
  obtain ⟨d1, d2⟩ := tail_one ho.1 h3 (by rw [h1]; exact n3) c
  rcases opOk_out ho.1 with ⟨q, _⟩ | ⟨_, _, _, q3, q4, _⟩
  · exact absurd (h1.symm.trans q) n3
  have q5 := q4 (by rw [h1]; exact n1)
  rcases d2 with ⟨_, _, d, _⟩ | ⟨_, d, _⟩ | ⟨d, _, d3⟩ | ⟨_, d, _⟩
  · exact absurd (.inr (by rw [h1]; exact hk)) d
  · exact absurd (h1.symm.trans d) n2
  · exact ⟨d, h1, dec_eq hd d1, q5, d3⟩
  · exact absurd (.inr (by rw [← h1]; exact d)) n1
theorem First.wait_no {s b x y : ByteArray} {k n : Int} {f g : Bool} (h : First s k b f) (hk : isWait k) (c : CutIs b 32 x y g) (hd : DecIs x n) (hno : g = true → ∀ x' y' g' n', CutIs y 32 x' y' g' → ¬ DecIs x' n') (o : OpD) : ¬ OpIs s o := fun ho => by
  obtain ⟨h1, h2, h3, h4, h5⟩ := h.wait1 hk c hd ho
  exact hno h1 _ _ _ _ (libCut_is y 32) (wait_two ho.1 h5 (by rw [h2]; exact (wait_not hk).2.2) (libCut_is y 32)).2.2
theorem First.wait {s b x y x2 y2 : ByteArray} {k n m : Int} {f g g2 : Bool} (h : First s k b f) (hk : isWait k) (c : CutIs b 32 x y g) (hd : DecIs x n) (c2 : CutIs y 32 x2 y2 g2) (hd2 : DecIs x2 m) {o : OpD} (ho : OpIs s o) : g2 = false ∧ o = (k, n, m, ⟨#[]⟩) := by
  obtain ⟨h1, h2, h3, h4, h5⟩ := h.wait1 hk c hd ho
  obtain ⟨e1, _, e3⟩ := wait_two ho.1 h5 (by rw [h2]; exact (wait_not hk).2.2) c2
  exact ⟨e1, op_eq h2 h3 (dec_eq hd2 e3) h4⟩
theorem cut_join {s a b : ByteArray} {c : UInt8} (h : CutIs s c a b true) : s.data.toList = a.data.toList ++ c :: b.data.toList := by
  rcases h with ⟨_, h, _⟩ | ⟨h, _⟩
  · exact h
  · cases h
theorem cut_all {s a b : ByteArray} {c : UInt8} (h : CutIs s c a b false) : s = a := by
  rcases h with ⟨h, _⟩ | ⟨_, h, _⟩
  · cases h
  · exact h.symm
theorem First.wait_is {s b x y x2 y2 : ByteArray} {k n m : Int} (h : First s k b true) (hk : isWait k) (c : CutIs b 32 x y true) (hd : DecIs x n) (c2 : CutIs y 32 x2 y2 false) (hd2 : DecIs x2 m) (ho : opB k n m ⟨#[]⟩ = true) : OpIs s (k, n, m, ⟨#[]⟩) := by
  obtain ⟨n1, n2, n3⟩ := wait_not hk
  refine h.mk_is n3 ho ?_
  simp only [tailT]
  rw [if_neg n2, if_pos (show k = 3 ∨ k = 7 ∨ k = 9 ∨ k = 12 from hk), cut_join c, cut_all c2, hd.1, hd2.1]
/-- The one with two numbers and a text. -/
theorem First.send1 {s b x y : ByteArray} {k n : Int} {f g : Bool} (h : First s k b f) (hk : k = 8) (c : CutIs b 32 x y g) (hd : DecIs x n) {o : OpD} (ho : OpIs s o) : g = true ∧ o.1 = k ∧ o.2.1 = n ∧ y.data.toList = Lib.itoa o.2.2.1 ++ 32 :: o.2.2.2.data.toList := by
  have n3 : k ≠ 17 := by omega
  obtain ⟨h1, h2, h3⟩ := h.tail n3 ho
  obtain ⟨d1, d2⟩ := tail_one ho.1 h3 (by rw [h1]; exact n3) c
  rcases d2 with ⟨_, _, d, _⟩ | ⟨d, _, d3⟩ | ⟨_, d, _⟩ | ⟨_, d, _⟩
  · exact absurd (.inl (h1.trans hk)) d
  · exact ⟨d, h1, dec_eq hd d1, d3⟩
  · exact absurd d (by unfold isWait; omega)
  · exact absurd d (by unfold isText; omega)
theorem First.send_no {s b x y : ByteArray} {k n : Int} {f g : Bool} (h : First s k b f) (hk : k = 8) (c : CutIs b 32 x y g) (hd : DecIs x n) (hno : g = true → ∀ x' y' g' n', CutIs y 32 x' y' g' → ¬ DecIs x' n') (o : OpD) : ¬ OpIs s o := fun ho => by
  obtain ⟨h1, h2, h3, h5⟩ := h.send1 hk c hd ho
  exact hno h1 _ _ _ _ (libCut_is y 32) (send_two ho.1 h5 (by omega) (libCut_is y 32)).2.2
theorem First.send {s b x y x2 y2 : ByteArray} {k n m : Int} {f g g2 : Bool} (h : First s k b f) (hk : k = 8) (c : CutIs b 32 x y g) (hd : DecIs x n) (c2 : CutIs y 32 x2 y2 g2) (hd2 : DecIs x2 m) {o : OpD} (ho : OpIs s o) : g2 = true ∧ o = (k, n, m, y2) := by
  obtain ⟨h1, h2, h3, h5⟩ := h.send1 hk c hd ho
  obtain ⟨e1, e2, e3⟩ := send_two ho.1 h5 (by omega) c2
  exact ⟨e1, op_eq h2 h3 (dec_eq hd2 e3) e2.symm⟩
theorem First.send_is {s b x y x2 y2 : ByteArray} {k n m : Int} (h : First s k b true) (hk : k = 8) (c : CutIs b 32 x y true) (hd : DecIs x n) (c2 : CutIs y 32 x2 y2 true) (hd2 : DecIs x2 m) (ho : opB k n m y2 = true) : OpIs s (k, n, m, y2) := by
  refine h.mk_is (by omega) ho ?_
  simp only [tailT]
  rw [if_pos hk, cut_join c, cut_join c2, hd.1, hd2.1]
/-- A kind with a number and a text. -/
theorem First.text {s b x y : ByteArray} {k n : Int} {f g : Bool} (h : First s k b f) (hk : isText k) (c : CutIs b 32 x y g) (hd : DecIs x n) {o : OpD} (ho : OpIs s o) : g = true ∧ o = (k, n, 0, y) := by
  obtain ⟨n1, n2, n3⟩ := text_not hk
  obtain ⟨h1, h2, h3⟩ := h.tail n3 ho
  obtain ⟨d1, d2⟩ := tail_one ho.1 h3 (by rw [h1]; exact n3) c
  rcases opOk_out ho.1 with ⟨q, _⟩ | ⟨_, _, _, q3, q4, _⟩
  · exact absurd (h1.symm.trans q) n3
  have q5 := q3 (by rw [h1]; exact n1)
  rcases d2 with ⟨_, _, _, d⟩ | ⟨_, d, _⟩ | ⟨_, d, _⟩ | ⟨d, _, d3⟩
  · exact absurd (.inr (by rw [h1]; exact hk)) d
  · exact absurd (h1.symm.trans d) n2
  · exact absurd (.inr (by rw [← h1]; exact d)) n1
  · exact ⟨d, op_eq h1 (dec_eq hd d1) q5 d3.symm⟩
theorem First.text_is {s b x y : ByteArray} {k n : Int} (h : First s k b true) (hk : isText k) (c : CutIs b 32 x y true) (hd : DecIs x n) (ho : opB k n 0 y = true) : OpIs s (k, n, 0, y) := by
  obtain ⟨n1, n2, n3⟩ := text_not hk
  refine h.mk_is n3 ho ?_
  simp only [tailT]
  rw [if_neg n2, if_neg (show ¬ (k = 3 ∨ k = 7 ∨ k = 9 ∨ k = 12) from fun h => n1 (.inr h)), if_pos (show k = 10 ∨ k = 13 from hk), cut_join c, hd.1]
/-- The one with nothing. -/
theorem First.loop {s b : ByteArray} {k : Int} {f : Bool} (h : First s k b f) (hk : k = 17) {o : OpD} (ho : OpIs s o) : f = false ∧ o = (k, 0, 0, ⟨#[]⟩) := by
  have h1 := h.kind ho
  obtain ⟨_, _, h3⟩ := ho.one h.cut
  rcases opOk_out ho.1 with ⟨_, q1, q2, q3⟩ | ⟨q, _⟩
  · rcases h3 with ⟨_, h4, _⟩ | ⟨h4, _⟩
    · exact ⟨h4, op_eq h1 q1 q2 q3⟩
    · exact absurd (h1.trans hk) h4
  · exact absurd (h1.trans hk) q
theorem First.loop_is {s b : ByteArray} {k : Int} (h : First s k b false) (hk : k = 17) (ho : opB k 0 0 ⟨#[]⟩ = true) : OpIs s (k, 0, 0, ⟨#[]⟩) := by
  refine ⟨ho, bytes_eq ?_⟩
  rw [opTx_list (o := (k, 0, 0, ⟨#[]⟩)) ho, if_pos hk, cut_all h.cut, hk]
theorem not_right {s : ByteArray} {k n m : Int} {t : ByteArray} (h : ∀ o, OpIs s o → o = (k, n, m, t)) (hb : opB k n m t = false) (o : OpD) : ¬ OpIs s o := fun ho => by
  have e := h o ho
  subst e
  have := ho.1
  simp only [opOk, hb] at this
  cases this

end Go.Proofs.YtlaeilcipibelaaGreatDoor
