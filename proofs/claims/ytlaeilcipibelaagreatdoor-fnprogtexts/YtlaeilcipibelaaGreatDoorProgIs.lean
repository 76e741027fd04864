/- What program a text is that of. No walk. -/
import Derived.Test.YtlaeilcipibelaaGreatDoorOpCase
import Derived.Test.YtlaeilcipibelaaGreatDoorPList
import Derived.Test.YtlaeilcipibelaaGreatDoorProgText
namespace Go.Proofs.YtlaeilcipibelaaGreatDoor
open Go.RowKit

theorem IntVal.ex (a : ByteArray) : ∃ n, IntVal a n := by
  by_cases h : ∃ n, DecIs a n
  · obtain ⟨n, hn⟩ := h
    exact ⟨n, .inl hn⟩
  · exact ⟨0, .inr ⟨rfl, fun j hj => h ⟨j, hj⟩⟩⟩
theorem opIs_inj {s : ByteArray} {o o' : OpD} (h : OpIs s o) (h' : OpIs s o') : o' = o := by
  have c1 := libCut_is s 32
  generalize (⟨(Lib.cut s.data.toList [32]).1.toArray⟩ : ByteArray) = wd at *
  generalize (⟨(Lib.cut s.data.toList [32]).2.1.toArray⟩ : ByteArray) = r at *
  have c2 := libCut_is r 32
  generalize (⟨(Lib.cut r.data.toList [32]).1.toArray⟩ : ByteArray) = a at *
  generalize (⟨(Lib.cut r.data.toList [32]).2.1.toArray⟩ : ByteArray) = b at *
  have c3 := libCut_is b 32
  generalize (⟨(Lib.cut b.data.toList [32]).1.toArray⟩ : ByteArray) = x at *
  generalize (⟨(Lib.cut b.data.toList [32]).2.1.toArray⟩ : ByteArray) = y at *
  obtain ⟨n, hn⟩ := IntVal.ex a
  obtain ⟨m, hm⟩ := IntVal.ex x
  obtain ⟨p1, p2, p3, p4, p5, p6⟩ := h.spec c1 c2 hn
  obtain ⟨q1, q2, q3, q4, q5, q6⟩ := h'.spec c1 c2 hn
  have ek : o'.1 = o.1 := q1.trans p1.symm
  refine op_eq (o := o') (k := o.1) (n := o.2.1) (m := o.2.2.1) (t := o.2.2.2) ek (q2.trans p2.symm) ?_ ?_
  · by_cases hw : o.1 = 8 ∨ isWait o.1
    · rw [(p6 hw c3 hm).1, (q6 (by rw [ek]; exact hw) c3 hm).1]
    · rw [p3 hw, q3 (by rw [ek]; exact hw)]
  · by_cases ht : isText o.1
    · rw [p5 ht, q5 (by rw [ek]; exact ht)]
    · by_cases h8 : o.1 = 8
      · rw [(p6 (.inl h8) c3 hm).2 h8, (q6 (.inl (ek.trans h8)) c3 hm).2 (ek.trans h8)]
      · have hn : ¬ (o.1 = 8 ∨ isText o.1) := fun h => h.elim h8 ht
        rw [p4 hn, q4 (by rw [ek]; exact hn)]

/-- The text s is that of the right program with these ops. -/
def ProgIs (s : ByteArray) (os : List OpD) : Prop := pcs 59 s.data.toList = os.map (fun o => (opTx o).data.toList) ∧ os.length ≤ 20 ∧ ∀ o ∈ os, opOk o = true
theorem tx_is {p : ByteArray} {o : OpD} (h : p.data.toList = (opTx o).data.toList) (ho : opOk o = true) : OpIs p o := ⟨ho, bytes_eq h⟩
theorem ProgIs.piece {s : ByteArray} {os : List OpD} (h : ProgIs s os) {ps : List ByteArray} (hp : ps.map (·.data.toList) = pcs 59 s.data.toList) {j : Nat} {p : ByteArray} (hj : ps[j]? = some p) : ∃ o, os[j]? = some o ∧ OpIs p o := by
  have e := hp.trans h.1
  have e2 := congrArg (fun l => l[j]?) e
  simp only [List.getElem?_map, hj, Option.map_some] at e2
  cases ho : os[j]? with
  | none => rw [ho] at e2; cases e2
  | some o =>
    rw [ho] at e2
    exact ⟨o, rfl, tx_is (Option.some.inj e2) (h.2.2 o (List.mem_of_getElem? ho))⟩
theorem ProgIs.len {s : ByteArray} {os : List OpD} (h : ProgIs s os) : (pcs 59 s.data.toList).length = os.length := by rw [h.1, List.length_map]
theorem ProgIs.pos {s : ByteArray} {os : List OpD} (h : ProgIs s os) : 1 ≤ os.length := by
  have := h.len
  have h2 := pcs_ne 59 s.data.toList
  cases hl : pcs 59 s.data.toList with
  | nil => exact absurd hl h2
  | cons a r => rw [hl] at this; simp at this; omega
theorem list_ext {os os' : List OpD} (hl : os'.length = os.length) (h : ∀ (j : Nat) (o o' : OpD), os[j]? = some o → os'[j]? = some o' → o' = o) : os' = os := by
  apply List.ext_getElem hl
  intro j h1 h2
  exact h j _ _ (List.getElem?_eq_getElem h2) (List.getElem?_eq_getElem h1)
theorem ProgIs.inj {s : ByteArray} {os os' : List OpD} (h : ProgIs s os) (h' : ProgIs s os') : os' = os := by
  refine list_ext (h'.len.symm.trans h.len) fun j o o' hj hj' => ?_
  have e := h.1.symm.trans h'.1
  have e2 := congrArg (fun l => l[j]?) e
  simp only [List.getElem?_map, hj, hj', Option.map_some] at e2
  exact opIs_inj (s := opTx o) ⟨h.2.2 o (List.mem_of_getElem? hj), rfl⟩ (tx_is (Option.some.inj e2) (h'.2.2 o' (List.mem_of_getElem? hj')))
theorem join_ne {l : List UInt8} {ps : List (List UInt8)} (h : l ≠ []) : Lib.join (l :: ps) [59] ≠ [] := by
  cases ps with
  | nil => simpa [Lib.join] using h
  | cons a r => simp [Lib.join]
theorem kOf_at {os : List OpD} {j : Nat} {o : OpD} (h : os[j]? = some o) : kOf os j = o.1 ∧ nOf os j = o.2.1 ∧ mOf os j = o.2.2.1 ∧ sOf os j = o.2.2.2 := by simp [kOf, nOf, mOf, sOf, h]
theorem texts_of (os : List OpD) : (List.range os.length).map (fun i => (opTextAt (kOf os) (nOf os) (mOf os) (sOf os) i).data.toList) = os.map (fun o => (opTx o).data.toList) := by
  apply List.ext_getElem?
  intro j
  simp only [List.getElem?_map]
  by_cases hj : j < os.length
  · have hr : (List.range os.length)[j]? = some j := by simp [hj]
    obtain ⟨o, ho⟩ : ∃ o, os[j]? = some o := ⟨_, List.getElem?_eq_getElem hj⟩
    obtain ⟨h1, h2, h3, h4⟩ := kOf_at ho
    rw [hr, ho]
    simp only [Option.map_some, opTextAt, opTx, h1, h2, h3, h4]
  · rw [List.getElem?_eq_none (by simpa using hj), List.getElem?_eq_none (by omega)]
    rfl
theorem progB_iff (os : List OpD) : progB os.length (kOf os) (nOf os) (mOf os) (sOf os) = true ↔ 1 ≤ os.length ∧ os.length ≤ 20 ∧ ∀ o ∈ os, opOk o = true := by
  constructor
  · intro h
    obtain ⟨h1, h2, h3⟩ := progB_out h
    refine ⟨h1, h2, fun o ho => ?_⟩
    obtain ⟨j, hj, rfl⟩ := List.getElem_of_mem ho
    have hg : os[j]? = some os[j] := List.getElem?_eq_getElem hj
    obtain ⟨e1, e2, e3, e4⟩ := kOf_at hg
    have := h3 j hj
    simp only [opAtB, e1, e2, e3, e4] at this
    exact this
  · rintro ⟨h1, h2, h3⟩
    refine progB_true ⟨h1, h2, fun j hj => ?_⟩
    have hg : os[j]? = some os[j] := List.getElem?_eq_getElem hj
    obtain ⟨e1, e2, e3, e4⟩ := kOf_at hg
    simp only [opAtB, e1, e2, e3, e4]
    exact h3 _ (List.getElem_mem hj)
/-- A program's text, written and read. -/
theorem text_iff {s : ByteArray} (os : List OpD) : (progText os.length (kOf os) (nOf os) (mOf os) (sOf os) = s ∧ s ≠ ⟨#[]⟩) ↔ ProgIs s os := by
  constructor
  · rintro ⟨h1, h2⟩
    unfold progText at h1
    split at h1
    · rename_i hb
      obtain ⟨b1, b2, b3⟩ := (progB_iff os).1 hb
      have e : s.data.toList = Lib.join (os.map (fun o => (opTx o).data.toList)) [59] := by rw [← h1, pT_join, texts_of]
      refine ⟨?_, b2, b3⟩
      rw [e]
      refine pcs_of (fun h => ?_) (fun p hp => ?_)
      · have := congrArg List.length h
        rw [List.length_map] at this
        simp at this
        rw [this] at b1
        simp at b1
      · obtain ⟨o, ho, rfl⟩ := List.mem_map.1 hp
        exact opTx_semi (b3 o ho)
    · exact absurd h1.symm h2
  · intro h
    have hb := (progB_iff os).2 ⟨h.pos, h.2.1, h.2.2⟩
    have e : s.data.toList = Lib.join (os.map (fun o => (opTx o).data.toList)) [59] := by rw [← h.1, pcs_join]
    refine ⟨?_, fun h0 => ?_⟩
    · rw [progText, if_pos hb]
      apply bytes_eq
      rw [pT_join, texts_of, e]
    · cases os with
      | nil => have := h.pos; simp at this
      | cons o r =>
        rw [h0] at e
        exact join_ne (opTx_some (h.2.2 o (by simp))) e.symm
/-- The cells of a list of ops. -/
def opVs (os : List OpD) : Nat → Value := opV (kOf os) (nOf os) (mOf os) (sOf os)
/-- How ReadProg ends: the one right program whose text it is, in new memory; or none. -/
def PRdEnds (s : ByteArray) (w : World) (e : Ending) (w' : World) : Prop :=
  (∃ g os c, ProgIs s os ∧ e = .returned (.tuple #[.slice (some ⟨g, 0, none⟩) os.length c, .bool true]) ∧ w.heap.size ≤ g ∧ ∃ cur : Array Value, w'.heap[g]? = some (.cells cur 37 (0, 0)) ∧ os.length * 4 ≤ cur.size ∧ ∀ j, j < os.length * 4 → cur[j]? = some (opVs os j)) ∨
  (e = .returned (.tuple #[.slice none 0 0, .bool false]) ∧ ∀ os, ¬ ProgIs s os)
/-- What is read of the pieces, whatever they are. -/
structure Reads (s : ByteArray) (zs : List (ByteArray × OpD)) (t : ByteArray) (more : Bool) : Prop where
  pc : pcs 59 s.data.toList = zs.map (fun z => z.1.data.toList) ++ (if more = true then pcs 59 t.data.toList else [])
  rd : ∀ z ∈ zs, ∀ o', OpIs z.1 o' → o' = z.2
  tl : t.size ≤ s.size
  sz : ∀ z ∈ zs, z.2.2.2.2.size ≤ 1048576
theorem Reads.is {s t : ByteArray} {zs : List (ByteArray × OpD)} (h : Reads s zs t false) {os : List OpD} (ho : ProgIs s os) : os = zs.map (·.2) := by
  have e : pcs 59 s.data.toList = zs.map (fun z => z.1.data.toList) := by simpa using h.pc
  refine list_ext ?_ fun j z o hz hj => ?_
  · rw [← ho.len, e]; simp
  · rw [List.getElem?_map] at hz
    cases hq : zs[j]? with
    | none => rw [hq] at hz; cases hz
    | some q =>
      rw [hq] at hz
      have hz' : q.2 = z := Option.some.inj hz
      subst hz'
      have hp : (zs.map (·.1))[j]? = some q.1 := by rw [List.getElem?_map, hq]; rfl
      obtain ⟨o', ho', hi⟩ := ho.piece (ps := zs.map (·.1)) (by rw [e, List.map_map]; rfl) hp
      rw [hj] at ho'
      cases ho'
      exact h.rd q (List.mem_of_getElem? hq) o hi
theorem Reads.long {s t : ByteArray} {zs : List (ByteArray × OpD)} {f : Bool} (h : Reads s zs t f) (hl : 20 < zs.length) (os : List OpD) : ¬ ProgIs s os := fun ho => by
  have e := congrArg List.length h.pc
  have h1 := ho.len
  have h2 := ho.2.1
  rw [List.length_append, List.length_map] at e
  omega
theorem Reads.next {s t a b : ByteArray} {zs : List (ByteArray × OpD)} {f : Bool} (h : Reads s zs t true) (hc : CutIs t 59 a b f) {o : OpD} (ho : ∀ o', OpIs a o' → o' = o) (hz : o.2.2.2.size ≤ 1048576) : Reads s (zs ++ [(a, o)]) b f := by
  refine ⟨?_, fun z hz => ?_, ?_, fun z hz' => ?_⟩
  · rw [h.pc, if_pos rfl, hc.pcs]
    cases f <;> simp
  · rcases List.mem_append.1 hz with hz | hz
    · exact h.rd z hz
    · rw [List.mem_singleton] at hz; subst hz; exact ho
  · have := (cut_size hc).2
    have := h.tl
    omega
  · rcases List.mem_append.1 hz' with hz' | hz'
    · exact h.sz z hz'
    · rw [List.mem_singleton] at hz'; subst hz'; exact hz

end Go.Proofs.YtlaeilcipibelaaGreatDoor
