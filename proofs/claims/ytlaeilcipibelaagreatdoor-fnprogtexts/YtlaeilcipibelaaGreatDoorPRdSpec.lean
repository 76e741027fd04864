/- The specification's reader of programs. -/
import Derived.Test.YtlaeilcipibelaaGreatDoorProgIs
import Derived.Deep.OwnRows
import Derived.Deep.RegionHeld3
import Derived.Deep.DrawnRows
import Derived.Maps.AppendAt
import Derived.Deep.AppendLies
namespace Go.Proofs.YtlaeilcipibelaaGreatDoor
open Go.RowKit

/-- The cells of a list of ops, in a row. -/
def cellsO : List OpD → List Value
  | [] => []
  | o :: os => .int .i64 o.1 :: .int .i64 o.2.1 :: .int .i64 o.2.2.1 :: .string o.2.2.2 :: cellsO os
theorem cellsO_append : ∀ (os os' : List OpD), cellsO (os ++ os') = cellsO os ++ cellsO os'
  | [], _ => rfl
  | o :: os, os' => by simp [cellsO, cellsO_append os os']
theorem cellsO_len : ∀ os : List OpD, (cellsO os).length = os.length * 4
  | [] => rfl
  | o :: os => by simp [cellsO, cellsO_len os]; omega
theorem cellsO_at : ∀ (os : List OpD) (j : Nat), j < os.length * 4 → (cellsO os)[j]? = some (opV (kOf os) (nOf os) (mOf os) (sOf os) j)
  | [], j, h => by simp at h
  | o :: os, j, h => by
    have hk : ∀ i, kOf (o :: os) (i + 1) = kOf os i ∧ nOf (o :: os) (i + 1) = nOf os i ∧ mOf (o :: os) (i + 1) = mOf os i ∧ sOf (o :: os) (i + 1) = sOf os i := fun i => by simp [kOf, nOf, mOf, sOf]
    match j, h with
    | 0, _ => simp [cellsO, opV, kOf]
    | 1, _ => simp [cellsO, opV, nOf]
    | 2, _ => simp [cellsO, opV, mOf]
    | 3, _ => simp [cellsO, opV, sOf]
    | j + 4, h =>
      have ih := cellsO_at os j (by simp at h; omega)
      have e1 : (j + 4) / 4 = j / 4 + 1 := by omega
      have e2 : (j + 4) % 4 = j % 4 := by omega
      obtain ⟨h1, h2, h3, h4⟩ := hk (j / 4)
      simp only [cellsO, List.getElem?_cons_succ]
      rw [ih]
      simp only [opV, e1, e2, h1, h2, h3, h4]
theorem ownO_form {w : World} {base n : Nat} {v : Value} {os : List OpD} (h : w.ownsRow base 37 4 v n (cellsO os)) (hn : n = os.length) : (v = .slice none 0 0 ∧ os.length = 0) ∨ ∃ g c, v = .slice (some ⟨g, 0, none⟩) os.length c ∧ base ≤ g ∧ ListAt w g os ∧ ∃ cur : Array Value, w.heap[g]? = some (.cells cur 37 (0, 0)) ∧ os.length * 4 ≤ cur.size ∧ ∀ j, j < os.length * 4 → cur[j]? = some (opV (kOf os) (nOf os) (mOf os) (sOf os) j) := by
  subst hn
  rcases h.2 with ⟨h1, h2⟩ | ⟨g, cap, cur, h1, h2, h3, h4, h5, h6, h7⟩
  · exact .inl ⟨h1, h2⟩
  · have key : ∀ j, j < os.length * 4 → cur[j]? = some (opV (kOf os) (nOf os) (mOf os) (sOf os) j) := fun j hj => by
      rw [← cellsO_at os j hj, ← h7, List.getElem?_take_of_lt (by omega)]
      simp
    refine .inr ⟨g, cap, h1, h2, ⟨(Array.getElem?_eq_some_iff.1 h3).1, fun j hj => ?_⟩, cur, h3, by omega, key⟩
    rw [cell_of_row _ _ _ _ _ _ h3]
    exact key j hj
theorem sOf_size {os : List OpD} {m : Nat} (h : ∀ o ∈ os, o.2.2.2.size ≤ m) (i : Nat) : (sOf os i).size ≤ m := by
  unfold sOf
  cases hi : os[i]? with
  | none => exact Nat.zero_le _
  | some o => exact h o (List.mem_of_getElem? hi)

/-- Where the reading stands. -/
structure PRd (s : ByteArray) (w wr : World) (g c : Nat) (os : List OpD) (t : ByteArray) (more : Bool) : Prop where
  own : wr.ownsRow w.heap.size 37 4 (.slice (some ⟨g, 0, none⟩) os.length c) os.length (cellsO os)
  bel : Below w.heap.size w wr
  rd : ∃ zs : List (ByteArray × OpD), zs.map (·.2) = os ∧ Reads s zs t more
theorem PRd.form {s : ByteArray} {w wr : World} {g c : Nat} {os : List OpD} {t : ByteArray} {more : Bool} (h : PRd s w wr g c os t more) : w.heap.size ≤ g ∧ ListAt wr g os ∧ ∃ cur : Array Value, wr.heap[g]? = some (.cells cur 37 (0, 0)) ∧ os.length * 4 ≤ cur.size ∧ ∀ j, j < os.length * 4 → cur[j]? = some (opVs os j) := by
  rcases ownO_form h.own rfl with ⟨h1, _⟩ | ⟨g', c', h1, h2, h3, h4⟩
  · cases h1
  · cases h1
    exact ⟨h2, h3, h4⟩
theorem PRd.below {s : ByteArray} {w wr w' : World} {g c : Nat} {os : List OpD} {t : ByteArray} {more : Bool} (h : PRd s w wr g c os t more) (hb : Below wr.heap.size wr w') : PRd s w w' g c os t more := by
  refine ⟨?_, h.bel.trans (hb.mono h.bel.size), h.rd⟩
  obtain ⟨h1, h2⟩ := h.own
  refine ⟨h1, ?_⟩
  rcases h2 with h2 | ⟨q, cap, cur, hv, hq, hh, rest⟩
  · exact .inl h2
  · exact .inr ⟨q, cap, cur, hv, hq, (hb.block _ (Array.getElem?_eq_some_iff.1 hh).1).trans hh, rest⟩
theorem PRd.sz {s : ByteArray} {w wr : World} {g c : Nat} {os : List OpD} {t : ByteArray} {more : Bool} (h : PRd s w wr g c os t more) : ∀ o ∈ os, o.2.2.2.size ≤ 1048576 := by
  obtain ⟨zs, rfl, hr⟩ := h.rd
  intro o ho
  obtain ⟨z, hz, rfl⟩ := List.mem_map.1 ho
  exact hr.sz z hz
theorem PRd.tl {s : ByteArray} {w wr : World} {g c : Nat} {os : List OpD} {t : ByteArray} {more : Bool} (h : PRd s w wr g c os t more) : t.size ≤ s.size := by
  obtain ⟨zs, _, hr⟩ := h.rd
  exact hr.tl
theorem PRd.end_ {s : ByteArray} {w wr : World} {g c : Nat} {os : List OpD} {t : ByteArray} {more : Bool} (h : PRd s w wr g c os t more) (he : more = false ∨ 20 < os.length) (hn : ¬ ProgIs s os) (os' : List OpD) : ¬ ProgIs s os' := by
  obtain ⟨zs, rfl, hr⟩ := h.rd
  intro ho
  by_cases hl : 20 < zs.length
  · exact hr.long hl os' ho
  · rcases he with rfl | he
    · have e := hr.is ho
      subst e
      exact hn ho
    · simp at he; omega
theorem ownO_some {w : World} {base n : Nat} {v : Value} {xs : List Value} (h : w.ownsRow base 37 4 v (n + 1) xs) : ∃ g c, v = .slice (some ⟨g, 0, none⟩) (n + 1) c := by
  rcases h.2 with ⟨_, h2⟩ | ⟨g, cap, cur, h1, _⟩
  · omega
  · exact ⟨g, cap, h1⟩
theorem PRd.next {s t a b : ByteArray} {w wr x w5 : World} {g c g' c' : Nat} {os : List OpD} {f : Bool} {o : OpD} (h : PRd s w wr g c os t true) (hc : CutIs t 59 a b f) (ho : ∀ o', OpIs a o' → o' = o) (hz : o.2.2.2.size ≤ 1048576) (hx : Below w.heap.size w x) (hg : x.grownBy w5 (some g))
    (hown : w5.ownsRow w.heap.size 37 4 (.slice (some ⟨g', 0, none⟩) (os.length + 1) c') (os.length + 1) (cellsO os ++ [.int .i64 o.1, .int .i64 o.2.1, .int .i64 o.2.2.1, .string o.2.2.2])) : PRd s w w5 g' c' (os ++ [o]) b f := by
  obtain ⟨zs, rfl, hr⟩ := h.rd
  have hf := h.form.1
  refine ⟨?_, hx.grown hg hx.size (fun k hk => by cases hk; exact hf), zs ++ [(a, o)], by simp, hr.next hc ho hz⟩
  rw [cellsO_append]
  simpa [cellsO] using hown
theorem opInfo' : (Tryz.prog.info? 37).map (fun i => (i.zero, i.size, i.bytes)) = some (some (.agg #[.int .i64 0, .int .i64 0, .int .i64 0, .string ⟨#[]⟩]), 4, 40) := by kernel_rfl
theorem cut_join' {s a b : ByteArray} {c : UInt8} (h : CutIs s c a b true) : s.data.toList = a.data.toList ++ c :: b.data.toList := by
  rcases h with ⟨_, h, _⟩ | ⟨h, _⟩
  · exact h
  · cases h
theorem len_snocO (os : List OpD) (o : OpD) : (os ++ [o]).length = os.length + 1 := by simp

set_option maxHeartbeats 8000000 in
theorem specReadProg_any (s : ByteArray) (w : World) (hs : s.size ≤ 1048576) :
    Calls Tryz.prog 12 #[.string s] w fun e w' => PRdEnds s w e w' ∧ Below w.heap.size w w' := by
  obtain ⟨i0, hi, e0⟩ := Option.map_eq_some_iff.1 opInfo'
  simp only [Prod.mk.injEq] at e0
  have HI : Hid (Tryz.prog.info? 37 = some i0 ∧ i0.zero = some (.agg #[.int .i64 0, .int .i64 0, .int .i64 0, .string ⟨#[]⟩]) ∧ i0.size = 4 ∧ i0.bytes = 40) := ⟨hi, e0⟩
  clear hi e0
  have HA : Hid (PRd s w (w.alloc (.cells #[] 37)) w.heap.size 0 [] s true) := by
    refine ⟨⟨rfl, .inr ⟨w.heap.size, 0, #[], rfl, Nat.le_refl _, heap_alloc_new _ _, Nat.le_refl _, Nat.zero_le _, rfl, rfl⟩⟩, (Below.refl _ _).alloc (Nat.le_refl _) _, [], rfl, ⟨by simp, (fun z hz => by simp at hz), Nat.le_refl _, (fun z hz => by simp at hz)⟩⟩
  go_enter Tryz.func12, Tryz.ntmps12
  go_wp2_with fail
  generalize w.alloc (.cells #[] 37) = W0 at *
  go_loopw [4, 5, 6] (fun v t m wr => ∃ (g c : Nat) (os : List OpD) (t' : ByteArray) (more : Bool), v = .slice (some ⟨g, 0, none⟩) os.length c ∧ t = .string t' ∧ m = .bool more ∧ os.length ≤ 21 ∧ Hid (PRd s w wr g c os t' more)) (fun _ t m _ => match t, m with | .string t', .bool true => t'.size + 1 | _, _ => 0)
  case atStart => exact ⟨_, 0, [], s, true, rfl, rfl, rfl, by simp, HA⟩
  case round =>
    clear HA
    obtain ⟨g, c, os, t, more, rfl, rfl, rfl, hol, H⟩ := hrel
    by_cases hend : more = false ∨ 20 < os.length
    · have HEND : Hid (¬ ProgIs s os → ∀ os', ¬ ProgIs s os') := H.out.end_ hend
      have hcall : ∀ W, Hid (PRd s w W g c os t more) → Calls Tryz.prog 8 #[.slice (some ⟨g, 0, none⟩) os.length c] W fun e w' => e = .returned (.string (progText os.length (kOf os) (nOf os) (mOf os) (sOf os))) ∧ Below W.heap.size W w' := fun W h => specProgText_any g os.length c _ _ _ _ W (by omega) (fun i _ => sOf_size h.out.sz i) h.out.form.2.1
      have hstep : ((more = true → ¬ (os.length : Int) ≤ 20)) := fun hm => by
        rcases hend with h | h
        · rw [h] at hm; cases hm
        · omega
      have HTX := text_iff (s := s) os
      generalize progText os.length (kOf os) (nOf os) (mOf os) (sOf os) = tx at *
      clear hend
      by_cases hP : ProgIs s os
      · obtain ⟨hx1, hx2⟩ := HTX.2 hP
        have HP : Hid (ProgIs s os) := hP
        have e1 : (tx.toList == s.toList) = true := by simp [hx1]
        have e2 : s.toList.isEmpty = false := by
          rw [List.isEmpty_eq_false_iff]
          intro h
          exact hx2 (bytes_nil (by simpa [ByteArray.toList_eq] using h))
        clear hP hx1 hx2 HTX
        cases more with
        | false =>
          go_wp2_with fail
          refine (hcall wr H).mono ?_
          rintro e w5 ⟨rfl, hb5⟩
          have H5 : Hid (PRd s w w5 g c os t false) := H.out.below hb5
          clear hb5 hcall
          go_wp2
          go_ret2
          exact ⟨.inl ⟨g, os, c, HP.out, rfl, H5.out.form.1, H5.out.form.2.2⟩, H5.out.bel⟩
        | true =>
          have h20 := hstep rfl
          go_wp2_with fail
          refine (hcall wr H).mono ?_
          rintro e w5 ⟨rfl, hb5⟩
          have H5 : Hid (PRd s w w5 g c os t true) := H.out.below hb5
          clear hb5 hcall
          go_wp2
          go_ret2
          exact ⟨.inl ⟨g, os, c, HP.out, rfl, H5.out.form.1, H5.out.form.2.2⟩, H5.out.bel⟩
      · have HZ : Hid (∀ os', ¬ ProgIs s os') := HEND.out hP
        have hx : tx = s → s = ⟨#[]⟩ := fun h => Decidable.byContradiction fun h2 => hP (HTX.1 ⟨h, h2⟩)
        clear hP HTX
        by_cases hxs : tx = s
        · have e1 : (tx.toList == s.toList) = true := by simp [hxs]
          have e2 : s.toList.isEmpty = true := by rw [hx hxs, ByteArray.toList_eq]; rfl
          clear hxs hx
          cases more with
          | false =>
            go_wp2_with fail
            refine (hcall wr H).mono ?_
            rintro e w5 ⟨rfl, hb5⟩
            have H5 : Hid (PRd s w w5 g c os t false) := H.out.below hb5
            clear hb5 hcall
            go_wp2
            go_ret2
            exact ⟨.inr ⟨rfl, HZ.out⟩, H5.out.bel⟩
          | true =>
            have h20 := hstep rfl
            go_wp2_with fail
            refine (hcall wr H).mono ?_
            rintro e w5 ⟨rfl, hb5⟩
            have H5 : Hid (PRd s w w5 g c os t true) := H.out.below hb5
            clear hb5 hcall
            go_wp2
            go_ret2
            exact ⟨.inr ⟨rfl, HZ.out⟩, H5.out.bel⟩
        · have e1 : (tx.toList == s.toList) = false := by
            simp only [beq_eq_false_iff_ne, ne_eq]
            intro e
            exact hxs (listeq_of e)
          clear hxs hx
          cases more with
          | false =>
            go_wp2_with fail
            refine (hcall wr H).mono ?_
            rintro e w5 ⟨rfl, hb5⟩
            have H5 : Hid (PRd s w w5 g c os t false) := H.out.below hb5
            clear hb5 hcall
            go_wp2
            go_ret2
            exact ⟨.inr ⟨rfl, HZ.out⟩, H5.out.bel⟩
          | true =>
            have h20 := hstep rfl
            go_wp2_with fail
            refine (hcall wr H).mono ?_
            rintro e w5 ⟨rfl, hb5⟩
            have H5 : Hid (PRd s w w5 g c os t true) := H.out.below hb5
            clear hb5 hcall
            go_wp2
            go_ret2
            exact ⟨.inr ⟨rfl, HZ.out⟩, H5.out.bel⟩
    · obtain rfl : more = true := by
        cases more with
        | true => rfl
        | false => exact absurd (.inl rfl) hend
      have h20 : os.length ≤ 20 := by
        rcases Nat.lt_or_ge 20 os.length with h | h
        · exact absurd (.inr h) hend
        · exact h
      have h20' : (os.length : Int) ≤ 20 := by omega
      have htl := H.out.tl
      clear hend
      go_wp2_with fail
      refine (l1Cut_any t 59 wr (by omega)).mono ?_
      rintro e w3 ⟨⟨a, b, f, rfl, hc⟩, hb3⟩
      have hz := cut_size hc
      have HC : Hid (CutIs t 59 a b f) := hc
      have H3 : Hid (PRd s w w3 g c os t true) := H.out.below hb3
      clear hc hb3 H
      go_wp2_with fail
      refine (l2Op_any a w3 (by omega)).mono ?_
      rintro e w4 ⟨⟨o, rfl, ho, hoz⟩, hb4⟩
      have HO : Hid ((∀ o', OpIs a o' → o' = o) ∧ o.2.2.2.size ≤ 1048576) := ⟨ho, by omega⟩
      have H4 : Hid (PRd s w w4 g c os t true) := H3.out.below hb4
      have HX : Hid (PRd s w (w4.alloc (.cells #[.int .i64 o.1, .int .i64 o.2.1, .int .i64 o.2.2.1, .string o.2.2.2] 37)) g c os t true) := H4.out.below ((Below.refl _ _).alloc (Nat.le_refl _) _)
      have HZZ : Hid (f = true → b.size + 1 < t.size + 1) := fun hf => by
        cases hf
        have h1 := congrArg List.length (cut_join' HC.out)
        rw [len_is, List.length_append, List.length_cons, len_is, len_is] at h1
        omega
      have hw4 := H4.out.bel.size
      clear hb4 H3 ho
      go_wp2_with (at_builtin; refine wpList_append_own_at _ rfl _ _ 24 rfl w.heap.size 37 i0 (.agg #[.int .i64 0, .int .i64 0, .int .i64 0, .string ⟨#[]⟩]) 4 40 Tryz.underlying24 HI.out.1 HI.out.2.1 HI.out.2.2.1 HI.out.2.2.2 rfl (by decide) (.slice (some ⟨g, 0, none⟩) os.length c) os.length (cellsO os) rfl HX.out.own ⟨w4.heap.size, 0, none⟩ 1 1 [.int .i64 o.1, .int .i64 o.2.1, .int .i64 o.2.2.1, .string o.2.2.2] (by rfl) rfl (World.news_of_block (cs := #[.int .i64 o.1, .int .i64 o.2.1, .int .i64 o.2.2.1, .string o.2.2.2]) (t := 37) (fr := (0, 0)) (heap_alloc_new w4 _)) (by simp [Value.oneCell']) (by unfold maxLen; omega) (by omega) (by simp; omega) ?_; intro v' w5 hown' hgrow hnil hloc; obtain ⟨gg, cp, rfl⟩ := ownO_some hown'; have HN : Hid (PRd s w w5 gg cp (os ++ [o]) b f) := HX.out.next HC.out HO.out.1 HO.out.2 HX.out.bel hgrow hown'; clear hown' hgrow hnil hloc HX H4)
      go_roundw
      case rel => exact ⟨gg, cp, os ++ [o], b, f, by rw [len_snocO], rfl, rfl, by rw [len_snocO]; omega, HN⟩
      case measure => have h9 := HZZ.out; revert h9; cases f <;> simp

end Go.Proofs.YtlaeilcipibelaaGreatDoor
