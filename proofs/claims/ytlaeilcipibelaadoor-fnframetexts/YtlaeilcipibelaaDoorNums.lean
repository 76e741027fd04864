/- Numbers with colons between two, read by the specification. -/
import Derived.Test.YtlaeilcipibelaaDoorIntRd
import Derived.Test.YtlaeilcipibelaaDoorPieces
import Derived.Maps.AppendAt
import Derived.OwnWalk
namespace Go.Proofs.YtlaeilcipibelaaDoor
open Go.RowKit

def Bd (n : Int) : Prop := -9999999999 ≤ n ∧ n ≤ 9999999999
/-- The text s is that of these numbers. -/
def NumsAre (s : List UInt8) (ns : List Int) : Prop := pcs 58 s = ns.map Lib.itoa ∧ ∀ n ∈ ns, Bd n
def numV (ns : List Int) : List Value := ns.map fun n => .int .i64 n
def NumsEnds (s : ByteArray) (w : World) (e : Ending) (w' : World) : Prop :=
  (∃ v ns, e = .returned (.tuple #[v, .bool true]) ∧ w'.ownsRow w.heap.size 2 1 v ns.length (numV ns) ∧ NumsAre s.data.toList ns) ∨ (e = .returned (.tuple #[.slice none 0 0, .bool false]) ∧ ∀ ns, ¬ NumsAre s.data.toList ns)
theorem intInfo : (Tryd.prog.info? 2).map (fun i => (i.zero, i.size, i.bytes)) = some (some (.int .i64 0), 1, 8) := by kernel_rfl

/-- Where the reading stands. -/
structure NumsAt (s : ByteArray) (w wr : World) (t : ByteArray) (v : Value) (more : Bool) (ns : List Int) : Prop where
  own : wr.ownsRow w.heap.size 2 1 v ns.length (numV ns)
  bel : Below w.heap.size w wr
  pc : pcs 58 s.data.toList = ns.map Lib.itoa ++ (if more = true then pcs 58 t.data.toList else [])
  bd : ∀ n ∈ ns, Bd n
  le : ns.length + t.size + (if more = true then 1 else 0) ≤ s.size + 1
  tl : t.size ≤ s.size
theorem NumsAt.drop {s : ByteArray} {w wr : World} {t a b : ByteArray} {f : Bool} {v : Value} {ns : List Int} (h : NumsAt s w wr t v true ns) (hc : CutIs t 58 a b f) :
    pcs 58 s.data.toList = ns.map Lib.itoa ++ a.data.toList :: (if f = true then pcs 58 b.data.toList else []) := by
  rw [h.pc, if_pos rfl, hc.pcs]
  cases f <;> simp
theorem cut_sizes {t a b : ByteArray} {c : UInt8} {f : Bool} (hc : CutIs t c a b f) : a.size ≤ t.size ∧ b.size ≤ t.size ∧ (f = true → b.size < t.size) := by
  rcases hc with ⟨rfl, h1, _⟩ | ⟨rfl, rfl, rfl, _⟩
  · have h2 := len_is t
    have h3 := len_is a
    have h4 := len_is b
    rw [h1] at h2
    simp at h2
    simp at h3 h4
    refine ⟨by omega, by omega, fun _ => by omega⟩
  · refine ⟨Nat.le_refl _, Nat.zero_le _, fun h => by cases h⟩

theorem own_afar {w : World} {base e size n b : Nat} {v : Value} {xs : List Value} (h : w.ownsRow base e size v n xs) (hb : b < base) : some b ≠ v.ownBlock := by
  rcases h.2 with ⟨hv, _⟩ | ⟨g, cap, cur, hv, hg, _⟩
  · subst hv; simp [Value.ownBlock]
  · subst hv; simp [Value.ownBlock]; omega
theorem ownsRow_below {w w' : World} {base e size n : Nat} {v : Value} {xs : List Value} (h : w.ownsRow base e size v n xs) (hb : Below w.heap.size w w') : w'.ownsRow base e size v n xs := by
  obtain ⟨h1, h2⟩ := h
  refine ⟨h1, ?_⟩
  rcases h2 with h2 | ⟨g, cap, cur, hv, hg, hh, rest⟩
  · exact .inl h2
  · exact .inr ⟨g, cap, cur, hv, hg, (hb.block g (Array.getElem?_eq_some_iff.1 hh).1).trans hh, rest⟩

set_option maxHeartbeats 2000000 in
theorem l1Nums_any (s : ByteArray) (w : World) (hs : s.size ≤ 1048576) :
    Calls Tryd.prog 44 #[.string s, .int .u8 58] w fun e w' => NumsEnds s w e w' ∧ Below w.heap.size w w' := by
  obtain ⟨i0, hi, hz0, hz1, hz2⟩ := info_parts intInfo
  have HI : Hid (Tryd.prog.info? 2 = some i0 ∧ i0.zero = some (.int .i64 0) ∧ i0.size = 1 ∧ i0.bytes = 8) := ⟨hi, hz0, hz1, hz2⟩
  clear hi hz0 hz1 hz2
  go_enter Tryd.func44, Tryd.ntmps44
  go_wp2_with fail
  have HS0 : Hid (NumsAt s w (w.alloc (.cells #[] 2)) s (.slice (some ⟨w.heap.size, 0, none⟩) 0 0) true []) :=
    ⟨⟨rfl, .inr ⟨w.heap.size, 0, #[], rfl, Nat.le_refl _, heap_alloc_new _ _, Nat.le_refl _, by unfold maxLen; omega, rfl, rfl⟩⟩, (Below.refl _ _).alloc (Nat.le_refl _) _, by simp, (fun n hn => by simp at hn), by simp, Nat.le_refl _⟩
  generalize w.alloc (.cells #[] 2) = W0 at *
  go_loopw [0, 6, 7] (fun t v m wr => ∃ (t' : ByteArray) (more : Bool), t = .string t' ∧ m = .bool more ∧ ∃ ns, Hid (NumsAt s w wr t' v more ns)) (fun t _ m _ => match t, m with | .string t', .bool true => t'.size + 1 | _, _ => 0)
  case atStart => exact ⟨s, true, rfl, rfl, [], HS0⟩
  case round =>
    obtain ⟨t, more, rfl, rfl, ns, HN⟩ := hrel
    cases more with
    | false =>
      have HF : Hid (NumsAre s.data.toList ns) := ⟨by have := HN.out.pc; simpa using this, HN.out.bd⟩
      go_wp2
      go_ret2
      exact ⟨.inl ⟨_, ns, rfl, HN.out.own, HF.out⟩, HN.out.bel⟩
    | true =>
      have htl := HN.out.tl
      go_wp2_with fail
      refine (l1Cut_any t 58 wr (by omega)).mono ?_
      rintro e w1 ⟨⟨a, b, f, rfl, hc⟩, hb1⟩
      have hz := cut_sizes hc
      have HC : Hid (CutIs t 58 a b f) := hc
      have HN1 : Hid (NumsAt s w w1 t u6 true ns) := ⟨ownsRow_below HN.out.own hb1, HN.out.bel.trans (hb1.mono HN.out.bel.size), HN.out.pc, HN.out.bd, HN.out.le, HN.out.tl⟩
      clear hc hb1 HN
      go_wp2_with fail
      refine (l1Int_any a w1 (by omega)).mono ?_
      rintro e w2 ⟨he, rfl⟩
      rcases he with ⟨n, rfl, hd⟩ | ⟨rfl, hd⟩
      · have HD : Hid (DecIs a n) := hd
        clear hd
        have hle := HN1.out.le
        rw [if_pos rfl] at hle
        have HOA : Hid ((w2.alloc (.cells #[.int .i64 n] 2)).ownsRow w.heap.size 2 1 u6 ns.length (numV ns)) := HN1.out.own.alloc _
        have y1 : w.heap.size ≤ w2.heap.size := HN1.out.bel.size
        go_wp2_with (at_builtin; refine wpList_append_own_at _ rfl _ _ 73 rfl w.heap.size 2 i0 (.int .i64 0) 1 8 Tryd.underlying73 HI.out.1 HI.out.2.1 HI.out.2.2.1 HI.out.2.2.2 rfl (by decide) u6 ns.length (numV ns) rfl HOA.out ⟨w2.heap.size, 0, none⟩ 1 1 [.int .i64 n] rfl rfl (cell_one_new _ _ _) (by simp [Value.oneCell']) (by unfold maxLen; omega) (by omega) (by simp; omega) ?_; intro v' w3 hown' hgrow hnil hloc)
        have HN3 : Hid (NumsAt s w w3 b v' f (ns ++ [n])) := by
          refine ⟨?_, ?_, ?_, ?_, ?_, ?_⟩
          · rw [List.length_append]
            simpa [numV] using hown'
          · refine (HN1.out.bel.alloc y1 _).grown hgrow (by simp; omega) (fun k hk => ?_)
            rcases Nat.lt_or_ge k w.heap.size with h | h
            · exact absurd hk.symm (own_afar HN1.out.own h)
            · exact h
          · rw [HN1.out.drop HC.out]
            simp [HD.out.1]
          · intro x hx
            rcases List.mem_append.1 hx with hx | hx
            · exact HN1.out.bd x hx
            · rw [List.mem_singleton] at hx; subst hx; exact HD.out.2
          · cases f with
            | true => have := hz.2.2 rfl; simp; omega
            | false =>
              rcases HC.out with ⟨h, _⟩ | ⟨_, _, rfl, _⟩
              · cases h
              · have e0 : (⟨#[]⟩ : ByteArray).size = 0 := rfl
                rw [e0]; simp; omega
          · omega
        clear hown' hgrow hnil hloc HOA HN1
        go_wp2
        go_roundw
        case rel => exact ⟨b, f, rfl, rfl, ns ++ [n], HN3⟩
        case measure =>
          cases f with
          | true => have := hz.2.2 rfl; simp; omega
          | false => simp
      · have HZ : Hid (∀ ns', ¬ NumsAre s.data.toList ns') := by
          intro ns' hn'
          have h1 := HN1.out.drop HC.out
          rw [hn'.1] at h1
          have h2 : a.data.toList ∈ ns'.map Lib.itoa := by rw [h1]; simp
          obtain ⟨m, hm, e⟩ := List.mem_map.1 h2
          exact hd m ⟨e.symm, hn'.2 m hm⟩
        clear hd
        go_wp2
        go_ret2
        exact ⟨.inr ⟨rfl, HZ.out⟩, HN1.out.bel⟩

end Go.Proofs.YtlaeilcipibelaaDoor
