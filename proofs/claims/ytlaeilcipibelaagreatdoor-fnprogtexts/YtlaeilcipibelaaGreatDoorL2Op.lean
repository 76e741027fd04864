/- The specification's reader of an op. -/
import Derived.Test.YtlaeilcipibelaaGreatDoorOpRd
import Derived.Deep.RegionHeld3
namespace Go.Proofs.YtlaeilcipibelaaGreatDoor
open Go.RowKit

/-- An op lies in block q, behind all that the world w had. -/
structure OpOn (w : World) (q : Nat) (x : World) (k n m : Int) (t : ByteArray) : Prop where
  row : x.heap[q]? = some (.cells #[.int .i64 k, .int .i64 n, .int .i64 m, .string t] 37 (0, 0))
  bel : Below w.heap.size w x
  new : w.heap.size ≤ q
theorem OpOn.lt {w x : World} {q : Nat} {k n m : Int} {t : ByteArray} (h : OpOn w q x k n m t) : q < x.heap.size := (Array.getElem?_eq_some_iff.1 h.row).1
theorem OpOn.c0 {w x : World} {q : Nat} {k n m : Int} {t : ByteArray} (h : OpOn w q x k n m t) : x.cell? ⟨q, 0, none⟩ = some (.int .i64 k) := by rw [cell_of_row _ _ _ _ _ _ h.row]; rfl
theorem OpOn.c1 {w x : World} {q : Nat} {k n m : Int} {t : ByteArray} (h : OpOn w q x k n m t) : x.cell? ⟨q, 1, none⟩ = some (.int .i64 n) := by rw [cell_of_row _ _ _ _ _ _ h.row]; rfl
theorem OpOn.c2 {w x : World} {q : Nat} {k n m : Int} {t : ByteArray} (h : OpOn w q x k n m t) : x.cell? ⟨q, 2, none⟩ = some (.int .i64 m) := by rw [cell_of_row _ _ _ _ _ _ h.row]; rfl
theorem OpOn.c3 {w x : World} {q : Nat} {k n m : Int} {t : ByteArray} (h : OpOn w q x k n m t) : x.cell? ⟨q, 3, none⟩ = some (.string t) := by rw [cell_of_row _ _ _ _ _ _ h.row]; rfl
theorem OpOn.fz {w x : World} {q : Nat} {k n m : Int} {t : ByteArray} (h : OpOn w q x k n m t) (i : Nat) : x.frozen? ⟨q, i, none⟩ = false := frozen_of_row _ _ _ _ _ h.row
theorem OpOn.below {w x y : World} {q : Nat} {k n m : Int} {t : ByteArray} (h : OpOn w q x k n m t) (hb : Below x.heap.size x y) : OpOn w q y k n m t := ⟨(hb.block q h.lt).trans h.row, h.bel.trans (hb.mono h.bel.size), h.new⟩
theorem OpOn.setK {w x : World} {q : Nat} {k n m : Int} {t : ByteArray} (h : OpOn w q x k n m t) (k' : Int) : OpOn w q (x.setCell ⟨q, 0, none⟩ (.int .i64 k')) k' n m t := by
  refine ⟨?_, h.bel.setCell h.new _, h.new⟩
  have h0 := heap_setCell_same _ q 0 _ _ (.int .i64 k') h.row
  simpa using h0
theorem OpOn.setN {w x : World} {q : Nat} {k n m : Int} {t : ByteArray} (h : OpOn w q x k n m t) (n' : Int) : OpOn w q (x.setCell ⟨q, 1, none⟩ (.int .i64 n')) k n' m t := by
  refine ⟨?_, h.bel.setCell h.new _, h.new⟩
  have h0 := heap_setCell_same _ q 1 _ _ (.int .i64 n') h.row
  simpa using h0
theorem OpOn.setM {w x : World} {q : Nat} {k n m : Int} {t : ByteArray} (h : OpOn w q x k n m t) (m' : Int) : OpOn w q (x.setCell ⟨q, 2, none⟩ (.int .i64 m')) k n m' t := by
  refine ⟨?_, h.bel.setCell h.new _, h.new⟩
  have h0 := heap_setCell_same _ q 2 _ _ (.int .i64 m') h.row
  simpa using h0
theorem OpOn.setT {w x : World} {q : Nat} {k n m : Int} {t : ByteArray} (h : OpOn w q x k n m t) (t' : ByteArray) : OpOn w q (x.setCell ⟨q, 3, none⟩ (.string t')) k n m t' := by
  refine ⟨?_, h.bel.setCell h.new _, h.new⟩
  have h0 := heap_setCell_same _ q 3 _ _ (.string t') h.row
  simpa using h0
theorem opSize : (Tryz.prog.info? 37).map (·.size) = some 4 := by kernel_rfl
/-- An op, read where it lies. -/
theorem opResults {fn : Func} {p : Tmp} (h : fn.results = #[.cell p 37]) {tmps : Array Value} {w0 w : World} {q : Nat} {k n m : Int} {t : ByteArray} (hp : tmps.getD p undef = .pointer (some ⟨q, 0, none⟩)) (hg : OpOn w0 q w k n m t) :
    (results fn tmps).run Tryz.prog w = .ok (.agg #[.int .i64 k, .int .i64 n, .int .i64 m, .string t]) w :=
  results_cell_row h _ _ q 37 _ (0, 0) _ hp hg.row Tryz.underlying37 rfl opSize
theorem OpOn.other {w x : World} {q r i : Nat} {k n m : Int} {t : ByteArray} (h : OpOn w q x k n m t) (hne : q ≠ r) (hr : w.heap.size ≤ r) (v : Value) : OpOn w q (x.setCell ⟨r, i, none⟩ v) k n m t :=
  ⟨(Below.heap_setCell _ _ _ _ (by simpa using hne)).trans h.row, h.bel.setCell hr _, h.new⟩
theorem OpOn.all {w x : World} {q : Nat} {k n m k' n' m' : Int} {t t' : ByteArray} (h : OpOn w q x k n m t) : OpOn w q ((((x.setCell ⟨q, 0, none⟩ (.int .i64 k')).setCell ⟨q, 1, none⟩ (.int .i64 n')).setCell ⟨q, 2, none⟩ (.int .i64 m')).setCell ⟨q, 3, none⟩ (.string t')) k' n' m' t' := (((h.setK k').setN n').setM m').setT t'
theorem cut_size2 {s a b : ByteArray} {c : UInt8} {f : Bool} (h : CutIs s c a b f) : a.size ≤ s.size ∧ b.size ≤ s.size := by
  rcases h with ⟨_, h, _⟩ | ⟨_, rfl, rfl, _⟩
  · have := congrArg List.length h
    rw [len_is, List.length_append, List.length_cons, len_is, len_is] at this
    omega
  · exact ⟨Nat.le_refl _, Nat.zero_le _⟩

/-- Two ops under making: the answer's and the one that is read. -/
structure TwoOn (w : World) (q : Nat) (x : World) (k n m : Int) (t : ByteArray) : Prop where
  res : OpOn w w.heap.size x 0 0 0 ⟨#[]⟩
  op : OpOn w q x k n m t
  ne : w.heap.size ≠ q
theorem TwoOn.below {w x y : World} {q : Nat} {k n m : Int} {t : ByteArray} (h : TwoOn w q x k n m t) (hb : Below x.heap.size x y) : TwoOn w q y k n m t := ⟨h.res.below hb, h.op.below hb, h.ne⟩
theorem TwoOn.setK {w x : World} {q : Nat} {k n m : Int} {t : ByteArray} (h : TwoOn w q x k n m t) (k' : Int) : TwoOn w q (x.setCell ⟨q, 0, none⟩ (.int .i64 k')) k' n m t := ⟨h.res.other h.ne h.op.new _, h.op.setK k', h.ne⟩
theorem TwoOn.setN {w x : World} {q : Nat} {k n m : Int} {t : ByteArray} (h : TwoOn w q x k n m t) (n' : Int) : TwoOn w q (x.setCell ⟨q, 1, none⟩ (.int .i64 n')) k n' m t := ⟨h.res.other h.ne h.op.new _, h.op.setN n', h.ne⟩
theorem TwoOn.setM {w x : World} {q : Nat} {k n m : Int} {t : ByteArray} (h : TwoOn w q x k n m t) (m' : Int) : TwoOn w q (x.setCell ⟨q, 2, none⟩ (.int .i64 m')) k n m' t := ⟨h.res.other h.ne h.op.new _, h.op.setM m', h.ne⟩
theorem TwoOn.setT {w x : World} {q : Nat} {k n m : Int} {t : ByteArray} (h : TwoOn w q x k n m t) (t' : ByteArray) : TwoOn w q (x.setCell ⟨q, 3, none⟩ (.string t')) k n m t' := ⟨h.res.other h.ne h.op.new _, h.op.setT t', h.ne⟩
theorem kU_zero (s : ByteArray) : kU s 0 = 0 := rfl
theorem kU_hit {s : ByteArray} {k : Nat} (h1 : 1 ≤ k) (h : nameB k = s) : kU s k = k := by
  obtain ⟨j, rfl⟩ : ∃ j, k = j + 1 := ⟨k - 1, by omega⟩
  simp only [kU]
  rw [if_pos (by simpa using h)]
  simp
theorem kU_miss {s : ByteArray} {k : Nat} (h1 : 1 ≤ k) (h : ¬ nameB k = s) : kU s k = kU s (k - 1) := by
  obtain ⟨j, rfl⟩ : ∃ j, k = j + 1 := ⟨k - 1, by omega⟩
  simp only [kU]
  rw [if_neg (by simpa using h)]
  simp
theorem kU_le (s : ByteArray) : ∀ k : Nat, 0 ≤ kU s k ∧ kU s k ≤ k
  | 0 => by simp [kU]
  | k + 1 => by
    have := kU_le s k
    simp only [kU]
    split
    · omega
    · omega
theorem listeq_of {a b : ByteArray} (h : a.toList = b.toList) : a = b := by
  apply ByteArray.ext
  apply Array.ext'
  simpa [ByteArray.toList_eq] using h

theorem op_eq {o : OpD} {k n m : Int} {t : ByteArray} (h1 : o.1 = k) (h2 : o.2.1 = n) (h3 : o.2.2.1 = m) (h4 : o.2.2.2 = t) : o = (k, n, m, t) := by
  obtain ⟨a, b, c, d⟩ := o
  simp only at h1 h2 h3 h4
  rw [h1, h2, h3, h4]

set_option maxHeartbeats 8000000 in
theorem l2Op_any (s : ByteArray) (w : World) (hs : s.size ≤ 1048576) :
    Calls Tryz.prog 24 #[.string s] w fun e w' => (∃ o : OpD, e = .returned (.agg #[.int .i64 o.1, .int .i64 o.2.1, .int .i64 o.2.2.1, .string o.2.2.2]) ∧ (∀ o', OpIs s o' → o' = o) ∧ o.2.2.2.size ≤ s.size) ∧ Below w.heap.size w w' := by
  have HR0 : Hid (OpOn w w.heap.size (w.alloc (.cells #[.int .i64 0, .int .i64 0, .int .i64 0, .string ⟨#[]⟩] 37)) 0 0 0 ⟨#[]⟩) := ⟨heap_alloc_new _ _, (Below.refl _ _).alloc (Nat.le_refl _) _, Nat.le_refl _⟩
  go_enter Tryz.func24, Tryz.ntmps24
  go_wp2_with fail
  generalize w.alloc (.cells #[.int .i64 0, .int .i64 0, .int .i64 0, .string ⟨#[]⟩] 37) = W0 at *
  refine (l1Cut_any s 32 _ hs).mono ?_
  rintro e w1 ⟨⟨wd, rest, f1, rfl, hc⟩, hb1⟩
  have HC1 : Hid (CutIs s 32 wd rest f1) := hc
  have HR1 : Hid (OpOn w w.heap.size w1 0 0 0 ⟨#[]⟩) := HR0.out.below hb1
  have hz1 := (cut_size2 hc).2
  clear hc hb1 HR0
  go_wp2_with fail
  refine (l2Names_any w1).mono ?_
  rintro e w2 ⟨rfl, hn, hb2⟩
  have HR2 : Hid (OpOn w w.heap.size w2 0 0 0 ⟨#[]⟩) := HR1.out.below hb2
  have hgn : w1.heap.size < w2.heap.size := hn.1
  have HT2 : Hid (TwoOn w w2.heap.size (w2.alloc (.cells #[.int .i64 0, .int .i64 0, .int .i64 0, .string ⟨#[]⟩] 37)) 0 0 0 ⟨#[]⟩ ∧ NamesAt (w2.alloc (.cells #[.int .i64 0, .int .i64 0, .int .i64 0, .string ⟨#[]⟩] 37)) w1.heap.size) := by
    have hb : Below w2.heap.size w2 (w2.alloc (.cells #[.int .i64 0, .int .i64 0, .int .i64 0, .string ⟨#[]⟩] 37)) := (Below.refl _ _).alloc (Nat.le_refl _) _
    have hl := HR2.out.lt
    exact ⟨⟨HR2.out.below hb, ⟨heap_alloc_new _ _, HR2.out.bel.alloc HR2.out.bel.size _, HR2.out.bel.size⟩, by omega⟩, hn.below hb⟩
  have HGN : Hid (w1.heap.size ≠ w2.heap.size) := by show _ ≠ _; omega
  clear hn hb2 HR1 HR2
  go_wp2_with fail
  generalize w2.alloc (.cells #[.int .i64 0, .int .i64 0, .int .i64 0, .string ⟨#[]⟩] 37) = W2 at *
  generalize w2.heap.size = q at *
  generalize w1.heap.size = gn at *
  go_loopw [8] (fun i wr => ∃ k : Nat, (1 ≤ k ∧ k ≤ 18) ∧ i = .int .i64 k ∧ Hid (TwoOn w q wr (kU wd (k - 1)) 0 0 ⟨#[]⟩ ∧ NamesAt wr gn)) (fun i _ => 18 - (intOf i).toNat)
  case atStart => exact ⟨1, by omega, rfl, HT2⟩
  case round =>
    clear HT2
    obtain ⟨k, hk, rfl, H⟩ := hrel
    by_cases hlt : k ≤ 17
    · have i0 : (0 : Int) ≤ (k : Int) := by omega
      have i1 : (k : Int) < 18 := by omega
      have c0 := H.out.2.one k hlt
      have e1 : wrap64 (k : Int) = k := by unfold wrap64; omega
      by_cases hc : nameB k = wd
      · have HK : Hid (kU wd k = k) := kU_hit (by omega) hc
        have h1 : ((nameB (k : Int)).toList == wd.toList) = true := by simp [hc]
        have o0 := H.out.1.op.c0
        have oz := H.out.1.op.fz 0
        have HN : Hid (TwoOn w q (wr.setCell ⟨q, 0, none⟩ (.int .i64 k)) k 0 0 ⟨#[]⟩ ∧ NamesAt (wr.setCell ⟨q, 0, none⟩ (.int .i64 k)) gn) := ⟨H.out.1.setK k, by simpa using H.out.2.1, fun j hj => by
          rw [World.cell?_of_block (w := wr) (Below.heap_setCell _ _ _ _ (by simpa using HGN.out))]
          exact H.out.2.2 j hj⟩
        clear hc
        go_wp2
        go_roundw
        case rel => exact ⟨k + 1, by omega, by go_num, by rw [Nat.add_sub_cancel, HK.out]; exact HN⟩
        case measure => simp [intOf]; omega
      · have HK : Hid (kU wd k = kU wd (k - 1)) := kU_miss (by omega) hc
        have h1 : ((nameB (k : Int)).toList == wd.toList) = false := by
          simp only [beq_eq_false_iff_ne, ne_eq]
          intro e
          exact hc (listeq_of e)
        clear hc
        go_wp2
        go_roundw
        case rel => exact ⟨k + 1, by omega, by go_num, by rw [Nat.add_sub_cancel, HK.out]; exact H⟩
        case measure => simp [intOf]; omega
    · have HK : Hid (k - 1 = 17) := (by omega : k - 1 = 17)
      have i1 : ¬ (k : Int) < 18 := by omega
      have HT3 : Hid (TwoOn w q wr (kU wd 17) 0 0 ⟨#[]⟩) := by have := H.out.1; rw [HK.out] at this; exact this
      have HKL := kU_le wd 17
      clear H
      go_wp2_with fail
      refine (l1Cut_any rest 32 _ (by omega)).mono ?_
      rintro e w3 ⟨⟨one, r2, f2, rfl, hc⟩, hb3⟩
      have HC2 : Hid (CutIs rest 32 one r2 f2) := hc
      have HT4 : Hid (TwoOn w q w3 (kU wd 17) 0 0 ⟨#[]⟩) := HT3.out.below hb3
      have hz2 := cut_size2 hc
      clear hc hb3 HT3
      go_wp2_with fail
      refine (l1Int_any one w3 (by omega)).mono ?_
      rintro e w4 ⟨he, rfl⟩
      obtain ⟨n, b1, rfl, hv⟩ := he.val
      have HV : Hid (IntVal one n) := hv
      clear hv he
      have HS : Hid (∀ o', OpIs s o' → _) := fun o' h => h.spec HC1.out HC2.out HV.out
      generalize hkk : kU wd 17 = kk at *
      have o0 := HT4.out.op.c0
      have o1 := HT4.out.op.c1
      have z1 := HT4.out.op.fz 1
      have HT5 : Hid (TwoOn w q (w4.setCell ⟨q, 1, none⟩ (.int .i64 n)) kk n 0 ⟨#[]⟩) := HT4.out.setN n
      clear hkk
      by_cases hw : kk = 3 ∨ kk = 7 ∨ kk = 9 ∨ kk = 12
      · have HW : Hid (isWait kk ∧ ¬ isText kk ∧ kk ≠ 8) := ⟨hw, by unfold isText; omega, by omega⟩
        rcases hw with rfl | rfl | rfl | rfl
        all_goals
          go_wp2_with fail
          generalize w4.setCell ⟨q, 1, none⟩ (.int .i64 n) = W4 at *
          refine (l1Cut_any r2 32 _ (by omega)).mono ?_
          rintro e w5 ⟨⟨x, y, f3, rfl, hc⟩, hb5⟩
          have HC3 : Hid (CutIs r2 32 x y f3) := hc
          have HT6 : Hid (TwoOn w q w5 _ n 0 ⟨#[]⟩) := HT5.out.below hb5
          have hz3 := cut_size2 hc
          clear hc hb5 HT5 o0 o1 z1
          go_wp2_with fail
          refine (l1Int_any x w5 (by omega)).mono ?_
          rintro e w6 ⟨he, rfl⟩
          obtain ⟨m, b2, rfl, hv⟩ := he.val
          have HV2 : Hid (IntVal x m) := hv
          have HT7 : Hid (TwoOn w q (w6.setCell ⟨q, 2, none⟩ (.int .i64 m)) _ n m ⟨#[]⟩) := HT6.out.setM m
          have hne := HT6.out.ne
          have o0 := HT6.out.op.c0
          have o1 := HT6.out.op.c1
          have o2 := HT6.out.op.c2
          have o3 := HT6.out.op.c3
          have zn := HT6.out.op.fz 1
          have zm := HT6.out.op.fz 2
          have zt := HT6.out.op.fz 3
          have r0 := HT6.out.res.c0
          have r1 := HT6.out.res.c1
          have r2' := HT6.out.res.c2
          have r3 := HT6.out.res.c3
          have y0 := HT6.out.res.fz 0
          have y1 := HT6.out.res.fz 1
          have y2 := HT6.out.res.fz 2
          have y3 := HT6.out.res.fz 3
          clear hv he HT6
          go_wp2
          refine bodyPost_ret (opResults Tryz.results24 (by rfl) HT7.out.res.all) rfl ?_
          refine ⟨⟨(_, n, m, ⟨#[]⟩), rfl, fun o' h => ?_, Nat.zero_le _⟩, HT7.out.res.all.bel⟩
          obtain ⟨e1, e2, _, e4, _, e6⟩ := HS.out o' h
          refine op_eq e1 e2 (e6 (.inr (by rw [e1]; exact HW.out.1)) HC3.out HV2.out).1 (e4 ?_)
          rw [e1]
          rintro (h8 | h8)
          · exact HW.out.2.2 h8
          · exact HW.out.2.1 h8
      by_cases h8 : kk = 8
      · subst h8
        go_wp2_with fail
        generalize w4.setCell ⟨q, 1, none⟩ (.int .i64 n) = W4 at *
        refine (l1Cut_any r2 32 _ (by omega)).mono ?_
        rintro e w5 ⟨⟨x, y, f3, rfl, hc⟩, hb5⟩
        have HC3 : Hid (CutIs r2 32 x y f3) := hc
        have HT6 : Hid (TwoOn w q w5 _ n 0 ⟨#[]⟩) := HT5.out.below hb5
        have hz3 := cut_size2 hc
        clear hc hb5 HT5 o0 o1 z1
        go_wp2_with fail
        refine (l1Int_any x w5 (by omega)).mono ?_
        rintro e w6 ⟨he, rfl⟩
        obtain ⟨m, b2, rfl, hv⟩ := he.val
        have HV2 : Hid (IntVal x m) := hv
        have HT7 : Hid (TwoOn w q ((w6.setCell ⟨q, 2, none⟩ (.int .i64 m)).setCell ⟨q, 3, none⟩ (.string y)) _ n m y) := (HT6.out.setM m).setT y
        have hne := HT6.out.ne
        have o0 := HT6.out.op.c0
        have o1 := HT6.out.op.c1
        have o2 := HT6.out.op.c2
        have o3 := HT6.out.op.c3
        have zn := HT6.out.op.fz 1
        have zm := HT6.out.op.fz 2
        have zt := HT6.out.op.fz 3
        have r0 := HT6.out.res.c0
        have r1 := HT6.out.res.c1
        have r2' := HT6.out.res.c2
        have r3 := HT6.out.res.c3
        have y0 := HT6.out.res.fz 0
        have y1 := HT6.out.res.fz 1
        have y2 := HT6.out.res.fz 2
        have y3 := HT6.out.res.fz 3
        clear hv he HT6
        go_wp2
        refine bodyPost_ret (opResults Tryz.results24 (by rfl) HT7.out.res.all) rfl ?_
        refine ⟨⟨(_, n, m, y), rfl, fun o' h => ?_, (by show y.size ≤ s.size; omega)⟩, HT7.out.res.all.bel⟩
        obtain ⟨e1, e2, _, _, _, e6⟩ := HS.out o' h
        have e7 := e6 (.inl e1) HC3.out HV2.out
        exact op_eq e1 e2 e7.1 (e7.2 e1)
      by_cases ht : kk = 10 ∨ kk = 13
      · have HW : Hid (isText kk ∧ ¬ (kk = 8 ∨ isWait kk)) := ⟨ht, by unfold isWait; omega⟩
        rcases ht with rfl | rfl
        all_goals
          have HT7 : Hid (TwoOn w q ((w4.setCell ⟨q, 1, none⟩ (.int .i64 n)).setCell ⟨q, 3, none⟩ (.string r2)) _ n 0 r2) := HT5.out.setT r2
          have hne := HT4.out.ne
          have o0 := HT4.out.op.c0
          have o1 := HT4.out.op.c1
          have o2 := HT4.out.op.c2
          have o3 := HT4.out.op.c3
          have zn := HT4.out.op.fz 1
          have zm := HT4.out.op.fz 2
          have zt := HT4.out.op.fz 3
          have r0 := HT4.out.res.c0
          have r1 := HT4.out.res.c1
          have r2' := HT4.out.res.c2
          have r3 := HT4.out.res.c3
          have y0 := HT4.out.res.fz 0
          have y1 := HT4.out.res.fz 1
          have y2 := HT4.out.res.fz 2
          have y3 := HT4.out.res.fz 3
          clear HT5
          go_wp2
          refine bodyPost_ret (opResults Tryz.results24 (by rfl) HT7.out.res.all) rfl ?_
          refine ⟨⟨(_, n, 0, r2), rfl, fun o' h => ?_, (by show r2.size ≤ s.size; omega)⟩, HT7.out.res.all.bel⟩
          obtain ⟨e1, e2, e3, _, e5, _⟩ := HS.out o' h
          exact op_eq e1 e2 (e3 (by rw [e1]; exact HW.out.2)) (e5 (by rw [e1]; exact HW.out.1))
      have HW : Hid (¬ (kk = 8 ∨ isText kk) ∧ ¬ (kk = 8 ∨ isWait kk)) := ⟨by unfold isText; omega, by unfold isWait; omega⟩
      have k3 : (kk == 3) = false := by simp; omega
      have k7 : (kk == 7) = false := by simp; omega
      have k9 : (kk == 9) = false := by simp; omega
      have k12 : (kk == 12) = false := by simp; omega
      have k8 : (kk == 8) = false := by simp; omega
      have k10 : (kk == 10) = false := by simp; omega
      have k13 : (kk == 13) = false := by simp; omega
      clear hw h8 ht
      have hne := HT4.out.ne
      have o0 := HT4.out.op.c0
      have o1 := HT4.out.op.c1
      have o2 := HT4.out.op.c2
      have o3 := HT4.out.op.c3
      have zn := HT4.out.op.fz 1
      have zm := HT4.out.op.fz 2
      have zt := HT4.out.op.fz 3
      have r0 := HT4.out.res.c0
      have r1 := HT4.out.res.c1
      have r2' := HT4.out.res.c2
      have r3 := HT4.out.res.c3
      have y0 := HT4.out.res.fz 0
      have y1 := HT4.out.res.fz 1
      have y2 := HT4.out.res.fz 2
      have y3 := HT4.out.res.fz 3
      go_wp2
      refine bodyPost_ret (opResults Tryz.results24 (by rfl) HT5.out.res.all) rfl ?_
      refine ⟨⟨(_, n, 0, ⟨#[]⟩), rfl, fun o' h => ?_, Nat.zero_le _⟩, HT5.out.res.all.bel⟩
      obtain ⟨e1, e2, e3, e4, _, _⟩ := HS.out o' h
      exact op_eq e1 e2 (e3 (by rw [e1]; exact HW.out.2)) (e4 (by rw [e1]; exact HW.out.1))

end Go.Proofs.YtlaeilcipibelaaGreatDoor
