/- The text of a frame: what the program writes, by a range over its table. -/
import Derived.Test.YtlaeilcipibelaaDoorFText
import Derived.Test.YtlaeilcipibelaaDoorAll
import Derived.Test.YtlaeilcipibelaaDoorPow
import Derived.Test.YtlaeilcipibelaaDoorRegionIn
namespace Go.Proofs.YtlaeilcipibelaaDoor
open Go.RowKit
attribute [local go_sem] Oper.semAt_some

theorem kept3 {B b5 : Nat} {w W X X' Y : World} {o : Obj} (h : Hid (Kept B W X ∧ X.heap[b5]? = some o ∧ Below w.heap.size w X)) (hb : Below X'.heap.size X' Y) (e : X'.heap = X.heap) (f : Below w.heap.size w X → Below w.heap.size w X') : Hid (Kept B W Y ∧ Y.heap[b5]? = some o ∧ Below w.heap.size w Y) := by
  have k : Kept B X Y := ⟨by rw [← e]; exact hb.size, fun b _ hl => by rw [← e] at hl ⊢; exact hb.block b hl⟩
  have l : b5 < X'.heap.size := by rw [e]; exact (Array.getElem?_eq_some_iff.1 h.out.2.1).1
  exact ⟨h.out.1.trans k, (hb.block _ l).trans (by rw [e]; exact h.out.2.1), (f h.out.2.2).trans (hb.mono (f h.out.2.2).size)⟩
theorem winText_eq (t : ByteArray) (a l p : Int) : winText t a l p = t ++ (({ data := #[32] } : ByteArray) ++ decB a ++ ({ data := #[58] } : ByteArray) ++ decB l ++ ({ data := #[58] } : ByteArray) ++ decB p) := by
  simp only [winText, ByteArray.append_assoc]
theorem winV_at (Z : Nat → Int) (k : Nat) : winV Z k = .agg #[.int .i64 (Z (k * 3)), .int .i64 (Z (k * 3 + 1)), .int .i64 (Z (k * 3 + 2))] := rfl

set_option maxHeartbeats 2000000 in
theorem implFrameText_any (major : Int) (g len cap : Nat) (Z : Nat → Int) (w : World) (hl : len ≤ 1048576) (hz : ∀ j, -9223372036854775808 ≤ Z j ∧ Z j ≤ 9223372036854775807) (hr : WinsAt w g len Z) (hp : Pow w) :
    Calls Tryd.prog 10 #[.agg #[.int .i64 major, .slice (some ⟨g, 0, none⟩) len cap]] w fun e w' => e = .returned (.string (textB major len Z)) ∧ Below w.heap.size w w' := by
  obtain ⟨T, hT⟩ : ∃ T, tabZ = T := ⟨_, rfl⟩
  have hs : T.size = 62 := by rw [← hT]; exact tabZ_size
  have ho : T.all (·.oneCell') = true := by rw [← hT]; exact tabZ_one
  have HT : Hid (tabZ = T) := hT
  clear hT
  have HR : Hid (WinsAt w g len Z) := hr
  have HZ : Hid (∀ j, -9223372036854775808 ≤ Z j ∧ Z j ≤ 9223372036854775807) := hz
  have HP : Hid (Pow w) := hp
  clear hr hz hp
  have hmf : ∀ (fn : Fn) (first cap : Array Value) (w : World), (Instr.makeFunc fn first cap).run Tryd.prog w = .ok (.func fn first cap) w := fun _ _ _ _ => rfl
  refine (callsIn_wide (n := 6)).1 ?_
  refine callsIn_of_wp_marks Tryd.func10 rfl trivial ?_ rfl
  refine wpIn_wide.2 ?_
  simp only [Tryd.ntmps10, List.size_toArray, List.length_cons, List.length_nil, Nat.reduceAdd, Nat.reduceSub, Array.replicate_succ, Array.replicate_zero, List.push_toArray, List.append_toArray, List.nil_append, List.cons_append]
  go_wp2_with fail
  refine (tableOf_any major g len cap Z _ hl HZ.out (HR.out.alloc _)).mono ?_
  rintro e w1 ⟨⟨hf, cs, rfl, hc⟩ | ⟨hf, rfl⟩, hb1⟩
  · have hcs := hc.1
    have hco := hc.one
    have HC : Hid (IsTab major len Z cs) := hc
    have HF : Hid (frameB major len Z = true) := hf
    clear hf hc
    have z1 : w.heap.size < w1.heap.size := by have := hb1.size; simp only [World.size_alloc] at this; omega
    have HB1 : Hid (Below w.heap.size w w1) := ((Below.refl _ _).alloc (Nat.le_refl _) _).trans (hb1.mono (by simp))
    clear hb1
    obtain ⟨r1, r2, r3, r4⟩ := frameB_out HF.out
    have R4 : Hid (∀ i, i < len → winAt major Z i = true) := r4
    clear r4
    have hT0 : ((w1.alloc (.cells T 59)).setRow w1.heap.size cs).heap[w1.heap.size]? = some (.cells cs 59 (0, 0)) := setRow_heap _ _ T _ _ _ (heap_alloc_new _ _)
    have m0 : ((w1.alloc (.cells T 59)).setRow w1.heap.size cs).cell? ⟨w1.heap.size, 0, none⟩ = some (.int .i64 major) := by unfold World.cell?; rw [hT0]; exact HC.out.major
    have HT0 : Hid (((w1.alloc (.cells T 59)).setRow w1.heap.size cs).heap[w1.heap.size]? = some (.cells cs 59 (0, 0)) ∧ Below w.heap.size w ((w1.alloc (.cells T 59)).setRow w1.heap.size cs) ∧ Pow ((w1.alloc (.cells T 59)).setRow w1.heap.size cs)) := ⟨hT0, below_setRow (HB1.out.alloc (by omega) _) (by omega) _, HP.out.below (below_setRow (HB1.out.alloc (by omega) _) (by omega) _) (Nat.le_refl _)⟩
    clear hT0
    go_wp2_with (first | (refine wpList_allocTab rfl rfl w1.heap.size rfl T HT.out ?_) | (refine wpList_storeTab rfl (.tmp 3) (.tmp 10) rfl w1.heap.size cs (by rfl) (by rfl) T (by exact heap_alloc_new _ _) hs hcs hco ?_))
    generalize (w1.alloc (.cells T 59)).setRow w1.heap.size cs = WT at *
    generalize w1.heap.size = gt at *
    refine (decimal_any major (by omega) (by omega) WT HT0.out.2.2).mono ?_
    rintro e w2 ⟨rfl, hb2⟩
    have HT2 : Hid ((w2.alloc (.cells #[.string (decB major)] 9)).heap[gt]? = some (.cells cs 59 (0, 0)) ∧ Below w.heap.size w w2 ∧ Pow w2) := by
      have l1 := (Array.getElem?_eq_some_iff.1 HT0.out.1).1
      refine ⟨(heap_alloc_old _ _ (Nat.lt_of_lt_of_le l1 hb2.size)).trans ((hb2.block _ l1).trans HT0.out.1), HT0.out.2.1.trans (hb2.mono HT0.out.2.1.size), HT0.out.2.2.below hb2 (Nat.le_refl _)⟩
    clear hb2 m0
    go_wp2_with (refine wpList_load_row rfl 59 (.tmp 3) rfl gt (by rfl) 59 cs (0, 0) _ ?hg Tryd.underlying59 rfl (tabSize' cs hcs) ?_; (case hg => exact HT2.out.1))
    obtain ⟨W0, hW0⟩ : ∃ W0, (w2.alloc (.cells #[.string (decB major)] 9)) = W0 := ⟨_, rfl⟩
    have z0 : W0.heap.size = w2.heap.size + 1 := by rw [← hW0, World.size_alloc]
    have g5 : W0.heap[w2.heap.size]? = some (.cells #[.string (decB major)] 9 (0, 0)) := by rw [← hW0]; exact heap_alloc_new _ _
    have gB : Below w.heap.size w W0 := by rw [← hW0]; exact HT2.out.2.1.alloc HT2.out.2.1.size _
    have y2 : w.heap.size ≤ w2.heap.size := HT2.out.2.1.size
    rw [hW0]
    clear hW0
    generalize w2.heap.size = b5 at *
    refine wpIn_wide.1 (wp_rangeBound (gf := 35) (fa := #[.agg cs]) rfl (enters_of Tryd.func35 (by kernel_rfl) rfl) (encs := fun k => #[winV Z k]) (all_iter cs major len Z HC.out r3 W0.heap.size) (fun _ => rfl)
      (fun k X => X.heap[b5]? = some (.cells #[.string (textTo major Z k)] 9 (0, 0)) ∧ Below w.heap.size w X)
      (fun _ => False)
      (fun k X Y h hj => ⟨(h.block _ (by omega)).trans hj.1, hj.2.trans (h.mono (by omega))⟩)
      (fun X Y h hj => hj)
      ⟨g5, gB⟩
      (fun k a' X => ∃ Bx, X.heap[Bx]? = some (.cells #[.int .i64 (Z (k * 3)), .int .i64 (Z (k * 3 + 1)), .int .i64 (Z (k * 3 + 2))] 56 (0, 0)) ∧ a' = ⟨#[Value.agg #[Value.int IntKind.i64 major, Value.slice (some { block := g, off := 0 }) len cap],
          Value.pointer (some { block := w.heap.size, off := 0 }), Value.string { data := #[] },
          Value.pointer (some { block := gt, off := 0 }), Value.bool true,
          Value.pointer (some { block := b5, off := 0 }), Value.pointer (some { block := Bx, off := 0 }), Value.tuple #[Value.agg cs, Value.bool true],
          Value.agg #[Value.int IntKind.i64 major, Value.slice (some { block := g, off := 0 }) len cap],
          Value.tuple #[Value.agg cs, Value.bool true], Value.agg cs, Value.bool true, Value.bool true,
          Value.bool false, Value.pointer (some { block := gt, off := 0 }), Value.int IntKind.i64 major,
          Value.string (decB major), Value.agg cs, Value.func (Fn.func 35) #[Value.agg cs] #[], winV Z k, undef, undef, undef, undef, undef, undef, undef, undef, undef, undef, undef, undef, undef, undef, undef, undef, undef], []⟩)
      (fun k a' X l r o hl' ha => by
        obtain ⟨Bx, h1, h2⟩ := ha
        exact ⟨Bx, (World.putObj_heap_other (fun e => by subst e; rw [hl'] at h1; cases h1)).trans h1, h2⟩)
      ?assign ?body ?done ?stop)
    case assign =>
      intro l k W K hk hj hz hK
      simp only [winV_at]
      gi_wp2
      have al : ∀ {b : Nat} {o : Obj} (o' : Obj), W.heap[b]? = some o → (W.alloc o').heap[b]? = some o := fun o' h => (Below.heap_alloc _ _ _ (Array.getElem?_eq_some_iff.1 h).1).trans h
      refine hK _ _ (Kept.alloc _ _ _) ⟨al _ hj.1, hj.2.alloc hj.2.size _⟩ ⟨W.heap.size, heap_alloc_new _ _, rfl⟩
    case body =>
      rintro l k a' W hk ⟨j5, hbel⟩ ⟨Bx, hbx, rfl⟩ hz
      have c0 : W.cell? ⟨Bx, 0, none⟩ = some (.int .i64 (Z (k * 3))) := by simp [World.cell?, hbx]
      have c1 : W.cell? ⟨Bx, 1, none⟩ = some (.int .i64 (Z (k * 3 + 1))) := by simp [World.cell?, hbx]
      have c2 : W.cell? ⟨Bx, 2, none⟩ = some (.int .i64 (Z (k * 3 + 2))) := by simp [World.cell?, hbx]
      have d5 : W.cell? ⟨b5, 0, none⟩ = some (.string (textTo major Z k)) := by simp [World.cell?, j5]
      have f5 : W.frozen? ⟨b5, 0, none⟩ = false := frozen_of_row W _ _ _ _ j5
      have HJ : Hid (W.heap[b5]? = some (.cells #[.string (textTo major Z k)] 9 (0, 0)) ∧ Below w.heap.size w W) := ⟨j5, hbel⟩
      clear j5 hbel hbx
      have HX : Hid (textTo major Z (k + 1) = winText (textTo major Z k) (Z (k * 3)) (Z (k * 3 + 1)) (Z (k * 3 + 2))) := rfl
      have hts := textTo_size r1 r2 k (fun i hi => R4.out i (by omega))
      have hw := winB_out (R4.out k hk)
      have he := (endAt_nonneg k (fun i hi => R4.out i (by omega))).1
      have HWN : Hid (0 ≤ Z (k * 3) ∧ Z (k * 3) ≤ 1000 ∧ 1 ≤ Z (k * 3 + 1) ∧ Z (k * 3 + 1) ≤ 1000 ∧ 1 ≤ Z (k * 3 + 2) ∧ Z (k * 3 + 2) ≤ 6) := ⟨by omega, by omega, by omega, by omega, by omega, by omega⟩
      clear hw he
      simp only [winV_at]
      generalize Z (k * 3) = a at *
      generalize Z (k * 3 + 1) = l' at *
      generalize Z (k * 3 + 2) = p at *
      have s1 := decB_size (n := a) (by have := HWN.out; omega) (by have := HWN.out; omega)
      have s2 := decB_size (n := l') (by have := HWN.out; omega) (by have := HWN.out; omega)
      have s3 := decB_size (n := p) (by have := HWN.out; omega) (by have := HWN.out; omega)
      generalize textTo major Z k = t at *
      have q0 : ¬ 9223372036854775807 < 1 + (decB a).size := by omega
      have q1 : ¬ 9223372036854775807 < 1 + (decB a).size + 1 := by omega
      have q2 : ¬ 9223372036854775807 < 1 + (decB a).size + 1 + (decB l').size := by omega
      have q3 : ¬ 9223372036854775807 < 1 + (decB a).size + 1 + (decB l').size + 1 := by omega
      have q4 : ¬ 9223372036854775807 < 1 + (decB a).size + 1 + (decB l').size + 1 + (decB p).size := by omega
      have q5 : ¬ 9223372036854775807 < t.size + (1 + (decB a).size + 1 + (decB l').size + 1 + (decB p).size) := by omega
      clear s1 s2 s3 hts
      have HPk : Pow W := HP.out.below HJ.out.2 (Nat.le_refl _)
      gi_wp2_with fail
      have ne : b5 ≠ Bx := fun e => by rw [← e, d5] at c0; cases c0
      have HK : Hid (Kept W0.heap.size W W.drew ∧ W.drew.heap[b5]? = some (.cells #[.string t] 9 (0, 0)) ∧ Below w.heap.size w W.drew) := ⟨Kept.drew _ _, HJ.out.1, HJ.out.2.drew⟩
      have FIN : Hid (∀ (X : World) (a' : Act), Hid (Kept W0.heap.size W X ∧ X.heap[b5]? = some (.cells #[.string t] 9 (0, 0)) ∧ Below w.heap.size w X) → roundEnd W0.heap.size (fun k X => X.heap[b5]? = some (.cells #[.string (textTo major Z k)] 9 (0, 0)) ∧ Below w.heap.size w X) (fun _ => False) k W .normal a' (X.setCell ⟨b5, 0, none⟩ (.string (t ++ (({ data := #[32] } : ByteArray) ++ decB a ++ ({ data := #[58] } : ByteArray) ++ decB l' ++ ({ data := #[58] } : ByteArray) ++ decB p))))) := by
        intro X a' h
        refine ⟨h.out.1.trans (Kept.setCell _ (by show b5 < W0.heap.size; omega) _), ?_, h.out.2.2.setCell y2 _⟩
        rw [HX.out, winText_eq]
        exact heap_setCell_same _ _ _ _ _ _ h.out.2.1
      clear HJ
      refine regionIn (S := fun w' => w'.cell? ⟨Bx, 0, none⟩ = some (.int .i64 a) ∧ w'.cell? ⟨Bx, 1, none⟩ = some (.int .i64 l') ∧ w'.cell? ⟨Bx, 2, none⟩ = some (.int .i64 p)) (by kernel_rfl) (by kernel_rfl) (fun ⟨_, _, h⟩ => h) ⟨c0, c1, c2⟩ (fun hH => ?_)
      refine wpAnyH_take (i := 1) (v := .pointer (some ⟨Bx, 0, none⟩)) rfl (by kernel_rfl) (by kernel_rfl) (by kernel_rfl) (fun _ _ _ h => h) (Or.inl ⟨by rfl, fun X hX => ?_⟩) hH ?_
      · obtain ⟨x0, x1, x2⟩ := hX
        go_simp
      simp only [List.getElem_toArray, List.getElem_cons_zero, List.getElem_cons_succ, Act.put, List.setIfInBounds_toArray, List.set_cons_zero, List.set_cons_succ]
      refine wpAnyH_take (i := 2) (v := .int .i64 a) rfl (by kernel_rfl) (by kernel_rfl) (by kernel_rfl) (fun _ _ _ h => h) (Or.inl ⟨by rfl, fun X hX => ?_⟩) hH ?_
      · obtain ⟨x0, x1, x2⟩ := hX
        go_simp
      simp only [List.getElem_toArray, List.getElem_cons_zero, List.getElem_cons_succ, Act.put, List.setIfInBounds_toArray, List.set_cons_zero, List.set_cons_succ]
      refine wpAnyH_take (i := 6) (v := .pointer (some ⟨Bx, 1, none⟩)) rfl (by kernel_rfl) (by kernel_rfl) (by kernel_rfl) (fun _ _ _ h => h) (Or.inl ⟨by rfl, fun X hX => ?_⟩) hH ?_
      · obtain ⟨x0, x1, x2⟩ := hX
        go_simp
      simp only [List.getElem_toArray, List.getElem_cons_zero, List.getElem_cons_succ, Act.put, List.setIfInBounds_toArray, List.set_cons_zero, List.set_cons_succ]
      refine wpAnyH_take (i := 7) (v := .int .i64 l') rfl (by kernel_rfl) (by kernel_rfl) (by kernel_rfl) (fun _ _ _ h => h) (Or.inl ⟨by rfl, fun X hX => ?_⟩) hH ?_
      · obtain ⟨x0, x1, x2⟩ := hX
        go_simp
      simp only [List.getElem_toArray, List.getElem_cons_zero, List.getElem_cons_succ, Act.put, List.setIfInBounds_toArray, List.set_cons_zero, List.set_cons_succ]
      refine wpAnyH_take (i := 11) (v := .pointer (some ⟨Bx, 2, none⟩)) rfl (by kernel_rfl) (by kernel_rfl) (by kernel_rfl) (fun _ _ _ h => h) (Or.inl ⟨by rfl, fun X hX => ?_⟩) hH ?_
      · obtain ⟨x0, x1, x2⟩ := hX
        go_simp
      simp only [List.getElem_toArray, List.getElem_cons_zero, List.getElem_cons_succ, Act.put, List.setIfInBounds_toArray, List.set_cons_zero, List.set_cons_succ]
      refine wpAnyH_take (i := 12) (v := .int .i64 p) rfl (by kernel_rfl) (by kernel_rfl) (by kernel_rfl) (fun _ _ _ h => h) (Or.inl ⟨by rfl, fun X hX => ?_⟩) hH ?_
      · obtain ⟨x0, x1, x2⟩ := hX
        go_simp
      simp only [List.getElem_toArray, List.getElem_cons_zero, List.getElem_cons_succ, Act.put, List.setIfInBounds_toArray, List.set_cons_zero, List.set_cons_succ]
      refine wpAnyH_ready (rs := [0, 3]) (by kernel_rfl) (by simp) ?_
      refine AllReadyH.cons rfl (fun K hK => ?_) (AllReadyH.cons rfl (fun K hK => ?_) AllReadyH.nil)
      · simp only [List.getElem_toArray, List.getElem_cons_zero]
        rw [if_pos (by rfl)]
        have dz : W.drew.cell? ⟨b5, 0, none⟩ = some (.string t) := d5
        go_wp2_with fail
        refine hK.out _ _ hH (fun _ => ?_)
        clear hK K
        try simp only [List.getElem_toArray, List.getElem_cons_zero, List.getElem_cons_succ, Act.put, List.setIfInBounds_toArray, List.set_cons_zero, List.set_cons_succ]
        refine wpAnyH_ready (rs := [3]) (by kernel_rfl) (by simp) ?_
        refine AllReadyH.cons rfl (fun K hK => ?_) AllReadyH.nil
        simp only [List.getElem_toArray, List.getElem_cons_zero, List.getElem_cons_succ]
        rw [if_pos (by rfl)]
        go_wp2_with fail
        refine (decimal_any a (by have := HWN.out; omega) (by have := HWN.out; omega) _ (HP.out.below HK.out.2.2 (Nat.le_refl _))).mono ?_
        rintro e v2 ⟨rfl, hb2⟩
        have hD2 : v2.cell? ⟨b5, 0, none⟩ = some (.string t) := (hb2.cell (p := ⟨b5, 0, none⟩) (block_lt_of_cell d5)).trans d5
        have HK2 := kept3 HK hb2 rfl id
        refine hK.out _ _ ⟨(hb2.cell (p := ⟨Bx, 0, none⟩) (block_lt_of_cell hH.1)).trans hH.1, (hb2.cell (p := ⟨Bx, 1, none⟩) (block_lt_of_cell hH.2.1)).trans hH.2.1, (hb2.cell (p := ⟨Bx, 2, none⟩) (block_lt_of_cell hH.2.2)).trans hH.2.2⟩ (fun hH2 => ?_)
        clear hK K hb2
        try simp only [List.getElem_toArray, List.getElem_cons_zero, List.getElem_cons_succ, Act.put, List.setIfInBounds_toArray, List.set_cons_zero, List.set_cons_succ]
        refine wpAnyH_take (i := 4) (v := .string (({ data := #[32] } : ByteArray) ++ decB a)) rfl (by kernel_rfl) (by kernel_rfl) (by kernel_rfl) (fun _ _ _ h => h) (Or.inl ⟨by rfl, fun X hX => ?_⟩) hH2 ?_
        · obtain ⟨x0, x1, x2⟩ := hX
          go_simp
        simp only [List.getElem_toArray, List.getElem_cons_zero, List.getElem_cons_succ, Act.put, List.setIfInBounds_toArray, List.set_cons_zero, List.set_cons_succ]
        refine wpAnyH_take (i := 5) (v := .string (({ data := #[32] } : ByteArray) ++ decB a ++ ({ data := #[58] } : ByteArray))) rfl (by kernel_rfl) (by kernel_rfl) (by kernel_rfl) (fun _ _ _ h => h) (Or.inl ⟨by rfl, fun X hX => ?_⟩) hH2 ?_
        · obtain ⟨x0, x1, x2⟩ := hX
          go_simp
        simp only [List.getElem_toArray, List.getElem_cons_zero, List.getElem_cons_succ, Act.put, List.setIfInBounds_toArray, List.set_cons_zero, List.set_cons_succ]
        refine wpAnyH_ready (rs := [8]) (by kernel_rfl) (by simp) ?_
        refine AllReadyH.cons rfl (fun K hK => ?_) AllReadyH.nil
        simp only [List.getElem_toArray, List.getElem_cons_zero, List.getElem_cons_succ]
        rw [if_pos (by rfl)]
        go_wp2_with fail
        refine (decimal_any l' (by have := HWN.out; omega) (by have := HWN.out; omega) _ (HP.out.below HK2.out.2.2 (Nat.le_refl _))).mono ?_
        rintro e v3 ⟨rfl, hb3⟩
        have hD3 : v3.cell? ⟨b5, 0, none⟩ = some (.string t) := (hb3.cell (p := ⟨b5, 0, none⟩) (block_lt_of_cell hD2)).trans hD2
        have HK3 := kept3 HK2 hb3 rfl id
        refine hK.out _ _ ⟨(hb3.cell (p := ⟨Bx, 0, none⟩) (block_lt_of_cell hH2.1)).trans hH2.1, (hb3.cell (p := ⟨Bx, 1, none⟩) (block_lt_of_cell hH2.2.1)).trans hH2.2.1, (hb3.cell (p := ⟨Bx, 2, none⟩) (block_lt_of_cell hH2.2.2)).trans hH2.2.2⟩ (fun hH3 => ?_)
        clear hK K hb3
        try simp only [List.getElem_toArray, List.getElem_cons_zero, List.getElem_cons_succ, Act.put, List.setIfInBounds_toArray, List.set_cons_zero, List.set_cons_succ]
        refine wpAnyH_take (i := 9) (v := .string (({ data := #[32] } : ByteArray) ++ decB a ++ ({ data := #[58] } : ByteArray) ++ decB l')) rfl (by kernel_rfl) (by kernel_rfl) (by kernel_rfl) (fun _ _ _ h => h) (Or.inl ⟨by rfl, fun X hX => ?_⟩) hH3 ?_
        · obtain ⟨x0, x1, x2⟩ := hX
          go_simp
        simp only [List.getElem_toArray, List.getElem_cons_zero, List.getElem_cons_succ, Act.put, List.setIfInBounds_toArray, List.set_cons_zero, List.set_cons_succ]
        refine wpAnyH_take (i := 10) (v := .string (({ data := #[32] } : ByteArray) ++ decB a ++ ({ data := #[58] } : ByteArray) ++ decB l' ++ ({ data := #[58] } : ByteArray))) rfl (by kernel_rfl) (by kernel_rfl) (by kernel_rfl) (fun _ _ _ h => h) (Or.inl ⟨by rfl, fun X hX => ?_⟩) hH3 ?_
        · obtain ⟨x0, x1, x2⟩ := hX
          go_simp
        simp only [List.getElem_toArray, List.getElem_cons_zero, List.getElem_cons_succ, Act.put, List.setIfInBounds_toArray, List.set_cons_zero, List.set_cons_succ]
        refine wpAnyH_ready (rs := [13]) (by kernel_rfl) (by simp) ?_
        refine AllReadyH.cons rfl (fun K hK => ?_) AllReadyH.nil
        simp only [List.getElem_toArray, List.getElem_cons_zero, List.getElem_cons_succ]
        rw [if_pos (by rfl)]
        go_wp2_with fail
        refine (decimal_any p (by have := HWN.out; omega) (by have := HWN.out; omega) _ (HP.out.below HK3.out.2.2 (Nat.le_refl _))).mono ?_
        rintro e v4 ⟨rfl, hb4⟩
        have hD4 : v4.cell? ⟨b5, 0, none⟩ = some (.string t) := (hb4.cell (p := ⟨b5, 0, none⟩) (block_lt_of_cell hD3)).trans hD3
        have HK4 := kept3 HK3 hb4 rfl id
        refine hK.out _ _ ⟨(hb4.cell (p := ⟨Bx, 0, none⟩) (block_lt_of_cell hH3.1)).trans hH3.1, (hb4.cell (p := ⟨Bx, 1, none⟩) (block_lt_of_cell hH3.2.1)).trans hH3.2.1, (hb4.cell (p := ⟨Bx, 2, none⟩) (block_lt_of_cell hH3.2.2)).trans hH3.2.2⟩ (fun hH4 => ?_)
        clear hK K hb4
        try simp only [List.getElem_toArray, List.getElem_cons_zero, List.getElem_cons_succ, Act.put, List.setIfInBounds_toArray, List.set_cons_zero, List.set_cons_succ]
        refine wpAnyH_take (i := 14) (v := .string (({ data := #[32] } : ByteArray) ++ decB a ++ ({ data := #[58] } : ByteArray) ++ decB l' ++ ({ data := #[58] } : ByteArray) ++ decB p)) rfl (by kernel_rfl) (by kernel_rfl) (by kernel_rfl) (fun _ _ _ h => h) (Or.inl ⟨by rfl, fun X hX => ?_⟩) hH4 ?_
        · obtain ⟨x0, x1, x2⟩ := hX
          go_simp
        simp only [List.getElem_toArray, List.getElem_cons_zero, List.getElem_cons_succ, Act.put, List.setIfInBounds_toArray, List.set_cons_zero, List.set_cons_succ]
        refine wpAnyH_take (i := 15) (v := .string (t ++ (({ data := #[32] } : ByteArray) ++ decB a ++ ({ data := #[58] } : ByteArray) ++ decB l' ++ ({ data := #[58] } : ByteArray) ++ decB p))) rfl (by kernel_rfl) (by kernel_rfl) (by kernel_rfl) (fun _ _ _ h => h) (Or.inl ⟨by rfl, fun X hX => ?_⟩) hH4 ?_
        · obtain ⟨x0, x1, x2⟩ := hX
          go_simp
        simp only [List.getElem_toArray, List.getElem_cons_zero, List.getElem_cons_succ, Act.put, List.setIfInBounds_toArray, List.set_cons_zero, List.set_cons_succ]
        refine wpAnyH_ready (rs := [16]) (by kernel_rfl) (by simp) ?_
        refine AllReadyH.cons rfl (fun K hK => ?_) AllReadyH.nil
        simp only [List.getElem_toArray, List.getElem_cons_zero, List.getElem_cons_succ]
        rw [if_pos (by rfl)]
        have fz : v4.frozen? ⟨b5, 0, none⟩ = false := frozen_of_row v4 _ _ _ _ HK4.out.2.1
        have dz : v4.cell? ⟨b5, 0, none⟩ = some (.string t) := hD4
        go_wp2_with fail
        refine hK.out _ _ ⟨(World.cell?_setCell_far _ _ _ _ ne).trans hH4.1, (World.cell?_setCell_far _ _ _ _ ne).trans hH4.2.1, (World.cell?_setCell_far _ _ _ _ ne).trans hH4.2.2⟩ (fun _ => ?_)
        clear hK K
        refine wpAnyH_done (by kernel_rfl) ?_ _
        exact FIN.out _ ⟨#[], []⟩ HK4
      · simp only [List.getElem_toArray, List.getElem_cons_zero, List.getElem_cons_succ]
        rw [if_pos (by rfl)]
        go_wp2_with fail
        refine (decimal_any a (by have := HWN.out; omega) (by have := HWN.out; omega) _ (HP.out.below HK.out.2.2 (Nat.le_refl _))).mono ?_
        rintro e v5 ⟨rfl, hb5⟩
        have hD5 : v5.cell? ⟨b5, 0, none⟩ = some (.string t) := (hb5.cell (p := ⟨b5, 0, none⟩) (block_lt_of_cell d5)).trans d5
        have HK5 := kept3 HK hb5 rfl id
        refine hK.out _ _ ⟨(hb5.cell (p := ⟨Bx, 0, none⟩) (block_lt_of_cell hH.1)).trans hH.1, (hb5.cell (p := ⟨Bx, 1, none⟩) (block_lt_of_cell hH.2.1)).trans hH.2.1, (hb5.cell (p := ⟨Bx, 2, none⟩) (block_lt_of_cell hH.2.2)).trans hH.2.2⟩ (fun hH5 => ?_)
        clear hK K hb5
        try simp only [List.getElem_toArray, List.getElem_cons_zero, List.getElem_cons_succ, Act.put, List.setIfInBounds_toArray, List.set_cons_zero, List.set_cons_succ]
        refine wpAnyH_take (i := 4) (v := .string (({ data := #[32] } : ByteArray) ++ decB a)) rfl (by kernel_rfl) (by kernel_rfl) (by kernel_rfl) (fun _ _ _ h => h) (Or.inl ⟨by rfl, fun X hX => ?_⟩) hH5 ?_
        · obtain ⟨x0, x1, x2⟩ := hX
          go_simp
        simp only [List.getElem_toArray, List.getElem_cons_zero, List.getElem_cons_succ, Act.put, List.setIfInBounds_toArray, List.set_cons_zero, List.set_cons_succ]
        refine wpAnyH_take (i := 5) (v := .string (({ data := #[32] } : ByteArray) ++ decB a ++ ({ data := #[58] } : ByteArray))) rfl (by kernel_rfl) (by kernel_rfl) (by kernel_rfl) (fun _ _ _ h => h) (Or.inl ⟨by rfl, fun X hX => ?_⟩) hH5 ?_
        · obtain ⟨x0, x1, x2⟩ := hX
          go_simp
        simp only [List.getElem_toArray, List.getElem_cons_zero, List.getElem_cons_succ, Act.put, List.setIfInBounds_toArray, List.set_cons_zero, List.set_cons_succ]
        refine wpAnyH_ready (rs := [0, 8]) (by kernel_rfl) (by simp) ?_
        refine AllReadyH.cons rfl (fun K hK => ?_) (AllReadyH.cons rfl (fun K hK => ?_) AllReadyH.nil)
        · simp only [List.getElem_toArray, List.getElem_cons_zero]
          rw [if_pos (by rfl)]
          have dz : v5.cell? ⟨b5, 0, none⟩ = some (.string t) := hD5
          go_wp2_with fail
          refine hK.out _ _ hH5 (fun _ => ?_)
          clear hK K
          try simp only [List.getElem_toArray, List.getElem_cons_zero, List.getElem_cons_succ, Act.put, List.setIfInBounds_toArray, List.set_cons_zero, List.set_cons_succ]
          refine wpAnyH_ready (rs := [8]) (by kernel_rfl) (by simp) ?_
          refine AllReadyH.cons rfl (fun K hK => ?_) AllReadyH.nil
          simp only [List.getElem_toArray, List.getElem_cons_zero, List.getElem_cons_succ]
          rw [if_pos (by rfl)]
          go_wp2_with fail
          refine (decimal_any l' (by have := HWN.out; omega) (by have := HWN.out; omega) _ (HP.out.below HK5.out.2.2 (Nat.le_refl _))).mono ?_
          rintro e v7 ⟨rfl, hb7⟩
          have hD7 : v7.cell? ⟨b5, 0, none⟩ = some (.string t) := (hb7.cell (p := ⟨b5, 0, none⟩) (block_lt_of_cell hD5)).trans hD5
          have HK7 := kept3 HK5 hb7 rfl id
          refine hK.out _ _ ⟨(hb7.cell (p := ⟨Bx, 0, none⟩) (block_lt_of_cell hH5.1)).trans hH5.1, (hb7.cell (p := ⟨Bx, 1, none⟩) (block_lt_of_cell hH5.2.1)).trans hH5.2.1, (hb7.cell (p := ⟨Bx, 2, none⟩) (block_lt_of_cell hH5.2.2)).trans hH5.2.2⟩ (fun hH7 => ?_)
          clear hK K hb7
          try simp only [List.getElem_toArray, List.getElem_cons_zero, List.getElem_cons_succ, Act.put, List.setIfInBounds_toArray, List.set_cons_zero, List.set_cons_succ]
          refine wpAnyH_take (i := 9) (v := .string (({ data := #[32] } : ByteArray) ++ decB a ++ ({ data := #[58] } : ByteArray) ++ decB l')) rfl (by kernel_rfl) (by kernel_rfl) (by kernel_rfl) (fun _ _ _ h => h) (Or.inl ⟨by rfl, fun X hX => ?_⟩) hH7 ?_
          · obtain ⟨x0, x1, x2⟩ := hX
            go_simp
          simp only [List.getElem_toArray, List.getElem_cons_zero, List.getElem_cons_succ, Act.put, List.setIfInBounds_toArray, List.set_cons_zero, List.set_cons_succ]
          refine wpAnyH_take (i := 10) (v := .string (({ data := #[32] } : ByteArray) ++ decB a ++ ({ data := #[58] } : ByteArray) ++ decB l' ++ ({ data := #[58] } : ByteArray))) rfl (by kernel_rfl) (by kernel_rfl) (by kernel_rfl) (fun _ _ _ h => h) (Or.inl ⟨by rfl, fun X hX => ?_⟩) hH7 ?_
          · obtain ⟨x0, x1, x2⟩ := hX
            go_simp
          simp only [List.getElem_toArray, List.getElem_cons_zero, List.getElem_cons_succ, Act.put, List.setIfInBounds_toArray, List.set_cons_zero, List.set_cons_succ]
          refine wpAnyH_ready (rs := [13]) (by kernel_rfl) (by simp) ?_
          refine AllReadyH.cons rfl (fun K hK => ?_) AllReadyH.nil
          simp only [List.getElem_toArray, List.getElem_cons_zero, List.getElem_cons_succ]
          rw [if_pos (by rfl)]
          go_wp2_with fail
          refine (decimal_any p (by have := HWN.out; omega) (by have := HWN.out; omega) _ (HP.out.below HK7.out.2.2 (Nat.le_refl _))).mono ?_
          rintro e v8 ⟨rfl, hb8⟩
          have hD8 : v8.cell? ⟨b5, 0, none⟩ = some (.string t) := (hb8.cell (p := ⟨b5, 0, none⟩) (block_lt_of_cell hD7)).trans hD7
          have HK8 := kept3 HK7 hb8 rfl id
          refine hK.out _ _ ⟨(hb8.cell (p := ⟨Bx, 0, none⟩) (block_lt_of_cell hH7.1)).trans hH7.1, (hb8.cell (p := ⟨Bx, 1, none⟩) (block_lt_of_cell hH7.2.1)).trans hH7.2.1, (hb8.cell (p := ⟨Bx, 2, none⟩) (block_lt_of_cell hH7.2.2)).trans hH7.2.2⟩ (fun hH8 => ?_)
          clear hK K hb8
          try simp only [List.getElem_toArray, List.getElem_cons_zero, List.getElem_cons_succ, Act.put, List.setIfInBounds_toArray, List.set_cons_zero, List.set_cons_succ]
          refine wpAnyH_take (i := 14) (v := .string (({ data := #[32] } : ByteArray) ++ decB a ++ ({ data := #[58] } : ByteArray) ++ decB l' ++ ({ data := #[58] } : ByteArray) ++ decB p)) rfl (by kernel_rfl) (by kernel_rfl) (by kernel_rfl) (fun _ _ _ h => h) (Or.inl ⟨by rfl, fun X hX => ?_⟩) hH8 ?_
          · obtain ⟨x0, x1, x2⟩ := hX
            go_simp
          simp only [List.getElem_toArray, List.getElem_cons_zero, List.getElem_cons_succ, Act.put, List.setIfInBounds_toArray, List.set_cons_zero, List.set_cons_succ]
          refine wpAnyH_take (i := 15) (v := .string (t ++ (({ data := #[32] } : ByteArray) ++ decB a ++ ({ data := #[58] } : ByteArray) ++ decB l' ++ ({ data := #[58] } : ByteArray) ++ decB p))) rfl (by kernel_rfl) (by kernel_rfl) (by kernel_rfl) (fun _ _ _ h => h) (Or.inl ⟨by rfl, fun X hX => ?_⟩) hH8 ?_
          · obtain ⟨x0, x1, x2⟩ := hX
            go_simp
          simp only [List.getElem_toArray, List.getElem_cons_zero, List.getElem_cons_succ, Act.put, List.setIfInBounds_toArray, List.set_cons_zero, List.set_cons_succ]
          refine wpAnyH_ready (rs := [16]) (by kernel_rfl) (by simp) ?_
          refine AllReadyH.cons rfl (fun K hK => ?_) AllReadyH.nil
          simp only [List.getElem_toArray, List.getElem_cons_zero, List.getElem_cons_succ]
          rw [if_pos (by rfl)]
          have fz : v8.frozen? ⟨b5, 0, none⟩ = false := frozen_of_row v8 _ _ _ _ HK8.out.2.1
          have dz : v8.cell? ⟨b5, 0, none⟩ = some (.string t) := hD8
          go_wp2_with fail
          refine hK.out _ _ ⟨(World.cell?_setCell_far _ _ _ _ ne).trans hH8.1, (World.cell?_setCell_far _ _ _ _ ne).trans hH8.2.1, (World.cell?_setCell_far _ _ _ _ ne).trans hH8.2.2⟩ (fun _ => ?_)
          clear hK K
          refine wpAnyH_done (by kernel_rfl) ?_ _
          exact FIN.out _ ⟨#[], []⟩ HK8
        · simp only [List.getElem_toArray, List.getElem_cons_zero, List.getElem_cons_succ]
          rw [if_pos (by rfl)]
          go_wp2_with fail
          refine (decimal_any l' (by have := HWN.out; omega) (by have := HWN.out; omega) _ (HP.out.below HK5.out.2.2 (Nat.le_refl _))).mono ?_
          rintro e v9 ⟨rfl, hb9⟩
          have hD9 : v9.cell? ⟨b5, 0, none⟩ = some (.string t) := (hb9.cell (p := ⟨b5, 0, none⟩) (block_lt_of_cell hD5)).trans hD5
          have HK9 := kept3 HK5 hb9 rfl id
          refine hK.out _ _ ⟨(hb9.cell (p := ⟨Bx, 0, none⟩) (block_lt_of_cell hH5.1)).trans hH5.1, (hb9.cell (p := ⟨Bx, 1, none⟩) (block_lt_of_cell hH5.2.1)).trans hH5.2.1, (hb9.cell (p := ⟨Bx, 2, none⟩) (block_lt_of_cell hH5.2.2)).trans hH5.2.2⟩ (fun hH9 => ?_)
          clear hK K hb9
          try simp only [List.getElem_toArray, List.getElem_cons_zero, List.getElem_cons_succ, Act.put, List.setIfInBounds_toArray, List.set_cons_zero, List.set_cons_succ]
          refine wpAnyH_take (i := 9) (v := .string (({ data := #[32] } : ByteArray) ++ decB a ++ ({ data := #[58] } : ByteArray) ++ decB l')) rfl (by kernel_rfl) (by kernel_rfl) (by kernel_rfl) (fun _ _ _ h => h) (Or.inl ⟨by rfl, fun X hX => ?_⟩) hH9 ?_
          · obtain ⟨x0, x1, x2⟩ := hX
            go_simp
          simp only [List.getElem_toArray, List.getElem_cons_zero, List.getElem_cons_succ, Act.put, List.setIfInBounds_toArray, List.set_cons_zero, List.set_cons_succ]
          refine wpAnyH_take (i := 10) (v := .string (({ data := #[32] } : ByteArray) ++ decB a ++ ({ data := #[58] } : ByteArray) ++ decB l' ++ ({ data := #[58] } : ByteArray))) rfl (by kernel_rfl) (by kernel_rfl) (by kernel_rfl) (fun _ _ _ h => h) (Or.inl ⟨by rfl, fun X hX => ?_⟩) hH9 ?_
          · obtain ⟨x0, x1, x2⟩ := hX
            go_simp
          simp only [List.getElem_toArray, List.getElem_cons_zero, List.getElem_cons_succ, Act.put, List.setIfInBounds_toArray, List.set_cons_zero, List.set_cons_succ]
          refine wpAnyH_ready (rs := [0, 13]) (by kernel_rfl) (by simp) ?_
          refine AllReadyH.cons rfl (fun K hK => ?_) (AllReadyH.cons rfl (fun K hK => ?_) AllReadyH.nil)
          · simp only [List.getElem_toArray, List.getElem_cons_zero]
            rw [if_pos (by rfl)]
            have dz : v9.cell? ⟨b5, 0, none⟩ = some (.string t) := hD9
            go_wp2_with fail
            refine hK.out _ _ hH9 (fun _ => ?_)
            clear hK K
            try simp only [List.getElem_toArray, List.getElem_cons_zero, List.getElem_cons_succ, Act.put, List.setIfInBounds_toArray, List.set_cons_zero, List.set_cons_succ]
            refine wpAnyH_ready (rs := [13]) (by kernel_rfl) (by simp) ?_
            refine AllReadyH.cons rfl (fun K hK => ?_) AllReadyH.nil
            simp only [List.getElem_toArray, List.getElem_cons_zero, List.getElem_cons_succ]
            rw [if_pos (by rfl)]
            go_wp2_with fail
            refine (decimal_any p (by have := HWN.out; omega) (by have := HWN.out; omega) _ (HP.out.below HK9.out.2.2 (Nat.le_refl _))).mono ?_
            rintro e v11 ⟨rfl, hb11⟩
            have hD11 : v11.cell? ⟨b5, 0, none⟩ = some (.string t) := (hb11.cell (p := ⟨b5, 0, none⟩) (block_lt_of_cell hD9)).trans hD9
            have HK11 := kept3 HK9 hb11 rfl id
            refine hK.out _ _ ⟨(hb11.cell (p := ⟨Bx, 0, none⟩) (block_lt_of_cell hH9.1)).trans hH9.1, (hb11.cell (p := ⟨Bx, 1, none⟩) (block_lt_of_cell hH9.2.1)).trans hH9.2.1, (hb11.cell (p := ⟨Bx, 2, none⟩) (block_lt_of_cell hH9.2.2)).trans hH9.2.2⟩ (fun hH11 => ?_)
            clear hK K hb11
            try simp only [List.getElem_toArray, List.getElem_cons_zero, List.getElem_cons_succ, Act.put, List.setIfInBounds_toArray, List.set_cons_zero, List.set_cons_succ]
            refine wpAnyH_take (i := 14) (v := .string (({ data := #[32] } : ByteArray) ++ decB a ++ ({ data := #[58] } : ByteArray) ++ decB l' ++ ({ data := #[58] } : ByteArray) ++ decB p)) rfl (by kernel_rfl) (by kernel_rfl) (by kernel_rfl) (fun _ _ _ h => h) (Or.inl ⟨by rfl, fun X hX => ?_⟩) hH11 ?_
            · obtain ⟨x0, x1, x2⟩ := hX
              go_simp
            simp only [List.getElem_toArray, List.getElem_cons_zero, List.getElem_cons_succ, Act.put, List.setIfInBounds_toArray, List.set_cons_zero, List.set_cons_succ]
            refine wpAnyH_take (i := 15) (v := .string (t ++ (({ data := #[32] } : ByteArray) ++ decB a ++ ({ data := #[58] } : ByteArray) ++ decB l' ++ ({ data := #[58] } : ByteArray) ++ decB p))) rfl (by kernel_rfl) (by kernel_rfl) (by kernel_rfl) (fun _ _ _ h => h) (Or.inl ⟨by rfl, fun X hX => ?_⟩) hH11 ?_
            · obtain ⟨x0, x1, x2⟩ := hX
              go_simp
            simp only [List.getElem_toArray, List.getElem_cons_zero, List.getElem_cons_succ, Act.put, List.setIfInBounds_toArray, List.set_cons_zero, List.set_cons_succ]
            refine wpAnyH_ready (rs := [16]) (by kernel_rfl) (by simp) ?_
            refine AllReadyH.cons rfl (fun K hK => ?_) AllReadyH.nil
            simp only [List.getElem_toArray, List.getElem_cons_zero, List.getElem_cons_succ]
            rw [if_pos (by rfl)]
            have fz : v11.frozen? ⟨b5, 0, none⟩ = false := frozen_of_row v11 _ _ _ _ HK11.out.2.1
            have dz : v11.cell? ⟨b5, 0, none⟩ = some (.string t) := hD11
            go_wp2_with fail
            refine hK.out _ _ ⟨(World.cell?_setCell_far _ _ _ _ ne).trans hH11.1, (World.cell?_setCell_far _ _ _ _ ne).trans hH11.2.1, (World.cell?_setCell_far _ _ _ _ ne).trans hH11.2.2⟩ (fun _ => ?_)
            clear hK K
            refine wpAnyH_done (by kernel_rfl) ?_ _
            exact FIN.out _ ⟨#[], []⟩ HK11
          · simp only [List.getElem_toArray, List.getElem_cons_zero, List.getElem_cons_succ]
            rw [if_pos (by rfl)]
            go_wp2_with fail
            refine (decimal_any p (by have := HWN.out; omega) (by have := HWN.out; omega) _ (HP.out.below HK9.out.2.2 (Nat.le_refl _))).mono ?_
            rintro e v12 ⟨rfl, hb12⟩
            have hD12 : v12.cell? ⟨b5, 0, none⟩ = some (.string t) := (hb12.cell (p := ⟨b5, 0, none⟩) (block_lt_of_cell hD9)).trans hD9
            have HK12 := kept3 HK9 hb12 rfl id
            refine hK.out _ _ ⟨(hb12.cell (p := ⟨Bx, 0, none⟩) (block_lt_of_cell hH9.1)).trans hH9.1, (hb12.cell (p := ⟨Bx, 1, none⟩) (block_lt_of_cell hH9.2.1)).trans hH9.2.1, (hb12.cell (p := ⟨Bx, 2, none⟩) (block_lt_of_cell hH9.2.2)).trans hH9.2.2⟩ (fun hH12 => ?_)
            clear hK K hb12
            try simp only [List.getElem_toArray, List.getElem_cons_zero, List.getElem_cons_succ, Act.put, List.setIfInBounds_toArray, List.set_cons_zero, List.set_cons_succ]
            refine wpAnyH_take (i := 14) (v := .string (({ data := #[32] } : ByteArray) ++ decB a ++ ({ data := #[58] } : ByteArray) ++ decB l' ++ ({ data := #[58] } : ByteArray) ++ decB p)) rfl (by kernel_rfl) (by kernel_rfl) (by kernel_rfl) (fun _ _ _ h => h) (Or.inl ⟨by rfl, fun X hX => ?_⟩) hH12 ?_
            · obtain ⟨x0, x1, x2⟩ := hX
              go_simp
            simp only [List.getElem_toArray, List.getElem_cons_zero, List.getElem_cons_succ, Act.put, List.setIfInBounds_toArray, List.set_cons_zero, List.set_cons_succ]
            refine wpAnyH_ready (rs := [0]) (by kernel_rfl) (by simp) ?_
            refine AllReadyH.cons rfl (fun K hK => ?_) AllReadyH.nil
            simp only [List.getElem_toArray, List.getElem_cons_zero]
            rw [if_pos (by rfl)]
            have dz : v12.cell? ⟨b5, 0, none⟩ = some (.string t) := hD12
            go_wp2_with fail
            refine hK.out _ _ hH12 (fun _ => ?_)
            clear hK K
            try simp only [List.getElem_toArray, List.getElem_cons_zero, List.getElem_cons_succ, Act.put, List.setIfInBounds_toArray, List.set_cons_zero, List.set_cons_succ]
            refine wpAnyH_take (i := 15) (v := .string (t ++ (({ data := #[32] } : ByteArray) ++ decB a ++ ({ data := #[58] } : ByteArray) ++ decB l' ++ ({ data := #[58] } : ByteArray) ++ decB p))) rfl (by kernel_rfl) (by kernel_rfl) (by kernel_rfl) (fun _ _ _ h => h) (Or.inl ⟨by rfl, fun X hX => ?_⟩) hH12 ?_
            · obtain ⟨x0, x1, x2⟩ := hX
              go_simp
            simp only [List.getElem_toArray, List.getElem_cons_zero, List.getElem_cons_succ, Act.put, List.setIfInBounds_toArray, List.set_cons_zero, List.set_cons_succ]
            refine wpAnyH_ready (rs := [16]) (by kernel_rfl) (by simp) ?_
            refine AllReadyH.cons rfl (fun K hK => ?_) AllReadyH.nil
            simp only [List.getElem_toArray, List.getElem_cons_zero, List.getElem_cons_succ]
            rw [if_pos (by rfl)]
            have fz : v12.frozen? ⟨b5, 0, none⟩ = false := frozen_of_row v12 _ _ _ _ HK12.out.2.1
            have dz : v12.cell? ⟨b5, 0, none⟩ = some (.string t) := hD12
            go_wp2_with fail
            refine hK.out _ _ ⟨(World.cell?_setCell_far _ _ _ _ ne).trans hH12.1, (World.cell?_setCell_far _ _ _ _ ne).trans hH12.2.1, (World.cell?_setCell_far _ _ _ _ ne).trans hH12.2.2⟩ (fun _ => ?_)
            clear hK K
            refine wpAnyH_done (by kernel_rfl) ?_ _
            exact FIN.out _ ⟨#[], []⟩ HK12
    case done =>
      rintro W ⟨j5, hbel⟩ hD
      have d5 : W.cell? ⟨b5, 0, none⟩ = some (.string (textTo major Z len)) := by simp [World.cell?, j5]
      gi_wp2
      go_wp2
      refine ⟨by simp, .inl ⟨_, _, rfl, run_takeDeferred hD, ?_⟩⟩
      exact ⟨_, results_tmp rfl _ _ _, (by rw [textB, if_pos HF.out]; rfl), hbel.trans (below_putObj (by omega) _)⟩
    case stop =>
      rintro W h
      exact h.elim
  · have HF : Hid (frameB major len Z = false) := hf
    clear hf
    have z1 : w.heap.size < w1.heap.size := by have := hb1.size; simp only [World.size_alloc] at this; omega
    have HB1 : Hid (Below w.heap.size w w1) := ((Below.refl _ _).alloc (Nat.le_refl _) _).trans (hb1.mono (by simp))
    clear hb1
    rw [HT.out]
    go_wp2_with (first | (refine wpList_allocTab rfl rfl w1.heap.size rfl T HT.out ?_) | (refine wpList_storeTab rfl (.tmp 3) (.tmp 10) rfl w1.heap.size T (by rfl) (by rfl) T (by exact heap_alloc_new _ _) hs hs ho ?_))
    exact ⟨_, results_tmp rfl _ _ _, (by rw [textB, HF.out]; rfl), below_setRow (HB1.out.alloc (by omega) _) (by omega) _⟩

end Go.Proofs.YtlaeilcipibelaaDoor
