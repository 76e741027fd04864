/- The specification's reader of frames. -/
import Derived.Test.YtlaeilcipibelaaDoorRdBase
namespace Go.Proofs.YtlaeilcipibelaaDoor
open Go.RowKit

set_option maxHeartbeats 40000000 in
theorem specReadFrame_any (s : ByteArray) (w : World) (hs : s.size ≤ 1048576) :
    Calls Tryd.prog 16 #[.string s] w fun e w' => RdEnds s w e w' ∧ Below w.heap.size w w' := by
  obtain ⟨i0, hi, hz0, hz1, hz2⟩ := info_parts winInfo
  have HI : Hid (Tryd.prog.info? 56 = some i0 ∧ i0.zero = some (.agg #[.int .i64 0, .int .i64 0, .int .i64 0]) ∧ i0.size = 3 ∧ i0.bytes = 24) := ⟨hi, hz0, hz1, hz2⟩
  clear hi hz0 hz1 hz2
  have HR0 : Hid ((w.alloc (.cells #[.int .i64 0, .slice none 0 0] 26)).heap[w.heap.size]? = some (.cells #[.int .i64 0, .slice none 0 0] 26 (0, 0)) ∧ Below w.heap.size w (w.alloc (.cells #[.int .i64 0, .slice none 0 0] 26))) := ⟨heap_alloc_new _ _, (Below.refl _ _).alloc (Nat.le_refl _) _⟩
  go_enter Tryd.func16, Tryd.ntmps16
  go_wp2_with fail
  generalize w.alloc (.cells #[.int .i64 0, .slice none 0 0] 26) = W0 at *
  refine (l1Cut_any s 32 W0 hs).mono ?_
  rintro e w1 ⟨⟨one, rest, more, rfl, hc⟩, hb1⟩
  have hz := cut_sizes hc
  have HC : Hid (CutIs s 32 one rest more) := hc
  have HR1 : Hid (w1.heap[w.heap.size]? = some (.cells #[.int .i64 0, .slice none 0 0] 26 (0, 0)) ∧ Below w.heap.size w w1) := ⟨(hb1.block _ (Array.getElem?_eq_some_iff.1 HR0.out.1).1).trans HR0.out.1, HR0.out.2.trans (hb1.mono HR0.out.2.size)⟩
  clear hc hb1 HR0
  go_wp2_with fail
  refine (l1Int_any one w1 (by omega)).mono ?_
  rintro e w2 ⟨he, rfl⟩
  rcases he with ⟨n, rfl, hd⟩ | ⟨rfl, hd⟩
  · have HD : Hid (DecIs one n) := hd
    clear hd
    have HA : Hid (RdAt s w (w2.alloc (.cells #[.int .i64 n, .slice none 0 0] 26)) w2.heap.size n rest more (.slice none 0 0) []) := by
      have l1 := (Array.getElem?_eq_some_iff.1 HR1.out.1).1
      refine ⟨⟨(heap_alloc_old _ _ l1).trans HR1.out.1, heap_alloc_new _ _, ⟨rfl, .inl ⟨rfl, rfl⟩⟩, HR1.out.2.alloc HR1.out.2.size _, l1⟩, ?_, HD.out.2, (fun q hq => by simp at hq), by omega⟩
      rw [HC.out.pcs, ← HD.out.1]
      cases more <;> simp
    go_wp2_with fail
    generalize w2.alloc (.cells #[.int .i64 n, .slice none 0 0] 26) = W2 at *
    generalize w2.heap.size = gf at *
    go_loopw [5, 6] (fun t m wr => ∃ (t' : ByteArray) (more : Bool) (v : Value) (ws : List Win), t = .string t' ∧ m = .bool more ∧ ws.length ≤ 21 ∧ Hid (RdAt s w wr gf n t' more v ws)) (fun t m _ => match t, m with | .string t', .bool true => t'.size + 1 | _, _ => 0)
    case atStart => exact ⟨rest, more, .slice none 0 0, [], rfl, rfl, by simp, HA⟩
    case round =>
      clear hz HC HR1 HD HA
      obtain ⟨t, more, v, ws, rfl, rfl, hwl, HRD⟩ := hrel
      have g0 := HRD.out.made.cell0
      have g1 := HRD.out.made.cell
      obtain ⟨va, vc, rfl⟩ : ∃ va vc, v = .slice va ws.length vc := by
        rcases own_form HRD.out.made.own rfl with ⟨h1, h2⟩ | ⟨g, c, h1, _, _⟩
        · exact ⟨none, 0, by rw [h1, h2]⟩
        · exact ⟨_, c, h1⟩
      cases more with
      | false =>
        have HIS : Hid (FrameIs s.data.toList n ws) := HRD.out.is
        go_wp2_with fail
        refine (specText_own HRD.out.made.own HRD.out.bd (by omega)).mono ?_
        rintro e w5 ⟨rfl, hb5⟩
        have H5 : Hid (RdAt s w w5 gf n t false (.slice va ws.length vc) ws) := HRD.out.below hb5
        clear hb5 g0 g1 HRD
        have f0 := H5.out.made.res
        have r0 : w5.cell? ⟨w.heap.size, 0, none⟩ = some (.int .i64 0) := by simp [World.cell?, f0]
        have r1 : w5.cell? ⟨w.heap.size, 1, none⟩ = some (.slice none 0 0) := by simp [World.cell?, f0]
        have z0 : w5.frozen? ⟨w.heap.size, 0, none⟩ = false := frozen_of_row _ _ _ _ _ f0
        have z1 : w5.frozen? ⟨w.heap.size, 1, none⟩ = false := frozen_of_row _ _ _ _ _ f0
        clear f0
        cases hf : frameB n ws.length (zOf ws) with
        | true =>
          have HF : Hid (frameB n ws.length (zOf ws) = true) := hf
          have htx : textB n ws.length (zOf ws) = s := by rw [textB, if_pos hf]; exact frame_text HIS.out
          rw [htx]
          have hne : (s.toList == s.toList) = true := by simp
          have g0 := H5.out.made.cell0
          have g1 := H5.out.made.cell
          clear hf htx
          go_wp2
          refine bodyPost_ret (frameResults Tryd.results16 (by rfl) (set2_heap H5.out.made.res _ _)) rfl ?_
          have hlt := H5.out.made.lt
          exact ⟨.inl ⟨n, _, ws, rfl, HIS.out, HF.out, own_base (own_set2 (w := w) H5.out.made.own (by omega) _ _) (by omega)⟩, set2_below H5.out.made.bel (Nat.le_refl _) _ _⟩
        | false =>
          have HZ : Hid (∀ m' ws', FrameIs s.data.toList m' ws' → frameB m' ws'.length (zOf ws') = true → False) := fun m' ws' h1 h2 => by
            obtain ⟨rfl, rfl⟩ := HIS.out.inj h1
            rw [hf] at h2; cases h2
          have htx : textB n ws.length (zOf ws) = ⟨#[]⟩ := by rw [textB, if_neg (by rw [hf]; simp)]
          have hne : ((textB n ws.length (zOf ws)).toList == s.toList) = false := by
            rw [htx]
            simp only [beq_eq_false_iff_ne, ne_eq]
            intro e
            exact not_empty (frame_nonempty HIS.out) (bytes_of_toList e)
          generalize textB n ws.length (zOf ws) = tx at *
          clear hf htx
          go_wp2
          refine bodyPost_ret (frameResults Tryd.results16 (by rfl) (set2_heap H5.out.made.res _ _)) rfl ?_
          exact ⟨.inr ⟨rfl, HZ.out⟩, set2_below H5.out.made.bel (Nat.le_refl _) _ _⟩
      | true =>
        by_cases h20 : 20 < ws.length
        · have HZS : Hid (s.size ≠ 0 ∧ ∀ m' ws', FrameIs s.data.toList m' ws' → frameB m' ws'.length (zOf ws') = true → False) := HRD.out.long h20
          have h20' : ¬ (ws.length : Int) ≤ 20 := by omega
          go_wp2_with fail
          refine (specText_own HRD.out.made.own HRD.out.bd (by omega)).mono ?_
          rintro e w5 ⟨rfl, hb5⟩
          have H5 : Hid (RdAt s w w5 gf n t true (.slice va ws.length vc) ws) := HRD.out.below hb5
          clear hb5 g0 g1 HRD
          have f0 := H5.out.made.res
          have r0 : w5.cell? ⟨w.heap.size, 0, none⟩ = some (.int .i64 0) := by simp [World.cell?, f0]
          have r1 : w5.cell? ⟨w.heap.size, 1, none⟩ = some (.slice none 0 0) := by simp [World.cell?, f0]
          have z0 : w5.frozen? ⟨w.heap.size, 0, none⟩ = false := frozen_of_row _ _ _ _ _ f0
          have z1 : w5.frozen? ⟨w.heap.size, 1, none⟩ = false := frozen_of_row _ _ _ _ _ f0
          clear f0
          have htx : textB n ws.length (zOf ws) = ⟨#[]⟩ := by rw [textB, if_neg (fun h => by have := (frameB_out h).2.2.1; omega)]
          have hne : ((textB n ws.length (zOf ws)).toList == s.toList) = false := by
            rw [htx]
            simp only [beq_eq_false_iff_ne, ne_eq]
            intro e
            exact not_empty HZS.out.1 (bytes_of_toList e)
          generalize textB n ws.length (zOf ws) = tx at *
          clear htx
          go_wp2
          refine bodyPost_ret (frameResults Tryd.results16 (by rfl) (set2_heap H5.out.made.res _ _)) rfl ?_
          exact ⟨.inr ⟨rfl, HZS.out.2⟩, set2_below H5.out.made.bel (Nat.le_refl _) _ _⟩
        · have h20' : (ws.length : Int) ≤ 20 := by omega
          have htl := HRD.out.tl
          go_wp2_with fail
          refine (l1Cut_any t 32 wr (by omega)).mono ?_
          rintro e w3 ⟨⟨a, b, f, rfl, hc⟩, hb3⟩
          have hz := cut_sizes hc
          have HC : Hid (CutIs t 32 a b f) := hc
          have H3 : Hid (RdAt s w w3 gf n t true (.slice va ws.length vc) ws) := HRD.out.below hb3
          clear hc hb3 HRD g0 g1
          go_wp2_with fail
          refine (l1Nums_any a w3 (by omega)).mono ?_
          rintro e w4 ⟨he, hb4⟩
          have H4 : Hid (RdAt s w w4 gf n t true (.slice va ws.length vc) ws) := H3.out.below hb4
          have y3 : gf < w3.heap.size := H3.out.made.flt
          clear hb4 H3
          have f0 := H4.out.made.res
          have r0 : w4.cell? ⟨w.heap.size, 0, none⟩ = some (.int .i64 0) := by simp [World.cell?, f0]
          have r1 : w4.cell? ⟨w.heap.size, 1, none⟩ = some (.slice none 0 0) := by simp [World.cell?, f0]
          have z0 : w4.frozen? ⟨w.heap.size, 0, none⟩ = false := frozen_of_row _ _ _ _ _ f0
          have z1 : w4.frozen? ⟨w.heap.size, 1, none⟩ = false := frozen_of_row _ _ _ _ _ f0
          clear f0
          rcases he with ⟨u, ns, rfl, hown, hns⟩ | ⟨rfl, hno⟩
          · have HNS : Hid (NumsAre a.data.toList ns) := hns
            obtain ⟨ua, uc, rfl⟩ : ∃ ua uc, u = .slice ua ns.length uc := by
              rcases hown.2 with ⟨h1, h2⟩ | ⟨g, c, cur, h1, _⟩
              · exact ⟨none, 0, by rw [h1, h2]⟩
              · exact ⟨_, c, h1⟩
            by_cases h3 : ns.length = 3
            · obtain ⟨x, y, z, rfl⟩ : ∃ x y z, ns = [x, y, z] := by
                match ns, h3 with
                | [x, y, z], _ => exact ⟨x, y, z, rfl⟩
              obtain ⟨gn, cn, hu, hgn, c0, c1, c2⟩ := nums_form hown
              cases hu
              have HQ : Hid (a.data.toList = winT (x, y, z) ∧ Bd3 (x, y, z)) := ⟨winT_of (by simpa using HNS.out.1), HNS.out.2 x (by simp), HNS.out.2 y (by simp), HNS.out.2 z (by simp)⟩
              clear hown hns h3 HNS r0 r1 z0 z1
              have g1 := H4.out.made.cell
              have n4 := World.new_ne w4 _ g1
              have s4 := H4.out.made.flt
              go_wp2_with fail
              go_region_law
                ((first
                  | (refine (step_append_lies _ (by rfl) _ _ _ (by rfl) (gf + 1) 56 i0 _ 3 24 Tryd.underlying24 HI.out.1 HI.out.2.1 HI.out.2.2.1 HI.out.2.2.2 rfl (by omega) (.slice va ws.length vc) ws.length (cellsW ws) (by rfl) (by first | exact H4.out.made.own.alloc _ | exact (H4.out.made.own.alloc _).drew | exact (H4.out.made.own.drew.alloc _).drew | exact H4.out.made.own.drew.alloc _) ⟨w4.heap.size, 0, none⟩ 1 1 [.int .i64 x, .int .i64 y, .int .i64 z] (by rfl) (by rfl) (World.news_of_block (cs := #[.int .i64 x, .int .i64 y, .int .i64 z]) (t := 56) (fr := (0, 0)) (heap_alloc_new w4 _)) (by simp [Value.oneCell']) (by omega) (by simp only [maxLen]; omega) (by omega) (by simp; omega) (w4.heap.size + 1) (by simp) ?_)
                     intro gg cp w5 hown5 hgrow hat hlt
                     have H5a : Hid (RdAt s w (w4.alloc (.cells #[.int .i64 x, .int .i64 y, .int .i64 z] 56)).drew gf n t true (.slice va ws.length vc) ws) := H4.out.below ((Below.refl _ _).alloc (Nat.le_refl _) _).drew
                     have f5 := H5a.out.made.grown_fr hgrow
                     have HP : Hid _ := H5a.out.made.push (q := (x, y, z)) hgrow hown5
                     have c5 : w5.cell? ⟨gf, 1, none⟩ = some (.slice va ws.length vc) := by simp [World.cell?, f5]
                     have z5 : w5.frozen? ⟨gf, 1, none⟩ = false := frozen_of_row w5 _ _ _ _ f5
                     have HN : Hid _ := H4.out.next HC.out HP.out HQ.out.1 HQ.out.2
                     have HZZ : Hid (f = true → b.size + 1 < t.size + 1) := fun hf => by cases hf; have := cut_sizes HC.out; simp at this; omega
                     clear hown5 hgrow hat f5 H5a HP hlt H4 HQ HC hz y3 n4 s4 c0 c1 c2 g1)))
              all_goals
                go_wp2
                go_roundw
                case rel => exact ⟨b, f, _, _, rfl, rfl, len_snoc_le (by omega), HN⟩
                case measure => have h9 := HZZ.out; revert h9; cases f <;> simp
            · have h3' : ¬ (ns.length : Int) = 3 := by omega
              have HZ : Hid (∀ m' ws', FrameIs s.data.toList m' ws' → frameB m' ws'.length (zOf ws') = true → False) := fun m' ws' h1 _ => by
                obtain ⟨q, _, hq⟩ := H4.out.piece HC.out h1
                have e := HNS.out.1
                rw [hq, winT_pcs] at e
                have := congrArg List.length e
                simp at this
                omega
              clear hns hown
              go_wp2
              refine bodyPost_ret (frameResults Tryd.results16 (by rfl) (set2_heap H4.out.made.res _ _)) rfl ?_
              exact ⟨.inr ⟨rfl, HZ.out⟩, set2_below H4.out.made.bel (Nat.le_refl _) _ _⟩
          · have HZ : Hid (∀ m' ws', FrameIs s.data.toList m' ws' → frameB m' ws'.length (zOf ws') = true → False) := fun m' ws' h1 _ => by
              obtain ⟨q, hb, hq⟩ := H4.out.piece HC.out h1
              exact hno [q.1, q.2.1, q.2.2] ⟨by rw [hq, winT_pcs]; rfl, fun n hn => by
                simp at hn
                rcases hn with rfl | rfl | rfl
                · exact hb.1
                · exact hb.2.1
                · exact hb.2.2⟩
            clear hno
            go_wp2
            refine bodyPost_ret (frameResults Tryd.results16 (by rfl) (set2_heap H4.out.made.res _ _)) rfl ?_
            exact ⟨.inr ⟨rfl, HZ.out⟩, set2_below H4.out.made.bel (Nat.le_refl _) _ _⟩
  · have HZ : Hid (∀ m' ws', FrameIs s.data.toList m' ws' → frameB m' ws'.length (zOf ws') = true → False) := fun m' ws' h1 _ => by
      have e := h1.1
      rw [HC.out.pcs] at e
      have e2 : one.data.toList = Lib.itoa m' := by
        cases more
        · simp at e; exact e.1
        · simp at e; exact e.1
      exact hd m' ⟨e2, h1.2.1⟩
    clear hd
    have HR2 : Hid ((w2.alloc (.cells #[.int .i64 0, .slice none 0 0] 26)).heap[w.heap.size]? = some (.cells #[.int .i64 0, .slice none 0 0] 26 (0, 0)) ∧ Below w.heap.size w (w2.alloc (.cells #[.int .i64 0, .slice none 0 0] 26))) := ⟨(heap_alloc_old _ _ (Array.getElem?_eq_some_iff.1 HR1.out.1).1).trans HR1.out.1, HR1.out.2.alloc HR1.out.2.size _⟩
    clear HR1
    go_wp2_with fail
    generalize w2.alloc (.cells #[.int .i64 0, .slice none 0 0] 26) = W2 at *
    go_loopw [5, 6] (fun t m wr => t = .string rest ∧ m = .bool more ∧ wr = W2) (fun _ _ _ => 0)
    case atStart => exact ⟨rfl, rfl, rfl⟩
    case round =>
      obtain ⟨rfl, rfl, rfl⟩ := hrel
      have f0 := HR2.out.1
      have r0 : wr.cell? ⟨w.heap.size, 0, none⟩ = some (.int .i64 0) := by simp [World.cell?, f0]
      have r1 : wr.cell? ⟨w.heap.size, 1, none⟩ = some (.slice none 0 0) := by simp [World.cell?, f0]
      have z0 : wr.frozen? ⟨w.heap.size, 0, none⟩ = false := frozen_of_row _ _ _ _ _ f0
      have z1 : wr.frozen? ⟨w.heap.size, 1, none⟩ = false := frozen_of_row _ _ _ _ _ f0
      clear f0
      cases more <;>
      · go_wp2
        refine bodyPost_ret (frameResults Tryd.results16 (by rfl) (set2_heap HR2.out.1 _ _)) rfl ?_
        exact ⟨.inr ⟨rfl, HZ.out⟩, set2_below HR2.out.2 (Nat.le_refl _) _ _⟩

end Go.Proofs.YtlaeilcipibelaaDoor
