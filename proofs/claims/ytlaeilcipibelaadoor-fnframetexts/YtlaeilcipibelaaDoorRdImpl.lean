/- The programme's reader of frames. -/
import Derived.Test.YtlaeilcipibelaaDoorRdBase
namespace Go.Proofs.YtlaeilcipibelaaDoor
open Go.RowKit

/-- Where the reading stands: k of the pieces behind the first are read. -/
structure RiAt (s : ByteArray) (w wr : World) (gf gp : Nat) (major : Int) (ps : List ByteArray) (v : Value) (ws : List Win) : Prop where
  made : FMade w wr gf major v ws
  env0 : Env w
  pc : ps.map (·.data.toList) = pcs 32 s.data.toList
  hd : (ps.map (·.data.toList)).take (ws.length + 1) = Lib.itoa major :: ws.map winT
  bm : Bd major
  bd : ∀ q ∈ ws, Bd3 q
  at_ : ∀ (j : Nat) x, ps[j]? = some x → wr.cell? ⟨gp, j, none⟩ = some (.string x)
  gpl : gp < gf

theorem own_some {w : World} {base e n : Nat} {v : Value} {xs : List Value} (h : w.ownsRow base e 3 v (n + 1) xs) : ∃ g c, v = .slice (some ⟨g, 0, none⟩) (n + 1) c := by
  rcases h.2 with ⟨_, h2⟩ | ⟨g, c, cur, h1, _⟩
  · omega
  · exact ⟨g, c, h1⟩
theorem RiAt.below {s : ByteArray} {w wr w' : World} {gf gp : Nat} {major : Int} {ps : List ByteArray} {v : Value} {ws : List Win} (h : RiAt s w wr gf gp major ps v ws) (hb : Below wr.heap.size wr w') : RiAt s w w' gf gp major ps v ws :=
  ⟨h.made.below hb, h.env0, h.pc, h.hd, h.bm, h.bd, fun j x hx => (hb.cell (p := ⟨gp, j, none⟩) (block_lt_of_cell (h.at_ j x hx))).trans (h.at_ j x hx), h.gpl⟩
theorem RiAt.env {s : ByteArray} {w wr : World} {gf gp : Nat} {major : Int} {ps : List ByteArray} {v : Value} {ws : List Win} (h : RiAt s w wr gf gp major ps v ws) : Env wr := h.env0.below h.made.bel
theorem RiAt.is {s : ByteArray} {w wr : World} {gf gp : Nat} {major : Int} {ps : List ByteArray} {v : Value} {ws : List Win} (h : RiAt s w wr gf gp major ps v ws) (hl : ws.length + 1 = ps.length) : FrameIs s.data.toList major ws := by
  refine ⟨?_, h.bm, h.bd⟩
  rw [← h.pc, ← h.hd, List.take_of_length_le (by simp; omega)]
/-- The next piece is that of a window, if the text is that of a frame. -/
theorem RiAt.piece {s : ByteArray} {w wr : World} {gf gp : Nat} {major : Int} {p0 px : ByteArray} {pt : List ByteArray} {v : Value} {ws : List Win} (h : RiAt s w wr gf gp major (p0 :: pt) v ws) (hx : pt[ws.length]? = some px) {m' : Int} {ws' : List Win} (hf : FrameIs s.data.toList m' ws') :
    ∃ q, Bd3 q ∧ px.data.toList = winT q := by
  have e := h.pc
  rw [hf.1, List.map_cons] at e
  have e2 := (List.cons.inj e).2
  have hm : px.data.toList ∈ ws'.map winT := by rw [← e2]; exact List.mem_map.2 ⟨px, List.mem_of_getElem? hx, rfl⟩
  obtain ⟨q, hq, e3⟩ := List.mem_map.1 hm
  exact ⟨q, hf.2.2 q hq, e3.symm⟩
theorem RiAt.next {s : ByteArray} {w wr w5 : World} {gf gp : Nat} {major : Int} {p0 px : ByteArray} {pt : List ByteArray} {v v' : Value} {ws : List Win} {q : Win} (h : RiAt s w wr gf gp major (p0 :: pt) v ws) (hg : wr.grownBy w5 v.ownBlock)
    (ho : w5.ownsRow (gf + 1) 56 3 v' (ws.length + 1) (cellsW ws ++ [.int .i64 q.1, .int .i64 q.2.1, .int .i64 q.2.2])) (hx : pt[ws.length]? = some px) (hq : px.data.toList = winT q) (hb : Bd3 q) :
    RiAt s w (w5.setCell ⟨gf, 1, none⟩ v') gf gp major (p0 :: pt) v' (ws ++ [q]) := by
  have hgp := h.gpl
  have hlt := h.made.flt
  have hm : ∀ k, k ≠ gf → k < gf + 1 → (w5.setCell ⟨gf, 1, none⟩ v').heap[k]? = wr.heap[k]? := fun k h1 h2 =>
    (Below.heap_setCell _ _ _ _ (by simp; omega)).trans (hg.block _ (by omega) (own_afar h.made.own h2))
  refine ⟨h.made.push hg ho, h.env0, h.pc, ?_, h.bm, ?_, fun j x hj => ?_, hgp⟩
  · have h1 := h.hd
    rw [List.length_append, List.map_append, List.length_singleton, List.take_add_one, h1]
    simp [hx, hq]
  · intro x hx
    rcases List.mem_append.1 hx with hx | hx
    · exact h.bd x hx
    · rw [List.mem_singleton] at hx; subst hx; exact hb
  · have := h.at_ j x hj
    rw [World.cell?_of_block (hm gp (by omega) (by omega))]
    exact this

set_option maxHeartbeats 1000000 in
theorem implReadFrame_any (s : ByteArray) (w : World) (hs : s.size ≤ 1048576) (he : Env w) :
    Calls Tryd.prog 11 #[.string s] w fun e w' => RdEnds s w e w' ∧ Below w.heap.size w w' := by
  obtain ⟨i0, hi, hz0, hz1, hz2⟩ := info_parts winInfo
  have HI : Hid (Tryd.prog.info? 56 = some i0 ∧ i0.zero = some (.agg #[.int .i64 0, .int .i64 0, .int .i64 0]) ∧ i0.size = 3 ∧ i0.bytes = 24) := ⟨hi, hz0, hz1, hz2⟩
  clear hi hz0 hz1 hz2
  have HR0 : Hid ((w.alloc (.cells #[.int .i64 0, .slice none 0 0] 26)).heap[w.heap.size]? = some (.cells #[.int .i64 0, .slice none 0 0] 26 (0, 0)) ∧ Below w.heap.size w (w.alloc (.cells #[.int .i64 0, .slice none 0 0] 26)) ∧ Env (w.alloc (.cells #[.int .i64 0, .slice none 0 0] 26))) := ⟨heap_alloc_new _ _, (Below.refl _ _).alloc (Nat.le_refl _) _, he.below ((Below.refl _ _).alloc (Nat.le_refl _) _)⟩
  have HE : Hid (Env w) := he
  clear he
  go_enter Tryd.func11, Tryd.ntmps11
  go_wp2_with fail
  generalize w.alloc (.cells #[.int .i64 0, .slice none 0 0] 26) = W0 at *
  refine (split_any s 32 W0 hs HR0.out.2.2).mono ?_
  rintro e w1 ⟨ps, hps, hpl, hpz, rfl, hpc, hpw, hb1⟩
  obtain ⟨p0, pt, hpe⟩ : ∃ p0 pt, ps = p0 :: pt := by
    cases ps with
    | nil => exact absurd hps.symm (pcs_ne _ _)
    | cons p0 pt => exact ⟨p0, pt, rfl⟩
  subst hpe
  have HP : Hid ((p0 :: pt).map (·.data.toList) = pcs 32 s.data.toList ∧ (∀ p ∈ p0 :: pt, p.size ≤ 1048576) ∧ ∀ (j : Nat) x, (p0 :: pt)[j]? = some x → w1.cell? ⟨W0.heap.size, j, none⟩ = some (.string x)) := ⟨hps, hpz, hpc⟩
  have k0 := hpc 0 p0 rfl
  have HR1 : Hid (w1.heap[w.heap.size]? = some (.cells #[.int .i64 0, .slice none 0 0] 26 (0, 0)) ∧ Below w.heap.size w w1 ∧ Env w1) := ⟨(hb1.block _ (Array.getElem?_eq_some_iff.1 HR0.out.1).1).trans HR0.out.1, HR0.out.2.1.trans (hb1.mono HR0.out.2.1.size), HR0.out.2.2.below hb1⟩
  simp only [List.length_cons] at hpl
  clear hps hpz hpc hb1 HR0
  generalize W0.heap.size = gp at *
  go_wp2_with fail
  refine (readDecimal_any p0 w1 (HP.out.2.1 p0 (by simp)) HR1.out.2.2).mono ?_
  rintro e w2 ⟨he, hb2⟩
  obtain ⟨n, b0, rfl, t0, f0⟩ := he.both
  have HR2 : Hid (w2.heap[w.heap.size]? = some (.cells #[.int .i64 0, .slice none 0 0] 26 (0, 0)) ∧ Below w.heap.size w w2 ∧ Env w2) := ⟨(hb2.block _ (Array.getElem?_eq_some_iff.1 HR1.out.1).1).trans HR1.out.1, HR1.out.2.1.trans (hb2.mono HR1.out.2.1.size), HR1.out.2.2.below hb2⟩
  have HP2 : Hid ((p0 :: pt).map (·.data.toList) = pcs 32 s.data.toList ∧ (∀ p ∈ p0 :: pt, p.size ≤ 1048576) ∧ ∀ (j : Nat) x, (p0 :: pt)[j]? = some x → w2.cell? ⟨gp, j, none⟩ = some (.string x)) := ⟨HP.out.1, HP.out.2.1, fun j x hx => (hb2.cell (p := ⟨gp, j, none⟩) (block_lt_of_cell (HP.out.2.2 j x hx))).trans (HP.out.2.2 j x hx)⟩
  have HD : Hid ((b0 = true → DecIs p0 n) ∧ (b0 = false → ∀ n, ¬ DecIs p0 n)) := ⟨t0, f0⟩
  clear he t0 f0 k0 hb2 HR1 HP
  by_cases hbad : b0 = true ∧ pt.length + 1 ≤ 21
  · obtain ⟨rfl, hl21⟩ := hbad
    have hl21' : (pt.length : Int) + 1 ≤ 21 := by omega
    have HA : Hid (RiAt s w (w2.alloc (.cells #[.int .i64 n, .slice none 0 0] 26)) w2.heap.size gp n (p0 :: pt) (.slice none 0 0) []) := by
      have l1 := (Array.getElem?_eq_some_iff.1 HR2.out.1).1
      have hb : Below w2.heap.size w2 (w2.alloc (.cells #[.int .i64 n, .slice none 0 0] 26)) := (Below.refl _ _).alloc (Nat.le_refl _) _
      refine ⟨⟨(heap_alloc_old _ _ l1).trans HR2.out.1, heap_alloc_new _ _, ⟨rfl, .inl ⟨rfl, rfl⟩⟩, HR2.out.2.1.alloc HR2.out.2.1.size _, l1⟩, HE.out, HP2.out.1, ?_, (HD.out.1 rfl).2, (fun q hq => by simp at hq), fun j x hx => (hb.cell (p := ⟨gp, j, none⟩) (block_lt_of_cell (HP2.out.2.2 j x hx))).trans (HP2.out.2.2 j x hx), block_lt_of_cell (HP2.out.2.2 0 p0 rfl)⟩
      simp [(HD.out.1 rfl).1]
    have HPZ : Hid (∀ p ∈ p0 :: pt, p.size ≤ 1048576) := HP2.out.2.1
    cases pt with
    | nil =>
      clear HR2 HP2 HD
      go_wp2_with fail
      generalize w2.alloc (.cells #[.int .i64 n, .slice none 0 0] 26) = W2 at *
      generalize w2.heap.size = gf at *
      go_loopw [34] (fun i wr => ∃ (v : Value) (ws : List Win), i = .int .i64 (ws.length : Int) ∧ ws.length ≤ 0 ∧ Hid (RiAt s w wr gf gp n [p0] v ws)) (fun i _ => 0 - (intOf i).toNat)
      case atStart => exact ⟨.slice none 0 0, [], rfl, by simp, HA⟩
      case round =>
        clear HA
        obtain ⟨v, ws, rfl, hwl, H⟩ := hrel
        have g0 := H.out.made.cell0
        have g1 := H.out.made.cell
        obtain ⟨va, vc, rfl⟩ : ∃ va vc, v = .slice va ws.length vc := by
          rcases own_form H.out.made.own rfl with ⟨h1, h2⟩ | ⟨g, c, h1, _, _⟩
          · exact ⟨none, 0, by rw [h1, h2]⟩
          · exact ⟨_, c, h1⟩
        have hk' : ¬ (ws.length : Int) < 0 := by omega
        have HKE : Hid (ws.length = 0) := (by omega : ws.length = 0)
        have HIS : Hid (FrameIs s.data.toList n ws) := H.out.is (by rw [HKE.out]; rfl)
        go_wp2_with fail
        refine (implOk_own H.out.made.own H.out.bd (by omega)).mono ?_
        rintro e w5 ⟨rfl, hb5⟩
        have H5 : Hid (RiAt s w w5 gf gp n [p0] (.slice va ws.length vc) ws) := H.out.below hb5
        clear hb5 g0 g1 H
        have f0 := H5.out.made.res
        have r0 : w5.cell? ⟨w.heap.size, 0, none⟩ = some (.int .i64 0) := by simp [World.cell?, f0]
        have r1 : w5.cell? ⟨w.heap.size, 1, none⟩ = some (.slice none 0 0) := by simp [World.cell?, f0]
        have z0 : w5.frozen? ⟨w.heap.size, 0, none⟩ = false := frozen_of_row _ _ _ _ _ f0
        have z1 : w5.frozen? ⟨w.heap.size, 1, none⟩ = false := frozen_of_row _ _ _ _ _ f0
        clear f0
        cases hf : frameB n ws.length (zOf ws) with
        | true =>
          have HF : Hid (frameB n ws.length (zOf ws) = true) := hf
          have g0 := H5.out.made.cell0
          have g1 := H5.out.made.cell
          clear hf
          go_wp2
          refine bodyPost_ret (frameResults Tryd.results11 (by rfl) (set2_heap H5.out.made.res _ _)) rfl ?_
          have hlt := H5.out.made.lt
          exact ⟨.inl ⟨n, _, ws, rfl, HIS.out, HF.out, own_base (own_set2 (w := w) H5.out.made.own (by omega) _ _) (by omega)⟩, set2_below H5.out.made.bel (Nat.le_refl _) _ _⟩
        | false =>
          have HZ : Hid (∀ m' ws', FrameIs s.data.toList m' ws' → frameB m' ws'.length (zOf ws') = true → False) := fun m' ws' h1 h2 => by
            obtain ⟨rfl, rfl⟩ := HIS.out.inj h1
            rw [hf] at h2; cases h2
          clear hf
          go_wp2
          refine bodyPost_ret (frameResults Tryd.results11 (by rfl) (set2_heap H5.out.made.res _ _)) rfl ?_
          exact ⟨.inr ⟨rfl, HZ.out⟩, set2_below H5.out.made.bel (Nat.le_refl _) _ _⟩
    | cons p1 pt' =>
      have hp0 : ¬ (p1 :: pt') = [] := by simp
      have hp1 : ¬ (p1 :: pt').length = 0 := by simp
      generalize p1 :: pt' = pt at *
      clear HR2 HP2 HD
      go_wp2_with fail
      generalize w2.alloc (.cells #[.int .i64 n, .slice none 0 0] 26) = W2 at *
      generalize w2.heap.size = gf at *
      go_loopw [34] (fun i wr => ∃ (v : Value) (ws : List Win), i = .int .i64 (ws.length : Int) ∧ ws.length ≤ pt.length ∧ Hid (RiAt s w wr gf gp n (p0 :: pt) v ws)) (fun i _ => pt.length - (intOf i).toNat)
      case atStart => exact ⟨.slice none 0 0, [], rfl, by simp, HA⟩
      case round =>
        clear HA
        obtain ⟨v, ws, rfl, hwl, H⟩ := hrel
        have g0 := H.out.made.cell0
        have g1 := H.out.made.cell
        obtain ⟨va, vc, rfl⟩ : ∃ va vc, v = .slice va ws.length vc := by
          rcases own_form H.out.made.own rfl with ⟨h1, h2⟩ | ⟨g, c, h1, _, _⟩
          · exact ⟨none, 0, by rw [h1, h2]⟩
          · exact ⟨_, c, h1⟩
        by_cases hk : ws.length < pt.length
        · have hk' : (ws.length : Int) < (pt.length : Int) := by omega
          obtain ⟨px, hpx⟩ : ∃ px, pt[ws.length]? = some px := ⟨_, List.getElem?_eq_getElem hk⟩
          have k1 : wr.cell? ⟨gp, 1 + ws.length, none⟩ = some (.string px) := H.out.at_ _ _ (by rw [Nat.add_comm]; simpa using hpx)
          have k2 : wr.cell? ⟨gp, ws.length + 1, none⟩ = some (.string px) := H.out.at_ _ _ (by simpa using hpx)
          have hpz : px.size ≤ 1048576 := HPZ.out px (by simp; exact .inr (List.mem_of_getElem? hpx))
          have HX : Hid (pt[ws.length]? = some px) := hpx
          clear hpx g0 g1
          go_wp2_with fail
          refine (readWindow_any px wr hpz H.out.env).mono ?_
          rintro e w3 ⟨he, hb3⟩
          have H3 : Hid (RiAt s w w3 gf gp n (p0 :: pt) (.slice va ws.length vc) ws) := H.out.below hb3
          clear hb3 H k1 k2
          have s3 := H3.out.made.flt
          have l3 := H3.out.made.lt
          rcases he with ⟨a, l, p, rfl, hw⟩ | ⟨rfl, hw⟩
          · have HQ : Hid (px.data.toList = winT (a, l, p) ∧ Bd3 (a, l, p)) := ⟨winT_of hw.1, hw.2.1, hw.2.2.1, hw.2.2.2⟩
            clear hw
            have H4 : Hid (RiAt s w ((w3.alloc (.cells #[.int .i64 a, .int .i64 l, .int .i64 p] 56)).alloc (.cells #[.int .i64 a, .int .i64 l, .int .i64 p] 56)) gf gp n (p0 :: pt) (.slice va ws.length vc) ws) := H3.out.below (((Below.refl _ _).alloc (Nat.le_refl _) _).alloc (by simp) _)
            have g1 := H3.out.made.cell
            have n3 := World.new_ne w3 _ g1
            go_wp2_with (at_builtin; refine wpList_append_own_at _ rfl _ _ 24 rfl (gf + 1) 56 i0 (.agg #[.int .i64 0, .int .i64 0, .int .i64 0]) 3 24 Tryd.underlying24 HI.out.1 HI.out.2.1 HI.out.2.2.1 HI.out.2.2.2 rfl (by decide) (.slice va ws.length vc) ws.length (cellsW ws) rfl H4.out.made.own ⟨w3.heap.size + 1, 0, none⟩ 1 1 [.int .i64 a, .int .i64 l, .int .i64 p] (by rfl) rfl (World.news_of_block (cs := #[.int .i64 a, .int .i64 l, .int .i64 p]) (t := 56) (fr := (0, 0)) (by simpa using heap_alloc_new (w3.alloc (.cells #[.int .i64 a, .int .i64 l, .int .i64 p] 56)) _)) (by simp [Value.oneCell']) (by unfold maxLen; omega) (by omega) (by simp; omega) ?_; intro v' w5 hown' hgrow hnil hloc; obtain ⟨gg, cp, rfl⟩ := own_some hown'; have f5 := H4.out.made.grown_fr hgrow; have HP : Hid _ := H4.out.next hgrow hown' HX.out HQ.out.1 HQ.out.2; have c5 : w5.cell? ⟨gf, 1, none⟩ = some (.slice va ws.length vc) := (by simp [World.cell?, f5]); have z5 : w5.frozen? ⟨gf, 1, none⟩ = false := frozen_of_row w5 _ _ _ _ f5; clear hown' hgrow hnil hloc f5 H4 H3 g1 n3)
            go_roundw
            case rel => exact ⟨_, _, len_snoc_int _ _, len_snoc_le (by omega), HP⟩
            case measure => simp [intOf]; omega
          · have HZ : Hid (∀ m' ws', FrameIs s.data.toList m' ws' → frameB m' ws'.length (zOf ws') = true → False) := fun m' ws' h1 _ => by
              obtain ⟨q, hb, hq⟩ := H3.out.piece HX.out h1
              exact hw q.1 q.2.1 q.2.2 ⟨by rw [hq, winT_pcs], hb⟩
            clear hw
            have H4 : Hid (RiAt s w (w3.alloc (.cells #[.int .i64 0, .int .i64 0, .int .i64 0] 56)) gf gp n (p0 :: pt) (.slice va ws.length vc) ws) := H3.out.below ((Below.refl _ _).alloc (Nat.le_refl _) _)
            have f0 := H4.out.made.res
            have r0 : (w3.alloc (.cells #[.int .i64 0, .int .i64 0, .int .i64 0] 56)).cell? ⟨w.heap.size, 0, none⟩ = some (.int .i64 0) := by rw [cell_of_row _ _ _ _ _ _ f0]; rfl
            have r1 : (w3.alloc (.cells #[.int .i64 0, .int .i64 0, .int .i64 0] 56)).cell? ⟨w.heap.size, 1, none⟩ = some (.slice none 0 0) := by rw [cell_of_row _ _ _ _ _ _ f0]; rfl
            have z0 : (w3.alloc (.cells #[.int .i64 0, .int .i64 0, .int .i64 0] 56)).frozen? ⟨w.heap.size, 0, none⟩ = false := frozen_of_row _ _ _ _ _ f0
            have z1 : (w3.alloc (.cells #[.int .i64 0, .int .i64 0, .int .i64 0] 56)).frozen? ⟨w.heap.size, 1, none⟩ = false := frozen_of_row _ _ _ _ _ f0
            clear f0
            go_wp2
            refine bodyPost_ret (frameResults Tryd.results11 (by rfl) (set2_heap H4.out.made.res _ _)) rfl ?_
            exact ⟨.inr ⟨rfl, HZ.out⟩, set2_below H4.out.made.bel (Nat.le_refl _) _ _⟩
        · have hk' : ¬ (ws.length : Int) < (pt.length : Int) := by omega
          have hke : ws.length = pt.length := by omega
          have HKE : Hid (ws.length = pt.length) := hke
          clear hke hk
          have HIS : Hid (FrameIs s.data.toList n ws) := H.out.is (by rw [HKE.out]; rfl)
          go_wp2_with fail
          refine (implOk_own H.out.made.own H.out.bd (by omega)).mono ?_
          rintro e w5 ⟨rfl, hb5⟩
          have H5 : Hid (RiAt s w w5 gf gp n (p0 :: pt) (.slice va ws.length vc) ws) := H.out.below hb5
          clear hb5 g0 g1 H
          have f0 := H5.out.made.res
          have r0 : w5.cell? ⟨w.heap.size, 0, none⟩ = some (.int .i64 0) := by simp [World.cell?, f0]
          have r1 : w5.cell? ⟨w.heap.size, 1, none⟩ = some (.slice none 0 0) := by simp [World.cell?, f0]
          have z0 : w5.frozen? ⟨w.heap.size, 0, none⟩ = false := frozen_of_row _ _ _ _ _ f0
          have z1 : w5.frozen? ⟨w.heap.size, 1, none⟩ = false := frozen_of_row _ _ _ _ _ f0
          clear f0
          cases hf : frameB n ws.length (zOf ws) with
          | true =>
            have HF : Hid (frameB n ws.length (zOf ws) = true) := hf
            have g0 := H5.out.made.cell0
            have g1 := H5.out.made.cell
            clear hf
            go_wp2
            refine bodyPost_ret (frameResults Tryd.results11 (by rfl) (set2_heap H5.out.made.res _ _)) rfl ?_
            have hlt := H5.out.made.lt
            exact ⟨.inl ⟨n, _, ws, rfl, HIS.out, HF.out, own_base (own_set2 (w := w) H5.out.made.own (by omega) _ _) (by omega)⟩, set2_below H5.out.made.bel (Nat.le_refl _) _ _⟩
          | false =>
            have HZ : Hid (∀ m' ws', FrameIs s.data.toList m' ws' → frameB m' ws'.length (zOf ws') = true → False) := fun m' ws' h1 h2 => by
              obtain ⟨rfl, rfl⟩ := HIS.out.inj h1
              rw [hf] at h2; cases h2
            clear hf
            go_wp2
            refine bodyPost_ret (frameResults Tryd.results11 (by rfl) (set2_heap H5.out.made.res _ _)) rfl ?_
            exact ⟨.inr ⟨rfl, HZ.out⟩, set2_below H5.out.made.bel (Nat.le_refl _) _ _⟩
  · have HZ : Hid (∀ m' ws', FrameIs s.data.toList m' ws' → frameB m' ws'.length (zOf ws') = true → False) := fun m' ws' h1 h2 => by
      have e := h1.1
      rw [← HP2.out.1] at e
      simp only [List.map_cons, List.cons.injEq] at e
      have e2 := congrArg List.length e.2
      simp only [List.length_map] at e2
      have h20 := (frameB_out h2).2.2.1
      cases b0 with
      | true => exact hbad ⟨rfl, by omega⟩
      | false => exact HD.out.2 rfl m' ⟨e.1, h1.2.1⟩
    have f0 := HR2.out.1
    have r0 : w2.cell? ⟨w.heap.size, 0, none⟩ = some (.int .i64 0) := by simp [World.cell?, f0]
    have r1 : w2.cell? ⟨w.heap.size, 1, none⟩ = some (.slice none 0 0) := by simp [World.cell?, f0]
    have z0 : w2.frozen? ⟨w.heap.size, 0, none⟩ = false := frozen_of_row _ _ _ _ _ f0
    have z1 : w2.frozen? ⟨w.heap.size, 1, none⟩ = false := frozen_of_row _ _ _ _ _ f0
    clear f0
    cases b0 with
    | false =>
      clear hbad
      go_wp2
      refine bodyPost_ret (frameResults Tryd.results11 (by rfl) (set2_heap HR2.out.1 _ _)) rfl ?_
      exact ⟨.inr ⟨rfl, HZ.out⟩, set2_below HR2.out.2.1 (Nat.le_refl _) _ _⟩
    | true =>
      have hl21' : (21 : Int) < (pt.length : Int) + 1 := by
        rcases Nat.lt_or_ge 21 (pt.length + 1) with h | h
        · omega
        · exact absurd ⟨rfl, h⟩ hbad
      clear hbad
      go_wp2
      refine bodyPost_ret (frameResults Tryd.results11 (by rfl) (set2_heap HR2.out.1 _ _)) rfl ?_
      exact ⟨.inr ⟨rfl, HZ.out⟩, set2_below HR2.out.2.1 (Nat.le_refl _) _ _⟩

end Go.Proofs.YtlaeilcipibelaaDoor
