/- What the proof leans on, part 18: TurnsI. -/
import Derived.Test.YtkbcplnlehdjfaaGreatOwnCh1
import Derived.Test.YtkbcplnlehdjfaaGreatOwnCh16

namespace Go.Proofs.YtkbcplnlehdjfaaGreat
open Go.RowKit Go.Maps
attribute [local go_sem ↓] Go.wp_at_zero Go.wp_at_succ
theorem zeroInt (w : World) : (zeroValue 3).run Tryz.prog w = .ok (.int .i64 0) w := by kernel_rfl
def TakenIs (w : World) (b : Nat) (L : List Int) : Prop := ∃ D : DataW Unit, w.ownsMap Tryz.prog 2 (plainElem Tryz.prog 3) b L.length D ∧ IsMap D ∧ ∀ z : Int, D.atKey (.int .i64 z) (.lit (.int .i64 0)) = .lit (.int .i64 (if z ∈ L then 1 else 0))
theorem TakenIs.none {w : World} {b : Nat} (hb : w.heap[b]? = some (.map #[] 0)) : TakenIs w b [] :=
 ⟨.map [], ⟨#[], 0, hb, ⟨by simp, MapKept.stamped_empty 0, by simp⟩, by simp, rfl⟩, isMap_empty, fun z => by simp [DataW.atKey]⟩
theorem TakenIs.lt {w : World} {b : Nat} {L : List Int} (h : TakenIs w b L) : b < w.heap.size := by obtain ⟨D, h, _⟩ := h; exact h.lt
theorem TakenIs.same {w w' : World} {b : Nat} {L : List Int} (h : TakenIs w b L) (hs : w'.heap[b]? = w.heap[b]?) : TakenIs w' b L := by
 obtain ⟨D, ⟨es, clock, hb, r⟩, h2⟩ := h
 exact ⟨D, ⟨es, clock, hs.trans hb, r⟩, h2⟩
theorem TakenIs.look {w : World} {b : Nat} {L : List Int} (h : TakenIs w b L) {z : Int} (hz : (Lit.int .i64 z).wf = true) : (Instr.lookup 252 (.map (some b)) (.int .i64 z) false).run Tryz.prog w = .ok (.int .i64 (if z ∈ L then 1 else 0)) w := by
 obtain ⟨D, hown, _, hat⟩ := h
 obtain ⟨c, hrun, hc, _⟩ := hown.lookup_int keyed64 Tryz.underlying252 Tryz.underlying3 (zeroInt w) (key64 hz)
 rw [hat z] at hc
 simp only [DataW.lit.injEq, Lit.int.injEq, true_and] at hc
 rw [hrun, hc]
theorem TakenIs.put {w : World} {b : Nat} {L : List Int} (h : TakenIs w b L) (hl : L.length ≤ 1048576) {z : Int} (hz : (Lit.int .i64 z).wf = true) (v : Int) (hv : v = (if z ∈ L then 1 else 0) + 1) :
  ∃ w', (Instr.mapUpdate 252 (.map (some b)) (.int .i64 z) (.int .i64 v)).run Tryz.prog w = .ok () w' ∧ w.grownBy w' (some b) ∧ w'.heap.size = w.heap.size ∧
   (∀ W : World, W.heap = w'.heap → (Instr.lookup 252 (.map (some b)) (.int .i64 z) false).run Tryz.prog W = .ok (.int .i64 v) W) ∧ (z ∉ L → TakenIs w' b (L ++ [z])) := by
 obtain ⟨D, hown, hm, hat⟩ := h
 have hvw : (Lit.int .i64 v).wf = true := by
  subst hv
  split <;> decide
 obtain ⟨w', hrun, ho, ht⟩ := hown.store keyed64 Tryz.underlying252 (Nat.lt_of_le_of_lt hl (by decide)) (key64 hz) (plainElem_int (H := Unit) Tryz.underlying3 hvw)
 refine ⟨w', hrun, ht.grown, ?_, fun W hW => ?_, fun hn => ⟨_, by rw [List.length_append]; exact ho, hm.put _ _, fun y => ?_⟩⟩
 ·obtain ⟨es, clock, es', clock', hb, rfl⟩ := ht
  simp [ChangeMaps.setBlock]
 ·have hoW : W.ownsMap Tryz.prog 2 (plainElem Tryz.prog 3) b (L.length + 1) (D.put (.int .i64 z) (.lit (.int .i64 v))) := by
   obtain ⟨es, clock, hb, r⟩ := ho
   exact ⟨es, clock, by rw [hW]; exact hb, r⟩
  obtain ⟨c, hr, hc, _⟩ := hoW.lookup_int keyed64 Tryz.underlying252 Tryz.underlying3 (zeroInt W) (key64 hz)
  rw [atKey_put_same hm (keyed64.key (key64 hz))] at hc
  simp only [DataW.lit.injEq, Lit.int.injEq, true_and] at hc
  rw [hr, hc]
 ·by_cases hy : y = z
  ·subst hy
   rw [atKey_put_same hm (keyed64.key (key64 hz))]
   simp [hv, hn]
  ·rw [atKey_put_other (fun e => hy (by simpa using e)), hat y]
   simp [hy]
def upD (l : List (ProcD × Nat)) : List Int := upL (l.map fun p => p.1.toProcP)
def TurnsD (next : Int) (l : List (ProcD × Nat)) : Prop := TurnsR next (l.map fun p => p.1.toProcP)
theorem upD_snoc (l : List (ProcD × Nat)) (p : ProcD × Nat) : upD (l ++ [p]) = upD l ++ (if p.1.state = 0 then [] else [p.1.since]) := by
 simp only [upD, upL, List.map_append, List.filter_append, List.map_cons, List.map_nil, List.filter_cons, List.filter_nil]
 by_cases h : p.1.state = 0 <;> simp [h]
theorem turns_snoc {next : Int} {l : List (ProcD × Nat)} {p : ProcD × Nat} (h : TurnsD next l) (hp : ¬ p.1.state = 0 → 1 ≤ p.1.since ∧ p.1.since < next ∧ p.1.since ∉ upD l) : TurnsD next (l ++ [p]) := by
 refine ⟨fun x hx => ?_, ?_⟩
 ·rw [List.map_append] at hx
  rcases List.mem_append.1 hx with hx | hx
  ·exact h.1 x hx
  ·simp only [List.map_cons, List.map_nil, List.mem_singleton] at hx
   subst hx
   exact fun h0 => ⟨(hp h0).1, (hp h0).2.1⟩
 ·have e := upD_snoc l p
  unfold upD at e
  rw [e]
  by_cases h0 : p.1.state = 0
  ·simp only [h0, if_true, List.append_nil]; exact h.2
  ·simp only [h0, if_false]
   refine List.nodup_append.2 ⟨h.2, by simp, fun a ha b hb => ?_⟩
   simp only [List.mem_singleton] at hb
   subst hb
   intro e2
   subst e2
   exact (hp h0).2.2 ha
theorem turns_bad {next : Int} {l : List (ProcD × Nat)} {k : Nat} {p : ProcD × Nat} (hp : l[k]? = some p) (h0 : ¬ p.1.state = 0) (hb : ¬ (1 ≤ p.1.since ∧ p.1.since < next ∧ p.1.since ∉ upD (l.take k))) : ¬ TurnsD next l := fun h => by
 have hm : p.1.toProcP ∈ l.map fun p => p.1.toProcP := List.mem_map.2 ⟨p, List.mem_of_getElem? hp, rfl⟩
 have h1 := h.1 _ hm h0
 refine hb ⟨h1.1, h1.2, fun hmem => ?_⟩
 have e : l = l.take k ++ p :: l.drop (k + 1) := split_at hp
 have h2 := h.2
 rw [e] at h2
 simp only [upL, List.map_append, List.map_cons, List.filter_append, List.filter_cons] at h2
 have h0' : (!decide (p.1.toProcP.state = 0)) = true := by simp [h0]
 rw [if_pos h0', List.map_cons] at h2
 exact (List.nodup_append.1 h2).2.2 p.1.since hmem p.1.since (by simp) rfl
def TurnEnds (w : World) (q : Opn) (lp : List (ProcD × Nat)) (e : Ending) (w' : World) : Prop := ∃ ok : Bool, e = .returned (.bool ok) ∧ (ok = true ↔ TurnsD q.next lp) ∧ Below w.heap.size w w'
theorem turnEnds_no {w w' : World} {q : Opn} {lp : List (ProcD × Nat)} (h : ¬ TurnsD q.next lp) (hb : Below w.heap.size w w') : TurnEnds w q lp (.returned (.bool false)) w' := ⟨false, rfl, ⟨(fun h => by cases h), fun h' => absurd h' h⟩, hb⟩
structure TurnIn (w w2 wr : World) (o : Nat) (q : Opn) (lp : List (ProcD × Nat)) (L : List Int) : Prop where
 taken : TakenIs wr w.heap.size L
 grown : w2.grownBy wr (some w.heap.size)
theorem TurnIn.block {w w2 wr : World} {o : Nat} {q : Opn} {lp : List (ProcD × Nat)} {L : List Int} (h : TurnIn w w2 wr o q lp L) {g : Nat} (hg : g < w2.heap.size) (hne : ¬ g = w.heap.size) : wr.heap[g]? = w2.heap[g]? := h.grown.block g hg (fun e => hne (Option.some.inj e))
set_option maxRecDepth 100000 in
set_option maxHeartbeats 8000000 in
theorem turnsOk_any (o : Nat) (q : Opn) (lp : List (ProcD × Nat)) (ms me mb mf : MapL) (w : World) (h : OpenIn w w o q lp ms me mb mf) (hl : lp.length ≤ 1048576) (hwf : ∀ p ∈ lp, p.1.Wf) :
  Calls Tryz.prog 153 #[.pointer (some ⟨o, 0, none⟩)] w fun e w' => TurnEnds w q lp e w' := by
 have hmk := run_makeMap (P := Tryz.prog) 252
 have H : Hid (OpenIn w w o q lp ms me mb mf ∧ ∀ p ∈ lp, p.1.Wf) := ⟨h, hwf⟩
 have hol : o < w.heap.size := (Array.getElem?_eq_some_iff.1 h.opn).1
 have c2 : w.cell? ⟨o, 2, none⟩ = some (.int .i64 6) := h.opn.cell 2
 have c3 : w.cell? ⟨o, 3, none⟩ = some (.map (some q.bp)) := h.opn.cell 3
 have HK : Hid ((keysOf (fun x : ProcD => x.id) lp).length = lp.length) := keysOf_length lp
 clear h hwf
 go_enter Tryz.func153, Tryz.ntmps153
 go_wp2_with fail
 refine (allProc_any 6 q.bp (keysOf (fun x : ProcD => x.id) lp) (w.alloc (.map #[] 0)) (H.out.1.shelf.map.below ((Below.refl _ w).alloc (Nat.le_refl _) _)) (by rw [HK.out]; exact hl) (keys_wf H.out.2)).mono ?_
 rintro e w2 ⟨a, cap, rfl, hown, hb2⟩
 obtain ⟨a', cap', hv, hrow⟩ := own_form hown
 cases hv
 have HR : Hid (Row w2 a ((keysOf (fun x : ProcD => x.id) lp).map fun p => ptrV p.2)) := hrow
 have HRB : Hid (∀ g, a = some ⟨g, 0, none⟩ → w.heap.size + 1 ≤ g ∧ g < w2.heap.size) := fun g hg => by
  subst hg
  have := hown.lt g rfl
  simpa using this
 have HB2 : Hid (Below w.heap.size w w2) := ((Below.refl _ w).alloc (Nat.le_refl _) _).trans (hb2.mono (by simp))
 have HT0 : Hid (TakenIs w2 w.heap.size []) := TakenIs.none ((hb2.block _ (by simp)).trans (heap_alloc_new _ _))
 rw [HK.out]
 clear hown hrow hb2 c2 c3 hmk
 go_wp2_with fail
 go_loopw [13] (fun i wr => ∃ k : Nat, k ≤ lp.length ∧ i = .int .i64 k ∧ Hid (TurnsD q.next (lp.take k) ∧ TurnIn w w2 wr o q lp (upD (lp.take k)))) (fun i _ => lp.length - (intOf i).toNat)
 case atStart => exact ⟨0, Nat.zero_le _, rfl, ⟨⟨(fun x hx => by simp at hx), by simp [upL]⟩, ⟨by simpa [upD, upL] using HT0.out, ⟨rfl, rfl, rfl, Nat.le_refl _, fun _ _ _ => rfl⟩⟩⟩⟩
 case round =>
  obtain ⟨k, hk, rfl, HA⟩ := hrel
  have HBR : Hid (Below w.heap.size w wr) := HB2.out.grown HA.out.2.grown HB2.out.size (fun k hk => by cases hk; exact Nat.le_refl _)
  by_cases hlt : k < lp.length
  ·have i0 : (0 : Int) ≤ (k : Int) := by omega
   have i1 : (k : Int) < (lp.length : Int) := by omega
   obtain ⟨p, hp⟩ : ∃ p, lp[k]? = some p := ⟨_, List.getElem?_eq_getElem hlt⟩
   have hpm := List.mem_of_getElem? hp
   have hrw := HR.out k (ptrV p.2) (by simp [keysOf, hp])
   obtain ⟨g, ha, hc0⟩ := hrw
   have hgb := HRB.out g ha
   have hc : wr.cell? ⟨g, k, none⟩ = some (.pointer (some ⟨p.2, 0, none⟩)) := (World.cell?_of_block (w := w2) (a := ⟨g, k, none⟩) (HA.out.2.block (g := g) hgb.2 (fun e => by have h1 := hgb.1; have e' : g = w.heap.size := e; omega))).trans hc0
   subst ha
   have hbox : wr.heap[p.2]? = some (.cells (procVs p.1) 43 (0, 0)) := (HBR.out.block _ (Array.getElem?_eq_some_iff.1 (H.out.1.shelf.box p hpm)).1).trans (H.out.1.shelf.box p hpm)
   have hob : OpenBox wr o q := (HBR.out.block _ hol).trans H.out.1.opn
   have HP : Hid (lp[k]? = some p ∧ p ∈ lp) := ⟨hp, hpm⟩
   have HW : Hid ((Lit.int .i64 p.1.since).wf = true) := (H.out.2 p hpm).since
   have HX : Hid (wr.heap[p.2]? = some (.cells (procVs p.1) 43 (0, 0)) ∧ OpenBox wr o q) := ⟨hbox, hob⟩
   have k3 := (proc_cells hbox).2.2.2.1
   have k11 := (proc_cells hbox).2.2.2.2.2.2.2.2.2.2.2
   have hls : (upD (lp.take k)).length ≤ 1048576 := by
    have h1 : (upD (lp.take k)).length ≤ (lp.take k).length := by
     simp only [upD, upL, List.length_map]
     exact Nat.le_trans (List.length_filter_le _ _) (by simp)
    rw [List.length_take] at h1
    omega
   clear hp hpm hc0 hgb hbox hob
   by_cases h0 : p.1.state = 0
   ·have HY : Hid (TurnsD q.next (lp.take (k + 1)) ∧ TurnIn w w2 wr o q lp (upD (lp.take (k + 1)))) := by
     rw [take_up HP.out.1]
     refine ⟨turns_snoc HA.out.1 (fun h => absurd h0 h), ?_⟩
     rw [upD_snoc, if_pos h0, List.append_nil]
     exact HA.out.2
    have e0 : (p.1.state == 0) = true := by simp [h0]
    clear h0
    go_wp2
    go_roundw
    case rel => exact ⟨k + 1, by omega, by go_num, HY⟩
    case measure => simp [intOf]; omega
   ·have e0 : (p.1.state == 0) = false := by simp [h0]
    have H0 : Hid (¬ p.1.state = 0) := h0
    clear h0
    have hlk := HA.out.2.taken.look HW.out
    by_cases hz : p.1.since ∈ upD (lp.take k)
    ·rw [if_pos hz] at hlk
     obtain ⟨w5, hput, hgr5, hsz5, hlk5, -⟩ := HA.out.2.taken.put hls HW.out 2 (by rw [if_pos hz]; rfl)
     have HN : Hid (¬ TurnsD q.next lp) := turns_bad HP.out.1 H0.out (fun hh => hh.2.2 hz)
     have HB5 : Hid (Below w.heap.size w w5) := HBR.out.grown hgr5 HBR.out.size (fun k hk => by cases hk; exact Nat.le_refl _)
     have hx5 : w5.heap[p.2]? = some (.cells (procVs p.1) 43 (0, 0)) := (HB5.out.block _ (Array.getElem?_eq_some_iff.1 (H.out.1.shelf.box p HP.out.2)).1).trans (H.out.1.shelf.box p HP.out.2)
     have ho5 : OpenBox w5 o q := (HB5.out.block _ hol).trans H.out.1.opn
     have f11 := (proc_cells hx5).2.2.2.2.2.2.2.2.2.2.2
     have f1 : w5.cell? ⟨o, 1, none⟩ = some (.int .i64 q.next) := ho5.cell 1
     have hl5 := hlk5 w5.drew rfl
     clear hlk5 hgr5 hsz5 hx5 ho5 hz
     by_cases hA : p.1.since < 1
     ·have dA : decide (p.1.since < 1) = true := decide_eq_true hA
      clear hA
      go_wp2_with fail
      refine tame_region (fun w' => w' = w5.drew) (by kernel_rfl) rfl ?_
      iterate 6 (refine yl (v := ?_) ?_ ?_; rotate_left; (intro w0 hS0; subst hS0; go_simp; try with_reducible rfl); simp only [pt, sb, s0, s1])
      iterate 9 (refine nl ?_; simp only [pt, sb, s0, s1])
      iterate 2 (refine yl (v := ?_) ?_ ?_; rotate_left; (intro w0 hS0; subst hS0; go_simp; try with_reducible rfl); simp only [pt, sb, s0, s1])
      iterate 7 (refine nl ?_; simp only [pt, sb, s0, s1])
      (refine yl (v := ?_) ?_ ?_; rotate_left; (intro w0 hS0; subst hS0; go_simp; try with_reducible rfl); simp only [pt, sb, s0, s1])
      refine tame_done (by kernel_rfl) ?_ _
      intro w1 hS1
      subst hS1
      go_wp2
      go_ret
      exact turnEnds_no HN.out HB5.out.drew
     have dA : decide (p.1.since < 1) = false := decide_eq_false hA
     by_cases hB : q.next ≤ p.1.since
     ·have dB : decide (q.next ≤ p.1.since) = true := decide_eq_true hB
      clear hA hB
      go_wp2_with fail
      refine tame_region (fun w' => w' = w5.drew) (by kernel_rfl) rfl ?_
      iterate 17 (refine yl (v := ?_) ?_ ?_; rotate_left; (intro w0 hS0; subst hS0; go_simp; try with_reducible rfl); simp only [pt, sb, s0, s1])
      iterate 7 (refine nl ?_; simp only [pt, sb, s0, s1])
      (refine yl (v := ?_) ?_ ?_; rotate_left; (intro w0 hS0; subst hS0; go_simp; try with_reducible rfl); simp only [pt, sb, s0, s1])
      refine tame_done (by kernel_rfl) ?_ _
      intro w1 hS1
      subst hS1
      go_wp2
      go_ret
      exact turnEnds_no HN.out HB5.out.drew
     have dB : decide (q.next ≤ p.1.since) = false := decide_eq_false hB
     clear hA hB
     go_wp2_with fail
     refine tame_region (fun w' => w' = w5.drew) (by kernel_rfl) rfl ?_
     iterate 25 (refine yl (v := ?_) ?_ ?_; rotate_left; (intro w0 hS0; subst hS0; go_simp; try with_reducible rfl); simp only [pt, sb, s0, s1])
     refine tame_done (by kernel_rfl) ?_ _
     intro w1 hS1
     subst hS1
     go_wp2
     go_ret
     exact turnEnds_no HN.out HB5.out.drew
    ·rw [if_neg hz] at hlk
     obtain ⟨w5, hput, hgr5, hsz5, hlk5, htk⟩ := HA.out.2.taken.put hls HW.out 1 (by rw [if_neg hz]; rfl)
     have HB5 : Hid (Below w.heap.size w w5) := HBR.out.grown hgr5 HBR.out.size (fun k hk => by cases hk; exact Nat.le_refl _)
     have HI5 : Hid (TurnIn w w2 w5 o q lp (upD (lp.take k) ++ [p.1.since])) := ⟨htk hz, ⟨hgr5.os.trans HA.out.2.grown.os, hgr5.tape.trans HA.out.2.grown.tape, hgr5.output.trans HA.out.2.grown.output, Nat.le_trans HA.out.2.grown.size hgr5.size, fun k hk hne => (hgr5.block k (Nat.lt_of_lt_of_le hk HA.out.2.grown.size) hne).trans (HA.out.2.grown.block k hk hne)⟩⟩
     have HZ : Hid (¬ p.1.since ∈ upD (lp.take k)) := hz
     have hx5 : w5.heap[p.2]? = some (.cells (procVs p.1) 43 (0, 0)) := (HB5.out.block _ (Array.getElem?_eq_some_iff.1 (H.out.1.shelf.box p HP.out.2)).1).trans (H.out.1.shelf.box p HP.out.2)
     have ho5 : OpenBox w5 o q := (HB5.out.block _ hol).trans H.out.1.opn
     have f11 := (proc_cells hx5).2.2.2.2.2.2.2.2.2.2.2
     have f1 : w5.cell? ⟨o, 1, none⟩ = some (.int .i64 q.next) := ho5.cell 1
     have hl5 := hlk5 w5.drew rfl
     clear hlk5 hgr5 hsz5 hx5 ho5 hz htk
     by_cases hA : p.1.since < 1
     ·have dA : decide (p.1.since < 1) = true := decide_eq_true hA
      have HN : Hid (¬ TurnsD q.next lp) := turns_bad HP.out.1 H0.out (fun hh => by have := hh.1; omega)
      clear hA
      go_wp2_with fail
      refine tame_region (fun w' => w' = w5.drew) (by kernel_rfl) rfl ?_
      iterate 6 (refine yl (v := ?_) ?_ ?_; rotate_left; (intro w0 hS0; subst hS0; go_simp; try with_reducible rfl); simp only [pt, sb, s0, s1])
      iterate 9 (refine nl ?_; simp only [pt, sb, s0, s1])
      iterate 2 (refine yl (v := ?_) ?_ ?_; rotate_left; (intro w0 hS0; subst hS0; go_simp; try with_reducible rfl); simp only [pt, sb, s0, s1])
      iterate 7 (refine nl ?_; simp only [pt, sb, s0, s1])
      (refine yl (v := ?_) ?_ ?_; rotate_left; (intro w0 hS0; subst hS0; go_simp; try with_reducible rfl); simp only [pt, sb, s0, s1])
      refine tame_done (by kernel_rfl) ?_ _
      intro w1 hS1
      subst hS1
      go_wp2
      go_ret
      exact turnEnds_no HN.out HB5.out.drew
     have dA : decide (p.1.since < 1) = false := decide_eq_false hA
     by_cases hB : q.next ≤ p.1.since
     ·have dB : decide (q.next ≤ p.1.since) = true := decide_eq_true hB
      have HN : Hid (¬ TurnsD q.next lp) := turns_bad HP.out.1 H0.out (fun hh => by have := hh.2.1; omega)
      clear hA hB
      go_wp2_with fail
      refine tame_region (fun w' => w' = w5.drew) (by kernel_rfl) rfl ?_
      iterate 17 (refine yl (v := ?_) ?_ ?_; rotate_left; (intro w0 hS0; subst hS0; go_simp; try with_reducible rfl); simp only [pt, sb, s0, s1])
      iterate 7 (refine nl ?_; simp only [pt, sb, s0, s1])
      (refine yl (v := ?_) ?_ ?_; rotate_left; (intro w0 hS0; subst hS0; go_simp; try with_reducible rfl); simp only [pt, sb, s0, s1])
      refine tame_done (by kernel_rfl) ?_ _
      intro w1 hS1
      subst hS1
      go_wp2
      go_ret
      exact turnEnds_no HN.out HB5.out.drew
     have dB : decide (q.next ≤ p.1.since) = false := decide_eq_false hB
     have HY : Hid (TurnsD q.next (lp.take (k + 1)) ∧ TurnIn w w2 w5 o q lp (upD (lp.take (k + 1)))) := by
      rw [take_up HP.out.1]
      refine ⟨turns_snoc HA.out.1 (fun _ => ⟨by omega, by omega, HZ.out⟩), ?_⟩
      rw [upD_snoc, if_neg H0.out]
      exact HI5.out
     clear hA hB
     go_wp2_with fail
     refine tame_region (fun w' => w' = w5.drew) (by kernel_rfl) rfl ?_
     iterate 25 (refine yl (v := ?_) ?_ ?_; rotate_left; (intro w0 hS0; subst hS0; go_simp; try with_reducible rfl); simp only [pt, sb, s0, s1])
     refine tame_done (by kernel_rfl) ?_ _
     intro w1 hS1
     subst hS1
     go_wp2
     go_roundw
     case rel => exact ⟨k + 1, by omega, by go_num, ⟨HY.out.1, ⟨HY.out.2.taken.same rfl, ⟨HY.out.2.grown.os, HY.out.2.grown.tape, HY.out.2.grown.output, HY.out.2.grown.size, HY.out.2.grown.block⟩⟩⟩⟩
     case measure => simp [intOf]; omega
  ·have i1 : ¬ (k : Int) < (lp.length : Int) := by omega
   have HT : Hid (TurnsD q.next lp) := by have := HA.out.1; rwa [List.take_of_length_le (by omega)] at this
   go_wp2
   go_ret
   exact ⟨true, rfl, ⟨fun _ => HT.out, fun _ => rfl⟩, HBR.out⟩
end Go.Proofs.YtkbcplnlehdjfaaGreat
