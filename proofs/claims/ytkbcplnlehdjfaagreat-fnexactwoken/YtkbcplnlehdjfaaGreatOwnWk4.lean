/- What the proof leans on, part 4: WokenI, WokenS, WokenLaw. -/
import Derived.Test.YtkbcplnlehdjfaaGreatOwnR1
import Derived.Test.YtkbcplnlehdjfaaGreatOwnWk1
import Derived.Test.YtkbcplnlehdjfaaGreatOwnWk2
import Derived.Test.YtkbcplnlehdjfaaGreatOwnWk3
import Derived.Deep.LoopGhost

namespace Go.Proofs.YtkbcplnlehdjfaaGreat
open Go.RowKit Go.Maps
attribute [local go_sem ↓] Go.wp_at_zero Go.wp_at_succ
structure WkI (now : Int) (base : Nat) (w : World) (S0 : OpenD) (o k : Nat) (S : OpenD) (wr : World) : Prop where
 at' : OpenAt wr base o S
 fits : S.Fits
 wk : Wk now S.pure
 same : wokenL now S.pure = wokenL now S0.pure
 cnt : (dueL now S.pure.procs).length = k
 short : ∀ p ∈ S.lp, p.1.prog.length ≤ 1048576
 bel : Below base w wr
def WdEnds (o base : Nat) (S : OpenD) (now : Int) (w : World) (e : Ending) (w' : World) : Prop := ∃ S2 : OpenD, e = .returned (.bool (inB now 0 1000000000 && decide (S.q.next ≤ 999999980))) ∧ OpenAt w' base o S2 ∧ S2.Fits ∧ ((inB now 0 1000000000 && decide (S.q.next ≤ 999999980)) = true → S2.pure = wokenL now S.pure) ∧ Below base w w'
theorem OpenAt.below {w w' : World} {base o : Nat} {S : OpenD} (h : OpenAt w base o S) (hb : Below w.heap.size w w') : OpenAt w' base o S :=
 ⟨(hb.block _ (Array.getElem?_eq_some_iff.1 h.opn).1).trans h.opn, h.procs.below hb, h.sems.below hb, h.events.below hb, h.boards.below hb, h.buffers.below hb, h.ports.below hb, fun p hp => mine_below (h.mineP p hp) hb, fun p hp => mine_below (h.mineF p hp) hb, fun p hp => mine_below (h.mineQ p hp) hb, h.nodup, h.low⟩
theorem short_of {S : OpenD} (h : PartR S.pure) {p : ProcD × Nat} (hp : p ∈ S.lp) : p.1.prog.length ≤ 1048576 := by
 have h1 := (things_all h.procs p.1.toProcP (List.mem_map.2 ⟨p, hp, rfl⟩)).2
 simp only [procB, Bool.and_eq_true] at h1
 have h2 := h1.1.1.1.1.1.1.2
 unfold progL progB at h2
 simp only [decide_eq_true_eq] at h2
 omega
set_option maxRecDepth 100000 in
set_option maxHeartbeats 8000000 in
theorem wakeDue_any (o base : Nat) (S : OpenD) (now : Int) (w : World) (h : OpenAt w base o S) (hbw : base ≤ w.heap.size) (hf : S.Fits) (hr : PartR S.pure) :
  Calls Tryz.prog 104 #[.pointer (some ⟨o, 0, none⟩), .int .i64 now] w fun e w' => WdEnds o base S now w e w' := by
 have c1 : w.cell? ⟨o, 1, none⟩ = some (.int .i64 S.q.next) := h.opn.cell 1
 have H : Hid (OpenAt w base o S ∧ S.Fits ∧ PartR S.pure ∧ base ≤ w.heap.size) := ⟨h, hf, hr, hbw⟩
 clear h hf hr hbw
 go_enter Tryz.func104, Tryz.ntmps104
 by_cases h1 : now < 0
 ·skip
  have HV : Hid ((inB now 0 1000000000 && decide (S.q.next ≤ 999999980)) = false) := by show _ = _; rw [show inB now 0 1000000000 = false by cases h5 : inB now 0 1000000000 with | false => rfl | true => have := inB_iff.1 h5; omega]; rfl
  go_wp2
  go_ret
  exact ⟨S, ret_bool HV.out.symm, H.out.1, H.out.2.1, (fun e => by rw [HV.out] at e; cases e), Below.refl _ _⟩
 by_cases h2 : 1000000000 < now
 ·skip
  have HV : Hid ((inB now 0 1000000000 && decide (S.q.next ≤ 999999980)) = false) := by show _ = _; rw [show inB now 0 1000000000 = false by cases h5 : inB now 0 1000000000 with | false => rfl | true => have := inB_iff.1 h5; omega]; rfl
  go_wp2
  go_ret
  exact ⟨S, ret_bool HV.out.symm, H.out.1, H.out.2.1, (fun e => by rw [HV.out] at e; cases e), Below.refl _ _⟩
 by_cases h3 : 999999980 < S.q.next
 ·skip
  have HV : Hid ((inB now 0 1000000000 && decide (S.q.next ≤ 999999980)) = false) := by show _ = _; rw [decide_eq_false (by omega), Bool.and_false]
  go_wp2
  go_ret
  exact ⟨S, ret_bool HV.out.symm, H.out.1, H.out.2.1, (fun e => by rw [HV.out] at e; cases e), Below.refl _ _⟩
 have HV : Hid ((inB now 0 1000000000 && decide (S.q.next ≤ 999999980)) = true) := by show _ = _; rw [inB_iff.2 ⟨by omega, by omega⟩, decide_eq_true (by omega)]; rfl
 have HK : Hid (WkI now base w S o (dueL now S.pure.procs).length S w) := ⟨H.out.1, H.out.2.1, Wk.of H.out.2.2.1 (by show S.q.next ≤ _; omega), rfl, rfl, fun p hp => short_of H.out.2.2.1 hp, Below.refl _ _⟩
 go_wp2_with fail
 clear c1 h1 h2 h3
 go_loopg [] (dueL now S.pure.procs).length (fun k wr => ∃ S1 : OpenD, Hid (WkI now base w S o k S1 wr))
 case atStart => exact ⟨S, HK.out⟩
 case round =>
  obtain ⟨S1, HO⟩ := hrel
  have hlq : S1.lp.length ≤ 6 := by have h5 := HO.out.wk.low; simpa [OpenD.pure] using h5
  have HL : Hid (S1.lp.length ≤ 1048576 ∧ (dueD now S1.lp).length ≤ 1048576) := ⟨by omega, Nat.le_trans (List.length_filter_le _ _) (by omega)⟩
  clear hlq
  go_wp2_with fail
  refine (due_any o S1.q S1.lp now base wr HO.out.at'.opn HO.out.at'.procs HL.out.1 HO.out.fits.wProc).mono ?_
  rintro e w2 ⟨⟨a, cap, rfl, hrw⟩, hb2⟩
  have HB : Hid (Row w2 a ((dueD now S1.lp).map fun p => ptrV p.2) ∧ Below wr.heap.size wr w2) := ⟨hrw, hb2⟩
  clear hrw hb2
  go_wp2_with fail
  refine (bestOf_sooner a (dueD now S1.lp) cap w2 HL.out.2 HB.out.1 (fun p hp => (HO.out.at'.procs.below HB.out.2).box p (List.mem_filter.1 hp).1)).mono ?_
  rintro e w3 ⟨rfl, hb3⟩
  have H3 : Hid (Below wr.heap.size wr w3) := HB.out.2.trans (hb3.mono HB.out.2.size)
  have HN : Hid ((bestA soonQ (dueD now S1.lp)).map (fun p => p.1.toProcP) = nextDue now S1.pure.procs) := next_is HO.out.wk.rise
  clear hb3 HB
  cases hbd : bestA soonQ (dueD now S1.lp) with
  | none =>
   have e0 : (dueD now S1.lp).length = 0 := by rw [bestA_none soonQ hbd]; rfl
   have HD : Hid (nextDue now S1.pure.procs = none) := by have h5 := HN.out; rw [hbd] at h5; exact h5.symm
   have d0 : decide (0 < (dueD now S1.lp).length) = false := decide_eq_false (by omega)
   rw [d0]
   clear hbd e0 d0
   simp only [ptrO, Option.map_none]
   go_wp2
   go_ret
   exact ⟨S1, ret_bool HV.out.symm, HO.out.at'.below H3.out, HO.out.fits, fun _ => by rw [← HO.out.same]; exact (woken_none HD.out).symm, HO.out.bel.trans (H3.out.mono (by have := HO.out.bel.size; have := H.out.2.2.2; omega))⟩
  | some r =>
   obtain ⟨x, g⟩ := r
   have hmd := bestA_mem soonQ hbd
   have hm : (x, g) ∈ S1.lp ∧ dueB now x.toProcP = true := List.mem_filter.1 hmd
   have d0 : decide (0 < (dueD now S1.lp).length) = true := decide_eq_true (List.length_pos_of_mem hmd)
   have HD : Hid (nextDue now S1.pure.procs = some x.toProcP ∧ (x, g) ∈ S1.lp) := ⟨by have h5 := HN.out; rw [hbd] at h5; exact h5.symm, hm.1⟩
   have hst := (dueB_iff.1 hm.2).1
   have hop := HO.out.wk.op x.toProcP (List.mem_map.2 ⟨(x, g), hm.1, rfl⟩) hst
   have hro := HO.out.wk.room
   have hat3 := HO.out.at'.below H3.out
   have s3 := (proc_cells (hat3.procs.box (x, g) hm.1)).2.2.2.1
   have hbs : base ≤ w3.heap.size := by have := HO.out.bel.size; have := H3.out.size; have := H.out.2.2.2; omega
   have hcall := fun code => wake_any o g base S1 x code w3 hat3 hbs hm.1 (by have h5 : S1.pure.next = S1.q.next := rfl; omega) (by have h5 : S1.pure.next = S1.q.next := rfl; omega) hop (HO.out.short _ hm.1)
   rw [d0]
   clear hbd hmd hm d0 hst hop hro hat3 hbs HN
   simp only [ptrO, ptrV, Option.map_some]
   cases e2 : (x.state == 2)
   ·skip
    replace hcall := hcall 2
    have HCO : Hid (codeOf x.toProcP = 2) := by show codeOf x.toProcP = _; unfold codeOf; rw [if_neg (by simpa using e2)]
    go_wp2_with fail
    clear s3 e2
    refine hcall.mono ?_
    clear hcall
    rintro e w4 ⟨rfl, hat4, hb4⟩
    have HP : Hid ((S1.turn g (wakeD S1.q.next 2) (wakeN S1.q.next x.toProcP)).pure = wakeStep S1.pure x.toProcP) := by
     have h5 := OpenD.turn_pure2 (nx := wakeN S1.q.next x.toProcP) (f := wakeD S1.q.next 2) (f' := wakeF S1.q.next 2) HO.out.wk.rise (fun p hp hpg => HO.out.at'.procs.one hp HD.out.2 hpg) HD.out.2 (fun _ => rfl)
     refine h5.trans ?_
     unfold wakeStep
     rw [HCO.out]
     rfl
    have HI : Hid (WkI now base w S o (dueL now (S1.turn g (wakeD S1.q.next 2) (wakeN S1.q.next x.toProcP)).pure.procs).length (S1.turn g (wakeD S1.q.next 2) (wakeN S1.q.next x.toProcP)) w4 ∧ (dueL now (S1.turn g (wakeD S1.q.next 2) (wakeN S1.q.next x.toProcP)).pure.procs).length < gk) := by
     have hst := HO.out.wk.step HD.out.1
     have hc := HO.out.cnt
     have hbl := HO.out.bel.trans ((H3.out.mono (by have := HO.out.bel.size; have := H.out.2.2.2; omega)).trans hb4)
     refine ⟨⟨hat4, fits_turn HO.out.fits (fun y => (wakeF_id _ _ _).1), by rw [HP.out]; exact hst.1, by rw [HP.out, ← HO.out.same]; exact (woken_some HO.out.wk HD.out.1).symm, rfl, fun p hp => ?_, hbl⟩, by rw [HP.out]; omega⟩
     obtain ⟨r, hr, rfl⟩ := mem_upd.1 hp
     split
     ·show (wakeF _ _ r.1.toProcP).prog.length ≤ _
      rw [(wakeF_id _ _ _).2]
      exact HO.out.short r hr
     ·exact HO.out.short r hr
    clear hat4 hb4
    go_wp2_with fail
    go_roundg (dueL now (S1.turn g (wakeD S1.q.next 2) (wakeN S1.q.next x.toProcP)).pure.procs).length
    case rel => exact ⟨_, HI.out.1⟩
    case measure => exact HI.out.2
   ·skip
    replace hcall := hcall 0
    have HCO : Hid (codeOf x.toProcP = 0) := by show codeOf x.toProcP = _; unfold codeOf; rw [if_pos (by simpa using e2)]
    go_wp2_with fail
    clear s3 e2
    refine hcall.mono ?_
    clear hcall
    rintro e w4 ⟨rfl, hat4, hb4⟩
    have HP : Hid ((S1.turn g (wakeD S1.q.next 0) (wakeN S1.q.next x.toProcP)).pure = wakeStep S1.pure x.toProcP) := by
     have h5 := OpenD.turn_pure2 (nx := wakeN S1.q.next x.toProcP) (f := wakeD S1.q.next 0) (f' := wakeF S1.q.next 0) HO.out.wk.rise (fun p hp hpg => HO.out.at'.procs.one hp HD.out.2 hpg) HD.out.2 (fun _ => rfl)
     refine h5.trans ?_
     unfold wakeStep
     rw [HCO.out]
     rfl
    have HI : Hid (WkI now base w S o (dueL now (S1.turn g (wakeD S1.q.next 0) (wakeN S1.q.next x.toProcP)).pure.procs).length (S1.turn g (wakeD S1.q.next 0) (wakeN S1.q.next x.toProcP)) w4 ∧ (dueL now (S1.turn g (wakeD S1.q.next 0) (wakeN S1.q.next x.toProcP)).pure.procs).length < gk) := by
     have hst := HO.out.wk.step HD.out.1
     have hc := HO.out.cnt
     have hbl := HO.out.bel.trans ((H3.out.mono (by have := HO.out.bel.size; have := H.out.2.2.2; omega)).trans hb4)
     refine ⟨⟨hat4, fits_turn HO.out.fits (fun y => (wakeF_id _ _ _).1), by rw [HP.out]; exact hst.1, by rw [HP.out, ← HO.out.same]; exact (woken_some HO.out.wk HD.out.1).symm, rfl, fun p hp => ?_, hbl⟩, by rw [HP.out]; omega⟩
     obtain ⟨r, hr, rfl⟩ := mem_upd.1 hp
     split
     ·show (wakeF _ _ r.1.toProcP).prog.length ≤ _
      rw [(wakeF_id _ _ _).2]
      exact HO.out.short r hr
     ·exact HO.out.short r hr
    clear hat4 hb4
    go_wp2_with fail
    go_roundg (dueL now (S1.turn g (wakeD S1.q.next 0) (wakeN S1.q.next x.toProcP)).pure.procs).length
    case rel => exact ⟨_, HI.out.1⟩
    case measure => exact HI.out.2
set_option maxRecDepth 100000 in
set_option maxHeartbeats 8000000 in
theorem implWoken_any (p : PartD) (now : Int) (w : World) (hg : p.Good w) :
  Calls Tryz.prog 56 #[.agg p.cells, .int .i64 now] w fun e w' => TurnRes w (wokenP p.pure now) e w' := by
 have b1 : Below w.heap.size w ((w.alloc (.cells p.cells 32)).alloc (.cells zero8 32)) := alloc2_below _ _ _
 have HB : Hid (p.Good ((w.alloc (.cells p.cells 32)).alloc (.cells zero8 32)) ∧ Below w.heap.size w ((w.alloc (.cells p.cells 32)).alloc (.cells zero8 32)) ∧ ((w.alloc (.cells p.cells 32)).alloc (.cells zero8 32)).heap[w.heap.size + 1]? = some (.cells zero8 32 (0, 0)) ∧ PartBox ((w.alloc (.cells p.cells 32)).alloc (.cells zero8 32)) w.heap.size p) := ⟨hg.below b1, b1, (alloc2_facts _ _ _).2, (alloc2_facts _ _ _).1⟩
 clear hg b1
 obtain ⟨m0, m1, m2, m3, m4, m5, m6, m7⟩ := HB.out.2.2.2.cells
 unfold PartD.cells at *
 go_enter Tryz.func56, Tryz.ntmps56
 go_wp2_with fail
 generalize (w.alloc (.cells #[.int .i64 p.id, .int .i64 p.next, .slice p.procA p.procs.length p.procC, .slice p.semA p.sems.length p.semC, .slice p.eventA p.events.length p.eventC, .slice p.boardA p.boards.length p.boardC, .slice p.bufferA p.buffers.length p.bufferC, .slice p.portA p.ports.length p.portC] 32)).alloc (.cells #[.int .i64 0, .int .i64 0, .slice none 0 0, .slice none 0 0, .slice none 0 0, .slice none 0 0, .slice none 0 0, .slice none 0 0] 32) = W at *
 clear m0 m1 m2 m3 m4 m5 m6 m7
 refine (opened_any p W HB.out.1).mono ?_
 rintro e w1 ⟨hb1, ⟨hno, rfl⟩ | ⟨hyes, o, S, rfl, hat, hpu⟩⟩
 ·have HZ : Hid (Below w.heap.size w w1 ∧ w1.heap[w.heap.size + 1]? = some (.cells zero8 32 (0, 0)) ∧ True) := ⟨HB.out.2.1.trans (hb1.mono HB.out.2.1.size), (hb1.block _ (Array.getElem?_eq_some_iff.1 HB.out.2.2.1).1).trans HB.out.2.2.1, trivial⟩
  have HN : Hid (wokenP p.pure now = none) := by show wokenP _ _ = none; simp [wokenP, partB_false hno]
  clear hb1 hno
  go_wp2_with (refine wpList_store_row rfl 32 (Operand.tmp 4) (Operand.tmp 21) rfl (w.heap.size + 1) _ _ zero8 rfl rfl HZ.out.2.1 (by kernel_rfl) rfl (by kernel_rfl) ?_)
  refine bodyPost_ret (v := .tuple #[.agg zero8, .bool false]) (results_row_tmp Tryz.results56 _ _ (w.heap.size + 1) _ _ _ _ (by rfl) (setRow_heap _ _ _ _ _ _ HZ.out.2.1) Tryz.underlying32 rfl (by kernel_rfl)) rfl ?_
  exact turnRes_no HN.out (below_setRow HZ.out.1 (by omega) _)
 have HZ : Hid (Below w.heap.size w w1 ∧ w1.heap[w.heap.size + 1]? = some (.cells zero8 32 (0, 0)) ∧ PartR S.pure ∧ OpenAt w1 W.heap.size o S ∧ S.pure = p.pure ∧ w.heap.size + 1 < W.heap.size ∧ W.heap.size ≤ w1.heap.size) := ⟨HB.out.2.1.trans (hb1.mono HB.out.2.1.size), (hb1.block _ (Array.getElem?_eq_some_iff.1 HB.out.2.2.1).1).trans HB.out.2.2.1, by rw [hpu]; exact hyes, hat, hpu, (Array.getElem?_eq_some_iff.1 HB.out.2.2.1).1, hb1.size⟩
 clear hb1 hyes hat hpu
 have HN0 : Hid (wokenP p.pure now = if inB now 0 1000000000 && decide (S.q.next ≤ 999999980) then some (wokenL now S.pure) else none) := by
  have h5 : p.pure.next = S.q.next := (congrArg PartP.next HZ.out.2.2.2.2.1).symm
  show wokenP _ _ = _
  unfold wokenP
  rw [h5, ← HZ.out.2.2.2.2.1, partB_true HZ.out.2.2.1, Bool.true_and]
 have hcall := wakeDue_any o W.heap.size S now w1 HZ.out.2.2.2.1 HZ.out.2.2.2.2.2.2 (open_fits HZ.out.2.2.1) HZ.out.2.2.1
 go_wp2_with fail
 refine hcall.mono ?_
 clear hcall
 rintro e w2 ⟨S2, rfl, hat2, hf2, hp2, hb2⟩
 have hlt := HZ.out.2.2.2.2.2.1
 have H2 : Hid (Below w.heap.size w w2 ∧ w2.heap[w.heap.size + 1]? = some (.cells zero8 32 (0, 0)) ∧ OpenAt w2 W.heap.size o S2 ∧ S2.Fits) := ⟨HZ.out.1.trans (hb2.mono (by omega)), (hb2.block _ hlt).trans HZ.out.2.1, hat2, hf2⟩
 cases hv : (inB now 0 1000000000 && decide (S.q.next ≤ 999999980))
 ·have HN : Hid (wokenP p.pure now = none) := by rw [hv] at HN0; exact HN0.out
  clear hat2 hf2 hp2 hb2 hv HN0
  go_wp2_with (refine wpList_store_row rfl 32 (Operand.tmp 4) (Operand.tmp 21) rfl (w.heap.size + 1) _ _ zero8 rfl rfl H2.out.2.1 (by kernel_rfl) rfl (by kernel_rfl) ?_)
  refine bodyPost_ret (v := .tuple #[.agg zero8, .bool false]) (results_row_tmp Tryz.results56 _ _ (w.heap.size + 1) _ _ _ _ (by rfl) (setRow_heap _ _ _ _ _ _ H2.out.2.1) Tryz.underlying32 rfl (by kernel_rfl)) rfl ?_
  exact turnRes_no HN.out (below_setRow H2.out.1 (by omega) _)
 have HN : Hid (wokenP p.pure now = some (wokenL now S.pure)) := by rw [hv] at HN0; exact HN0.out
 have HP : Hid (S2.pure = wokenL now S.pure) := hp2 hv
 clear hat2 hf2 hp2 hb2 hv HN0
 go_wp2_with fail
 refine (toldPart_any o W.heap.size S2 w2 H2.out.2.2.1 H2.out.2.2.2).mono ?_
 rintro e w3 ⟨r, rfl, ho3, hp3, hb3⟩
 have H3 : Hid (PartOwn w3 W.heap.size r ∧ Below w.heap.size w w3 ∧ w3.heap[w.heap.size + 1]? = some (.cells zero8 32 (0, 0)) ∧ r.pure = wokenL now S.pure) := ⟨ho3, H2.out.1.trans (hb3.mono H2.out.1.size), (hb3.block _ (Array.getElem?_eq_some_iff.1 H2.out.2.1).1).trans H2.out.2.1, hp3.trans HP.out⟩
 clear ho3 hp3 hb3
 go_wp2_with (refine wpList_store_row rfl 32 (Operand.tmp 4) (Operand.tmp 23) rfl (w.heap.size + 1) _ _ (PartD.cells r) rfl rfl H3.out.2.2.1 (by kernel_rfl) rfl (by kernel_rfl) ?_)
 refine bodyPost_ret (v := .tuple #[.agg (PartD.cells r), .bool true]) (results_row_tmp Tryz.results56 _ _ (w.heap.size + 1) _ _ _ _ (by rfl) (setRow_heap _ _ _ _ _ _ H3.out.2.2.1) Tryz.underlying32 rfl (by kernel_rfl)) rfl ?_
 rw [HN.out]
 exact ⟨r, rfl, (H3.out.1.lower (by omega)).same fun b hb => setRow_other _ _ _ _ (by have := (H3.out.1.lt b hb).1; omega), H3.out.2.2.2, below_setRow H3.out.2.1 (by omega) _⟩
end Go.Proofs.YtkbcplnlehdjfaaGreat

/- The specification of Woken. (Made by mkwokens4.py.) -/
namespace Go.Proofs.YtkbcplnlehdjfaaGreat
open Go.RowKit Go.Maps
attribute [local go_sem ↓] Go.wp_at_zero Go.wp_at_succ
set_option maxRecDepth 100000 in
set_option maxHeartbeats 2000000 in
theorem l4Room_any (p : PartD) (w : World) : Calls Tryz.prog 105 #[.agg p.cells] w fun e w' => e = .returned (.bool (decide (p.next ≤ 999999980))) ∧ Below w.heap.size w w' := by
 have HB : Hid (PartBox (w.alloc (.cells p.cells 32)) w.heap.size p ∧ Below w.heap.size w (w.alloc (.cells p.cells 32))) := ⟨heap_alloc_new _ _, (Below.refl _ _).alloc (Nat.le_refl _) _⟩
 unfold PartD.cells at *
 obtain ⟨-, m1, -⟩ := HB.out.1.cells
 go_enter Tryz.func105, Tryz.ntmps105
 go_wp2
 go_ret
 exact ⟨rfl, HB.out.2⟩
set_option maxRecDepth 100000 in
set_option maxHeartbeats 8000000 in
theorem specWoken_any (p : PartD) (now : Int) (w : World) (hf : p.Fit) (hs : ∀ x ∈ p.procs, x.Short) (h : PartD.At w p) :
  Calls Tryz.prog 57 #[.agg p.cells, .int .i64 now] w fun e w' => TurnRes w (wokenP p.pure now) e w' := by
 have b1 : Below w.heap.size w ((w.alloc (.cells p.cells 32)).alloc (.cells zero8 32)) := alloc2_below _ _ _
 have HB : Hid (PartBox ((w.alloc (.cells p.cells 32)).alloc (.cells zero8 32)) w.heap.size p ∧ PartD.At ((w.alloc (.cells p.cells 32)).alloc (.cells zero8 32)) p ∧ Below w.heap.size w ((w.alloc (.cells p.cells 32)).alloc (.cells zero8 32)) ∧ ((w.alloc (.cells p.cells 32)).alloc (.cells zero8 32)).heap[w.heap.size + 1]? = some (.cells zero8 32 (0, 0))) := ⟨(alloc2_facts _ _ _).1, h.below b1, b1, (alloc2_facts _ _ _).2⟩
 have HFT : Hid (p.Fit ∧ ∀ x ∈ p.procs, x.Short) := ⟨hf, hs⟩
 clear h hf hs b1
 unfold PartD.cells at *
 obtain ⟨m0, m1, m2, m3, m4, m5, m6, m7⟩ := HB.out.1.cells
 go_enter Tryz.func57, Tryz.ntmps57
 go_wp2_with fail
 generalize (w.alloc (.cells #[.int .i64 p.id, .int .i64 p.next, .slice p.procA p.procs.length p.procC, .slice p.semA p.sems.length p.semC, .slice p.eventA p.events.length p.eventC, .slice p.boardA p.boards.length p.boardC, .slice p.bufferA p.buffers.length p.bufferC, .slice p.portA p.ports.length p.portC] 32)).alloc (.cells #[.int .i64 0, .int .i64 0, .slice none 0 0, .slice none 0 0, .slice none 0 0, .slice none 0 0, .slice none 0 0, .slice none 0 0] 32) = W at *
 clear m0 m1 m2 m3 m4 m5 m6 m7
 refine (specPartOk_any p W HFT.out.1 HFT.out.2 HB.out.2.1).mono ?_
 rintro e W1 ⟨rfl, hb⟩
 replace HB : Hid (PartBox W1 w.heap.size p ∧ PartD.At W1 p ∧ Below w.heap.size w W1 ∧ W1.heap[w.heap.size + 1]? = some (.cells zero8 32 (0, 0))) := ⟨HB.out.1.below hb, HB.out.2.1.below hb, HB.out.2.2.1.trans (hb.mono HB.out.2.2.1.size), (hb.block _ (Array.getElem?_eq_some_iff.1 HB.out.2.2.2).1).trans HB.out.2.2.2⟩
 clear hb
 cases h4 : partB p.pure
 ·have HN : Hid (wokenP p.pure now = none) := by show wokenP _ _ = none; simp [wokenP, h4]
  clear h4
  go_wp2_with (refine wpList_store_row rfl 32 (Operand.tmp 4) (Operand.tmp 19) rfl (w.heap.size + 1) _ _ zero8 rfl rfl HB.out.2.2.2 (by kernel_rfl) rfl (by kernel_rfl) ?_)
  refine bodyPost_ret (v := .tuple #[.agg zero8, .bool false]) (results_row_tmp Tryz.results57 _ _ (w.heap.size + 1) _ _ _ _ (by rfl) (setRow_heap _ _ _ _ _ _ HB.out.2.2.2) Tryz.underlying32 rfl (by kernel_rfl)) rfl ?_
  exact turnRes_no HN.out (below_setRow HB.out.2.2.1 (by omega) _)
 have H4 : Hid (partB p.pure = true) := h4
 clear h4
 have hcall := l1In_any now 0 1000000000 W1
 go_wp2_with fail
 refine hcall.mono ?_
 clear hcall
 rintro e W2 ⟨rfl, rfl⟩
 cases h5 : inB now 0 1000000000
 ·have HN : Hid (wokenP p.pure now = none) := by show wokenP _ _ = none; simp [wokenP, h5]
  clear h5
  go_wp2_with (refine wpList_store_row rfl 32 (Operand.tmp 4) (Operand.tmp 19) rfl (w.heap.size + 1) _ _ zero8 rfl rfl HB.out.2.2.2 (by kernel_rfl) rfl (by kernel_rfl) ?_)
  refine bodyPost_ret (v := .tuple #[.agg zero8, .bool false]) (results_row_tmp Tryz.results57 _ _ (w.heap.size + 1) _ _ _ _ (by rfl) (setRow_heap _ _ _ _ _ _ HB.out.2.2.2) Tryz.underlying32 rfl (by kernel_rfl)) rfl ?_
  exact turnRes_no HN.out (below_setRow HB.out.2.2.1 (by omega) _)
 have H5 : Hid (inB now 0 1000000000 = true) := h5
 clear h5
 obtain ⟨m0, m1, m2, m3, m4, m5, m6, m7⟩ := HB.out.1.cells
 go_wp2_with fail
 clear m0 m1 m2 m3 m4 m5 m6 m7
 refine (l4Room_any p _).mono ?_
 rintro e W3 ⟨rfl, hb⟩
 replace HB : Hid (PartBox W3 w.heap.size p ∧ PartD.At W3 p ∧ Below w.heap.size w W3 ∧ W3.heap[w.heap.size + 1]? = some (.cells zero8 32 (0, 0))) := ⟨HB.out.1.below hb, HB.out.2.1.below hb, HB.out.2.2.1.trans (hb.mono HB.out.2.2.1.size), (hb.block _ (Array.getElem?_eq_some_iff.1 HB.out.2.2.2).1).trans HB.out.2.2.2⟩
 clear hb
 by_cases h6 : p.next ≤ 999999980
 rotate_left
 ·have HN : Hid (wokenP p.pure now = none) := by show wokenP _ _ = none; have h7 : decide (p.pure.next ≤ 999999980) = false := decide_eq_false h6; simp only [wokenP, h7, Bool.and_false]; rfl
  have d6 : decide (p.next ≤ 999999980) = false := decide_eq_false h6
  clear h6
  go_wp2_with (refine wpList_store_row rfl 32 (Operand.tmp 4) (Operand.tmp 19) rfl (w.heap.size + 1) _ _ zero8 rfl rfl HB.out.2.2.2 (by kernel_rfl) rfl (by kernel_rfl) ?_)
  refine bodyPost_ret (v := .tuple #[.agg zero8, .bool false]) (results_row_tmp Tryz.results57 _ _ (w.heap.size + 1) _ _ _ _ (by rfl) (setRow_heap _ _ _ _ _ _ HB.out.2.2.2) Tryz.underlying32 rfl (by kernel_rfl)) rfl ?_
  exact turnRes_no HN.out (below_setRow HB.out.2.2.1 (by omega) _)
 have HN : Hid (wokenP p.pure now = some (wokenL now p.pure)) := by show wokenP _ _ = some _; have h7 : decide (p.pure.next ≤ 999999980) = true := decide_eq_true h6; simp only [wokenP, H4.out, H5.out, h7, Bool.and_true]; rfl
 have HK : Hid (Wk now p.pure) := Wk.of ((partB_iff _).1 H4.out) h6
 have d6 : decide (p.next ≤ 999999980) = true := decide_eq_true h6
 clear h6
 obtain ⟨m0, m1, m2, m3, m4, m5, m6, m7⟩ := HB.out.1.cells
 go_wp2_with fail
 clear m0 m1 m2 m3 m4 m5 m6 m7 d6
 refine (l3Copy_any p W3 HFT.out.1 HFT.out.2 HB.out.2.1).mono ?_
 rintro e W4 ⟨q, rfl, hown, hpu, hb4⟩
 have hw3 : w.heap.size + 1 < W3.heap.size := (Array.getElem?_eq_some_iff.1 HB.out.2.2.2).1
 have hsq : ∀ x ∈ q.procs, x.prog.length ≤ 1048576 := fun x hx => by
  have h5 : x.toProcP ∈ p.pure.procs := by rw [← hpu]; exact List.mem_map.2 ⟨x, hx, rfl⟩
  obtain ⟨y, hy, e⟩ := List.mem_map.1 h5
  have h6 := (HFT.out.2 y hy).1
  have h7 : y.prog = x.prog := congrArg ProcP.prog e
  rw [← h7]; exact h6
 have hcall := l4Woken_any q now W3.heap.size W4 hown hb4.size (by rw [hpu]; exact HK.out) hsq
 rw [hpu] at hcall
 have H7 : Hid (Below w.heap.size w W4 ∧ W4.heap[w.heap.size + 1]? = some (.cells zero8 32 (0, 0)) ∧ w.heap.size + 1 < W3.heap.size) := ⟨HB.out.2.2.1.trans (hb4.mono HB.out.2.2.1.size), (hb4.block _ hw3).trans HB.out.2.2.2, hw3⟩
 clear hown hpu hb4 hw3 hsq HB
 unfold PartD.cells at *
 go_wp2_with fail
 refine hcall.mono ?_
 clear hcall
 rintro e W5 ⟨q2, rfl, hp2, ho2, hb2⟩
 have hw3 := H7.out.2.2
 have H8 : Hid (PartOwn W5 W3.heap.size q2 ∧ q2.pure = wokenL now p.pure ∧ Below w.heap.size w W5 ∧ W5.heap[w.heap.size + 1]? = some (.cells zero8 32 (0, 0))) := ⟨ho2, hp2, H7.out.1.trans (hb2.mono (by omega)), (hb2.block _ hw3).trans H7.out.2.1⟩
 clear ho2 hp2 hb2
 go_wp2_with (refine wpList_store_row rfl 32 (Operand.tmp 4) (Operand.tmp 23) rfl (w.heap.size + 1) _ _ q2.cells rfl rfl H8.out.2.2.2 (by kernel_rfl) rfl (by kernel_rfl) ?_)
 refine bodyPost_ret (v := .tuple #[.agg q2.cells, .bool true]) (results_row_tmp Tryz.results57 _ _ (w.heap.size + 1) _ _ _ _ (by rfl) (setRow_heap _ _ _ _ _ _ H8.out.2.2.2) Tryz.underlying32 rfl (by kernel_rfl)) rfl ?_
 rw [HN.out]
 exact ⟨q2, rfl, (H8.out.1.lower (by omega)).same fun g hg => setRow_other _ _ _ _ (by have := (H8.out.1.lt g hg).1; omega), H8.out.2.1, below_setRow H8.out.2.2.1 (by omega) _⟩
end Go.Proofs.YtkbcplnlehdjfaaGreat

/- The exact law of Woken, called at any partition: true, and nothing that was there is changed. (Made by mkexactlaw2.py.) -/
namespace Go.Proofs.YtkbcplnlehdjfaaGreat
open Go.RowKit
attribute [local go_sem ↓] Go.wp_at_zero Go.wp_at_succ
set_option maxRecDepth 100000 in
set_option maxHeartbeats 8000000 in
theorem wokenLaw_any (p : PartD) (now : Int) (w : World) (hb : p.Big) (hc : p.Came w) (hi : p.Ints) :
  Calls Tryz.prog 19 #[.agg p.cells, .int .i64 now] w fun e w' => e = .returned (.bool true) ∧ Below w.heap.size w w' := by
 have HB : Hid (p.Big ∧ p.Ints) := ⟨hb, hi⟩
 have HC : Hid (p.Came w) := hc
 have HX : Hid (SrcS p w (w.alloc (.cells p.cells 73))) := ⟨heap_alloc_new _ _, (Below.refl _ _).alloc (Nat.le_refl _) _⟩
 clear hb hc hi
 unfold PartD.cells at *
 go_enter Tryz.func19, Tryz.ntmps19
 go_wp2_with fail
 generalize w.alloc (.cells #[.int .i64 p.id, .int .i64 p.next, .slice p.procA p.procs.length p.procC, .slice p.semA p.sems.length p.semC, .slice p.eventA p.events.length p.eventC, .slice p.boardA p.boards.length p.boardC, .slice p.bufferA p.buffers.length p.bufferC, .slice p.portA p.ports.length p.portC] 73) = W0 at *
 refine (szPart_l p 1048576 W0 HB.out.1 (HC.out.below HX.out.2) (by omega) (by omega)).mono ?_
 rintro e W1 ⟨r, rfl, r0, r1, hr, hb⟩
 replace HX := upX HX hb
 clear hb
 by_cases hneg : r < 0
 ·go_wp2
  go_ret
  exact ⟨rfl, HX.out.2⟩
 have HSM : Hid (p.Shorts ∧ p.pure.Small ∧ p.pure.total ≤ 1048576) := ⟨(hr (by omega)).1, small_of (hr (by omega)).1 HB.out.2, by have := (hr (by omega)).2; omega⟩
 clear hr
 obtain ⟨ok, hok⟩ : ∃ b : Bool, (wokenP p.pure now).isSome = b := ⟨_, rfl⟩
 have HOK : Hid ((wokenP p.pure now).isSome = ok) := hok
 clear hok
 have dn : (ok != ok) = false := by simp
 obtain ⟨PU, hpu⟩ : ∃ P, (wokenP p.pure now).getD zeroPart = P := ⟨_, rfl⟩
 have HPU : Hid ((wokenP p.pure now).getD zeroPart = PU) := hpu
 clear hpu
 obtain ⟨m0, m1, m2, m3, m4, m5, m6, m7⟩ := srcCells HX.out.1
 go_wp2_with fail
 clear m0 m1 m2 m3 m4 m5 m6 m7
 refine (toPart_l p W1 HSM.out.1 (HC.out.below HX.out.2)).mono ?_
 rintro e W2 ⟨p2, rfl, ho, hp, hb⟩
 have HQ : Hid (PartOwn W2 W1.heap.size p2 ∧ p2.pure = p.pure ∧ p2.pure.Small) := ⟨ho, hp, by rw [hp]; exact HSM.out.2.1⟩
 replace HX := upX HX hb
 clear ho hp hb
 go_wp2_with fail
 refine (specWoken_any p2 now W2 (small_fit HQ.out.2.2) (fun x hx => (small_proc HQ.out.2.2 hx).1) HQ.out.1.at).mono ?_
 rintro e V3 hE
 rw [HQ.out.2.1] at hE
 obtain ⟨r3, rfl, ho, hp, hb⟩ := hE
 rw [HOK.out]
 have hb2 : Below W2.heap.size W2 (V3.alloc (.cells r3.cells 32)) := hb.alloc hb.size _
 have H3 : Hid (PartIn (V3.alloc (.cells r3.cells 32)) V3.heap.size W2.heap.size r3) := ⟨heap_alloc_new _ _, ho.below ((Below.refl _ _).alloc (Nat.le_refl _) _)⟩
 have HP3 : Hid (r3.pure = PU) := hp.trans HPU.out
 have HR : Hid ((∀ g ∈ r3.blocks, w.heap.size < g ∧ g < V3.heap.size) ∧ w.heap.size < V3.heap.size) := by
  have h5 := (Array.getElem?_eq_some_iff.1 HX.out.1).1
  have h6 := hb.size
  exact ⟨fun g hg => by have := (ho.lt g hg); omega, by omega⟩
 clear ho hp HQ
 replace HX := upX HX hb2
 obtain ⟨m0, m1, m2, m3, m4, m5, m6, m7⟩ := srcCells HX.out.1
 unfold PartD.cells at *
 go_wp2_with fail
 clear m0 m1 m2 m3 m4 m5 m6 m7
 generalize V3.alloc (.cells #[.int .i64 r3.id, .int .i64 r3.next, .slice r3.procA r3.procs.length r3.procC, .slice r3.semA r3.sems.length r3.semC, .slice r3.eventA r3.events.length r3.eventC, .slice r3.boardA r3.boards.length r3.boardC, .slice r3.bufferA r3.buffers.length r3.bufferC, .slice r3.portA r3.ports.length r3.portC] 32) = W3 at *
 have hxl := H3.out.1.lt
 generalize V3.heap.size = X3 at *
 clear hb2 hb
 refine (toPart_l p W3 HSM.out.1 (HC.out.below HX.out.2)).mono ?_
 rintro e V4 ⟨p4, rfl, ho, hp, hb⟩
 have hb2 : Below W3.heap.size W3 (V4.alloc (.cells p4.cells 32)) := hb.alloc hb.size _
 have H4 : Hid (PartIn (V4.alloc (.cells p4.cells 32)) V4.heap.size W3.heap.size p4) := ⟨heap_alloc_new _ _, ho.below ((Below.refl _ _).alloc (Nat.le_refl _) _)⟩
 have HP4 : Hid (p4.pure = p.pure ∧ p4.pure.Small ∧ (∀ g ∈ p4.blocks, X3 < g ∧ g < V4.heap.size) ∧ X3 < V4.heap.size) := ⟨hp, by rw [hp]; exact HSM.out.2.1, fun g hg => by have := ho.lt g hg; omega, by have := hb.size; omega⟩
 replace HX := upX HX hb2
 replace H3 := upI H3 hb2
 obtain ⟨b0, b1, b2, b3, b4, b5, b6, b7⟩ := H4.out.1.cells
 unfold PartD.cells at *
 go_wp2_with fail
 clear b0 b1 b2 b3 b4 b5 b6 b7
 generalize V4.alloc (.cells #[.int .i64 p4.id, .int .i64 p4.next, .slice p4.procA p4.procs.length p4.procC, .slice p4.semA p4.sems.length p4.semC, .slice p4.eventA p4.events.length p4.eventC, .slice p4.boardA p4.boards.length p4.boardC, .slice p4.bufferA p4.buffers.length p4.bufferC, .slice p4.portA p4.ports.length p4.portC] 32) = W4 at *
 have hxl4 := H4.out.1.lt
 generalize V4.heap.size = X4 at *
 clear hb2 hb ho hp hxl
 refine (implWoken_any p4 now W4 (small_good HP4.out.2.1 H4.out.2)).mono ?_
 rintro e V5 hE
 rw [HP4.out.1] at hE
 obtain ⟨r5, rfl, ho, hp, hb⟩ := hE
 rw [HOK.out]
 have hb2 : Below W4.heap.size W4 (V5.alloc (.cells r5.cells 32)) := hb.alloc hb.size _
 have H5 : Hid (PartIn (V5.alloc (.cells r5.cells 32)) V5.heap.size W4.heap.size r5) := ⟨heap_alloc_new _ _, ho.below ((Below.refl _ _).alloc (Nat.le_refl _) _)⟩
 have HP5 : Hid (r5.pure = PU ∧ (∀ g ∈ r5.blocks, X4 < g ∧ g < V5.heap.size) ∧ X4 < V5.heap.size) := ⟨hp.trans HPU.out, fun g hg => by have := ho.lt g hg; omega, by have := hb.size; omega⟩
 clear ho hp hxl4
 replace HX := upX HX hb2
 replace H3 := upI H3 hb2
 replace H4 := upI H4 hb2
 obtain ⟨v0, v1, v2, v3, v4, v5, v6, v7⟩ := H3.out.1.cells
 unfold PartD.cells at *
 go_wp2_with fail
 clear v0 v1 v2 v3 v4 v5 v6 v7
 generalize V5.alloc (.cells #[.int .i64 r5.id, .int .i64 r5.next, .slice r5.procA r5.procs.length r5.procC, .slice r5.semA r5.sems.length r5.semC, .slice r5.eventA r5.events.length r5.eventC, .slice r5.boardA r5.boards.length r5.boardC, .slice r5.bufferA r5.buffers.length r5.bufferC, .slice r5.portA r5.ports.length r5.portC] 32) = W5 at *
 generalize V5.heap.size = X5 at *
 clear hb2 hb
 have HE : Hid (r3.pure = r5.pure) := HP3.out.trans HP5.out.1.symm
 have HL : Hid (r5.pure.Small) := by rw [HP5.out.1, ← HPU.out]; exact (woken_cases HSM.out.2.1).1
 refine (eqPart_l r5 r3 W5 HL.out HE.out H5.out.2.at H3.out.2.at).mono ?_
 rintro e W6 ⟨rfl, hb⟩
 replace HX := upX HX hb
 replace H3 := upI H3 hb
 replace H4 := upI H4 hb
 replace H5 := upI H5 hb
 clear hb
 go_wp2_with fail
 refine wp_region_held_drew (S := fun w' => PartBox w' X4 p4 ∧ w'.heap[w.heap.size]? = some (.cells p.cells 73 (0, 0))) (by kernel_rfl) ⟨H4.out.1, HX.out.1⟩ (fun hHeld => ?_)
 refine tkr 0 (v := .agg p4.cells) rfl (yieldsIf_row (by rfl) 32 _ rfl X4 (by rfl) 32 _ _ (fun _ h => h.1) Tryz.underlying32 rfl (by kernel_rfl)) hHeld ?_; simp only [pt, sb, s0, s1]
 refine tkr 1 (v := .agg p.cells) rfl (yieldsIf_row (by rfl) 73 _ rfl w.heap.size (by rfl) 73 _ _ (fun _ h => h.2) Tryz.underlying73 rfl (by kernel_rfl)) hHeld ?_; simp only [pt, sb, s0, s1]
 refine wpAnyH_ready (rs := [2]) (by kernel_rfl) (by simp) ?_
 refine AllReadyH.cons rfl (fun K hK => ?_) AllReadyH.nil
 simp only [ga, gz, gs]; rw [if_pos (by rfl)]
 go_wp2_with fail
 refine (toPart_l p W6.drew HSM.out.1 (HC.out.below HX.out.2.drew)).mono ?_
 rintro e W7 ⟨p6, rfl, ho, hp, hb2⟩
 have hb : Below W6.heap.size W6 W7 := below_undrew' hb2
 have H7 : Hid (PartD.At W7 p6 ∧ p6.pure = p4.pure) := ⟨ho.at, by rw [hp, HP4.out.1]⟩
 replace HX := upX HX hb
 replace H3 := upI H3 hb
 replace H4 := upI H4 hb
 replace H5 := upI H5 hb
 clear hb hb2 ho hp hHeld
 refine hK.out _ _ ⟨H4.out.1, HX.out.1⟩ (fun hHeld => ?_); clear hK K; try simp only [pt, sb, s0, s1]
 refine wpAnyH_ready (rs := [3]) (by kernel_rfl) (by simp) ?_
 refine AllReadyH.cons rfl (fun K hK => ?_) AllReadyH.nil
 simp only [ga, gz, gs]; rw [if_pos (by rfl)]
 go_wp2_with fail
 refine (eqPart_l p4 p6 W7 HP4.out.2.1 H7.out.2 H4.out.2.at H7.out.1).mono ?_
 rintro e W8 ⟨rfl, hb⟩
 replace HX := upX HX hb
 replace H3 := upI H3 hb
 replace H4 := upI H4 hb
 replace H5 := upI H5 hb
 clear hb H7
 refine hK.out _ _ ⟨H4.out.1, HX.out.1⟩ (fun hHeld => ?_); clear hK K; try simp only [pt, sb, s0, s1]
 refine tkr 4 (v := .bool false) rfl (Or.inl ⟨by rfl, fun _ _ => rfl⟩) ⟨H4.out.1, HX.out.1⟩ ?_; simp only [pt, sb, s0, s1]
 refine wpAnyH_done (by kernel_rfl) ?_ _
 clear hHeld
 obtain ⟨b0, b1, b2, b3, b4, b5, b6, b7⟩ := H4.out.1.cells
 have HCT : Hid (1 + (cntPart p4 : Nat) ≤ (90000000 : Int)) := by have h5 := cnt_part p4; rw [HP4.out.1] at h5; have h6 := HSM.out.2.2; show (1 : Int) + _ ≤ _; omega
 go_wp2_with fail
 clear b0 b1 b2 b3 b4 b5 b6 b7
 refine (markPart_l p4 1 W8 W3.heap.size (small_cnt HP4.out.2.1) (by omega) HCT.out H4.out.2).mono ?_
 rintro e M9 ⟨rfl, -, hkb⟩
 have hrw := HR.out
 have hr4 := HP4.out.2.2
 have hr5 := HP5.out.2
 replace HX : Hid (SrcS p w M9) := HX.out.kept hkb fun g hm => by have := hr4.1 g hm; omega
 replace H3 : Hid (PartIn M9 X3 W2.heap.size r3) := H3.out.kept hkb (fun hm => by have := hr4.1 _ hm; omega) (fun g hg hm => by have := hr4.1 g hm; have := hrw.1 g hg; omega)
 replace H5 : Hid (PartIn M9 X5 W4.heap.size r5) := H5.out.kept hkb (fun hm => by have := hr4.1 _ hm; omega) (fun g hg hm => by have := hr4.1 g hm; have := hr5.1 g hg; omega)
 clear H4 hkb hrw hr4 hr5
 have nn : decide ((1 : Int) + (cntPart p4 : Nat) < 0) = false := decide_eq_false (by omega)
 obtain ⟨u0, u1, u2, u3, u4, u5, u6, u7⟩ := H5.out.1.cells
 obtain ⟨v0, v1, v2, v3, v4, v5, v6, v7⟩ := H3.out.1.cells
 go_wp2_with fail
 clear u0 u1 u2 u3 u4 u5 u6 u7
 clear v0 v1 v2 v3 v4 v5 v6 v7
 clear nn
 refine (eqPart_l r5 r3 M9 HL.out HE.out H5.out.2.at H3.out.2.at).mono ?_
 rintro e W10 ⟨rfl, hb⟩
 replace HX := upX HX hb
 replace H3 := upI H3 hb
 replace H5 := upI H5 hb
 clear hb
 obtain ⟨u0, u1, u2, u3, u4, u5, u6, u7⟩ := H5.out.1.cells
 go_wp2_with fail
 clear u0 u1 u2 u3 u4 u5 u6 u7
 have HCR : Hid (1 + (cntPart r5 : Nat) ≤ (90000000 : Int)) := by have h5 := cnt_part r5; have h6 : r5.pure.total ≤ 1048577 := (by rw [HP5.out.1, ← HPU.out]; exact Nat.le_trans (woken_cases HSM.out.2.1).2 (by have h7 := HSM.out.2.2; omega)); show (1 : Int) + _ ≤ _; omega
 refine (markPart_l r5 1 W10 W4.heap.size (small_cnt HL.out) (by omega) HCR.out H5.out.2).mono ?_
 rintro e W11 ⟨rfl, hmk, hkb⟩
 have hrw := HR.out
 have hr4 := HP4.out.2.2
 have hr5 := HP5.out.2
 replace HX : Hid (SrcS p w W11) := HX.out.kept hkb fun g hm => by have := hr5.1 g hm; omega
 replace H3 : Hid (PartIn W11 X3 W2.heap.size r3) := H3.out.kept hkb (fun hm => by have := hr5.1 _ hm; omega) (fun g hg hm => by have := hr5.1 g hm; have := hrw.1 g hg; omega)
 have HB5 : Hid (PartBox W11 X5 r5) := (hkb.same _ H5.out.1.lt fun hm => by have := hr5.1 _ hm; omega).trans H5.out.1
 have HM : Hid (PartOwn W11 W4.heap.size (mkPart 1 r5)) := hmk
 clear H5 hkb hmk hrw hr4 hr5
 obtain ⟨u0, u1, u2, u3, u4, u5, u6, u7⟩ := HB5.out.cells
 go_wp2_with fail
 clear u0 u1 u2 u3 u4 u5 u6 u7
 refine (heldPart_l r5 1 W11 (small_cnt HL.out) (by omega) HCR.out HM.out.at).mono ?_
 rintro e W12 ⟨rfl, hb⟩
 replace HX := upX HX hb
 replace H3 := upI H3 hb
 replace HB5 := upB HB5 hb
 replace HM := upM HM hb
 clear hb
 have nq : ¬ (1 : Int) + (cntPart r5 : Nat) < 0 := by omega
 have nd : ((1 : Int) + (cntPart r5 : Nat) != 1 + (cntPart r5 : Nat)) = false := by simp
 obtain ⟨m0, m1, m2, m3, m4, m5, m6, m7⟩ := srcCells HX.out.1
 go_wp2_with fail
 clear m0 m1 m2 m3 m4 m5 m6 m7
 refine (toPart_l p W12 HSM.out.1 (HC.out.below HX.out.2)).mono ?_
 rintro e W13 ⟨p13, rfl, ho, hp, hb⟩
 have HQ : Hid (PartOwn W13 W12.heap.size p13 ∧ p13.pure = p.pure ∧ p13.pure.Small) := ⟨ho, hp, by rw [hp]; exact HSM.out.2.1⟩
 replace HX := upX HX hb
 replace H3 := upI H3 hb
 replace HB5 := upB HB5 hb
 replace HM := upM HM hb
 clear ho hp hb
 go_wp2_with fail
 refine (implWoken_any p13 now W13 (small_good HQ.out.2.2 HQ.out.1)).mono ?_
 rintro e V14 hE
 rw [HQ.out.2.1] at hE
 obtain ⟨r14, rfl, ho, hp14, hb⟩ := hE
 rw [HOK.out]
 have hb2 : Below W13.heap.size W13 (V14.alloc (.cells r14.cells 32)) := hb.alloc hb.size _
 have H14 : Hid (PartIn (V14.alloc (.cells r14.cells 32)) V14.heap.size W13.heap.size r14) := ⟨heap_alloc_new _ _, ho.below ((Below.refl _ _).alloc (Nat.le_refl _) _)⟩
 have HE14 : Hid (r3.pure = r14.pure) := HP3.out.trans (hp14.trans HPU.out).symm
 have HL14 : Hid (r14.pure.Small) := by rw [hp14]; exact (woken_cases HSM.out.2.1).1
 clear ho hp14 HQ
 replace HX := upX HX hb2
 replace H3 := upI H3 hb2
 replace HB5 := upB HB5 hb2
 replace HM := upM HM hb2
 obtain ⟨v0, v1, v2, v3, v4, v5, v6, v7⟩ := H3.out.1.cells
 unfold PartD.cells at *
 go_wp2_with fail
 clear v0 v1 v2 v3 v4 v5 v6 v7
 generalize V14.alloc (.cells #[.int .i64 r14.id, .int .i64 r14.next, .slice r14.procA r14.procs.length r14.procC, .slice r14.semA r14.sems.length r14.semC, .slice r14.eventA r14.events.length r14.eventC, .slice r14.boardA r14.boards.length r14.boardC, .slice r14.bufferA r14.buffers.length r14.bufferC, .slice r14.portA r14.ports.length r14.portC] 32) = W14 at *
 generalize V14.heap.size = X14 at *
 clear hb2 hb
 refine (eqPart_l r14 r3 W14 HL14.out HE14.out H14.out.2.at H3.out.2.at).mono ?_
 rintro e W15 ⟨rfl, hb⟩
 replace HX := upX HX hb
 replace H3 := upI H3 hb
 replace HB5 := upB HB5 hb
 replace HM := upM HM hb
 clear hb
 obtain ⟨u0, u1, u2, u3, u4, u5, u6, u7⟩ := HB5.out.cells
 go_wp2_with fail
 clear u0 u1 u2 u3 u4 u5 u6 u7
 refine (heldPart_l r5 1 W15 (small_cnt HL.out) (by omega) HCR.out HM.out.at).mono ?_
 rintro e W16 ⟨rfl, hb⟩
 replace HX := upX HX hb
 replace H3 := upI H3 hb
 replace HB5 := upB HB5 hb
 replace HM := upM HM hb
 clear hb
 go_wp2
 go_ret
 exact ⟨rfl, HX.out.2⟩
end Go.Proofs.YtkbcplnlehdjfaaGreat
