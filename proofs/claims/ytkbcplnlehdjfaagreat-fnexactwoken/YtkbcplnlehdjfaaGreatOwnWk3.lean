/- What the proof leans on, part 3: WkGo, WkAll. -/
import Derived.Test.YtkbcplnlehdjfaaGreatOwnWk0
import Derived.Test.YtkbcplnlehdjfaaGreatOwnWk1
import Derived.Test.YtkbcplnlehdjfaaGreatOwnWk2
import Derived.Deep.LoopGhost

namespace Go.Proofs.YtkbcplnlehdjfaaGreat
open Go.RowKit Go.Maps
attribute [local go_sem ↓] Go.wp_at_zero Go.wp_at_succ
theorem OpenAt.turn2 {w w' : World} {base o g : Nat} {S : OpenD} {f : ProcD → ProcD} {nx : Int} (h : OpenAt w base o S) (hf : ∀ x, (f x).id = x.id ∧ (f x).prog = x.prog ∧ (f x).progA = x.progA ∧ (f x).progC = x.progC)
  (hc : ∀ p ∈ S.lp, p.2 = g → w'.heap[g]? = some (.cells (procVs (f p.1)) 43 (0, 0))) (hg : g ∈ S.lp.map (·.2)) (ho : OpenBox w' o { S.q with next := nx }) (hs : ∀ b ∈ S.boxes ++ S.kids, b ≠ g → b ≠ o → w'.heap[b]? = w.heap[b]?) : OpenAt w' base o (S.turn g f nx) := by
 have hkid : ∀ x, procN.kid (f x) = procN.kid x := fun x => by show (f x).progA.map (·.block) = x.progA.map (·.block); rw [(hf x).2.2.1]
 have hn := h.nodup
 have hno := (List.nodup_cons.1 hn).1
 have hbk := (List.nodup_append.1 (List.nodup_cons.1 hn).2)
 have hb6 := hbk.1
 unfold OpenD.boxes at hb6
 have hin : ∀ b, b ∈ S.boxes ∨ b ∈ S.kids → b ≠ o := fun b hb e => hno (by rw [← e]; exact List.mem_append.2 hb)
 have hp := List.nodup_append.1 hb6
 have hgp : g ∈ S.q.bp :: S.lp.map (·.2) := List.mem_cons_of_mem _ hg
 have hgr : ∀ b, b ∈ ((S.q.bs :: S.ls.map (·.2)) ++ ((S.q.be :: S.le.map (·.2)) ++ ((S.q.bb :: S.lb.map (·.2)) ++ ((S.q.bf :: S.lf.map (·.2)) ++ (S.q.bq :: S.lq.map (·.2)))))) → b ≠ g := fun b hb e => hp.2.2 g hgp b hb e.symm
 have hgk : ∀ b ∈ S.kids, b ≠ g := fun b hb e => hbk.2.2 g (by unfold OpenD.boxes; exact List.mem_append_left _ hgp) b hb e.symm
 have hbp : S.q.bp ≠ g := fun e => by
  have := (List.nodup_cons.1 hp.1).1
  rw [e] at this
  exact this hg
 have hbx : ∀ b, b ∈ (S.q.bp :: S.lp.map (·.2)) → b ≠ o := fun b hb => hin b (.inl (by unfold OpenD.boxes; exact List.mem_append_left _ hb))
 have hbr : ∀ b, b ∈ ((S.q.bs :: S.ls.map (·.2)) ++ ((S.q.be :: S.le.map (·.2)) ++ ((S.q.bb :: S.lb.map (·.2)) ++ ((S.q.bf :: S.lf.map (·.2)) ++ (S.q.bq :: S.lq.map (·.2)))))) → w'.heap[b]? = w.heap[b]? := fun b hb => hs b (List.mem_append_left _ (by unfold OpenD.boxes; exact List.mem_append_right _ hb)) (hgr b hb) (hin b (.inl (by unfold OpenD.boxes; exact List.mem_append_right _ hb)))
 have hkk : ∀ b ∈ S.kids, w'.heap[b]? = w.heap[b]? := fun b hb => hs b (List.mem_append_right _ hb) (hgk b hb) (hin b (.inr hb))
 have hmem : ∀ (b : Nat), (b ∈ kids procN S.lp ∨ b ∈ kids bufferN S.lf ∨ b ∈ kids portN S.lq) → b ∈ S.kids := fun b hb => by simp only [OpenD.kids, List.mem_append]; exact hb
 refine ⟨ho, h.procs.upd (fun p _ _ => (hf p.1).1) hc (hs _ (List.mem_append_left _ (by unfold OpenD.boxes; exact List.mem_append_left _ (by simp))) hbp (hbx _ (by simp))) (fun b hb hne => hs b (List.mem_append_left _ (by unfold OpenD.boxes; exact List.mem_append_left _ (List.mem_cons_of_mem _ hb))) hne (hbx b (List.mem_cons_of_mem _ hb))), h.sems.same fun b hb => hbr b (List.mem_append_left _ hb), h.events.same fun b hb => hbr b (List.mem_append_right _ (List.mem_append_left _ hb)), h.boards.same fun b hb => hbr b (List.mem_append_right _ (List.mem_append_right _ (List.mem_append_left _ hb))), h.buffers.same fun b hb => hbr b (List.mem_append_right _ (List.mem_append_right _ (List.mem_append_right _ (List.mem_append_left _ hb)))), h.ports.same fun b hb => hbr b (List.mem_append_right _ (List.mem_append_right _ (List.mem_append_right _ (List.mem_append_right _ hb)))), fun p hp' => ?_, fun p hp' => (h.mineF p hp').same fun b hb => hkk b (hmem b (.inr (.inl (List.mem_filterMap.2 ⟨p, hp', hb⟩)))), fun p hp' => (h.mineQ p hp').same fun b hb => hkk b (hmem b (.inr (.inr (List.mem_filterMap.2 ⟨p, hp', hb⟩)))), ?_, h.low⟩
 ·obtain ⟨r, hr, rfl⟩ := mem_upd.1 hp'
  have hm : procN.Mine w' base r.1 := (h.mineP r hr).same fun b hb => hkk b (hmem b (.inl (List.mem_filterMap.2 ⟨r, hr, hb⟩)))
  split
  ·show w'.ownsRow base _ 4 (.slice (f r.1).progA (f r.1).prog.length (f r.1).progC) (f r.1).prog.length (opK.flat (f r.1).prog)
   rw [(hf r.1).2.1, (hf r.1).2.2.1, (hf r.1).2.2.2]
   exact hm
  ·exact hm
 ·have e1 : (S.turn g f nx).boxes = S.boxes := by simp only [OpenD.boxes, OpenD.turn, upd_blocks]
  have e2 : (S.turn g f nx).kids = S.kids := by simp only [OpenD.kids, OpenD.turn, upd_kids hkid]
  rw [e1, e2]
  exact hn
theorem OpenD.turn_pure2 {S : OpenD} {g : Nat} {x : ProcD} {f : ProcD → ProcD} {f' : ProcP → ProcP} {nx : Int} (hrise : S.pure.procs.Pairwise (fun x y => x.id < y.id)) (hn : ∀ p ∈ S.lp, p.2 = g → p = (x, g)) (hx : (x, g) ∈ S.lp) (hf : ∀ y, (f y).toProcP = f' y.toProcP) :
  (S.turn g f nx).pure = { S.pure with next := nx, procs := turnP x.id f' S.pure.procs } := by
 have key : (upd g f S.lp).map (·.1.toProcP) = turnP x.id f' (S.lp.map (·.1.toProcP)) := by
  unfold upd turnP
  rw [List.map_map, List.map_map]
  refine List.map_congr_left fun p hp => ?_
  simp only [Function.comp_def]
  by_cases hg : p.2 = g
  ·have hpx := hn p hp hg
   subst hpx
   rw [if_pos rfl, if_pos rfl]
   exact hf x
  ·rw [if_neg hg]
   have hne : ¬ p.1.toProcP.id = x.id := fun e => by
    have h5 : S.pure.procs.Pairwise (fun a b => a.id < b.id) := hrise
    have h6 : (S.lp.map (·.1.toProcP)).Pairwise (fun a b => a.id < b.id) := h5
    rw [List.pairwise_map] at h6
    obtain ⟨i, hi⟩ := List.mem_iff_getElem?.1 hp
    obtain ⟨j, hj⟩ := List.mem_iff_getElem?.1 hx
    obtain ⟨hi1, rfl⟩ := List.getElem?_eq_some_iff.1 hi
    obtain ⟨hj1, hj2⟩ := List.getElem?_eq_some_iff.1 hj
    rw [List.pairwise_iff_getElem] at h6
    have hxid : (S.lp[j]).1.id = x.id := by rw [hj2]
    rcases Nat.lt_trichotomy i j with hlt | heq | hgt
    ·have h7 : (S.lp[i]).1.id < (S.lp[j]).1.id := h6 i j hi1 hj1 hlt
     have h8 : (S.lp[i]).1.id = x.id := e
     omega
    ·subst heq; exact hg (by rw [hj2])
    ·have h7 : (S.lp[j]).1.id < (S.lp[i]).1.id := h6 j i hj1 hi1 hgt
     have h8 : (S.lp[i]).1.id = x.id := e
     omega
   rw [if_neg hne]
 show ({ S.pure with next := nx, procs := (upd g f S.lp).map (·.1.toProcP) } : PartP) = _
 rw [key]
 rfl
theorem KeptBut.cell {w : World} {g i : Nat} {v : Value} : KeptBut w (w.setCell ⟨g, i, none⟩ v) [g] := KeptBut.set (off := i) [v] (by simp)
theorem KeptBut.row {w : World} {g : Nat} {cs : Array Value} : KeptBut w (w.drew.setRow g cs) [g] := by
 have h := below_setRow (g := g) (Below.refl 0 w).drew (Nat.zero_le _) cs
 exact ⟨h.os, h.tape, h.output, h.size, fun b _ hn => setRow_other _ _ _ _ (by simpa using hn)⟩
set_option maxRecDepth 100000 in
set_option maxHeartbeats 4000000 in
theorem goPast_any (g : Nat) (x : ProcD) (code : Int) (w : World) (h : w.heap[g]? = some (.cells (procVs x) 43 (0, 0))) (hpc : 0 ≤ x.pc ∧ x.pc < x.prog.length) (hl : x.prog.length ≤ 1048576) :
  Calls Tryz.prog 218 #[.pointer (some ⟨g, 0, none⟩), .int .i64 code] w fun e w' => e = .returned (.tuple #[]) ∧ w'.heap[g]? = some (.cells (procVs (pastD code x)) 43 (0, 0)) ∧ KeptBut w w' [g] := by
 have h1 : (w.setCell ⟨g, 10, none⟩ (.int .i64 code)).heap[g]? = some (.cells (procVs ({ x with code := code } : ProcD)) 43 (0, 0)) := setCell_block (i := 10) (v := .int .i64 code) h
 have h2 : ((w.setCell ⟨g, 10, none⟩ (.int .i64 code)).setCell ⟨g, 4, none⟩ (.int .i64 (x.pc + 1))).heap[g]? = some (.cells (procVs ({ x with code := code, pc := x.pc + 1 } : ProcD)) 43 (0, 0)) := setCell_block (i := 4) (v := .int .i64 (x.pc + 1)) h1
 have c10 : w.cell? ⟨g, 10, none⟩ = some (.int .i64 x.code) := (proc_cells h).2.2.2.2.2.2.2.2.2.2.1
 have f10 : w.frozen? ⟨g, 10, none⟩ = false := frozen_of_row _ _ _ _ _ h
 have c4 : (w.setCell ⟨g, 10, none⟩ (.int .i64 code)).cell? ⟨g, 4, none⟩ = some (.int .i64 x.pc) := (proc_cells h1).2.2.2.2.1
 have f4 : (w.setCell ⟨g, 10, none⟩ (.int .i64 code)).frozen? ⟨g, 4, none⟩ = false := frozen_of_row _ _ _ _ _ h1
 obtain ⟨r0, r1, r2, r3, r4, r5, r6, r7, r8, r9, r10, r11⟩ := proc_cells h2
 have H2 : Hid (((w.setCell ⟨g, 10, none⟩ (.int .i64 code)).setCell ⟨g, 4, none⟩ (.int .i64 (x.pc + 1))).heap[g]? = some (.cells (procVs ({ x with code := code, pc := x.pc + 1 } : ProcD)) 43 (0, 0)) ∧ KeptBut w ((w.setCell ⟨g, 10, none⟩ (.int .i64 code)).setCell ⟨g, 4, none⟩ (.int .i64 (x.pc + 1))) [g]) := ⟨h2, KeptBut.cell.trans KeptBut.cell⟩
 have hcall := hasOp_any ({ x with code := code, pc := x.pc + 1 } : ProcD) ((w.setCell ⟨g, 10, none⟩ (.int .i64 code)).setCell ⟨g, 4, none⟩ (.int .i64 (x.pc + 1))) hl
 obtain ⟨n0, n1⟩ := hpc
 have n2 : x.pc ≤ 1048576 := by omega
 have hv : hasOpB ({ x with code := code, pc := x.pc + 1 } : ProcD).toProcP = decide (¬ x.pc + 1 = x.prog.length) := by
  show inB (x.pc + 1) 0 ((x.prog.length : Int) - 1) = _
  by_cases e : x.pc + 1 = x.prog.length
  ·rw [decide_eq_false (by simpa using e)]
   cases h5 : inB (x.pc + 1) 0 ((x.prog.length : Int) - 1) with
   | false => rfl
   | true => have := inB_iff.1 h5; omega
  ·rw [decide_eq_true e]
   exact inB_iff.2 (by omega)
 rw [hv] at hcall
 simp only [procVs] at hcall
 clear hv h h1 h2 hl n1
 go_enter Tryz.func218, Tryz.ntmps218
 go_wp2_with fail
 clear c10 f10 c4 f4 r0 r1 r2 r3 r4 r5 r6 r7 r8 r9 r10 r11
 refine hcall.mono ?_
 clear hcall
 rintro e w3 ⟨rfl, hb3⟩
 have H3 : Hid (w3.heap[g]? = some (.cells (procVs ({ x with code := code, pc := x.pc + 1 } : ProcD)) 43 (0, 0)) ∧ KeptBut w w3 [g]) := ⟨(hb3.block _ (Array.getElem?_eq_some_iff.1 H2.out.1).1).trans H2.out.1, H2.out.2.trans (KeptBut.of_below hb3)⟩
 clear hb3 H2
 by_cases hlen : x.pc + 1 = x.prog.length
 ·have PE : Hid (pastD code x = (⟨restP (goneP code x.toProcP), x.progA, x.progC⟩ : ProcD)) := by show pastD code x = _; unfold pastD pastP; rw [if_pos hlen]
  have e1 : decide (¬ x.pc + 1 = x.prog.length) = false := decide_eq_false (by simpa using hlen)
  rw [e1]
  clear hlen e1
  go_wp2_with fail
  refine (sendToRest_any g ({ x with code := code, pc := x.pc + 1 } : ProcD) w3 H3.out.1).mono ?_
  rintro e w4 ⟨rfl, rfl⟩
  go_wp2
  refine bodyPost_ret (results_none Tryz.results218 _ _ _) rfl ?_
  rw [PE.out]
  exact ⟨rfl, setRow_heap _ _ _ _ _ _ H3.out.1, H3.out.2.trans KeptBut.row⟩
 have PE : Hid (pastD code x = (⟨goneP code x.toProcP, x.progA, x.progC⟩ : ProcD)) := by show pastD code x = _; unfold pastD pastP; rw [if_neg hlen]
 have e1 : decide (¬ x.pc + 1 = x.prog.length) = true := decide_eq_true hlen
 rw [e1]
 clear hlen e1
 have c3 := (proc_cells H3.out.1).2.2.2.1
 have f3 : w3.frozen? ⟨g, 3, none⟩ = false := frozen_of_row _ _ _ _ _ H3.out.1
 have k3 : (w3.setCell ⟨g, 3, none⟩ (.int .i64 1)).heap[g]? = some (.cells (procVs ({ x with code := code, pc := x.pc + 1, state := 1 } : ProcD)) 43 (0, 0)) := setCell_block (i := 3) (v := .int .i64 1) H3.out.1
 have c5 := (proc_cells k3).2.2.2.2.2.1
 have f5 : (w3.setCell ⟨g, 3, none⟩ (.int .i64 1)).frozen? ⟨g, 5, none⟩ = false := frozen_of_row _ _ _ _ _ k3
 have k5 : ((w3.setCell ⟨g, 3, none⟩ (.int .i64 1)).setCell ⟨g, 5, none⟩ (.int .i64 0)).heap[g]? = some (.cells (procVs ({ x with code := code, pc := x.pc + 1, state := 1, left := 0 } : ProcD)) 43 (0, 0)) := setCell_block (i := 5) (v := .int .i64 0) k3
 have c6 := (proc_cells k5).2.2.2.2.2.2.1
 have f6 : ((w3.setCell ⟨g, 3, none⟩ (.int .i64 1)).setCell ⟨g, 5, none⟩ (.int .i64 0)).frozen? ⟨g, 6, none⟩ = false := frozen_of_row _ _ _ _ _ k5
 have k6 : (((w3.setCell ⟨g, 3, none⟩ (.int .i64 1)).setCell ⟨g, 5, none⟩ (.int .i64 0)).setCell ⟨g, 6, none⟩ (.int .i64 0)).heap[g]? = some (.cells (procVs ({ x with code := code, pc := x.pc + 1, state := 1, left := 0, wake := 0 } : ProcD)) 43 (0, 0)) := setCell_block (i := 6) (v := .int .i64 0) k5
 have c7 := (proc_cells k6).2.2.2.2.2.2.2.1
 have f7 : (((w3.setCell ⟨g, 3, none⟩ (.int .i64 1)).setCell ⟨g, 5, none⟩ (.int .i64 0)).setCell ⟨g, 6, none⟩ (.int .i64 0)).frozen? ⟨g, 7, none⟩ = false := frozen_of_row _ _ _ _ _ k6
 have k7 : ((((w3.setCell ⟨g, 3, none⟩ (.int .i64 1)).setCell ⟨g, 5, none⟩ (.int .i64 0)).setCell ⟨g, 6, none⟩ (.int .i64 0)).setCell ⟨g, 7, none⟩ (.int .i64 0)).heap[g]? = some (.cells (procVs ({ x with code := code, pc := x.pc + 1, state := 1, left := 0, wake := 0, on := 0 } : ProcD)) 43 (0, 0)) := setCell_block (i := 7) (v := .int .i64 0) k6
 have c8 := (proc_cells k7).2.2.2.2.2.2.2.2.1
 have f8 : ((((w3.setCell ⟨g, 3, none⟩ (.int .i64 1)).setCell ⟨g, 5, none⟩ (.int .i64 0)).setCell ⟨g, 6, none⟩ (.int .i64 0)).setCell ⟨g, 7, none⟩ (.int .i64 0)).frozen? ⟨g, 8, none⟩ = false := frozen_of_row _ _ _ _ _ k7
 have k8 : (((((w3.setCell ⟨g, 3, none⟩ (.int .i64 1)).setCell ⟨g, 5, none⟩ (.int .i64 0)).setCell ⟨g, 6, none⟩ (.int .i64 0)).setCell ⟨g, 7, none⟩ (.int .i64 0)).setCell ⟨g, 8, none⟩ (.string ⟨#[]⟩)).heap[g]? = some (.cells (procVs ({ x with code := code, pc := x.pc + 1, state := 1, left := 0, wake := 0, on := 0, held := noT } : ProcD)) 43 (0, 0)) := setCell_block (i := 8) (v := .string ⟨#[]⟩) k7
 have HF : Hid ((((((w3.setCell ⟨g, 3, none⟩ (.int .i64 1)).setCell ⟨g, 5, none⟩ (.int .i64 0)).setCell ⟨g, 6, none⟩ (.int .i64 0)).setCell ⟨g, 7, none⟩ (.int .i64 0)).setCell ⟨g, 8, none⟩ (.string ⟨#[]⟩)).heap[g]? = some (.cells (procVs (⟨goneP code x.toProcP, x.progA, x.progC⟩ : ProcD)) 43 (0, 0)) ∧ KeptBut w (((((w3.setCell ⟨g, 3, none⟩ (.int .i64 1)).setCell ⟨g, 5, none⟩ (.int .i64 0)).setCell ⟨g, 6, none⟩ (.int .i64 0)).setCell ⟨g, 7, none⟩ (.int .i64 0)).setCell ⟨g, 8, none⟩ (.string ⟨#[]⟩)) [g]) := ⟨k8, (((((H3.out.2.trans KeptBut.cell).trans KeptBut.cell).trans KeptBut.cell).trans KeptBut.cell).trans KeptBut.cell)⟩
 clear k3 k5 k6 k7 k8
 go_wp2
 go_end0
 rw [PE.out]
 exact ⟨rfl, HF.out.1, HF.out.2⟩
set_option maxRecDepth 100000 in
set_option maxHeartbeats 4000000 in
theorem wake_any (o g base : Nat) (S : OpenD) (x : ProcD) (code : Int) (w : World) (h : OpenAt w base o S) (hbw : base ≤ w.heap.size) (hx : (x, g) ∈ S.lp) (n0 : 0 ≤ S.q.next) (n1 : S.q.next ≤ 1000000000) (hpc : 0 ≤ x.pc ∧ x.pc < x.prog.length) (hl : x.prog.length ≤ 1048576) :
  Calls Tryz.prog 187 #[.pointer (some ⟨o, 0, none⟩), .pointer (some ⟨g, 0, none⟩), .int .i64 code] w fun e w' => e = .returned (.tuple #[]) ∧ OpenAt w' base o (S.turn g (wakeD S.q.next code) (wakeN S.q.next x.toProcP)) ∧ Below base w w' := by
 have hgb : w.heap[g]? = some (.cells (procVs x) 43 (0, 0)) := h.procs.box (x, g) hx
 have hgm : g ∈ S.lp.map (·.2) := List.mem_map.2 ⟨(x, g), hx, rfl⟩
 have hno : ¬ o = g := fun e => by
  have h5 := (List.nodup_cons.1 h.nodup).1
  exact h5 (by rw [e]; simp only [OpenD.boxes, List.mem_append, List.mem_cons]; exact .inl (.inl (.inr hgm)))
 have hgl : base ≤ g := h.procs.low g (List.mem_cons_of_mem _ hgm)
 have HC : Hid (OpenAt w base o S ∧ (x, g) ∈ S.lp ∧ g ∈ S.lp.map (·.2) ∧ base ≤ g ∧ base ≤ w.heap.size ∧ ¬ o = g ∧ o < w.heap.size) := ⟨h, hx, hgm, hgl, hbw, hno, (Array.getElem?_eq_some_iff.1 h.opn).1⟩
 have hcall := goPast_any g x code w hgb hpc hl
 clear hgb hgm hgl h hx hbw hpc hl
 go_enter Tryz.func187, Tryz.ntmps187
 go_wp2_with fail
 refine hcall.mono ?_
 clear hcall
 rintro e w1 ⟨rfl, hg1, hk1⟩
 have H1 : Hid (w1.heap[g]? = some (.cells (procVs (pastD code x)) 43 (0, 0)) ∧ KeptBut w w1 [g] ∧ OpenBox w1 o S.q) := ⟨hg1, hk1, (hk1.same o HC.out.2.2.2.2.2.2 (by simpa using HC.out.2.2.2.2.2.1)).trans HC.out.1.opn⟩
 have s3 := (proc_cells hg1).2.2.2.1
 clear hg1 hk1
 by_cases hlen : x.pc + 1 = x.prog.length
 ·have e1 : ((pastD code x).state == 1) = false := by show ((pastP code x.toProcP).state == 1) = false; unfold pastP; rw [if_pos hlen]; rfl
  have HE : Hid (wakeN S.q.next x.toProcP = S.q.next ∧ wakeD S.q.next code x = pastD code x) := by show _ ∧ _; unfold wakeN wakeD pastD wakeF pastP; rw [if_pos hlen, if_pos hlen, if_pos hlen]; exact ⟨rfl, rfl⟩
  clear hlen
  go_wp2
  go_end0
  have hlt : ∀ b ∈ S.boxes ++ S.kids, b < w.heap.size := fun b hb => HC.out.1.lt b (List.mem_cons_of_mem _ hb)
  exact ⟨rfl, HC.out.1.turn2 (fun y => ⟨(wakeF_id _ _ _).1, (wakeF_id _ _ _).2, rfl, rfl⟩) (fun p hp hpg => by have e := HC.out.1.procs.one hp HC.out.2.1 hpg; subst e; rw [HE.out.2]; exact H1.out.1) HC.out.2.2.1 (by rw [HE.out.1]; exact H1.out.2.2) (fun b hb h5 h6 => H1.out.2.1.same b (hlt b hb) (by simpa using h5)), H1.out.2.1.below HC.out.2.2.2.2.1 (by simpa using HC.out.2.2.2.1)⟩
 have e1 : ((pastD code x).state == 1) = true := by show ((pastP code x.toProcP).state == 1) = true; unfold pastP; rw [if_neg hlen]; rfl
 have HE : Hid (wakeN S.q.next x.toProcP = S.q.next + 1 ∧ wakeD S.q.next code x = { pastD code x with since := S.q.next }) := by show _ ∧ _; unfold wakeN wakeD pastD wakeF pastP; rw [if_neg hlen, if_neg hlen, if_neg hlen]; exact ⟨rfl, rfl⟩
 clear hlen
 have hcall := comesLast_any o g S.q.next w1 (H1.out.2.2.cell 1) (frozen_of_row _ _ _ _ _ H1.out.2.2) ⟨_, (proc_cells H1.out.1).2.2.2.2.2.2.2.2.2.2.2⟩ (frozen_of_row _ _ _ _ _ H1.out.1) hno n0 n1
 go_wp2_with fail
 refine hcall.mono ?_
 clear hcall s3 e1
 rintro e w2 ⟨rfl, rfl⟩
 have HF : Hid (OpenAt ((w1.setCell ⟨g, 11, none⟩ (.int .i64 S.q.next)).setCell ⟨o, 1, none⟩ (.int .i64 (S.q.next + 1))) base o (S.turn g (wakeD S.q.next code) (wakeN S.q.next x.toProcP)) ∧ Below base w ((w1.setCell ⟨g, 11, none⟩ (.int .i64 S.q.next)).setCell ⟨o, 1, none⟩ (.int .i64 (S.q.next + 1)))) := by
  have hlt : ∀ b ∈ S.boxes ++ S.kids, b < w.heap.size := fun b hb => HC.out.1.lt b (List.mem_cons_of_mem _ hb)
  have hg3 : ((w1.setCell ⟨g, 11, none⟩ (.int .i64 S.q.next)).setCell ⟨o, 1, none⟩ (.int .i64 (S.q.next + 1))).heap[g]? = some (.cells (procVs ({ pastD code x with since := S.q.next } : ProcD)) 43 (0, 0)) := (setCell_other (fun e => HC.out.2.2.2.2.2.1 e.symm : g ≠ o)).trans (setCell_block (i := 11) (v := .int .i64 S.q.next) H1.out.1)
  have ho3 : OpenBox ((w1.setCell ⟨g, 11, none⟩ (.int .i64 S.q.next)).setCell ⟨o, 1, none⟩ (.int .i64 (S.q.next + 1))) o { S.q with next := S.q.next + 1 } := by
   have h5 : (w1.setCell ⟨g, 11, none⟩ (.int .i64 S.q.next)).heap[o]? = _ := (setCell_other HC.out.2.2.2.2.2.1).trans H1.out.2.2
   exact setCell_block (i := 1) (v := .int .i64 (S.q.next + 1)) h5
  exact ⟨HC.out.1.turn2 (fun y => ⟨(wakeF_id _ _ _).1, (wakeF_id _ _ _).2, rfl, rfl⟩) (fun p hp hpg => by have e := HC.out.1.procs.one hp HC.out.2.1 hpg; subst e; rw [HE.out.2]; exact hg3) HC.out.2.2.1 (by rw [HE.out.1]; exact ho3) (fun b hb h5 h6 => (setCell_other h6).trans ((setCell_other h5).trans (H1.out.2.1.same b (hlt b hb) (by simpa using h5)))), below_setCell (below_setCell (H1.out.2.1.below HC.out.2.2.2.2.1 (by simpa using HC.out.2.2.2.1)) HC.out.2.2.2.1) HC.out.1.low⟩
 go_wp2
 go_end0
 exact ⟨rfl, HF.out.1, HF.out.2⟩
end Go.Proofs.YtkbcplnlehdjfaaGreat

/- The specification: all whose time has come are woken. (Made by mkwokens3.py.) -/
namespace Go.Proofs.YtkbcplnlehdjfaaGreat
open Go.RowKit Go.Maps
attribute [local go_sem ↓] Go.wp_at_zero Go.wp_at_succ
structure WokeI (now : Int) (base : Nat) (w : World) (q0 : PartD) (k : Nat) (q : PartD) (wr : World) : Prop where
 box : PartBox wr w.heap.size q
 ans : wr.heap[w.heap.size + 1]? = some (.cells zero8 32 (0, 0))
 own : PartOwn wr base q
 bel : Below base w wr
 wk : Wk now q.pure
 same : wokenL now q.pure = wokenL now q0.pure
 cnt : (dueL now q.pure.procs).length = k
 short : ∀ x ∈ q.procs, x.prog.length ≤ 1048576
 low : ∀ g ∈ q.blocks, g < w.heap.size
theorem proc_block {q : PartD} {gs : Nat} (h : q.procA = some ⟨gs, 0, none⟩) : gs ∈ q.blocks := by
 unfold PartD.blocks
 rw [h]
 simp [blk]
theorem wake_is {now : Int} {q : PartD} {n : Nat} {y : ProcD} {code : Int} (hw : Wk now q.pure) (hy : q.procs[n]? = some y) (hp : q.pure.procs[n]? = some y.toProcP) (hc : codeOf y.toProcP = code) (hs : ∀ x ∈ q.procs, x.prog.length ≤ 1048576) :
  ({ q with next := wakeN q.next y.toProcP, procs := q.procs.set n (wakeD q.next code y) } : PartD).pure = wakeStep q.pure y.toProcP ∧ ({ q with next := wakeN q.next y.toProcP, procs := q.procs.set n (wakeD q.next code y) } : PartD).blocks = q.blocks ∧ (∀ x ∈ ({ q with next := wakeN q.next y.toProcP, procs := q.procs.set n (wakeD q.next code y) } : PartD).procs, x.prog.length ≤ 1048576) := by
 refine ⟨?_, ?_, fun x hx => ?_⟩
 ·unfold wakeStep
  rw [turn_set hw.rise hp rfl, hc]
  show ({ q.pure with next := wakeN q.next y.toProcP, procs := (q.procs.set n (wakeD q.next code y)).map (·.toProcP) } : PartP) = _
  rw [List.map_set]
  rfl
 ·unfold PartD.blocks
  simp only [kids_set hy (show (wakeD q.next code y).progA = y.progA from rfl)]
 ·rcases List.mem_or_eq_of_mem_set hx with h5 | h5
  ·exact hs x h5
  ·rw [h5]
   show (wakeF q.next code y.toProcP).prog.length ≤ _
   rw [(wakeF_id _ _ _).2]
   exact hs y (List.mem_of_getElem? hy)
set_option maxRecDepth 100000 in
set_option maxHeartbeats 8000000 in
theorem l4Woken_any (q0 : PartD) (now : Int) (base : Nat) (w : World) (h : PartOwn w base q0) (hb : base ≤ w.heap.size) (hk : Wk now q0.pure) (hs : ∀ x ∈ q0.procs, x.prog.length ≤ 1048576) :
  Calls Tryz.prog 106 #[.agg q0.cells, .int .i64 now] w fun e w' => ∃ q : PartD, e = .returned (.agg q.cells) ∧ q.pure = wokenL now q0.pure ∧ PartOwn w' base q ∧ Below base w w' := by
 have b1 : Below w.heap.size w ((w.alloc (.cells q0.cells 32)).alloc (.cells zero8 32)) := alloc2_below _ _ _
 have HB : Hid (WokeI now base w q0 (dueL now q0.pure.procs).length q0 ((w.alloc (.cells q0.cells 32)).alloc (.cells zero8 32)) ∧ base ≤ w.heap.size) := ⟨⟨(alloc2_facts _ _ _).1, (alloc2_facts _ _ _).2, h.below b1, b1.mono hb, hk, rfl, rfl, hs, fun g hg => (h.lt g hg).2⟩, hb⟩
 clear h hb hk hs b1
 unfold PartD.cells at *
 go_enter Tryz.func106, Tryz.ntmps106
 go_wp2_with fail
 generalize (w.alloc (.cells #[.int .i64 q0.id, .int .i64 q0.next, .slice q0.procA q0.procs.length q0.procC, .slice q0.semA q0.sems.length q0.semC, .slice q0.eventA q0.events.length q0.eventC, .slice q0.boardA q0.boards.length q0.boardC, .slice q0.bufferA q0.buffers.length q0.bufferC, .slice q0.portA q0.ports.length q0.portC] 32)).alloc (.cells #[.int .i64 0, .int .i64 0, .slice none 0 0, .slice none 0 0, .slice none 0 0, .slice none 0 0, .slice none 0 0, .slice none 0 0] 32) = W at *
 go_loopg [] (dueL now q0.pure.procs).length (fun k wr => ∃ q : PartD, Hid (WokeI now base w q0 k q wr))
 case atStart => exact ⟨q0, HB.out.1⟩
 case round =>
  obtain ⟨q, HO⟩ := hrel
  rename World => W1
  have hql : q.procs.length ≤ 6 := by have h5 := HO.out.wk.low; simpa [PartD.pure] using h5
  go_wp2_with fail
  go_loopw [5, 6] (fun b i wr => ∃ (k : Nat) (z : Int), k ≤ q.procs.length ∧ i = .int .i64 k ∧ b = .int .i64 z ∧ Hid (BestAt soonB (dueB now) q.pure.procs k z ∧ Below W1.heap.size W1 wr)) (fun _ i _ => q.procs.length - (intOf i).toNat)
  case atStart => exact ⟨0, -1, Nat.zero_le _, rfl, rfl, ⟨BestAt.start _ _ _, Below.refl _ _⟩⟩
  case round =>
   obtain ⟨k, z, hk, rfl, rfl, HA⟩ := hrel
   have HW : Hid (PartBox wr w.heap.size q ∧ PartOwn wr base q) := ⟨HO.out.box.below HA.out.2, HO.out.own.below HA.out.2⟩
   obtain ⟨m0, m1, m2, m3, m4, m5, m6, m7⟩ := HW.out.1.cells
   by_cases hlt : k < q.procs.length
   ·have i0 : (0 : Int) ≤ (k : Int) := by omega
    have i1 : (k : Int) < (q.procs.length : Int) := by omega
    clear m0 m1 m3 m4 m5 m6 m7
    obtain ⟨x, hx⟩ : ∃ x, q.procs[k]? = some x := ⟨_, List.getElem?_eq_getElem hlt⟩
    have HX : Hid (q.procs[k]? = some x ∧ q.pure.procs[k]? = some x.toProcP) := ⟨hx, by show (q.procs.map (·.toProcP))[k]? = _; rw [List.getElem?_map, hx]; rfl⟩
    obtain ⟨gs, ha, hat⟩ := proc_at HW.out.2.at.1 hx
    have HG : Hid (q.procA = some ⟨gs, 0, none⟩) := ha
    rw [ha] at m2
    obtain ⟨d0, d1, d2, d3, d4, d5, d6, d7, d8, d9, d10, d11⟩ := hat
    clear hx ha
    have hgl : w.heap.size < wr.heap.size := (Array.getElem?_eq_some_iff.1 HW.out.1).1
    have HN : Hid (PartBox (wr.alloc (.cells #[.int .i64 x.id, .int .i64 x.prio, .slice x.progA x.prog.length x.progC, .int .i64 x.state, .int .i64 x.pc, .int .i64 x.left, .int .i64 x.wake, .int .i64 x.on, .string x.held, .string x.got, .int .i64 x.code, .int .i64 x.since] 43)) w.heap.size q ∧ PartOwn (wr.alloc (.cells #[.int .i64 x.id, .int .i64 x.prio, .slice x.progA x.prog.length x.progC, .int .i64 x.state, .int .i64 x.pc, .int .i64 x.left, .int .i64 x.wake, .int .i64 x.on, .string x.held, .string x.got, .int .i64 x.code, .int .i64 x.since] 43)) base q ∧ ProcBox (wr.alloc (.cells #[.int .i64 x.id, .int .i64 x.prio, .slice x.progA x.prog.length x.progC, .int .i64 x.state, .int .i64 x.pc, .int .i64 x.left, .int .i64 x.wake, .int .i64 x.on, .string x.held, .string x.got, .int .i64 x.code, .int .i64 x.since] 43)) wr.heap.size x ∧ Below W1.heap.size W1 (wr.alloc (.cells #[.int .i64 x.id, .int .i64 x.prio, .slice x.progA x.prog.length x.progC, .int .i64 x.state, .int .i64 x.pc, .int .i64 x.left, .int .i64 x.wake, .int .i64 x.on, .string x.held, .string x.got, .int .i64 x.code, .int .i64 x.since] 43))) := ⟨HW.out.1.below ((Below.refl _ _).alloc (Nat.le_refl _) _), HW.out.2.below ((Below.refl _ _).alloc (Nat.le_refl _) _), heap_alloc_new _ _, HA.out.2.alloc HA.out.2.size _⟩
    go_wp2_with fail
    generalize wr.alloc (.cells #[.int .i64 x.id, .int .i64 x.prio, .slice x.progA x.prog.length x.progC, .int .i64 x.state, .int .i64 x.pc, .int .i64 x.left, .int .i64 x.wake, .int .i64 x.on, .string x.held, .string x.got, .int .i64 x.code, .int .i64 x.since] 43) = W5 at *
    generalize wr.heap.size = X at *
    clear d0 d1 d2 d3 d4 d5 d6 d7 d8 d9 d10 d11 m2 hgl
    obtain ⟨-, -, m2, -⟩ := HN.out.1.cells
    rw [HG.out] at m2
    obtain ⟨-, -, -, b3, -, -, b6, -⟩ := HN.out.2.2.1.cells
    by_cases hs : 2 ≤ x.state
    rotate_left
    ·have d1 : decide (2 ≤ x.state) = false := decide_eq_false hs
     have HY : Hid (BestAt soonB (dueB now) q.pure.procs (k + 1) z) := HA.out.1.skip HX.out.2 (by show (decide (2 ≤ x.state) && _) = false; rw [d1]; rfl)
     clear hs
     refine tame_region (fun w' => (w'.cell? ⟨w.heap.size, 2, none⟩ = some (.slice (some ⟨gs, 0, none⟩) q.procs.length q.procC) ∧ w'.cell? ⟨X, 3, none⟩ = some (.int .i64 x.state) ∧ w'.cell? ⟨X, 6, none⟩ = some (.int .i64 x.wake)) ∧ Hid (Below W5.heap.size W5 w')) (by kernel_rfl) ⟨⟨m2, b3, b6⟩, (Below.refl _ _).drew⟩ ?_
     iterate 4 (refine yl (v := ?_) ?_ ?_; rotate_left; (intro w0 hS0; obtain ⟨⟨o2, o3, o6⟩, hH⟩ := hS0; go_simp; try with_reducible rfl); simp only [pt, sb, s0, s1])
     iterate 4 (refine nl ?_; simp only [pt, sb, s0, s1])
     iterate 2 (refine yl (v := ?_) ?_ ?_; rotate_left; (intro w0 hS0; obtain ⟨⟨o2, o3, o6⟩, hH⟩ := hS0; go_simp; try with_reducible rfl); simp only [pt, sb, s0, s1])
     iterate 13 (refine nl ?_; simp only [pt, sb, s0, s1])
     (refine yl (v := ?_) ?_ ?_; rotate_left; (intro w0 hS0; obtain ⟨⟨o2, o3, o6⟩, hH⟩ := hS0; go_simp; try with_reducible rfl); simp only [pt, sb, s0, s1])
     refine tame_done (by kernel_rfl) ?_ _
     intro w1 hS1
     have HV : Hid (Below W1.heap.size W1 w1) := HN.out.2.2.2.trans (hS1.2.out.mono HN.out.2.2.2.size)
     clear hS1
     go_wp2
     go_roundw
     case rel => exact ⟨k + 1, z, by omega, by go_num, rfl, ⟨HY.out, HV.out⟩⟩
     case measure => simp [intOf]; omega
    have d1 : decide (2 ≤ x.state) = true := decide_eq_true hs
    cases hv : inB x.wake 1 now
    ·have VB : Hid (Ending.returned (.bool (inB x.wake 1 now)) = Ending.returned (.bool false)) := by show _ = _; rw [hv]
     have HY : Hid (BestAt soonB (dueB now) q.pure.procs (k + 1) z) := HA.out.1.skip HX.out.2 (by show (_ && inB x.wake 1 now) = false; rw [hv, Bool.and_false])
     clear hs hv
     refine tame_region (fun w' => (w'.cell? ⟨w.heap.size, 2, none⟩ = some (.slice (some ⟨gs, 0, none⟩) q.procs.length q.procC) ∧ w'.cell? ⟨X, 3, none⟩ = some (.int .i64 x.state) ∧ w'.cell? ⟨X, 6, none⟩ = some (.int .i64 x.wake)) ∧ Hid (Below W5.heap.size W5 w')) (by kernel_rfl) ⟨⟨m2, b3, b6⟩, (Below.refl _ _).drew⟩ ?_
     iterate 7 (refine yl (v := ?_) ?_ ?_; rotate_left; (intro w0 hS0; obtain ⟨⟨o2, o3, o6⟩, hH⟩ := hS0; go_simp; try with_reducible rfl); simp only [pt, sb, s0, s1])
     refine cl (.bool false) 78 #[.int .i64 x.wake, .int .i64 1, .int .i64 now] ?_ ?_ ?_
     ·intro w0 hS0
      obtain ⟨⟨o2, o3, o6⟩, hH⟩ := hS0
      go_simp
      try with_reducible rfl
     ·intro w0 hS0
      refine (l1In_any x.wake 1 now w0).mono ?_
      rintro e w2 ⟨rfl, rfl⟩
      exact ⟨VB.out, hS0⟩
     simp only [pt, sb, s0, s1]
     iterate 2 (refine yl (v := ?_) ?_ ?_; rotate_left; (intro w0 hS0; obtain ⟨⟨o2, o3, o6⟩, hH⟩ := hS0; go_simp; try with_reducible rfl); simp only [pt, sb, s0, s1])
     iterate 13 (refine nl ?_; simp only [pt, sb, s0, s1])
     (refine yl (v := ?_) ?_ ?_; rotate_left; (intro w0 hS0; obtain ⟨⟨o2, o3, o6⟩, hH⟩ := hS0; go_simp; try with_reducible rfl); simp only [pt, sb, s0, s1])
     refine tame_done (by kernel_rfl) ?_ _
     intro w1 hS1
     have HV : Hid (Below W1.heap.size W1 w1) := HN.out.2.2.2.trans (hS1.2.out.mono HN.out.2.2.2.size)
     clear hS1
     go_wp2
     go_roundw
     case rel => exact ⟨k + 1, z, by omega, by go_num, rfl, ⟨HY.out, HV.out⟩⟩
     case measure => simp [intOf]; omega
    have VB : Hid (Ending.returned (.bool (inB x.wake 1 now)) = Ending.returned (.bool true)) := by show _ = _; rw [hv]
    have HF : Hid (dueB now x.toProcP = true) := by show (decide (2 ≤ x.state) && inB x.wake 1 now) = true; rw [hv, d1]; rfl
    clear hs hv
    by_cases hz : z < 0
    ·have dz : decide (z < 0) = true := decide_eq_true hz
     have HY : Hid (BestAt soonB (dueB now) q.pure.procs (k + 1) k) := HA.out.1.first hz HX.out.2 HF.out
     refine tame_region (fun w' => (w'.cell? ⟨w.heap.size, 2, none⟩ = some (.slice (some ⟨gs, 0, none⟩) q.procs.length q.procC) ∧ w'.cell? ⟨X, 3, none⟩ = some (.int .i64 x.state) ∧ w'.cell? ⟨X, 6, none⟩ = some (.int .i64 x.wake)) ∧ Hid (Below W5.heap.size W5 w')) (by kernel_rfl) ⟨⟨m2, b3, b6⟩, (Below.refl _ _).drew⟩ ?_
     iterate 7 (refine yl (v := ?_) ?_ ?_; rotate_left; (intro w0 hS0; obtain ⟨⟨o2, o3, o6⟩, hH⟩ := hS0; go_simp; try with_reducible rfl); simp only [pt, sb, s0, s1])
     refine cl (.bool true) 78 #[.int .i64 x.wake, .int .i64 1, .int .i64 now] ?_ ?_ ?_
     ·intro w0 hS0
      obtain ⟨⟨o2, o3, o6⟩, hH⟩ := hS0
      go_simp
      try with_reducible rfl
     ·intro w0 hS0
      refine (l1In_any x.wake 1 now w0).mono ?_
      rintro e w2 ⟨rfl, rfl⟩
      exact ⟨VB.out, hS0⟩
     simp only [pt, sb, s0, s1]
     iterate 5 (refine yl (v := ?_) ?_ ?_; rotate_left; (intro w0 hS0; obtain ⟨⟨o2, o3, o6⟩, hH⟩ := hS0; go_simp; try with_reducible rfl); simp only [pt, sb, s0, s1])
     iterate 9 (refine nl ?_; simp only [pt, sb, s0, s1])
     iterate 2 (refine yl (v := ?_) ?_ ?_; rotate_left; (intro w0 hS0; obtain ⟨⟨o2, o3, o6⟩, hH⟩ := hS0; go_simp; try with_reducible rfl); simp only [pt, sb, s0, s1])
     refine tame_done (by kernel_rfl) ?_ _
     intro w1 hS1
     have HV : Hid (Below W1.heap.size W1 w1) := HN.out.2.2.2.trans (hS1.2.out.mono HN.out.2.2.2.size)
     clear hS1
     go_wp2
     go_roundw
     case rel => exact ⟨k + 1, k, by omega, by go_num, rfl, ⟨HY.out, HV.out⟩⟩
     case measure => simp [intOf]; omega
    have dz : decide (z < 0) = false := decide_eq_false hz
    obtain ⟨n, y0, hzn, hn, hy0, hbe⟩ := HA.out.1.got hz
    subst hzn
    have HYB : Hid (BestAt soonB (dueB now) q.pure.procs (k + 1) (if soonB x.toProcP y0 then (k : Int) else (n : Int))) := BestAt.next hn hy0 hbe HX.out.2 HF.out
    obtain ⟨y, hy, rfl⟩ : ∃ y, q.procs[n]? = some y ∧ y.toProcP = y0 := by
     have h5 : (q.procs.map (·.toProcP))[n]? = some y0 := hy0
     rw [List.getElem?_map, Option.map_eq_some_iff] at h5
     exact h5
    have j0 : (0 : Int) ≤ (n : Int) := by omega
    have j1 : (n : Int) < (q.procs.length : Int) := by omega
    obtain ⟨gs2, ha2, hat2⟩ := proc_at HN.out.2.1.at.1 hy
    rw [HG.out] at ha2
    cases ha2
    obtain ⟨-, -, -, -, -, -, y6, -⟩ := hat2
    clear hy hy0 hbe hz
    by_cases hw : x.wake < y.wake
    ·have dw : decide (x.wake < y.wake) = true := decide_eq_true hw
     have HY : Hid (BestAt soonB (dueB now) q.pure.procs (k + 1) k) := by have h5 := HYB.out; rwa [show soonB x.toProcP y.toProcP = true from dw, if_pos rfl] at h5
     clear hw HYB
     refine tame_region (fun w' => (w'.cell? ⟨w.heap.size, 2, none⟩ = some (.slice (some ⟨gs, 0, none⟩) q.procs.length q.procC) ∧ w'.cell? ⟨X, 3, none⟩ = some (.int .i64 x.state) ∧ w'.cell? ⟨X, 6, none⟩ = some (.int .i64 x.wake) ∧ w'.cell? ⟨gs, n * 12 + 6, none⟩ = some (.int .i64 y.wake)) ∧ Hid (Below W5.heap.size W5 w')) (by kernel_rfl) ⟨⟨m2, b3, b6, y6⟩, (Below.refl _ _).drew⟩ ?_
     iterate 7 (refine yl (v := ?_) ?_ ?_; rotate_left; (intro w0 hS0; obtain ⟨⟨o2, o3, o6, o7⟩, hH⟩ := hS0; go_simp; try with_reducible rfl); simp only [pt, sb, s0, s1])
     refine cl (.bool true) 78 #[.int .i64 x.wake, .int .i64 1, .int .i64 now] ?_ ?_ ?_
     ·intro w0 hS0
      obtain ⟨⟨o2, o3, o6, o7⟩, hH⟩ := hS0
      go_simp
      try with_reducible rfl
     ·intro w0 hS0
      refine (l1In_any x.wake 1 now w0).mono ?_
      rintro e w2 ⟨rfl, rfl⟩
      exact ⟨VB.out, hS0⟩
     simp only [pt, sb, s0, s1]
     iterate 16 (refine yl (v := ?_) ?_ ?_; rotate_left; (intro w0 hS0; obtain ⟨⟨o2, o3, o6, o7⟩, hH⟩ := hS0; go_simp; try with_reducible rfl); simp only [pt, sb, s0, s1])
     refine tame_done (by kernel_rfl) ?_ _
     intro w1 hS1
     have HV : Hid (Below W1.heap.size W1 w1) := HN.out.2.2.2.trans (hS1.2.out.mono HN.out.2.2.2.size)
     clear hS1
     go_wp2
     go_roundw
     case rel => exact ⟨k + 1, k, by omega, by go_num, rfl, ⟨HY.out, HV.out⟩⟩
     case measure => simp [intOf]; omega
    ·have dw : decide (x.wake < y.wake) = false := decide_eq_false hw
     have HY : Hid (BestAt soonB (dueB now) q.pure.procs (k + 1) n) := by have h5 := HYB.out; rwa [show soonB x.toProcP y.toProcP = false from dw, if_neg Bool.false_ne_true] at h5
     clear hw HYB
     refine tame_region (fun w' => (w'.cell? ⟨w.heap.size, 2, none⟩ = some (.slice (some ⟨gs, 0, none⟩) q.procs.length q.procC) ∧ w'.cell? ⟨X, 3, none⟩ = some (.int .i64 x.state) ∧ w'.cell? ⟨X, 6, none⟩ = some (.int .i64 x.wake) ∧ w'.cell? ⟨gs, n * 12 + 6, none⟩ = some (.int .i64 y.wake)) ∧ Hid (Below W5.heap.size W5 w')) (by kernel_rfl) ⟨⟨m2, b3, b6, y6⟩, (Below.refl _ _).drew⟩ ?_
     iterate 7 (refine yl (v := ?_) ?_ ?_; rotate_left; (intro w0 hS0; obtain ⟨⟨o2, o3, o6, o7⟩, hH⟩ := hS0; go_simp; try with_reducible rfl); simp only [pt, sb, s0, s1])
     refine cl (.bool true) 78 #[.int .i64 x.wake, .int .i64 1, .int .i64 now] ?_ ?_ ?_
     ·intro w0 hS0
      obtain ⟨⟨o2, o3, o6, o7⟩, hH⟩ := hS0
      go_simp
      try with_reducible rfl
     ·intro w0 hS0
      refine (l1In_any x.wake 1 now w0).mono ?_
      rintro e w2 ⟨rfl, rfl⟩
      exact ⟨VB.out, hS0⟩
     simp only [pt, sb, s0, s1]
     iterate 16 (refine yl (v := ?_) ?_ ?_; rotate_left; (intro w0 hS0; obtain ⟨⟨o2, o3, o6, o7⟩, hH⟩ := hS0; go_simp; try with_reducible rfl); simp only [pt, sb, s0, s1])
     refine tame_done (by kernel_rfl) ?_ _
     intro w1 hS1
     have HV : Hid (Below W1.heap.size W1 w1) := HN.out.2.2.2.trans (hS1.2.out.mono HN.out.2.2.2.size)
     clear hS1
     go_wp2
     go_roundw
     case rel => exact ⟨k + 1, n, by omega, by go_num, rfl, ⟨HY.out, HV.out⟩⟩
     case measure => simp [intOf]; omega
   ·have i1 : ¬ (k : Int) < (q.procs.length : Int) := by omega
    have HE : Hid (BestAt soonB (dueB now) q.pure.procs q.procs.length z) := by have h5 := HA.out.1; rwa [show k = q.procs.length by omega] at h5
    have hfl : q.pure.procs.take q.procs.length = q.pure.procs := by rw [List.take_of_length_le]; simp [PartD.pure]
    have HZ0 : Hid (wr.heap[w.heap.size + 1]? = some (.cells zero8 32 (0, 0)) ∧ Below base w wr) := ⟨(HA.out.2.block _ (Array.getElem?_eq_some_iff.1 HO.out.ans).1).trans HO.out.ans, HO.out.bel.trans (HA.out.2.mono (by have := HO.out.bel.size; have := HB.out.2; omega))⟩
    by_cases hz : z < 0
    ·have HD : Hid (nextDue now q.pure.procs = none) := by have h5 := HE.out.none' hz; rwa [hfl] at h5
     have dz : decide (z < 0) = true := decide_eq_true hz
     clear hfl hz
     go_wp2_with (refine wpList_store_row rfl 32 (Operand.tmp 4) (Operand.tmp 48) rfl (w.heap.size + 1) _ _ #[.int .i64 q.id, .int .i64 q.next, .slice q.procA q.procs.length q.procC, .slice q.semA q.sems.length q.semC, .slice q.eventA q.events.length q.eventC, .slice q.boardA q.boards.length q.boardC, .slice q.bufferA q.buffers.length q.bufferC, .slice q.portA q.ports.length q.portC] rfl rfl HZ0.out.1 (by kernel_rfl) rfl (by kernel_rfl) ?_)
     refine bodyPost_ret (v := .agg #[.int .i64 q.id, .int .i64 q.next, .slice q.procA q.procs.length q.procC, .slice q.semA q.sems.length q.semC, .slice q.eventA q.events.length q.eventC, .slice q.boardA q.boards.length q.boardC, .slice q.bufferA q.buffers.length q.bufferC, .slice q.portA q.ports.length q.portC]) (results_cell_row Tryz.results106 _ _ (w.heap.size + 1) _ _ (0, 0) _ rfl (setRow_heap _ _ _ _ _ _ HZ0.out.1) Tryz.underlying32 rfl (by kernel_rfl)) rfl ?_
     exact ⟨q, rfl, by rw [← HO.out.same]; exact (woken_none HD.out).symm, HW.out.2.same fun g hg => setRow_other _ _ _ _ (by have := HO.out.low g hg; omega), below_setRow HZ0.out.2 (by have := HB.out.2; omega) _⟩
    have dz : decide (z < 0) = false := decide_eq_false hz
    obtain ⟨n, y0, hzn, hn, hy0, hbe⟩ := HE.out.got hz
    subst hzn
    rw [hfl] at hbe
    obtain ⟨y, hy, rfl⟩ : ∃ y, q.procs[n]? = some y ∧ y.toProcP = y0 := by
     have h5 : (q.procs.map (·.toProcP))[n]? = some y0 := hy0
     rw [List.getElem?_map, Option.map_eq_some_iff] at h5
     exact h5
    have HD : Hid (nextDue now q.pure.procs = some y.toProcP ∧ q.procs[n]? = some y ∧ q.pure.procs[n]? = some y.toProcP) := ⟨hbe, hy, hy0⟩
    have j0 : (0 : Int) ≤ (n : Int) := by omega
    have j1 : (n : Int) < (q.procs.length : Int) := by omega
    obtain ⟨gs, ha, hat⟩ := proc_at HW.out.2.at.1 hy
    have HG : Hid (q.procA = some ⟨gs, 0, none⟩) := ha
    have d3 := hat.2.2.2.1
    rw [ha] at m2
    have hdu := (Wk.mem hbe)
    have hst : 2 ≤ y.state := by have h5 := hdu.2; unfold dueB at h5; simp only [Bool.and_eq_true, decide_eq_true_eq] at h5; exact h5.1
    have hop := HO.out.wk.op y.toProcP hdu.1 hst
    have hro := HO.out.wk.room
    have hle := HO.out.short y (List.mem_of_getElem? hy)
    have hcall := fun code => l4Wake_any q n base y code wr HW.out.2 (by have := HO.out.bel.size; have := HA.out.2.size; have := HB.out.2; omega) hy hop hle (by have h5 : q.pure.next = q.next := rfl; omega)
    clear hfl hz hbe hy hy0 hat ha hdu hst hop hro hle hn
    unfold PartD.cells at hcall
    simp only [HG.out] at hcall
    cases e2 : (y.state == 2)
    ·skip
     replace hcall := hcall 2
     have HCO : Hid (codeOf y.toProcP = 2) := by show codeOf y.toProcP = _; unfold codeOf; rw [if_neg (by simpa using e2)]
     go_wp2_with fail
     clear m0 m1 m2 m3 m4 m5 m6 m7 d3 e2
     refine hcall.mono ?_
     clear hcall
     rintro e w2 ⟨q2, rfl, hq2, ho2, hb2, hk2⟩
     have HQ2 : Hid (q2.pure = wakeStep q.pure y.toProcP ∧ q2.blocks = q.blocks ∧ (∀ x ∈ q2.procs, x.prog.length ≤ 1048576)) := by rw [← HG.out] at hq2; rw [hq2]; exact wake_is HO.out.wk HD.out.2.1 HD.out.2.2 HCO.out HO.out.short
     clear hq2
     have hgl := HO.out.low gs (by rw [show q.blocks = q.blocks from rfl]; exact proc_block HG.out)
     have hww : w.heap.size + 1 < wr.heap.size := (Array.getElem?_eq_some_iff.1 HZ0.out.1).1
     have H2 : Hid (PartBox w2 w.heap.size q ∧ w2.heap[w.heap.size + 1]? = some (.cells zero8 32 (0, 0)) ∧ PartOwn w2 base q2 ∧ Below base w w2) := ⟨(hk2.same _ (by omega) (by simp [blk]; omega)).trans HW.out.1, (hk2.same _ (by omega) (by simp [blk]; omega)).trans HZ0.out.1, ho2, HZ0.out.2.trans hb2⟩
     clear ho2 hb2 hk2 hgl hww
     have HI : Hid (WokeI now base w q0 (dueL now q2.pure.procs).length q2 (w2.setRow w.heap.size q2.cells) ∧ (dueL now q2.pure.procs).length < gk) := by
      have hst := HO.out.wk.step HD.out.1
      have hc := HO.out.cnt
      have hbb := HB.out.2
      rw [HQ2.out.1]
      refine ⟨⟨setRow_heap _ _ _ _ _ _ H2.out.1, (setRow_other _ _ _ _ (by omega)).trans H2.out.2.1, H2.out.2.2.1.same fun g hg => setRow_other _ _ _ _ (by rw [HQ2.out.2.1] at hg; have := HO.out.low g hg; omega), below_setRow H2.out.2.2.2 hbb _, by rw [HQ2.out.1]; exact hst.1, by rw [HQ2.out.1, ← HO.out.same]; exact (woken_some HO.out.wk HD.out.1).symm, by rw [HQ2.out.1], HQ2.out.2.2, fun g hg => HO.out.low g (by rw [← HQ2.out.2.1]; exact hg)⟩, by omega⟩
     go_wp2_with (refine wpList_store_row rfl 32 (Operand.tmp 2) (Operand.tmp 59) rfl (w.heap.size) _ _ q2.cells rfl rfl H2.out.1 (by kernel_rfl) rfl (by kernel_rfl) ?_)
     go_roundg (dueL now q2.pure.procs).length
     case rel => exact ⟨q2, HI.out.1⟩
     case measure => exact HI.out.2
    ·skip
     replace hcall := hcall 0
     have HCO : Hid (codeOf y.toProcP = 0) := by show codeOf y.toProcP = _; unfold codeOf; rw [if_pos (by simpa using e2)]
     go_wp2_with fail
     clear m0 m1 m2 m3 m4 m5 m6 m7 d3 e2
     refine hcall.mono ?_
     clear hcall
     rintro e w2 ⟨q2, rfl, hq2, ho2, hb2, hk2⟩
     have HQ2 : Hid (q2.pure = wakeStep q.pure y.toProcP ∧ q2.blocks = q.blocks ∧ (∀ x ∈ q2.procs, x.prog.length ≤ 1048576)) := by rw [← HG.out] at hq2; rw [hq2]; exact wake_is HO.out.wk HD.out.2.1 HD.out.2.2 HCO.out HO.out.short
     clear hq2
     have hgl := HO.out.low gs (by rw [show q.blocks = q.blocks from rfl]; exact proc_block HG.out)
     have hww : w.heap.size + 1 < wr.heap.size := (Array.getElem?_eq_some_iff.1 HZ0.out.1).1
     have H2 : Hid (PartBox w2 w.heap.size q ∧ w2.heap[w.heap.size + 1]? = some (.cells zero8 32 (0, 0)) ∧ PartOwn w2 base q2 ∧ Below base w w2) := ⟨(hk2.same _ (by omega) (by simp [blk]; omega)).trans HW.out.1, (hk2.same _ (by omega) (by simp [blk]; omega)).trans HZ0.out.1, ho2, HZ0.out.2.trans hb2⟩
     clear ho2 hb2 hk2 hgl hww
     have HI : Hid (WokeI now base w q0 (dueL now q2.pure.procs).length q2 (w2.setRow w.heap.size q2.cells) ∧ (dueL now q2.pure.procs).length < gk) := by
      have hst := HO.out.wk.step HD.out.1
      have hc := HO.out.cnt
      have hbb := HB.out.2
      rw [HQ2.out.1]
      refine ⟨⟨setRow_heap _ _ _ _ _ _ H2.out.1, (setRow_other _ _ _ _ (by omega)).trans H2.out.2.1, H2.out.2.2.1.same fun g hg => setRow_other _ _ _ _ (by rw [HQ2.out.2.1] at hg; have := HO.out.low g hg; omega), below_setRow H2.out.2.2.2 hbb _, by rw [HQ2.out.1]; exact hst.1, by rw [HQ2.out.1, ← HO.out.same]; exact (woken_some HO.out.wk HD.out.1).symm, by rw [HQ2.out.1], HQ2.out.2.2, fun g hg => HO.out.low g (by rw [← HQ2.out.2.1]; exact hg)⟩, by omega⟩
     go_wp2_with (refine wpList_store_row rfl 32 (Operand.tmp 2) (Operand.tmp 59) rfl (w.heap.size) _ _ q2.cells rfl rfl H2.out.1 (by kernel_rfl) rfl (by kernel_rfl) ?_)
     go_roundg (dueL now q2.pure.procs).length
     case rel => exact ⟨q2, HI.out.1⟩
     case measure => exact HI.out.2
end Go.Proofs.YtkbcplnlehdjfaaGreat
