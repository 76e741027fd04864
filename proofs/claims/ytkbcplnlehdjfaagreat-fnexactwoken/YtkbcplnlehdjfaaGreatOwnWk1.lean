/- What the proof leans on, part 1: WkPast, WkSmall. -/
import Derived.Test.YtkbcplnlehdjfaaGreatOwnR26
import Derived.Test.YtkbcplnlehdjfaaGreatOwnR35
import Derived.Test.YtkbcplnlehdjfaaGreatOwnWk0

namespace Go.Proofs.YtkbcplnlehdjfaaGreat
open Go.RowKit Go.Maps
attribute [local go_sem ↓] Go.wp_at_zero Go.wp_at_succ
def pastD (code : Int) (x : ProcD) : ProcD := ⟨pastP code x.toProcP, x.progA, x.progC⟩
theorem KeptBut.more {w w1 w2 : World} {bs : List Nat} (h : KeptBut w w1 bs) (hb : Below w.heap.size w1 w2) : KeptBut w w2 bs := ⟨hb.os.trans h.os, hb.tape.trans h.tape, hb.output.trans h.output, Nat.le_trans h.size hb.size, fun g hg hn => (hb.block g hg).trans (h.same g hg hn)⟩
/-- A process stored into its place in the list. -/
theorem past_store {W w : World} {base gs n : Nat} {q : PartD} {x y : ProcD} {vs : List Value} (h1 : PartBox W w.heap.size q) (h2 : W.heap[w.heap.size + 1]? = some (.cells zero8 32 (0, 0))) (h3 : w.heap.size + 1 + 1 < W.heap.size) (h4 : PartOwn W base q) (h5 : Below w.heap.size w W)
  (hx : q.procs[n]? = some x) (ha : q.procA = some ⟨gs, 0, none⟩) (hb : base ≤ w.heap.size) (hg1 : base ≤ gs) (hg2 : gs < w.heap.size) (hbk : ∀ g ∈ q.blocks, g < w.heap.size) (hv : vs = procK.vals y) (hy : y.prog = x.prog ∧ y.progA = x.progA ∧ y.progC = x.progC) :
  W.there gs (n * 12) 12 ∧ PartOwn (W.setCells gs (n * 12) vs) base ({ q with procs := q.procs.set n y } : PartD) ∧ PartBox (W.setCells gs (n * 12) vs) w.heap.size q ∧ (W.setCells gs (n * 12) vs).heap[w.heap.size + 1]? = some (.cells zero8 32 (0, 0)) ∧ Below base w (W.setCells gs (n * 12) vs) ∧ (∀ g ∈ ({ q with procs := q.procs.set n y } : PartD).blocks, g ≠ w.heap.size + 1) ∧ KeptBut w (W.setCells gs (n * 12) vs) [gs] := by
 have hn : n < q.procs.length := (List.getElem?_eq_some_iff.1 hx).1
 have hl : vs.length = 12 := by rw [hv]; exact procK.len y
 have hth : W.there gs (n * 12) 12 := by
  obtain ⟨g, hg, hrow⟩ := RowAt.of_owns (K := procK) h4.procs (by omega)
  rw [ha] at hg
  cases hg
  exact fun j hj => ⟨by have h7 := (hrow.cell hx (r := j) hj).1; rw [show procK.n = 12 from rfl] at h7; rw [h7, List.getElem?_eq_getElem (by rw [procK.len]; exact hj)]; rfl, (hrow.cell hx (r := j) hj).2⟩
 have h7 := h4.setProc (n := n) (j := 0) (x := x) (y := y) (vs := vs) hx ha hy (by omega) (fun r _ => by rw [Nat.zero_add, hv]) (fun r hr hn => absurd ⟨Nat.zero_le _, by omega⟩ hn)
 rw [Nat.add_zero, ← setCells_is] at h7
 have hs : ∀ g, g ≠ gs → g < W.heap.size → (W.setCells gs (n * 12) vs).heap[g]? = W.heap[g]? := fun g hg hl => h7.2.1.same g hl (by simpa using hg)
 refine ⟨hth, h7.1, (hs _ (by omega) (by omega)).trans h1, (hs _ (by omega) (by omega)).trans h2, (h5.mono hb).trans (h7.2.1.below (by omega) (by simp; omega)), fun g hg e => ?_, (KeptBut.of_below h5).trans h7.2.1⟩
 have h8 := hbk g (h7.2.2 ▸ hg)
 omega
set_option maxRecDepth 100000 in
set_option maxHeartbeats 4000000 in
theorem l4Past_any (q : PartD) (n base : Nat) (x : ProcD) (code : Int) (w : World) (h : PartOwn w base q) (hb : base ≤ w.heap.size) (hx : q.procs[n]? = some x) (hpc : 0 ≤ x.pc ∧ x.pc < x.prog.length) (hl : x.prog.length ≤ 1048576) :
  Calls Tryz.prog 219 #[.agg q.cells, .int .i64 n, .int .i64 code] w fun e w' => e = .returned (.agg q.cells) ∧ PartOwn w' base ({ q with procs := q.procs.set n (pastD code x) } : PartD) ∧ Below base w w' ∧ KeptBut w w' (blk q.procA) := by
 obtain ⟨gs, ha, hat⟩ := proc_at h.at.1 hx
 have hgs := own_lt h.procs (g := gs) (by rw [ha]; simp [blk])
 have hnl : n < q.procs.length := (List.getElem?_eq_some_iff.1 hx).1
 obtain ⟨qi, qn, ps, pA, pC, ss, sA, sC, es, eA, eC, bs, bA, bC, fs, fA, fC, ts, tA, tC⟩ := q
 simp only at ha
 subst ha
 have b1 : Below w.heap.size w ((w.alloc (.cells #[.int .i64 qi, .int .i64 qn, .slice (some ⟨gs, 0, none⟩) ps.length pC, .slice sA ss.length sC, .slice eA es.length eC, .slice bA bs.length bC, .slice fA fs.length fC, .slice tA ts.length tC] 32)).alloc (.cells #[.int .i64 0, .int .i64 0, .slice none 0 0, .slice none 0 0, .slice none 0 0, .slice none 0 0, .slice none 0 0, .slice none 0 0] 32)) := alloc2_below _ _ _
 have b2 : Below w.heap.size w (((w.alloc (.cells #[.int .i64 qi, .int .i64 qn, .slice (some ⟨gs, 0, none⟩) ps.length pC, .slice sA ss.length sC, .slice eA es.length eC, .slice bA bs.length bC, .slice fA fs.length fC, .slice tA ts.length tC] 32)).alloc (.cells #[.int .i64 0, .int .i64 0, .slice none 0 0, .slice none 0 0, .slice none 0 0, .slice none 0 0, .slice none 0 0, .slice none 0 0] 32)).alloc (.cells #[.int .i64 x.id, .int .i64 x.prio, .slice x.progA x.prog.length x.progC, .int .i64 1, .int .i64 (x.pc + 1), .int .i64 0, .int .i64 0, .int .i64 0, .string ⟨#[]⟩, .string x.got, .int .i64 code, .int .i64 x.since] 43)) := alloc3_below _ _ _ _
 have h3 := alloc3_facts w (.cells #[.int .i64 qi, .int .i64 qn, .slice (some ⟨gs, 0, none⟩) ps.length pC, .slice sA ss.length sC, .slice eA es.length eC, .slice bA bs.length bC, .slice fA fs.length fC, .slice tA ts.length tC] 32) (.cells zero8 32) (.cells #[.int .i64 x.id, .int .i64 x.prio, .slice x.progA x.prog.length x.progC, .int .i64 1, .int .i64 (x.pc + 1), .int .i64 0, .int .i64 0, .int .i64 0, .string ⟨#[]⟩, .string x.got, .int .i64 code, .int .i64 x.since] 43)
 have H6 : Hid (PartBox (((w.alloc (.cells #[.int .i64 qi, .int .i64 qn, .slice (some ⟨gs, 0, none⟩) ps.length pC, .slice sA ss.length sC, .slice eA es.length eC, .slice bA bs.length bC, .slice fA fs.length fC, .slice tA ts.length tC] 32)).alloc (.cells #[.int .i64 0, .int .i64 0, .slice none 0 0, .slice none 0 0, .slice none 0 0, .slice none 0 0, .slice none 0 0, .slice none 0 0] 32)).alloc (.cells #[.int .i64 x.id, .int .i64 x.prio, .slice x.progA x.prog.length x.progC, .int .i64 1, .int .i64 (x.pc + 1), .int .i64 0, .int .i64 0, .int .i64 0, .string ⟨#[]⟩, .string x.got, .int .i64 code, .int .i64 x.since] 43)) w.heap.size (⟨qi, qn, ps, some ⟨gs, 0, none⟩, pC, ss, sA, sC, es, eA, eC, bs, bA, bC, fs, fA, fC, ts, tA, tC⟩ : PartD) ∧ (((w.alloc (.cells #[.int .i64 qi, .int .i64 qn, .slice (some ⟨gs, 0, none⟩) ps.length pC, .slice sA ss.length sC, .slice eA es.length eC, .slice bA bs.length bC, .slice fA fs.length fC, .slice tA ts.length tC] 32)).alloc (.cells #[.int .i64 0, .int .i64 0, .slice none 0 0, .slice none 0 0, .slice none 0 0, .slice none 0 0, .slice none 0 0, .slice none 0 0] 32)).alloc (.cells #[.int .i64 x.id, .int .i64 x.prio, .slice x.progA x.prog.length x.progC, .int .i64 1, .int .i64 (x.pc + 1), .int .i64 0, .int .i64 0, .int .i64 0, .string ⟨#[]⟩, .string x.got, .int .i64 code, .int .i64 x.since] 43)).heap[w.heap.size + 1]? = some (.cells zero8 32 (0, 0)) ∧ (((w.alloc (.cells #[.int .i64 qi, .int .i64 qn, .slice (some ⟨gs, 0, none⟩) ps.length pC, .slice sA ss.length sC, .slice eA es.length eC, .slice bA bs.length bC, .slice fA fs.length fC, .slice tA ts.length tC] 32)).alloc (.cells #[.int .i64 0, .int .i64 0, .slice none 0 0, .slice none 0 0, .slice none 0 0, .slice none 0 0, .slice none 0 0, .slice none 0 0] 32)).alloc (.cells #[.int .i64 x.id, .int .i64 x.prio, .slice x.progA x.prog.length x.progC, .int .i64 1, .int .i64 (x.pc + 1), .int .i64 0, .int .i64 0, .int .i64 0, .string ⟨#[]⟩, .string x.got, .int .i64 code, .int .i64 x.since] 43)).heap[w.heap.size + 1 + 1]? = some (.cells #[.int .i64 x.id, .int .i64 x.prio, .slice x.progA x.prog.length x.progC, .int .i64 1, .int .i64 (x.pc + 1), .int .i64 0, .int .i64 0, .int .i64 0, .string ⟨#[]⟩, .string x.got, .int .i64 code, .int .i64 x.since] 43 (0, 0)) ∧ PartOwn (((w.alloc (.cells #[.int .i64 qi, .int .i64 qn, .slice (some ⟨gs, 0, none⟩) ps.length pC, .slice sA ss.length sC, .slice eA es.length eC, .slice bA bs.length bC, .slice fA fs.length fC, .slice tA ts.length tC] 32)).alloc (.cells #[.int .i64 0, .int .i64 0, .slice none 0 0, .slice none 0 0, .slice none 0 0, .slice none 0 0, .slice none 0 0, .slice none 0 0] 32)).alloc (.cells #[.int .i64 x.id, .int .i64 x.prio, .slice x.progA x.prog.length x.progC, .int .i64 1, .int .i64 (x.pc + 1), .int .i64 0, .int .i64 0, .int .i64 0, .string ⟨#[]⟩, .string x.got, .int .i64 code, .int .i64 x.since] 43)) base (⟨qi, qn, ps, some ⟨gs, 0, none⟩, pC, ss, sA, sC, es, eA, eC, bs, bA, bC, fs, fA, fC, ts, tA, tC⟩ : PartD) ∧ Below w.heap.size w (((w.alloc (.cells #[.int .i64 qi, .int .i64 qn, .slice (some ⟨gs, 0, none⟩) ps.length pC, .slice sA ss.length sC, .slice eA es.length eC, .slice bA bs.length bC, .slice fA fs.length fC, .slice tA ts.length tC] 32)).alloc (.cells #[.int .i64 0, .int .i64 0, .slice none 0 0, .slice none 0 0, .slice none 0 0, .slice none 0 0, .slice none 0 0, .slice none 0 0] 32)).alloc (.cells #[.int .i64 x.id, .int .i64 x.prio, .slice x.progA x.prog.length x.progC, .int .i64 1, .int .i64 (x.pc + 1), .int .i64 0, .int .i64 0, .int .i64 0, .string ⟨#[]⟩, .string x.got, .int .i64 code, .int .i64 x.since] 43))) := ⟨h3.1, h3.2.1, h3.2.2.1, h.below b2, b2⟩
 have PBK : Hid (∀ g ∈ (⟨qi, qn, ps, some ⟨gs, 0, none⟩, pC, ss, sA, sC, es, eA, eC, bs, bA, bC, fs, fA, fC, ts, tA, tC⟩ : PartD).blocks, g < w.heap.size) := fun g hg => (h.lt g hg).2
 have HC : Hid (ps[n]? = some x ∧ base ≤ gs ∧ gs < w.heap.size ∧ base ≤ w.heap.size ∧ n < ps.length) := ⟨hx, hgs.1, hgs.2, hb, hnl⟩
 obtain ⟨d0, d1, d2, d3, d4, d5, d6, d7, d8, d9, d10, d11⟩ : ProcD.At ((w.alloc (.cells #[.int .i64 qi, .int .i64 qn, .slice (some ⟨gs, 0, none⟩) ps.length pC, .slice sA ss.length sC, .slice eA es.length eC, .slice bA bs.length bC, .slice fA fs.length fC, .slice tA ts.length tC] 32)).alloc (.cells #[.int .i64 0, .int .i64 0, .slice none 0 0, .slice none 0 0, .slice none 0 0, .slice none 0 0, .slice none 0 0, .slice none 0 0] 32)) gs n x := by
  obtain ⟨g, e, h5⟩ := proc_at (h.below b1).at.1 hx
  cases e
  exact h5
 obtain ⟨n0, n1⟩ := hpc
 have n2 : x.pc ≤ 1048576 := by omega
 have j0 : (0 : Int) ≤ (n : Int) := by omega
 have j1 : (n : Int) < (ps.length : Int) := by have : n < ps.length := hnl; omega
 clear h hb hx hgs hat b1 b2 h3 hnl hl
 unfold PartD.cells
 simp only
 go_enter Tryz.func219, Tryz.ntmps219
 by_cases hlen : x.pc + 1 = x.prog.length
 ·have PE : Hid (pastD code x = (⟨restP (goneP code x.toProcP), x.progA, x.progC⟩ : ProcD)) := by show pastD code x = _; unfold pastD pastP; rw [if_pos hlen]
  have e1 : (x.pc + 1 == (x.prog.length : Int)) = true := by simp [hlen]
  clear hlen n1
  have hcall := l4Dormant_any (⟨goneP code x.toProcP, x.progA, x.progC⟩ : ProcD) (((w.alloc (.cells #[.int .i64 qi, .int .i64 qn, .slice (some ⟨gs, 0, none⟩) ps.length pC, .slice sA ss.length sC, .slice eA es.length eC, .slice bA bs.length bC, .slice fA fs.length fC, .slice tA ts.length tC] 32)).alloc (.cells #[.int .i64 0, .int .i64 0, .slice none 0 0, .slice none 0 0, .slice none 0 0, .slice none 0 0, .slice none 0 0, .slice none 0 0] 32)).alloc (.cells #[.int .i64 x.id, .int .i64 x.prio, .slice x.progA x.prog.length x.progC, .int .i64 1, .int .i64 (x.pc + 1), .int .i64 0, .int .i64 0, .int .i64 0, .string ⟨#[]⟩, .string x.got, .int .i64 code, .int .i64 x.since] 43))
  simp only [goneP, noT] at hcall
  go_wp2_with fail
  clear d0 d1 d2 d3 d4 d5 d6 d7 d8 d9 d10 d11 e1
  refine hcall.mono ?_
  clear hcall
  rintro e w5 ⟨rfl, hb5⟩
  have H5 : Hid (PartBox w5 w.heap.size (⟨qi, qn, ps, some ⟨gs, 0, none⟩, pC, ss, sA, sC, es, eA, eC, bs, bA, bC, fs, fA, fC, ts, tA, tC⟩ : PartD) ∧ w5.heap[w.heap.size + 1]? = some (.cells zero8 32 (0, 0)) ∧ w5.heap[w.heap.size + 1 + 1]? = some (.cells #[.int .i64 x.id, .int .i64 x.prio, .slice x.progA x.prog.length x.progC, .int .i64 1, .int .i64 (x.pc + 1), .int .i64 0, .int .i64 0, .int .i64 0, .string ⟨#[]⟩, .string x.got, .int .i64 code, .int .i64 x.since] 43 (0, 0)) ∧ PartOwn w5 base (⟨qi, qn, ps, some ⟨gs, 0, none⟩, pC, ss, sA, sC, es, eA, eC, bs, bA, bC, fs, fA, fC, ts, tA, tC⟩ : PartD) ∧ Below w.heap.size w w5) := ⟨H6.out.1.below hb5, (hb5.block _ (Array.getElem?_eq_some_iff.1 H6.out.2.1).1).trans H6.out.2.1, (hb5.block _ (Array.getElem?_eq_some_iff.1 H6.out.2.2.1).1).trans H6.out.2.2.1, H6.out.2.2.2.1.below hb5, H6.out.2.2.2.2.trans (hb5.mono H6.out.2.2.2.2.size)⟩
  have H8 : Hid (PartBox (w5.setRow (w.heap.size + 1 + 1) #[.int .i64 x.id, .int .i64 x.prio, .slice x.progA x.prog.length x.progC, .int .i64 0, .int .i64 0, .int .i64 0, .int .i64 0, .int .i64 0, .string ⟨#[]⟩, .string x.got, .int .i64 code, .int .i64 0]) w.heap.size (⟨qi, qn, ps, some ⟨gs, 0, none⟩, pC, ss, sA, sC, es, eA, eC, bs, bA, bC, fs, fA, fC, ts, tA, tC⟩ : PartD) ∧ (w5.setRow (w.heap.size + 1 + 1) #[.int .i64 x.id, .int .i64 x.prio, .slice x.progA x.prog.length x.progC, .int .i64 0, .int .i64 0, .int .i64 0, .int .i64 0, .int .i64 0, .string ⟨#[]⟩, .string x.got, .int .i64 code, .int .i64 0]).heap[w.heap.size + 1]? = some (.cells zero8 32 (0, 0)) ∧ (w5.setRow (w.heap.size + 1 + 1) #[.int .i64 x.id, .int .i64 x.prio, .slice x.progA x.prog.length x.progC, .int .i64 0, .int .i64 0, .int .i64 0, .int .i64 0, .int .i64 0, .string ⟨#[]⟩, .string x.got, .int .i64 code, .int .i64 0]).heap[w.heap.size + 1 + 1]? = some (.cells #[.int .i64 x.id, .int .i64 x.prio, .slice x.progA x.prog.length x.progC, .int .i64 0, .int .i64 0, .int .i64 0, .int .i64 0, .int .i64 0, .string ⟨#[]⟩, .string x.got, .int .i64 code, .int .i64 0] 43 (0, 0)) ∧ PartOwn (w5.setRow (w.heap.size + 1 + 1) #[.int .i64 x.id, .int .i64 x.prio, .slice x.progA x.prog.length x.progC, .int .i64 0, .int .i64 0, .int .i64 0, .int .i64 0, .int .i64 0, .string ⟨#[]⟩, .string x.got, .int .i64 code, .int .i64 0]) base (⟨qi, qn, ps, some ⟨gs, 0, none⟩, pC, ss, sA, sC, es, eA, eC, bs, bA, bC, fs, fA, fC, ts, tA, tC⟩ : PartD) ∧ Below w.heap.size w (w5.setRow (w.heap.size + 1 + 1) #[.int .i64 x.id, .int .i64 x.prio, .slice x.progA x.prog.length x.progC, .int .i64 0, .int .i64 0, .int .i64 0, .int .i64 0, .int .i64 0, .string ⟨#[]⟩, .string x.got, .int .i64 code, .int .i64 0])) := by
   refine ⟨(setRow_other _ _ _ _ (by omega)).trans H5.out.1, (setRow_other _ _ _ _ (by omega)).trans H5.out.2.1, setRow_heap _ _ _ _ _ _ H5.out.2.2.1, H5.out.2.2.2.1.same fun g hg => setRow_other _ _ _ _ (by have := PBK.out g hg; omega), below_setRow H5.out.2.2.2.2 (by omega) _⟩
  clear hb5 H6
  obtain ⟨m0, m1, m2, m3, m4, m5, m6, m7⟩ := H8.out.1.cells
  obtain ⟨r0, r1, r2, r3, r4, r5, r6, r7, r8, r9, r10, r11⟩ := proc_cells (x := (⟨restP (goneP code x.toProcP), x.progA, x.progC⟩ : ProcD)) H8.out.2.2.1
  have hz := past_store (y := (⟨restP (goneP code x.toProcP), x.progA, x.progC⟩ : ProcD)) (vs := (#[.int .i64 x.id, .int .i64 x.prio, .slice x.progA x.prog.length x.progC, .int .i64 0, .int .i64 0, .int .i64 0, .int .i64 0, .int .i64 0, .string ⟨#[]⟩, .string x.got, .int .i64 code, .int .i64 0] : Array Value).toList) H8.out.1 H8.out.2.1 (Array.getElem?_eq_some_iff.1 H8.out.2.2.1).1 H8.out.2.2.2.1 H8.out.2.2.2.2 HC.out.1 rfl HC.out.2.2.2.1 HC.out.2.1 HC.out.2.2.1 PBK.out rfl ⟨rfl, rfl, rfl⟩
  have hth := hz.1
  have HZ : Hid (_) := hz.2
  clear hz
  simp only [restP, goneP] at r0 r1 r2 r3 r4 r5 r6 r7 r8 r9 r10 r11
  dsimp only
  repeat (first | (go_big_may; first | (refine wpList_store_row rfl 43 (Operand.tmp 7) (Operand.tmp 31) rfl (w.heap.size + 1 + 1) _ _ #[.int .i64 x.id, .int .i64 x.prio, .slice x.progA x.prog.length x.progC, .int .i64 0, .int .i64 0, .int .i64 0, .int .i64 0, .int .i64 0, .string ⟨#[]⟩, .string x.got, .int .i64 code, .int .i64 0] rfl rfl H5.out.2.2.1 (by kernel_rfl) rfl (by kernel_rfl) ?_) | (refine wpList_store_mid rfl 43 (Operand.tmp 36) (Operand.tmp 35) rfl gs (n * 12) #[.int .i64 x.id, .int .i64 x.prio, .slice x.progA x.prog.length x.progC, .int .i64 0, .int .i64 0, .int .i64 0, .int .i64 0, .int .i64 0, .string ⟨#[]⟩, .string x.got, .int .i64 code, .int .i64 0] rfl rfl ?ht (by kernel_rfl) (by kernel_rfl) ?_)) | go_values | go_skip | go_guarded | go_step | go_upon)
  case ht => exact hth
  clear hth m0 m1 m2 m3 m4 m5 m6 m7 r0 r1 r2 r3 r4 r5 r6 r7 r8 r9 r10 r11
  generalize World.setCells (w5.setRow (w.heap.size + 1 + 1) #[.int .i64 x.id, .int .i64 x.prio, .slice x.progA x.prog.length x.progC, .int .i64 0, .int .i64 0, .int .i64 0, .int .i64 0, .int .i64 0, .string ⟨#[]⟩, .string x.got, .int .i64 code, .int .i64 0]) gs (n * 12) (#[.int .i64 x.id, .int .i64 x.prio, .slice x.progA x.prog.length x.progC, .int .i64 0, .int .i64 0, .int .i64 0, .int .i64 0, .int .i64 0, .string ⟨#[]⟩, .string x.got, .int .i64 code, .int .i64 0] : Array Value).toList = WZ at *
  obtain ⟨k0, k1, k2, k3, k4, k5, k6, k7⟩ := HZ.out.2.1.cells
  go_wp2_with (refine wpList_store_row rfl 32 (Operand.tmp 6) (Operand.tmp 37) rfl (w.heap.size + 1) _ _ #[.int .i64 qi, .int .i64 qn, .slice (some ⟨gs, 0, none⟩) ps.length pC, .slice sA ss.length sC, .slice eA es.length eC, .slice bA bs.length bC, .slice fA fs.length fC, .slice tA ts.length tC] rfl rfl HZ.out.2.2.1 (by kernel_rfl) rfl (by kernel_rfl) ?_)
  refine bodyPost_ret (v := .agg #[.int .i64 qi, .int .i64 qn, .slice (some ⟨gs, 0, none⟩) ps.length pC, .slice sA ss.length sC, .slice eA es.length eC, .slice bA bs.length bC, .slice fA fs.length fC, .slice tA ts.length tC]) (results_cell_row Tryz.results219 _ _ (w.heap.size + 1) _ _ (0, 0) _ rfl (setRow_heap _ _ _ _ _ _ HZ.out.2.2.1) Tryz.underlying32 rfl (by kernel_rfl)) rfl ?_
  rw [PE.out]
  exact ⟨rfl, HZ.out.1.same fun g hg => setRow_other _ _ _ _ (HZ.out.2.2.2.2.1 g hg), below_setRow HZ.out.2.2.2.1 (by have := HC.out.2.2.2.1; omega) _, HZ.out.2.2.2.2.2.more (below_setRow (Below.refl _ _) (by omega) _)⟩
 ·have PE : Hid (pastD code x = (⟨goneP code x.toProcP, x.progA, x.progC⟩ : ProcD)) := by show pastD code x = _; unfold pastD pastP; rw [if_neg hlen]
  have e1 : (x.pc + 1 == (x.prog.length : Int)) = false := by simp [hlen]
  clear hlen n1
  obtain ⟨m0, m1, m2, m3, m4, m5, m6, m7⟩ := H6.out.1.cells
  obtain ⟨r0, r1, r2, r3, r4, r5, r6, r7, r8, r9, r10, r11⟩ := proc_cells (x := (⟨goneP code x.toProcP, x.progA, x.progC⟩ : ProcD)) H6.out.2.2.1
  have hz := past_store (y := (⟨goneP code x.toProcP, x.progA, x.progC⟩ : ProcD)) (vs := (#[.int .i64 x.id, .int .i64 x.prio, .slice x.progA x.prog.length x.progC, .int .i64 1, .int .i64 (x.pc + 1), .int .i64 0, .int .i64 0, .int .i64 0, .string ⟨#[]⟩, .string x.got, .int .i64 code, .int .i64 x.since] : Array Value).toList) H6.out.1 H6.out.2.1 (Array.getElem?_eq_some_iff.1 H6.out.2.2.1).1 H6.out.2.2.2.1 H6.out.2.2.2.2 HC.out.1 rfl HC.out.2.2.2.1 HC.out.2.1 HC.out.2.2.1 PBK.out rfl ⟨rfl, rfl, rfl⟩
  have hth := hz.1
  have HZ : Hid (_) := hz.2
  clear hz
  simp only [goneP] at r0 r1 r2 r3 r4 r5 r6 r7 r8 r9 r10 r11
  repeat (first | (go_big_may; first | (refine wpList_store_mid rfl 43 (Operand.tmp 36) (Operand.tmp 35) rfl gs (n * 12) #[.int .i64 x.id, .int .i64 x.prio, .slice x.progA x.prog.length x.progC, .int .i64 1, .int .i64 (x.pc + 1), .int .i64 0, .int .i64 0, .int .i64 0, .string ⟨#[]⟩, .string x.got, .int .i64 code, .int .i64 x.since] rfl rfl ?ht (by kernel_rfl) (by kernel_rfl) ?_)) | go_values | go_skip | go_guarded | go_step | go_upon)
  case ht => exact hth
  clear hth m0 m1 m2 m3 m4 m5 m6 m7 r0 r1 r2 r3 r4 r5 r6 r7 r8 r9 r10 r11
  generalize World.setCells (((w.alloc (.cells #[.int .i64 qi, .int .i64 qn, .slice (some ⟨gs, 0, none⟩) ps.length pC, .slice sA ss.length sC, .slice eA es.length eC, .slice bA bs.length bC, .slice fA fs.length fC, .slice tA ts.length tC] 32)).alloc (.cells #[.int .i64 0, .int .i64 0, .slice none 0 0, .slice none 0 0, .slice none 0 0, .slice none 0 0, .slice none 0 0, .slice none 0 0] 32)).alloc (.cells #[.int .i64 x.id, .int .i64 x.prio, .slice x.progA x.prog.length x.progC, .int .i64 1, .int .i64 (x.pc + 1), .int .i64 0, .int .i64 0, .int .i64 0, .string ⟨#[]⟩, .string x.got, .int .i64 code, .int .i64 x.since] 43)) gs (n * 12) (#[.int .i64 x.id, .int .i64 x.prio, .slice x.progA x.prog.length x.progC, .int .i64 1, .int .i64 (x.pc + 1), .int .i64 0, .int .i64 0, .int .i64 0, .string ⟨#[]⟩, .string x.got, .int .i64 code, .int .i64 x.since] : Array Value).toList = WZ at *
  obtain ⟨k0, k1, k2, k3, k4, k5, k6, k7⟩ := HZ.out.2.1.cells
  go_wp2_with (refine wpList_store_row rfl 32 (Operand.tmp 6) (Operand.tmp 37) rfl (w.heap.size + 1) _ _ #[.int .i64 qi, .int .i64 qn, .slice (some ⟨gs, 0, none⟩) ps.length pC, .slice sA ss.length sC, .slice eA es.length eC, .slice bA bs.length bC, .slice fA fs.length fC, .slice tA ts.length tC] rfl rfl HZ.out.2.2.1 (by kernel_rfl) rfl (by kernel_rfl) ?_)
  refine bodyPost_ret (v := .agg #[.int .i64 qi, .int .i64 qn, .slice (some ⟨gs, 0, none⟩) ps.length pC, .slice sA ss.length sC, .slice eA es.length eC, .slice bA bs.length bC, .slice fA fs.length fC, .slice tA ts.length tC]) (results_cell_row Tryz.results219 _ _ (w.heap.size + 1) _ _ (0, 0) _ rfl (setRow_heap _ _ _ _ _ _ HZ.out.2.2.1) Tryz.underlying32 rfl (by kernel_rfl)) rfl ?_
  rw [PE.out]
  exact ⟨rfl, HZ.out.1.same fun g hg => setRow_other _ _ _ _ (HZ.out.2.2.2.2.1 g hg), below_setRow HZ.out.2.2.2.1 (by have := HC.out.2.2.2.1; omega) _, HZ.out.2.2.2.2.2.more (below_setRow (Below.refl _ _) (by omega) _)⟩
set_option maxRecDepth 100000 in
set_option maxHeartbeats 4000000 in
theorem l4Place_kept (q : PartD) (n base : Nat) (x : ProcD) (w : World) (h : PartOwn w base q) (hb : base ≤ w.heap.size) (hx : q.procs[n]? = some x) (hn : 0 ≤ q.next ∧ q.next ≤ 1000000000) :
  Calls Tryz.prog 98 #[.agg q.cells, .int .i64 n] w fun e w' => ∃ q2 : PartD, e = .returned (.agg q2.cells) ∧ q2 = { q with next := q.next + 1, procs := q.procs.set n { x with since := q.next } } ∧ PartOwn w' base q2 ∧ Below base w w' ∧ KeptBut w w' (blk q.procA) := by
 obtain ⟨gs, ha, hat⟩ := proc_at h.at.1 hx
 have hb1 : Below w.heap.size w ((w.alloc (.cells #[.int .i64 q.id, .int .i64 q.next, .slice (some ⟨gs, 0, none⟩) q.procs.length q.procC, .slice q.semA q.sems.length q.semC, .slice q.eventA q.events.length q.eventC, .slice q.boardA q.boards.length q.boardC, .slice q.bufferA q.buffers.length q.bufferC, .slice q.portA q.ports.length q.portC] 32)).alloc (.cells #[.int .i64 0, .int .i64 0, .slice none 0 0, .slice none 0 0, .slice none 0 0, .slice none 0 0, .slice none 0 0, .slice none 0 0] 32)) := ((Below.refl _ _).alloc (Nat.le_refl _) _).alloc (by simp) _
 have hnl : n < q.procs.length := (List.getElem?_eq_some_iff.1 hx).1
 have HB : Hid (PartBox ((w.alloc (.cells #[.int .i64 q.id, .int .i64 q.next, .slice (some ⟨gs, 0, none⟩) q.procs.length q.procC, .slice q.semA q.sems.length q.semC, .slice q.eventA q.events.length q.eventC, .slice q.boardA q.boards.length q.boardC, .slice q.bufferA q.buffers.length q.bufferC, .slice q.portA q.ports.length q.portC] 32)).alloc (.cells #[.int .i64 0, .int .i64 0, .slice none 0 0, .slice none 0 0, .slice none 0 0, .slice none 0 0, .slice none 0 0, .slice none 0 0] 32)) w.heap.size q ∧ PartOwn ((w.alloc (.cells #[.int .i64 q.id, .int .i64 q.next, .slice (some ⟨gs, 0, none⟩) q.procs.length q.procC, .slice q.semA q.sems.length q.semC, .slice q.eventA q.events.length q.eventC, .slice q.boardA q.boards.length q.boardC, .slice q.bufferA q.buffers.length q.bufferC, .slice q.portA q.ports.length q.portC] 32)).alloc (.cells #[.int .i64 0, .int .i64 0, .slice none 0 0, .slice none 0 0, .slice none 0 0, .slice none 0 0, .slice none 0 0, .slice none 0 0] 32)) base q ∧ Below w.heap.size w ((w.alloc (.cells #[.int .i64 q.id, .int .i64 q.next, .slice (some ⟨gs, 0, none⟩) q.procs.length q.procC, .slice q.semA q.sems.length q.semC, .slice q.eventA q.events.length q.eventC, .slice q.boardA q.boards.length q.boardC, .slice q.bufferA q.buffers.length q.bufferC, .slice q.portA q.ports.length q.portC] 32)).alloc (.cells #[.int .i64 0, .int .i64 0, .slice none 0 0, .slice none 0 0, .slice none 0 0, .slice none 0 0, .slice none 0 0, .slice none 0 0] 32)) ∧ ((w.alloc (.cells #[.int .i64 q.id, .int .i64 q.next, .slice (some ⟨gs, 0, none⟩) q.procs.length q.procC, .slice q.semA q.sems.length q.semC, .slice q.eventA q.events.length q.eventC, .slice q.boardA q.boards.length q.boardC, .slice q.bufferA q.buffers.length q.bufferC, .slice q.portA q.ports.length q.portC] 32)).alloc (.cells #[.int .i64 0, .int .i64 0, .slice none 0 0, .slice none 0 0, .slice none 0 0, .slice none 0 0, .slice none 0 0, .slice none 0 0] 32)).heap[w.heap.size + 1]? = some (.cells #[.int .i64 0, .int .i64 0, .slice none 0 0, .slice none 0 0, .slice none 0 0, .slice none 0 0, .slice none 0 0, .slice none 0 0] 32 (0, 0)) ∧ q.procs[n]? = some x ∧ q.procA = some ⟨gs, 0, none⟩ ∧ base ≤ w.heap.size ∧ gs < w.heap.size ∧ base ≤ gs) := by
  have h5 := own_lt h.procs (g := gs) (by rw [ha]; simp [blk])
  exact ⟨by unfold PartBox; rw [ha]; exact (heap_alloc_old _ _ (by simp)).trans (heap_alloc_new _ _), h.below hb1, hb1, heap_alloc2_new _ _ _, hx, ha, hb, h5.2, h5.1⟩
 obtain ⟨m0, m1, m2, m3, m4, m5, m6, m7⟩ := HB.out.1.cells
 rw [ha] at m2
 obtain ⟨⟨u, c11⟩, f11⟩ : (∃ u, ((w.alloc (.cells #[.int .i64 q.id, .int .i64 q.next, .slice (some ⟨gs, 0, none⟩) q.procs.length q.procC, .slice q.semA q.sems.length q.semC, .slice q.eventA q.events.length q.eventC, .slice q.boardA q.boards.length q.boardC, .slice q.bufferA q.buffers.length q.bufferC, .slice q.portA q.ports.length q.portC] 32)).alloc (.cells #[.int .i64 0, .int .i64 0, .slice none 0 0, .slice none 0 0, .slice none 0 0, .slice none 0 0, .slice none 0 0, .slice none 0 0] 32)).cell? ⟨gs, n * 12 + 11, none⟩ = some u) ∧ ((w.alloc (.cells #[.int .i64 q.id, .int .i64 q.next, .slice (some ⟨gs, 0, none⟩) q.procs.length q.procC, .slice q.semA q.sems.length q.semC, .slice q.eventA q.events.length q.eventC, .slice q.boardA q.boards.length q.boardC, .slice q.bufferA q.buffers.length q.bufferC, .slice q.portA q.ports.length q.portC] 32)).alloc (.cells #[.int .i64 0, .int .i64 0, .slice none 0 0, .slice none 0 0, .slice none 0 0, .slice none 0 0, .slice none 0 0, .slice none 0 0] 32)).frozen? ⟨gs, n * 12 + 11, none⟩ = false := by
  obtain ⟨g, hg, hrow⟩ := RowAt.of_owns (K := procK) HB.out.2.1.procs (by omega)
  rw [ha] at hg
  cases hg
  exact ⟨⟨_, (hrow.cell hx (r := 11) (by decide)).1⟩, (hrow.cell hx (r := 11) (by decide)).2⟩
 have j0 : (0 : Int) ≤ (n : Int) := by omega
 have j1 : (n : Int) < (q.procs.length : Int) := by omega
 obtain ⟨hn0, hn1⟩ := hn
 have h5 := HB.out.2.1.setProc (n := n) (j := 11) (x := x) (y := { x with since := q.next }) (vs := [.int .i64 q.next]) hx ha ⟨rfl, rfl, rfl⟩ (by show 11 + 1 ≤ 12; omega) (fun r hr => by match r, hr with | 0, _ => rfl) (fun r hr hn => by match r, hr, hn with | 0, _, _ => rfl | 1, _, _ => rfl | 2, _, _ => rfl | 3, _, _ => rfl | 4, _, _ => rfl | 5, _, _ => rfl | 6, _, _ => rfl | 7, _, _ => rfl | 8, _, _ => rfl | 9, _, _ => rfl | 10, _, _ => rfl | 11, _, hn => exact absurd ⟨by omega, by show 11 < 11 + 1; omega⟩ hn)
 simp only [setAllW] at h5
 have HS : Hid (PartOwn (((w.alloc (.cells #[.int .i64 q.id, .int .i64 q.next, .slice (some ⟨gs, 0, none⟩) q.procs.length q.procC, .slice q.semA q.sems.length q.semC, .slice q.eventA q.events.length q.eventC, .slice q.boardA q.boards.length q.boardC, .slice q.bufferA q.buffers.length q.bufferC, .slice q.portA q.ports.length q.portC] 32)).alloc (.cells #[.int .i64 0, .int .i64 0, .slice none 0 0, .slice none 0 0, .slice none 0 0, .slice none 0 0, .slice none 0 0, .slice none 0 0] 32)).setCell ⟨gs, n * 12 + 11, none⟩ (.int .i64 q.next)) base ({ q with procs := q.procs.set n { x with since := q.next } } : PartD) ∧ Below base w (((w.alloc (.cells #[.int .i64 q.id, .int .i64 q.next, .slice (some ⟨gs, 0, none⟩) q.procs.length q.procC, .slice q.semA q.sems.length q.semC, .slice q.eventA q.events.length q.eventC, .slice q.boardA q.boards.length q.boardC, .slice q.bufferA q.buffers.length q.bufferC, .slice q.portA q.ports.length q.portC] 32)).alloc (.cells #[.int .i64 0, .int .i64 0, .slice none 0 0, .slice none 0 0, .slice none 0 0, .slice none 0 0, .slice none 0 0, .slice none 0 0] 32)).setCell ⟨gs, n * 12 + 11, none⟩ (.int .i64 q.next)) ∧ PartBox (((w.alloc (.cells #[.int .i64 q.id, .int .i64 q.next, .slice (some ⟨gs, 0, none⟩) q.procs.length q.procC, .slice q.semA q.sems.length q.semC, .slice q.eventA q.events.length q.eventC, .slice q.boardA q.boards.length q.boardC, .slice q.bufferA q.buffers.length q.bufferC, .slice q.portA q.ports.length q.portC] 32)).alloc (.cells #[.int .i64 0, .int .i64 0, .slice none 0 0, .slice none 0 0, .slice none 0 0, .slice none 0 0, .slice none 0 0, .slice none 0 0] 32)).setCell ⟨gs, n * 12 + 11, none⟩ (.int .i64 q.next)) w.heap.size q ∧ (((w.alloc (.cells #[.int .i64 q.id, .int .i64 q.next, .slice (some ⟨gs, 0, none⟩) q.procs.length q.procC, .slice q.semA q.sems.length q.semC, .slice q.eventA q.events.length q.eventC, .slice q.boardA q.boards.length q.boardC, .slice q.bufferA q.buffers.length q.bufferC, .slice q.portA q.ports.length q.portC] 32)).alloc (.cells #[.int .i64 0, .int .i64 0, .slice none 0 0, .slice none 0 0, .slice none 0 0, .slice none 0 0, .slice none 0 0, .slice none 0 0] 32)).setCell ⟨gs, n * 12 + 11, none⟩ (.int .i64 q.next)).heap[w.heap.size + 1]? = some (.cells #[.int .i64 0, .int .i64 0, .slice none 0 0, .slice none 0 0, .slice none 0 0, .slice none 0 0, .slice none 0 0, .slice none 0 0] 32 (0, 0))) := by
  have hg := HB.out.2.2.2.2.2.2
  refine ⟨h5.1, (hb1.mono hb).trans (h5.2.1.below (by have := hb1.size; omega) (by simp; omega)), (setCell_other (by omega)).trans HB.out.1, (setCell_other (by omega)).trans HB.out.2.2.2.1⟩
 have hq8 : (PartD.cells q) = #[.int .i64 q.id, .int .i64 q.next, .slice (some ⟨gs, 0, none⟩) q.procs.length q.procC, .slice q.semA q.sems.length q.semC, .slice q.eventA q.events.length q.eventC, .slice q.boardA q.boards.length q.boardC, .slice q.bufferA q.buffers.length q.bufferC, .slice q.portA q.ports.length q.portC] := by unfold PartD.cells; rw [ha]
 rw [hq8]
 have hbks := h5.2.2
 have hlt0 : ∀ g ∈ q.blocks, g < w.heap.size := fun g hg => (h.lt g hg).2
 have HBK : Hid (∀ g ∈ ({ q with procs := q.procs.set n { x with since := q.next } } : PartD).blocks, g < w.heap.size) := fun g hg => hlt0 g (by rw [← hbks]; exact hg)
 have k1 : (((w.alloc (.cells #[.int .i64 q.id, .int .i64 q.next, .slice (some ⟨gs, 0, none⟩) q.procs.length q.procC, .slice q.semA q.sems.length q.semC, .slice q.eventA q.events.length q.eventC, .slice q.boardA q.boards.length q.boardC, .slice q.bufferA q.buffers.length q.bufferC, .slice q.portA q.ports.length q.portC] 32)).alloc (.cells #[.int .i64 0, .int .i64 0, .slice none 0 0, .slice none 0 0, .slice none 0 0, .slice none 0 0, .slice none 0 0, .slice none 0 0] 32)).setCell ⟨gs, n * 12 + 11, none⟩ (.int .i64 q.next)).cell? ⟨w.heap.size, 1, none⟩ = some (.int .i64 q.next) := by have h6 := HS.out.2.2.1; unfold PartBox at h6; simp only [World.cell?, h6]; rfl
 have k1f : (((w.alloc (.cells #[.int .i64 q.id, .int .i64 q.next, .slice (some ⟨gs, 0, none⟩) q.procs.length q.procC, .slice q.semA q.sems.length q.semC, .slice q.eventA q.events.length q.eventC, .slice q.boardA q.boards.length q.boardC, .slice q.bufferA q.buffers.length q.bufferC, .slice q.portA q.ports.length q.portC] 32)).alloc (.cells #[.int .i64 0, .int .i64 0, .slice none 0 0, .slice none 0 0, .slice none 0 0, .slice none 0 0, .slice none 0 0, .slice none 0 0] 32)).setCell ⟨gs, n * 12 + 11, none⟩ (.int .i64 q.next)).frozen? ⟨w.heap.size, 1, none⟩ = false := frozen_of_row _ _ _ _ _ HS.out.2.2.1
 clear h hb hx hb1 h5 hat ha hq8
 go_enter Tryz.func98, Tryz.ntmps98
 have HT : Hid (((((w.alloc (.cells #[.int .i64 q.id, .int .i64 q.next, .slice (some ⟨gs, 0, none⟩) q.procs.length q.procC, .slice q.semA q.sems.length q.semC, .slice q.eventA q.events.length q.eventC, .slice q.boardA q.boards.length q.boardC, .slice q.bufferA q.buffers.length q.bufferC, .slice q.portA q.ports.length q.portC] 32)).alloc (.cells #[.int .i64 0, .int .i64 0, .slice none 0 0, .slice none 0 0, .slice none 0 0, .slice none 0 0, .slice none 0 0, .slice none 0 0] 32)).setCell ⟨gs, n * 12 + 11, none⟩ (.int .i64 q.next)).setCell ⟨w.heap.size, 1, none⟩ (.int .i64 (q.next + 1))).heap[w.heap.size + 1]? = some (.cells #[.int .i64 0, .int .i64 0, .slice none 0 0, .slice none 0 0, .slice none 0 0, .slice none 0 0, .slice none 0 0, .slice none 0 0] 32 (0, 0)) ∧ PartOwn ((((w.alloc (.cells #[.int .i64 q.id, .int .i64 q.next, .slice (some ⟨gs, 0, none⟩) q.procs.length q.procC, .slice q.semA q.sems.length q.semC, .slice q.eventA q.events.length q.eventC, .slice q.boardA q.boards.length q.boardC, .slice q.bufferA q.buffers.length q.bufferC, .slice q.portA q.ports.length q.portC] 32)).alloc (.cells #[.int .i64 0, .int .i64 0, .slice none 0 0, .slice none 0 0, .slice none 0 0, .slice none 0 0, .slice none 0 0, .slice none 0 0] 32)).setCell ⟨gs, n * 12 + 11, none⟩ (.int .i64 q.next)).setCell ⟨w.heap.size, 1, none⟩ (.int .i64 (q.next + 1))) base ({ q with procs := q.procs.set n { x with since := q.next } } : PartD) ∧ Below base w ((((w.alloc (.cells #[.int .i64 q.id, .int .i64 q.next, .slice (some ⟨gs, 0, none⟩) q.procs.length q.procC, .slice q.semA q.sems.length q.semC, .slice q.eventA q.events.length q.eventC, .slice q.boardA q.boards.length q.boardC, .slice q.bufferA q.buffers.length q.bufferC, .slice q.portA q.ports.length q.portC] 32)).alloc (.cells #[.int .i64 0, .int .i64 0, .slice none 0 0, .slice none 0 0, .slice none 0 0, .slice none 0 0, .slice none 0 0, .slice none 0 0] 32)).setCell ⟨gs, n * 12 + 11, none⟩ (.int .i64 q.next)).setCell ⟨w.heap.size, 1, none⟩ (.int .i64 (q.next + 1)))) := by
  have hg := HB.out.2.2.2.2.2.2
  have hbl : ∀ g ∈ ({ q with procs := q.procs.set n { x with since := q.next } } : PartD).blocks, g ≠ w.heap.size := fun g hg2 e => by rw [hbks] at hg2; have := hlt0 g hg2; omega
  exact ⟨(setCell_other (by omega)).trans HS.out.2.2.2, HS.out.1.same fun g hg2 => setCell_other (hbl g hg2), below_setCell HS.out.2.1 (by omega)⟩
 clear hbks hlt0
 go_wp2_with (refine wpList_store_row rfl 32 (Operand.tmp 4) (Operand.tmp 16) rfl (w.heap.size + 1) _ _ #[.int .i64 q.id, .int .i64 (q.next + 1), .slice (some ⟨gs, 0, none⟩) q.procs.length q.procC, .slice q.semA q.sems.length q.semC, .slice q.eventA q.events.length q.eventC, .slice q.boardA q.boards.length q.boardC, .slice q.bufferA q.buffers.length q.bufferC, .slice q.portA q.ports.length q.portC] rfl rfl HT.out.1 (by kernel_rfl) rfl (by kernel_rfl) ?_)
 refine bodyPost_ret (v := .agg #[.int .i64 q.id, .int .i64 (q.next + 1), .slice (some ⟨gs, 0, none⟩) q.procs.length q.procC, .slice q.semA q.sems.length q.semC, .slice q.eventA q.events.length q.eventC, .slice q.boardA q.boards.length q.boardC, .slice q.bufferA q.buffers.length q.bufferC, .slice q.portA q.ports.length q.portC]) (results_cell_row Tryz.results98 _ _ (w.heap.size + 1) _ _ (0, 0) _ rfl (setRow_heap _ _ _ _ _ _ HT.out.1) Tryz.underlying32 rfl (by kernel_rfl)) rfl ?_
 have hg := HB.out.2.2.2.2.2.2
 have hbn : ∀ g ∈ ({ q with procs := q.procs.set n { x with since := q.next } } : PartD).blocks, g ≠ w.heap.size + 1 := fun g hg2 e => by have := HBK.out g hg2; omega
 have ho := HT.out.2.1.same (w' := ((((w.alloc (.cells #[.int .i64 q.id, .int .i64 q.next, .slice (some ⟨gs, 0, none⟩) q.procs.length q.procC, .slice q.semA q.sems.length q.semC, .slice q.eventA q.events.length q.eventC, .slice q.boardA q.boards.length q.boardC, .slice q.bufferA q.buffers.length q.bufferC, .slice q.portA q.ports.length q.portC] 32)).alloc (.cells #[.int .i64 0, .int .i64 0, .slice none 0 0, .slice none 0 0, .slice none 0 0, .slice none 0 0, .slice none 0 0, .slice none 0 0] 32)).setCell ⟨gs, n * 12 + 11, none⟩ (.int .i64 q.next)).setCell ⟨w.heap.size, 1, none⟩ (.int .i64 (q.next + 1))).setRow (w.heap.size + 1) #[.int .i64 q.id, .int .i64 (q.next + 1), .slice (some ⟨gs, 0, none⟩) q.procs.length q.procC, .slice q.semA q.sems.length q.semC, .slice q.eventA q.events.length q.eventC, .slice q.boardA q.boards.length q.boardC, .slice q.bufferA q.buffers.length q.bufferC, .slice q.portA q.ports.length q.portC]) fun g hg2 => setRow_other _ _ _ _ (hbn g hg2)
 refine ⟨_, ?_, rfl, ⟨ho.procs, ho.sems, ho.events, ho.boards, ho.buffers, ho.ports, ho.mineP, ho.mineF, ho.mineQ, ho.nodup⟩, below_setRow HT.out.2.2 (by omega) _, ?_⟩
 ·simp only [PartD.cells, List.length_set, HB.out.2.2.2.2.2.1]
 ·have hB := below_setRow HT.out.2.2 (show base ≤ w.heap.size + 1 by omega) (#[.int .i64 q.id, .int .i64 (q.next + 1), .slice (some ⟨gs, 0, none⟩) q.procs.length q.procC, .slice q.semA q.sems.length q.semC, .slice q.eventA q.events.length q.eventC, .slice q.boardA q.boards.length q.boardC, .slice q.bufferA q.buffers.length q.bufferC, .slice q.portA q.ports.length q.portC] : Array Value)
  refine ⟨hB.os, hB.tape, hB.output, hB.size, fun g hg2 hn => ?_⟩
  rw [HB.out.2.2.2.2.2.1] at hn
  exact (setRow_other _ _ _ _ (by omega)).trans ((setCell_other (by omega)).trans ((setCell_other (by simpa [blk] using hn)).trans ((alloc2_below _ _ _).block g hg2)))
end Go.Proofs.YtkbcplnlehdjfaaGreat

/- What waking leaves is small. -/
namespace Go.Proofs.YtkbcplnlehdjfaaGreat
theorem small_wake {nx code : Int} {y : ProcP} (h : SmallP y) (hn : (Lit.int .i64 nx).wf = true) : SmallP (wakeF nx code y) := by
 have z : (Lit.int .i64 0).wf = true := by decide
 unfold wakeF
 split
 ·exact ⟨⟨h.1.1, h.1.2.1, Nat.zero_le _, h.1.2.2.2⟩, h.2.1, z, z⟩
 ·exact ⟨⟨h.1.1, h.1.2.1, Nat.zero_le _, h.1.2.2.2⟩, h.2.1, z, hn⟩
theorem small_step {now : Int} {p : PartP} {x : ProcP} (h : p.Small) (hw : Wk now p) : (wakeStep p x).Small := by
 have hn : (Lit.int .i64 p.next).wf = true := by
  have h2 := hw.room
  have e1 : IntKind.min .i64 ≤ 0 := by decide
  have e2 : 2000000000 ≤ IntKind.max .i64 := by decide
  simp only [Lit.wf, Bool.and_eq_true, decide_eq_true_eq]
  omega
 refine ⟨by show (turnP _ _ p.procs).length ≤ _; simpa [turnP] using h.nProc, h.nSem, h.nEvent, h.nBoard, h.nBuffer, h.nPort, fun y hy => ?_, h.sems, h.events, h.boards, h.buffers, h.ports⟩
 rcases turn_mem hy with h1 | ⟨z, hz, rfl⟩
 ·exact h.procs y h1
 ·exact small_wake (h.procs z hz) hn
theorem total_step {p : PartP} {x : ProcP} : (wakeStep p x).total = p.total := by
 have h1 : (turnP x.id (wakeF p.next (codeOf x)) p.procs).map (fun x : ProcP => x.prog.length) = p.procs.map (fun x : ProcP => x.prog.length) := by
  unfold turnP
  rw [List.map_map]
  refine List.map_congr_left fun y _ => ?_
  simp only [Function.comp_def]
  split
  ·rw [(wakeF_id _ _ _).2]
  ·rfl
 have h2 : (turnP x.id (wakeF p.next (codeOf x)) p.procs).length = p.procs.length := by simp [turnP]
 simp only [PartP.total, wakeStep, sumL, h1, h2]
theorem wokenN_small {now : Int} : ∀ (n : Nat) {p : PartP}, p.Small → Wk now p → (wokenN now n p).Small ∧ (wokenN now n p).total = p.total
 | 0, _, h, _ => ⟨h, rfl⟩
 | n + 1, p, h, hw => by
  unfold wokenN
  split
  ·exact ⟨h, rfl⟩
  ·rename_i x hx
   have h1 := wokenN_small n (small_step (x := x) h hw) (hw.step hx).1
   exact ⟨h1.1, h1.2.trans total_step⟩
theorem woken_cases {p : PartP} {now : Int} (h : p.Small) : ((wokenP p now).getD zeroPart).Small ∧ ((wokenP p now).getD zeroPart).total ≤ p.total := by
 unfold wokenP
 split
 ·rename_i hc
  simp only [Bool.and_eq_true, decide_eq_true_eq] at hc
  have h1 := wokenN_small (now := now) (dueL now p.procs).length h (Wk.of ((partB_iff _).1 hc.1.1) hc.2)
  exact ⟨h1.1, Nat.le_of_eq h1.2⟩
 ·exact ⟨zero_small, by simp [PartP.total, zeroPart, sumL]⟩
end Go.Proofs.YtkbcplnlehdjfaaGreat
