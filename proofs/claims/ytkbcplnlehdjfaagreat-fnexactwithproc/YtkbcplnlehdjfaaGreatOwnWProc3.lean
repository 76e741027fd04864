/- What the proof leans on, part 3: WithProcLaw. -/
import Derived.Test.YtkbcplnlehdjfaaGreatOwnWProc1
import Derived.Test.YtkbcplnlehdjfaaGreatOwnWProc2

namespace Go.Proofs.YtkbcplnlehdjfaaGreat
open Go.RowKit
attribute [local go_sem ↓] Go.wp_at_zero Go.wp_at_succ
/-- A list of ops in a block of its own. -/
def OpsIn (W : World) (X b : Nat) (l : List OpD) : Prop := W.ownsRow b 134 4 (.slice (some ⟨X, 0, none⟩) l.length l.length) l.length (opK.flat l)
section
variable {W W' : World} {X b : Nat} {l : List OpD} {bs : List Nat}
theorem OpsIn.row (h : OpsIn W X b l) : Row W (some ⟨X, 0, none⟩) (opK.flat l) := own_row h
theorem OpsIn.lies (h : OpsIn W X b l) : opK.Lies W (some ⟨X, 0, none⟩) l := ⟨own_row h, fun x hx r hr => by cases hr⟩
theorem OpsIn.lt (h : OpsIn W X b l) : X < W.heap.size := (own_lt h (by simp [blk])).2
theorem OpsIn.below (h : OpsIn W X b l) (hb : Below W.heap.size W W') : OpsIn W' X b l := own_below h hb
theorem OpsIn.kept (h : OpsIn W X b l) (hk : KeptBut W W' bs) (hs : X ∉ bs) : OpsIn W' X b l := own_same h fun g hg => by
 have e : g = X := by simpa [blk] using hg
 subst e
 exact hk.same _ h.lt hs
theorem upO (h : Hid (OpsIn W X b l)) (hb : Below W.heap.size W W') : Hid (OpsIn W' X b l) := h.out.below hb
end
set_option maxRecDepth 100000 in
set_option maxHeartbeats 8000000 in
theorem withProcLaw_any (p : PartD) (id prio : Int) (a : Option Addr) (ops : List OpD) (c : Nat) (w : World) (hb : p.Big) (hc : p.Came w) (hi : p.Ints) (hwi : (Lit.int .i64 id).wf = true) (hob : ops.length ≤ maxLen ∧ ∀ x ∈ ops, x.2.2.2.size ≤ maxLen) (hoc : opK.Came w a ops) :
  Calls Tryz.prog 9 #[.agg p.cells, .int .i64 id, .int .i64 prio, .slice a ops.length c] w fun e w' => e = .returned (.bool true) ∧ Below w.heap.size w w' := by
 have HB : Hid (p.Big ∧ p.Ints) := ⟨hb, hi⟩
 have HC : Hid (p.Came w) := hc
 have HWi : Hid ((Lit.int .i64 id).wf = true) := hwi
 have HCO : Hid (opK.Came w a ops ∧ (ops.length ≤ maxLen ∧ ∀ x ∈ ops, x.2.2.2.size ≤ maxLen)) := ⟨hoc, hob⟩
 have HX : Hid (SrcS p w (w.alloc (.cells p.cells 73))) := ⟨heap_alloc_new _ _, (Below.refl _ _).alloc (Nat.le_refl _) _⟩
 clear hb hc hi hwi hob hoc
 unfold PartD.cells at *
 go_enter Tryz.func9, Tryz.ntmps9
 go_wp2_with fail
 generalize w.alloc (.cells #[.int .i64 p.id, .int .i64 p.next, .slice p.procA p.procs.length p.procC, .slice p.semA p.sems.length p.semC, .slice p.eventA p.events.length p.eventC, .slice p.boardA p.boards.length p.boardC, .slice p.bufferA p.buffers.length p.bufferC, .slice p.portA p.ports.length p.portC] 73) = W0 at *
 refine (szPart_l p 1048576 W0 HB.out.1 (HC.out.below HX.out.2) (by omega) (by omega)).mono ?_
 rintro e W1 ⟨r, rfl, r0, r1, hr, hb⟩
 replace HX := upX HX hb
 clear hb
 by_cases hneg : r < 0
 ·go_wp2
  go_ret
  exact ⟨rfl, HX.out.2⟩
 have HSM : Hid (p.Shorts ∧ p.pure.Small ∧ p.pure.total ≤ 1048576) := ⟨(hr (by omega)).1, small_of (hr (by omega)).1 HB.out.2, by have := (hr (by omega)).2; omega⟩
 clear hr
 go_wp2_with fail
 refine (szSOp_l a ops c r W1 HCO.out.2.1 (HCO.out.1.below HX.out.2) HCO.out.2.2 (by omega) (by omega)).mono ?_
 rintro e Wb ⟨rb, rfl, q0, q1, hr, hb⟩
 replace HX := upX HX hb
 clear hb
 by_cases hneg2 : rb < 0
 ·go_wp2
  go_ret
  exact ⟨rfl, HX.out.2⟩
 have HSO : Hid (ops.length ≤ 1048576 ∧ ∀ o ∈ ops, o.2.2.2.size ≤ 1048576) := (hr (by omega)).1
 clear hr
 obtain ⟨ok, hok⟩ : ∃ b : Bool, (withR p.pure { p.pure with procs := insG (·.id) (newP id prio ops) p.pure.procs }).isSome = b := ⟨_, rfl⟩
 have HOK : Hid ((withR p.pure { p.pure with procs := insG (·.id) (newP id prio ops) p.pure.procs }).isSome = ok) := hok
 clear hok
 have dn : (ok != ok) = false := by simp
 obtain ⟨PU, hpu⟩ : ∃ P, (withR p.pure { p.pure with procs := insG (·.id) (newP id prio ops) p.pure.procs }).getD zeroPart = P := ⟨_, rfl⟩
 have HPU : Hid ((withR p.pure { p.pure with procs := insG (·.id) (newP id prio ops) p.pure.procs }).getD zeroPart = PU) := hpu
 clear hpu
 obtain ⟨m0, m1, m2, m3, m4, m5, m6, m7⟩ := srcCells HX.out.1
 go_wp2_with fail
 clear m0 m1 m2 m3 m4 m5 m6 m7
 refine (toPart_l p Wb HSM.out.1 (HC.out.below HX.out.2)).mono ?_
 rintro e V2 ⟨p2, rfl, ho, hp, hb⟩
 have HQ : Hid (PartOwn V2 Wb.heap.size p2 ∧ p2.pure = p.pure ∧ p2.pure.Small) := ⟨ho, hp, by rw [hp]; exact HSM.out.2.1⟩
 replace HX := upX HX hb
 clear ho hp hb
 go_wp2_with fail
 refine (toSOp_l a ops c V2 HSO.out.1 (HCO.out.1.below HX.out.2)).mono ?_
 rintro e W2 ⟨rfl, ho, hb⟩
 have HO : Hid (OpsIn W2 V2.heap.size V2.heap.size ops) := ho
 replace HQ := upP HQ hb
 replace HX := upX HX hb
 clear ho hb
 go_wp2_with fail
 refine (specWithProc_any p2 id prio _ ops _ W2 Wb.heap.size HWi.out HSO.out HO.out.row HQ.out.2.2 HQ.out.1).mono ?_
 rintro e V3 hE
 rw [HQ.out.2.1] at hE
 obtain ⟨r3, rfl, ho, hp, hb⟩ := hE
 rw [HOK.out]
 have hb2 : Below W2.heap.size W2 (V3.alloc (.cells r3.cells 32)) := hb.alloc hb.size _
 have H3 : Hid (PartIn (V3.alloc (.cells r3.cells 32)) V3.heap.size W2.heap.size r3) := ⟨heap_alloc_new _ _, ho.below ((Below.refl _ _).alloc (Nat.le_refl _) _)⟩
 have HP3 : Hid (r3.pure = PU) := hp.trans HPU.out
 have HR : Hid ((∀ g ∈ r3.blocks, w.heap.size < g ∧ g < V3.heap.size) ∧ w.heap.size < V3.heap.size) := by
  have h5 := (Array.getElem?_eq_some_iff.1 HX.out.1).1
  have h6 := hb.size
  exact ⟨fun g hg => by have := (ho.lt g hg); omega, by omega⟩
 clear ho hp HQ HO
 replace HX := upX HX hb2
 obtain ⟨m0, m1, m2, m3, m4, m5, m6, m7⟩ := srcCells HX.out.1
 unfold PartD.cells at *
 go_wp2_with fail
 clear m0 m1 m2 m3 m4 m5 m6 m7
 generalize V3.alloc (.cells #[.int .i64 r3.id, .int .i64 r3.next, .slice r3.procA r3.procs.length r3.procC, .slice r3.semA r3.sems.length r3.semC, .slice r3.eventA r3.events.length r3.eventC, .slice r3.boardA r3.boards.length r3.boardC, .slice r3.bufferA r3.buffers.length r3.bufferC, .slice r3.portA r3.ports.length r3.portC] 32) = W3 at *
 have hxl := H3.out.1.lt
 generalize V3.heap.size = X3 at *
 clear hb2 hb
 refine (toPart_l p W3 HSM.out.1 (HC.out.below HX.out.2)).mono ?_
 rintro e V4 ⟨p4, rfl, ho, hp, hb⟩
 have hb2 : Below W3.heap.size W3 (V4.alloc (.cells p4.cells 32)) := hb.alloc hb.size _
 have H4 : Hid (PartIn (V4.alloc (.cells p4.cells 32)) V4.heap.size W3.heap.size p4) := ⟨heap_alloc_new _ _, ho.below ((Below.refl _ _).alloc (Nat.le_refl _) _)⟩
 have HP4 : Hid (p4.pure = p.pure ∧ p4.pure.Small ∧ (∀ g ∈ p4.blocks, X3 < g ∧ g < V4.heap.size) ∧ X3 < V4.heap.size) := ⟨hp, by rw [hp]; exact HSM.out.2.1, fun g hg => by have := ho.lt g hg; omega, by have := hb.size; omega⟩
 replace HX := upX HX hb2
 replace H3 := upI H3 hb2
 unfold PartD.cells at *
 go_wp2_with fail
 generalize V4.alloc (.cells #[.int .i64 p4.id, .int .i64 p4.next, .slice p4.procA p4.procs.length p4.procC, .slice p4.semA p4.sems.length p4.semC, .slice p4.eventA p4.events.length p4.eventC, .slice p4.boardA p4.boards.length p4.boardC, .slice p4.bufferA p4.buffers.length p4.bufferC, .slice p4.portA p4.ports.length p4.portC] 32) = W4 at *
 have hxl4 := H4.out.1.lt
 generalize V4.heap.size = X4 at *
 clear hb2 hb ho hp hxl
 refine (toSOp_l a ops c W4 HSO.out.1 (HCO.out.1.below HX.out.2)).mono ?_
 rintro e W9 ⟨rfl, ho, hb⟩
 have H9 : Hid (OpsIn W9 W4.heap.size W4.heap.size ops) := ho
 have HP9 : Hid (X4 < W4.heap.size ∧ W4.heap.size < W9.heap.size) := ⟨hxl4, (OpsIn.lt ho)⟩
 replace HX := upX HX hb
 replace H3 := upI H3 hb
 replace H4 := upI H4 hb
 clear ho hb hxl4
 obtain ⟨b0, b1, b2, b3, b4, b5, b6, b7⟩ := H4.out.1.cells
 go_wp2_with fail
 clear b0 b1 b2 b3 b4 b5 b6 b7
 refine (implWithProc_any p4 id prio _ ops _ W9 HWi.out HSO.out H9.out.row (small_good HP4.out.2.1 H4.out.2)).mono ?_
 rintro e V5 hE
 rw [HP4.out.1] at hE
 obtain ⟨r5, rfl, ho, hp, hb⟩ := hE
 rw [HOK.out]
 have hb2 : Below W9.heap.size W9 (V5.alloc (.cells r5.cells 32)) := hb.alloc hb.size _
 have H5 : Hid (PartIn (V5.alloc (.cells r5.cells 32)) V5.heap.size W9.heap.size r5) := ⟨heap_alloc_new _ _, ho.below ((Below.refl _ _).alloc (Nat.le_refl _) _)⟩
 have HP5 : Hid (r5.pure = PU ∧ (∀ g ∈ r5.blocks, W4.heap.size < g ∧ g < V5.heap.size) ∧ W4.heap.size < V5.heap.size) := ⟨hp.trans HPU.out, fun g hg => by have := ho.lt g hg; have := HP9.out; omega, by have := hb.size; have := HP9.out; omega⟩
 clear ho hp
 replace HX := upX HX hb2
 replace H3 := upI H3 hb2
 replace H4 := upI H4 hb2
 replace H9 := upO H9 hb2
 obtain ⟨v0, v1, v2, v3, v4, v5, v6, v7⟩ := H3.out.1.cells
 unfold PartD.cells at *
 go_wp2_with fail
 clear v0 v1 v2 v3 v4 v5 v6 v7
 generalize V5.alloc (.cells #[.int .i64 r5.id, .int .i64 r5.next, .slice r5.procA r5.procs.length r5.procC, .slice r5.semA r5.sems.length r5.semC, .slice r5.eventA r5.events.length r5.eventC, .slice r5.boardA r5.boards.length r5.boardC, .slice r5.bufferA r5.buffers.length r5.bufferC, .slice r5.portA r5.ports.length r5.portC] 32) = W5 at *
 generalize V5.heap.size = X5 at *
 clear hb2 hb
 have HE : Hid (r3.pure = r5.pure) := HP3.out.trans HP5.out.1.symm
 have HL : Hid (r5.pure.Small) := by rw [HP5.out.1, ← HPU.out]; exact (smallProc HSM.out.2.1 HSO.out HWi.out)
 refine (eqPart_l r5 r3 W5 HL.out HE.out H5.out.2.at H3.out.2.at).mono ?_
 rintro e W6 ⟨rfl, hb⟩
 replace HX := upX HX hb
 replace H3 := upI H3 hb
 replace H4 := upI H4 hb
 replace H9 := upO H9 hb
 replace H5 := upI H5 hb
 clear hb
 go_wp2_with fail
 have HS : Hid (PartBox W6 X4 p4 ∧ W6.heap[w.heap.size]? = some (.cells p.cells 73 (0, 0))) := ⟨H4.out.1, HX.out.1⟩
 refine wp_region_held_drew (S := fun w' => PartBox w' X4 p4 ∧ w'.heap[w.heap.size]? = some (.cells p.cells 73 (0, 0))) (by kernel_rfl) HS.out (fun hHeld => ?_)
 refine tkr 0 (v := .agg p4.cells) rfl (yieldsIf_row (by rfl) 32 _ rfl X4 (by rfl) 32 _ _ (fun _ h => h.1) Tryz.underlying32 rfl (by kernel_rfl)) hHeld ?_; simp only [pt, sb, s0, s1]
 refine tkr 1 (v := .agg p.cells) rfl (yieldsIf_row (by rfl) 73 _ rfl w.heap.size (by rfl) 73 _ _ (fun _ h => h.2) Tryz.underlying73 rfl (by kernel_rfl)) hHeld ?_; simp only [pt, sb, s0, s1]
 refine wpAnyH_ready (rs := [2]) (by kernel_rfl) (by simp) ?_
 refine AllReadyH.cons rfl (fun K hK => ?_) AllReadyH.nil
 simp only [ga, gz, gs]; rw [if_pos (by rfl)]
 go_wp2_with fail
 refine (toPart_l p W6.drew HSM.out.1 (HC.out.below HX.out.2.drew)).mono ?_
 rintro e W7 ⟨p6, rfl, ho, hp, hb2⟩
 have hb : Below W6.heap.size W6 W7 := below_undrew' hb2
 have H7 : Hid (PartD.At W7 p6 ∧ p6.pure = p4.pure) := ⟨ho.at, by rw [hp, HP4.out.1]⟩
 replace HX := upX HX hb
 replace H3 := upI H3 hb
 replace H4 := upI H4 hb
 replace H9 := upO H9 hb
 replace H5 := upI H5 hb
 clear hb hb2 ho hp HS hHeld
 refine hK.out _ _ ⟨H4.out.1, HX.out.1⟩ (fun hHeld => ?_); clear hK K; try simp only [pt, sb, s0, s1]
 refine wpAnyH_ready (rs := [3]) (by kernel_rfl) (by simp) ?_
 refine AllReadyH.cons rfl (fun K hK => ?_) AllReadyH.nil
 simp only [ga, gz, gs]; rw [if_pos (by rfl)]
 go_wp2_with fail
 refine (eqPart_l p4 p6 W7 HP4.out.2.1 H7.out.2 H4.out.2.at H7.out.1).mono ?_
 rintro e W8 ⟨rfl, hb⟩
 replace HX := upX HX hb
 replace H3 := upI H3 hb
 replace H4 := upI H4 hb
 replace H9 := upO H9 hb
 replace H5 := upI H5 hb
 clear hb H7
 refine hK.out _ _ ⟨H4.out.1, HX.out.1⟩ (fun hHeld => ?_); clear hK K; try simp only [pt, sb, s0, s1]
 refine tkr 4 (v := .bool false) rfl (Or.inl ⟨by rfl, fun _ _ => rfl⟩) ⟨H4.out.1, HX.out.1⟩ ?_; simp only [pt, sb, s0, s1]
 refine wpAnyH_done (by kernel_rfl) ?_ _
 clear hHeld
 go_wp2_with fail
 refine (toSOp_l a ops c W8 HSO.out.1 (HCO.out.1.below HX.out.2)).mono ?_
 rintro e Y7 ⟨rfl, ho, hb⟩
 have HO : Hid (OpsIn Y7 W8.heap.size W8.heap.size ops) := ho
 replace HX := upX HX hb
 replace H3 := upI H3 hb
 replace H4 := upI H4 hb
 replace H9 := upO H9 hb
 replace H5 := upI H5 hb
 clear ho hb
 go_wp2_with fail
 refine (eqSOp_l _ _ ops _ _ Y7 HSO.out.1 H9.out.lies HO.out.lies).mono ?_
 rintro e Y8 ⟨rfl, hb⟩
 replace HX := upX HX hb
 replace H3 := upI H3 hb
 replace H4 := upI H4 hb
 replace H9 := upO H9 hb
 replace H5 := upI H5 hb
 clear hb HO
 obtain ⟨b0, b1, b2, b3, b4, b5, b6, b7⟩ := H4.out.1.cells
 have HCT : Hid (1 + (cntPart p4 : Nat) ≤ (90000000 : Int)) := by have h5 := cnt_part p4; rw [HP4.out.1] at h5; have h6 := HSM.out.2.2; show (1 : Int) + _ ≤ _; omega
 go_wp2_with fail
 clear b0 b1 b2 b3 b4 b5 b6 b7
 refine (markPart_l p4 1 Y8 W3.heap.size (small_cnt HP4.out.2.1) (by omega) HCT.out H4.out.2).mono ?_
 rintro e M9 ⟨rfl, -, hkb⟩
 have hrw := HR.out
 have hr4 := HP4.out.2.2
 have hr5 := HP5.out.2
 have hr9 := HP9.out
 replace HX : Hid (SrcS p w M9) := HX.out.kept hkb fun g hm => by have := hr4.1 g hm; omega
 replace H3 : Hid (PartIn M9 X3 W2.heap.size r3) := H3.out.kept hkb (fun hm => by have := hr4.1 _ hm; omega) (fun g hg hm => by have := hr4.1 g hm; have := hrw.1 g hg; omega)
 replace H5 : Hid (PartIn M9 X5 W9.heap.size r5) := H5.out.kept hkb (fun hm => by have := hr4.1 _ hm; omega) (fun g hg hm => by have := hr4.1 g hm; have := hr5.1 g hg; omega)
 replace H9 : Hid (OpsIn M9 W4.heap.size W4.heap.size ops) := H9.out.kept hkb (fun hm => by have := hr4.1 _ hm; omega)
 clear H4 hkb hrw hr4 hr5 hr9
 go_wp2_with fail
 have hz0 : (1 : Int) ≤ 1 + (cntPart p4 : Nat) := by omega
 have hz1 : 1 + (cntPart p4 : Nat) + (cntL (fun _ : OpD => 4) ops : Nat) ≤ (90000000 : Int) := by have h5 := cnt_part p4; rw [HP4.out.1] at h5; have h6 := HSM.out.2.2; have h7 := cnt_op ops; have h8 := HSO.out.1; show (1 : Int) + _ + _ ≤ _; omega
 refine (markSOp_l _ ops _ _ M9 W4.heap.size HSO.out.1 hz0 hz1 H9.out).mono ?_
 rintro e N9 ⟨rfl, -, hkb⟩
 clear hz0 hz1
 have hrw := HR.out
 have hr4 := HP4.out.2.2
 have hr5 := HP5.out.2
 have hr9 := HP9.out
 replace HX : Hid (SrcS p w N9) := HX.out.kept hkb fun g hm => by have := (show g = W4.heap.size by simpa [blk] using hm); omega
 replace H3 : Hid (PartIn N9 X3 W2.heap.size r3) := H3.out.kept hkb (fun hm => by have := (show _ = W4.heap.size by simpa [blk] using hm); omega) (fun g hg hm => by have := (show g = W4.heap.size by simpa [blk] using hm); have := hrw.1 g hg; omega)
 replace H5 : Hid (PartIn N9 X5 W9.heap.size r5) := H5.out.kept hkb (fun hm => by have := (show _ = W4.heap.size by simpa [blk] using hm); omega) (fun g hg hm => by have := (show g = W4.heap.size by simpa [blk] using hm); have := hr5.1 g hg; omega)
 clear H9 hkb hrw hr4 hr5 hr9
 have nn : decide ((1 : Int) + (cntPart p4 : Nat) + (cntL (fun _ : OpD => 4) ops : Nat) < 0) = false := decide_eq_false (by omega)
 obtain ⟨u0, u1, u2, u3, u4, u5, u6, u7⟩ := H5.out.1.cells
 obtain ⟨v0, v1, v2, v3, v4, v5, v6, v7⟩ := H3.out.1.cells
 go_wp2_with fail
 clear u0 u1 u2 u3 u4 u5 u6 u7
 clear v0 v1 v2 v3 v4 v5 v6 v7
 clear nn
 refine (eqPart_l r5 r3 N9 HL.out HE.out H5.out.2.at H3.out.2.at).mono ?_
 rintro e W10 ⟨rfl, hb⟩
 replace HX := upX HX hb
 replace H3 := upI H3 hb
 replace H5 := upI H5 hb
 clear hb
 obtain ⟨u0, u1, u2, u3, u4, u5, u6, u7⟩ := H5.out.1.cells
 go_wp2_with fail
 clear u0 u1 u2 u3 u4 u5 u6 u7
 have HCR : Hid (1 + (cntPart r5 : Nat) ≤ (90000000 : Int)) := by have h5 := cnt_part r5; have h6 : r5.pure.total ≤ 2097153 := (by rw [HP5.out.1, ← HPU.out]; exact Nat.le_trans totalProc (by have h7 := HSM.out.2.2; have h8 := HSO.out.1; omega)); show (1 : Int) + _ ≤ _; omega
 refine (markPart_l r5 1 W10 W9.heap.size (small_cnt HL.out) (by omega) HCR.out H5.out.2).mono ?_
 rintro e W11 ⟨rfl, hmk, hkb⟩
 have hrw := HR.out
 have hr4 := HP4.out.2.2
 have hr5 := HP5.out.2
 have hr9 := HP9.out
 replace HX : Hid (SrcS p w W11) := HX.out.kept hkb fun g hm => by have := hr5.1 g hm; omega
 replace H3 : Hid (PartIn W11 X3 W2.heap.size r3) := H3.out.kept hkb (fun hm => by have := hr5.1 _ hm; omega) (fun g hg hm => by have := hr5.1 g hm; have := hrw.1 g hg; omega)
 have HB5 : Hid (PartBox W11 X5 r5) := (hkb.same _ H5.out.1.lt fun hm => by have := hr5.1 _ hm; omega).trans H5.out.1
 have HM : Hid (PartOwn W11 W9.heap.size (mkPart 1 r5)) := hmk
 clear H5 hkb hmk hrw hr4 hr5 hr9
 obtain ⟨u0, u1, u2, u3, u4, u5, u6, u7⟩ := HB5.out.cells
 go_wp2_with fail
 clear u0 u1 u2 u3 u4 u5 u6 u7
 refine (heldPart_l r5 1 W11 (small_cnt HL.out) (by omega) HCR.out HM.out.at).mono ?_
 rintro e W12 ⟨rfl, hb⟩
 replace HX := upX HX hb
 replace H3 := upI H3 hb
 replace HB5 := upB HB5 hb
 replace HM := upM HM hb
 clear hb
 have nq : ¬ (1 : Int) + (cntPart r5 : Nat) < 0 := by omega
 have nd : ((1 : Int) + (cntPart r5 : Nat) != 1 + (cntPart r5 : Nat)) = false := by simp
 obtain ⟨m0, m1, m2, m3, m4, m5, m6, m7⟩ := srcCells HX.out.1
 go_wp2_with fail
 clear m0 m1 m2 m3 m4 m5 m6 m7
 refine (toPart_l p W12 HSM.out.1 (HC.out.below HX.out.2)).mono ?_
 rintro e V13 ⟨p13, rfl, ho, hp, hb⟩
 have HQ : Hid (PartOwn V13 W12.heap.size p13 ∧ p13.pure = p.pure ∧ p13.pure.Small) := ⟨ho, hp, by rw [hp]; exact HSM.out.2.1⟩
 replace HX := upX HX hb
 replace H3 := upI H3 hb
 replace HB5 := upB HB5 hb
 replace HM := upM HM hb
 clear ho hp hb
 go_wp2_with fail
 refine (toSOp_l a ops c V13 HSO.out.1 (HCO.out.1.below HX.out.2)).mono ?_
 rintro e W13 ⟨rfl, ho, hb⟩
 have HO : Hid (OpsIn W13 V13.heap.size V13.heap.size ops) := ho
 replace HQ := upP HQ hb
 replace HX := upX HX hb
 replace H3 := upI H3 hb
 replace HB5 := upB HB5 hb
 replace HM := upM HM hb
 clear ho hb
 go_wp2_with fail
 refine (implWithProc_any p13 id prio _ ops _ W13 HWi.out HSO.out HO.out.row (small_good HQ.out.2.2 HQ.out.1)).mono ?_
 rintro e V14 hE
 rw [HQ.out.2.1] at hE
 obtain ⟨r14, rfl, ho, hp14, hb⟩ := hE
 rw [HOK.out]
 have hb2 : Below W13.heap.size W13 (V14.alloc (.cells r14.cells 32)) := hb.alloc hb.size _
 have H14 : Hid (PartIn (V14.alloc (.cells r14.cells 32)) V14.heap.size W13.heap.size r14) := ⟨heap_alloc_new _ _, ho.below ((Below.refl _ _).alloc (Nat.le_refl _) _)⟩
 have HE14 : Hid (r3.pure = r14.pure) := HP3.out.trans (hp14.trans HPU.out).symm
 have HL14 : Hid (r14.pure.Small) := by rw [hp14]; exact (smallProc HSM.out.2.1 HSO.out HWi.out)
 clear ho hp14 HQ HO
 replace HX := upX HX hb2
 replace H3 := upI H3 hb2
 replace HB5 := upB HB5 hb2
 replace HM := upM HM hb2
 obtain ⟨v0, v1, v2, v3, v4, v5, v6, v7⟩ := H3.out.1.cells
 unfold PartD.cells at *
 go_wp2_with fail
 clear v0 v1 v2 v3 v4 v5 v6 v7
 generalize V14.alloc (.cells #[.int .i64 r14.id, .int .i64 r14.next, .slice r14.procA r14.procs.length r14.procC, .slice r14.semA r14.sems.length r14.semC, .slice r14.eventA r14.events.length r14.eventC, .slice r14.boardA r14.boards.length r14.boardC, .slice r14.bufferA r14.buffers.length r14.bufferC, .slice r14.portA r14.ports.length r14.portC] 32) = W14 at *
 generalize V14.heap.size = X14 at *
 clear hb2 hb
 refine (eqPart_l r14 r3 W14 HL14.out HE14.out H14.out.2.at H3.out.2.at).mono ?_
 rintro e W15 ⟨rfl, hb⟩
 replace HX := upX HX hb
 replace H3 := upI H3 hb
 replace HB5 := upB HB5 hb
 replace HM := upM HM hb
 clear hb
 obtain ⟨u0, u1, u2, u3, u4, u5, u6, u7⟩ := HB5.out.cells
 go_wp2_with fail
 clear u0 u1 u2 u3 u4 u5 u6 u7
 refine (heldPart_l r5 1 W15 (small_cnt HL.out) (by omega) HCR.out HM.out.at).mono ?_
 rintro e W16 ⟨rfl, hb⟩
 replace HX := upX HX hb
 replace H3 := upI H3 hb
 replace HB5 := upB HB5 hb
 replace HM := upM HM hb
 clear hb
 go_wp2
 go_ret
 exact ⟨rfl, HX.out.2⟩
end Go.Proofs.YtkbcplnlehdjfaaGreat
