/- What the proof leans on, part 3: WithPortLaw. -/
import Derived.Test.YtkbcplnlehdjfaaGreatOwnWPort1
import Derived.Test.YtkbcplnlehdjfaaGreatOwnWPort2

namespace Go.Proofs.YtkbcplnlehdjfaaGreat
open Go.RowKit
attribute [local go_sem ↓] Go.wp_at_zero Go.wp_at_succ
set_option maxRecDepth 100000 in
set_option maxHeartbeats 8000000 in
theorem withPortLaw_any (p : PartD) (z : PortD) (w : World) (hb : p.Big) (hc : p.Came w) (hi : p.Ints) (hwz : (Lit.int .i64 z.id).wf = true) (hzb : z.items.length ≤ maxLen ∧ ∀ s ∈ z.items, s.size ≤ maxLen) (hzs : Src w z.itemsA (strK.flat z.items)) :
  Calls Tryz.prog 14 #[.agg p.cells, .agg #[.int .i64 z.id, .bool z.out, .bool z.queue, .int .i64 z.max, .slice z.itemsA z.items.length z.itemsC]] w fun e w' => e = .returned (.bool true) ∧ Below w.heap.size w w' := by
 have HB : Hid (p.Big ∧ p.Ints) := ⟨hb, hi⟩
 have HC : Hid (p.Came w) := hc
 have HWz : Hid ((Lit.int .i64 z.id).wf = true) := hwz
 have HX : Hid (SrcS p w ((w.alloc (.cells #[.int .i64 p.id, .int .i64 p.next, .slice p.procA p.procs.length p.procC, .slice p.semA p.sems.length p.semC, .slice p.eventA p.events.length p.eventC, .slice p.boardA p.boards.length p.boardC, .slice p.bufferA p.buffers.length p.bufferC, .slice p.portA p.ports.length p.portC] 73)).alloc (.cells #[.int .i64 z.id, .bool z.out, .bool z.queue, .int .i64 z.max, .slice z.itemsA z.items.length z.itemsC] 88))) := ⟨(alloc2_facts _ _ _).1, alloc2_below _ _ _⟩
 have HZ : Hid (BoxAt #[.int .i64 z.id, .bool z.out, .bool z.queue, .int .i64 z.max, .slice z.itemsA z.items.length z.itemsC] 88 (w.heap.size + 1) ((w.alloc (.cells #[.int .i64 p.id, .int .i64 p.next, .slice p.procA p.procs.length p.procC, .slice p.semA p.sems.length p.semC, .slice p.eventA p.events.length p.eventC, .slice p.boardA p.boards.length p.boardC, .slice p.bufferA p.buffers.length p.bufferC, .slice p.portA p.ports.length p.portC] 73)).alloc (.cells #[.int .i64 z.id, .bool z.out, .bool z.queue, .int .i64 z.max, .slice z.itemsA z.items.length z.itemsC] 88))) := (alloc2_facts _ _ _).2
 have HCZ : Hid (strK.Came w z.itemsA z.items ∧ (z.items.length ≤ maxLen ∧ ∀ s ∈ z.items, s.size ≤ maxLen)) := ⟨⟨hzs, fun x hx r hr => by cases hr⟩, hzb⟩
 clear hb hc hi hwz hzb hzs
 unfold PartD.cells
 go_enter Tryz.func14, Tryz.ntmps14
 go_wp2_with fail
 generalize (w.alloc (.cells #[.int .i64 p.id, .int .i64 p.next, .slice p.procA p.procs.length p.procC, .slice p.semA p.sems.length p.semC, .slice p.eventA p.events.length p.eventC, .slice p.boardA p.boards.length p.boardC, .slice p.bufferA p.buffers.length p.bufferC, .slice p.portA p.ports.length p.portC] 73)).alloc (.cells #[.int .i64 z.id, .bool z.out, .bool z.queue, .int .i64 z.max, .slice z.itemsA z.items.length z.itemsC] 88) = W0 at *
 refine (szPart_l p 1048576 W0 HB.out.1 (HC.out.below HX.out.2) (by omega) (by omega)).mono ?_
 rintro e W1 ⟨r, rfl, r0, r1, hr, hb⟩
 replace HX := upX HX hb
 replace HZ := upZ HZ hb
 clear hb
 by_cases hneg : r < 0
 ·go_wp2
  go_ret
  exact ⟨rfl, HX.out.2⟩
 have HSM : Hid (p.Shorts ∧ p.pure.Small ∧ p.pure.total ≤ 1048576) := ⟨(hr (by omega)).1, small_of (hr (by omega)).1 HB.out.2, by have := (hr (by omega)).2; omega⟩
 clear hr
 obtain ⟨z0, z1, z2, z3, z4⟩ := portSrc HZ.out
 go_wp2_with fail
 clear z0 z1 z2 z3 z4
 refine (szPort_l z r W1 HCZ.out.2 (HCZ.out.1.below HX.out.2) (by omega) (by omega)).mono ?_
 rintro e Wb ⟨rb, rfl, q0, q1, hr, hb⟩
 replace HX := upX HX hb
 replace HZ := upZ HZ hb
 clear hb
 by_cases hneg2 : rb < 0
 ·go_wp2
  go_ret
  exact ⟨rfl, HX.out.2⟩
 have HSZ : Hid (z.items.length ≤ 1048576 ∧ ∀ s ∈ z.items, s.size ≤ 1048576) := (hr (by omega)).1
 clear hr W1
 obtain ⟨ok, hok⟩ : ∃ b : Bool, (withR p.pure { p.pure with ports := insG (·.id) (⟨z.id, z.out, z.queue, z.max, []⟩ : PortP) p.pure.ports }).isSome = b := ⟨_, rfl⟩
 have HOK : Hid ((withR p.pure { p.pure with ports := insG (·.id) (⟨z.id, z.out, z.queue, z.max, []⟩ : PortP) p.pure.ports }).isSome = ok) := hok
 clear hok
 have dn : (ok != ok) = false := by simp
 obtain ⟨PU, hpu⟩ : ∃ P, (withR p.pure { p.pure with ports := insG (·.id) (⟨z.id, z.out, z.queue, z.max, []⟩ : PortP) p.pure.ports }).getD zeroPart = P := ⟨_, rfl⟩
 have HPU : Hid ((withR p.pure { p.pure with ports := insG (·.id) (⟨z.id, z.out, z.queue, z.max, []⟩ : PortP) p.pure.ports }).getD zeroPart = PU) := hpu
 clear hpu
 obtain ⟨m0, m1, m2, m3, m4, m5, m6, m7⟩ := srcCells HX.out.1
 go_wp2_with fail
 clear m0 m1 m2 m3 m4 m5 m6 m7
 refine wp_cut (fun a0 a' w' => ∃ (X : Nat) (r : PartD) (d0 d1 d2 d3 d4 d5 d6 d7 : Value), a' = puts a0 [(28, d0), (29, d1), (30, d2), (31, d3), (32, d4), (27, d5), (33, d6), (34, d7), (6, .pointer (some ⟨X, 0, none⟩)), (7, .bool ok)] ∧ PartIn w' X Wb.heap.size r ∧ r.pure = PU ∧ Wb.heap.size ≤ X ∧ (∀ g ∈ r.blocks, g ≠ X) ∧ Below Wb.heap.size Wb w') ?_ ?_
 focus
  have HS : Hid (∀ U, Below Wb.heap.size Wb U → SrcS p w U ∧ BoxAt #[.int .i64 z.id, .bool z.out, .bool z.queue, .int .i64 z.max, .slice z.itemsA z.items.length z.itemsC] 88 (w.heap.size + 1) U) := fun U hb => ⟨HX.out.below hb, HZ.out.below hb⟩
  have HU : Hid (Below Wb.heap.size Wb Wb.drew) := (Below.refl _ _).drew
  refine wp_region_held_drew (S := fun w' => SrcS p w w' ∧ BoxAt #[.int .i64 z.id, .bool z.out, .bool z.queue, .int .i64 z.max, .slice z.itemsA z.items.length z.itemsC] 88 (w.heap.size + 1) w') (by kernel_rfl) (HS.out _ HU.out) (fun hHeld => ?_)
  clear hHeld
  generalize Wb.drew = U0 at *
  refine tkr 0 (v := .agg p.cells) rfl (yieldsIf_row (by rfl) 73 _ rfl w.heap.size (by rfl) 73 _ _ (fun _ h => h.1.1) Tryz.underlying73 rfl (by kernel_rfl)) (HS.out _ HU.out) ?_; simp only [pt, sb, s0, s1]
  refine tkr 2 (v := .agg #[.int .i64 z.id, .bool z.out, .bool z.queue, .int .i64 z.max, .slice z.itemsA z.items.length z.itemsC]) rfl (yieldsIf_row (by rfl) 88 _ rfl (w.heap.size + 1) (by rfl) 88 _ _ (fun _ h => h.2) Tryz.underlying88 rfl (by kernel_rfl)) (HS.out _ HU.out) ?_; simp only [pt, sb, s0, s1]
  refine wpAnyH_ready (rs := [1, 8]) (by kernel_rfl) (by simp) ?_
  refine AllReadyH.cons rfl (fun K hK => ?_) (AllReadyH.cons rfl (fun K hK => ?_) AllReadyH.nil)
  focus
   simp only [ga, gz, gs]; rw [if_pos (by rfl)]
   go_wp2_with fail
   refine (toPart_l p U0 HSM.out.1 (HC.out.below (HX.out.below HU.out).2)).mono ?_
   rintro e U1 ⟨p2, rfl, ho, hp, hb⟩
   have HQ : Hid (PartOwn U1 Wb.heap.size p2 ∧ p2.pure = p.pure ∧ p2.pure.Small) := ⟨ho.lower HU.out.size, hp, by rw [hp]; exact HSM.out.2.1⟩
   replace HU := upU HU hb
   clear ho hp hb
   refine hK.out _ _ (HS.out _ HU.out) (fun _ => ?_); clear hK K; try simp only [pt, sb, s0, s1]
   refine wpAnyH_ready (rs := [3, 8]) (by kernel_rfl) (by simp) ?_
   refine AllReadyH.cons rfl (fun K hK => ?_) (AllReadyH.cons rfl (fun K hK => ?_) AllReadyH.nil)
   focus
    simp only [ga, gz, gs]; rw [if_pos (by rfl)]
    go_wp2_with fail
    refine (toPort_l z U1 HSZ.out.1 (HCZ.out.1.below (HX.out.below HU.out).2)).mono ?_
    rintro e U2 ⟨za, zc, rfl, -, hb⟩
    replace HU := upU HU hb
    replace HQ := upP HQ hb
    clear hb
    refine hK.out _ _ (HS.out _ HU.out) (fun _ => ?_); clear hK K; try simp only [pt, sb, s0, s1]
    refine wpAnyH_ready (rs := [4, 8]) (by kernel_rfl) (by simp) ?_
    refine AllReadyH.cons rfl (fun K hK => ?_) (AllReadyH.cons rfl (fun K hK => ?_) AllReadyH.nil)
    focus
     simp only [ga, gz, gs]; rw [if_pos (by rfl)]
     go_wp2_with fail
     refine (specWithPort_any p2 (portN.set z za zc) U2 Wb.heap.size HWz.out HQ.out.2.2 HQ.out.1).mono ?_
     rintro e U3 hE
     replace hE : TurnRes U2 (withR p2.pure { p2.pure with ports := insG (·.id) (⟨z.id, z.out, z.queue, z.max, []⟩ : PortP) p2.pure.ports }) e U3 := hE
     rw [HQ.out.2.1] at hE
     obtain ⟨r3, rfl, ho, hp, hb⟩ := hE
     rw [HOK.out]
     have HR0 : Hid (PartOwn U3 Wb.heap.size r3 ∧ r3.pure = PU) := ⟨ho.lower HU.out.size, hp.trans HPU.out⟩
     clear HQ
     replace HU := upU HU hb
     clear ho hp hb
     refine hK.out _ _ (HS.out _ HU.out) (fun _ => ?_); clear hK K; try simp only [pt, sb, s0, s1]
     refine tk 5 (v := ?_) ?_ (HS.out _ HU.out) ?_; rotate_left; (intro w0 hS0; go_simp; try with_reducible rfl); simp only [pt, sb, s0, s1]
     refine tk 6 (v := ?_) ?_ (HS.out _ HU.out) ?_; rotate_left; (intro w0 hS0; go_simp; try with_reducible rfl); simp only [pt, sb, s0, s1]
     refine tk 7 (v := ?_) ?_ (HS.out _ HU.out) ?_; rotate_left; (intro w0 hS0; go_simp; try with_reducible rfl); simp only [pt, sb, s0, s1]
     refine wpAnyH_ready (rs := [8]) (by kernel_rfl) (by simp) ?_
     refine AllReadyH.cons rfl (fun K hK => ?_) AllReadyH.nil
     simp only [ga, gz, gs]; rw [if_pos (by rfl)]
     go_wp2_with fail
     have hb : Below U3.heap.size U3 (U3.alloc (.cells #[.int .i64 0, .int .i64 0, .slice none 0 0, .slice none 0 0, .slice none 0 0, .slice none 0 0, .slice none 0 0, .slice none 0 0] 32)) := (Below.refl _ _).alloc (Nat.le_refl _) _
     have HA : Hid (BoxAt zero8 32 U3.heap.size (U3.alloc (.cells #[.int .i64 0, .int .i64 0, .slice none 0 0, .slice none 0 0, .slice none 0 0, .slice none 0 0, .slice none 0 0, .slice none 0 0] 32)) ∧ Wb.heap.size ≤ U3.heap.size) := ⟨heap_alloc_new _ _, HU.out.size⟩
     have HNE : Hid (∀ g ∈ r3.blocks, g ≠ U3.heap.size) := fun g hg => by have := (HR0.out.1.lt g hg).2; omega
     replace HU := upU HU hb
     replace HR0 := upP HR0 hb
     clear hb
     refine hK.out _ _ (HS.out _ HU.out) (fun _ => ?_); clear hK K; try simp only [pt, sb, s0, s1]
     generalize U3.alloc (.cells #[.int .i64 0, .int .i64 0, .slice none 0 0, .slice none 0 0, .slice none 0 0, .slice none 0 0, .slice none 0 0, .slice none 0 0] 32) = U4 at *
     generalize U3.heap.size = X at *
    rotate_left
    focus
     simp only [ga, gz, gs]; rw [if_pos (by rfl)]
     go_wp2_with fail
     have hb : Below U2.heap.size U2 (U2.alloc (.cells #[.int .i64 0, .int .i64 0, .slice none 0 0, .slice none 0 0, .slice none 0 0, .slice none 0 0, .slice none 0 0, .slice none 0 0] 32)) := (Below.refl _ _).alloc (Nat.le_refl _) _
     have HA : Hid (BoxAt zero8 32 U2.heap.size (U2.alloc (.cells #[.int .i64 0, .int .i64 0, .slice none 0 0, .slice none 0 0, .slice none 0 0, .slice none 0 0, .slice none 0 0, .slice none 0 0] 32)) ∧ Wb.heap.size ≤ U2.heap.size) := ⟨heap_alloc_new _ _, HU.out.size⟩
     replace HU := upU HU hb
     replace HQ := upP HQ hb
     clear hb
     refine hK.out _ _ (HS.out _ HU.out) (fun _ => ?_); clear hK K; try simp only [pt, sb, s0, s1]
     generalize U2.alloc (.cells #[.int .i64 0, .int .i64 0, .slice none 0 0, .slice none 0 0, .slice none 0 0, .slice none 0 0, .slice none 0 0, .slice none 0 0] 32) = U3 at *
     generalize U2.heap.size = X at *
     refine wpAnyH_ready (rs := [4]) (by kernel_rfl) (by simp) ?_
     refine AllReadyH.cons rfl (fun K hK => ?_) AllReadyH.nil
     simp only [ga, gz, gs]; rw [if_pos (by rfl)]
     go_wp2_with fail
     refine (specWithPort_any p2 (portN.set z za zc) U3 Wb.heap.size HWz.out HQ.out.2.2 HQ.out.1).mono ?_
     rintro e U4 hE
     replace hE : TurnRes U3 (withR p2.pure { p2.pure with ports := insG (·.id) (⟨z.id, z.out, z.queue, z.max, []⟩ : PortP) p2.pure.ports }) e U4 := hE
     rw [HQ.out.2.1] at hE
     obtain ⟨r3, rfl, ho, hp, hb⟩ := hE
     rw [HOK.out]
     have HR0 : Hid (PartOwn U4 Wb.heap.size r3 ∧ r3.pure = PU) := ⟨ho.lower HU.out.size, hp.trans HPU.out⟩
     have HNE : Hid (∀ g ∈ r3.blocks, g ≠ X) := fun g hg => by have := (ho.lt g hg).1; have := HA.out.1.lt; omega
     clear HQ
     replace HU := upU HU hb
     replace HA := upA HA hb
     clear ho hp hb
     refine hK.out _ _ (HS.out _ HU.out) (fun _ => ?_); clear hK K; try simp only [pt, sb, s0, s1]
     refine tk 5 (v := ?_) ?_ (HS.out _ HU.out) ?_; rotate_left; (intro w0 hS0; go_simp; try with_reducible rfl); simp only [pt, sb, s0, s1]
     refine tk 6 (v := ?_) ?_ (HS.out _ HU.out) ?_; rotate_left; (intro w0 hS0; go_simp; try with_reducible rfl); simp only [pt, sb, s0, s1]
     refine tk 7 (v := ?_) ?_ (HS.out _ HU.out) ?_; rotate_left; (intro w0 hS0; go_simp; try with_reducible rfl); simp only [pt, sb, s0, s1]
   rotate_left 2
   focus
    simp only [ga, gz, gs]; rw [if_pos (by rfl)]
    go_wp2_with fail
    have hb : Below U1.heap.size U1 (U1.alloc (.cells #[.int .i64 0, .int .i64 0, .slice none 0 0, .slice none 0 0, .slice none 0 0, .slice none 0 0, .slice none 0 0, .slice none 0 0] 32)) := (Below.refl _ _).alloc (Nat.le_refl _) _
    have HA : Hid (BoxAt zero8 32 U1.heap.size (U1.alloc (.cells #[.int .i64 0, .int .i64 0, .slice none 0 0, .slice none 0 0, .slice none 0 0, .slice none 0 0, .slice none 0 0, .slice none 0 0] 32)) ∧ Wb.heap.size ≤ U1.heap.size) := ⟨heap_alloc_new _ _, HU.out.size⟩
    replace HU := upU HU hb
    replace HQ := upP HQ hb
    clear hb
    refine hK.out _ _ (HS.out _ HU.out) (fun _ => ?_); clear hK K; try simp only [pt, sb, s0, s1]
    generalize U1.alloc (.cells #[.int .i64 0, .int .i64 0, .slice none 0 0, .slice none 0 0, .slice none 0 0, .slice none 0 0, .slice none 0 0, .slice none 0 0] 32) = U2 at *
    generalize U1.heap.size = X at *
    refine wpAnyH_ready (rs := [3]) (by kernel_rfl) (by simp) ?_
    refine AllReadyH.cons rfl (fun K hK => ?_) AllReadyH.nil
    simp only [ga, gz, gs]; rw [if_pos (by rfl)]
    go_wp2_with fail
    refine (toPort_l z U2 HSZ.out.1 (HCZ.out.1.below (HX.out.below HU.out).2)).mono ?_
    rintro e U3 ⟨za, zc, rfl, -, hb⟩
    replace HU := upU HU hb
    replace HQ := upP HQ hb
    replace HA := upA HA hb
    clear hb
    refine hK.out _ _ (HS.out _ HU.out) (fun _ => ?_); clear hK K; try simp only [pt, sb, s0, s1]
    refine wpAnyH_ready (rs := [4]) (by kernel_rfl) (by simp) ?_
    refine AllReadyH.cons rfl (fun K hK => ?_) AllReadyH.nil
    simp only [ga, gz, gs]; rw [if_pos (by rfl)]
    go_wp2_with fail
    refine (specWithPort_any p2 (portN.set z za zc) U3 Wb.heap.size HWz.out HQ.out.2.2 HQ.out.1).mono ?_
    rintro e U4 hE
    replace hE : TurnRes U3 (withR p2.pure { p2.pure with ports := insG (·.id) (⟨z.id, z.out, z.queue, z.max, []⟩ : PortP) p2.pure.ports }) e U4 := hE
    rw [HQ.out.2.1] at hE
    obtain ⟨r3, rfl, ho, hp, hb⟩ := hE
    rw [HOK.out]
    have HR0 : Hid (PartOwn U4 Wb.heap.size r3 ∧ r3.pure = PU) := ⟨ho.lower HU.out.size, hp.trans HPU.out⟩
    have HNE : Hid (∀ g ∈ r3.blocks, g ≠ X) := fun g hg => by have := (ho.lt g hg).1; have := HA.out.1.lt; omega
    clear HQ
    replace HU := upU HU hb
    replace HA := upA HA hb
    clear ho hp hb
    refine hK.out _ _ (HS.out _ HU.out) (fun _ => ?_); clear hK K; try simp only [pt, sb, s0, s1]
    refine tk 5 (v := ?_) ?_ (HS.out _ HU.out) ?_; rotate_left; (intro w0 hS0; go_simp; try with_reducible rfl); simp only [pt, sb, s0, s1]
    refine tk 6 (v := ?_) ?_ (HS.out _ HU.out) ?_; rotate_left; (intro w0 hS0; go_simp; try with_reducible rfl); simp only [pt, sb, s0, s1]
    refine tk 7 (v := ?_) ?_ (HS.out _ HU.out) ?_; rotate_left; (intro w0 hS0; go_simp; try with_reducible rfl); simp only [pt, sb, s0, s1]
  rotate_left 3
  focus
   simp only [ga, gz, gs]; rw [if_pos (by rfl)]
   go_wp2_with fail
   have hb : Below U0.heap.size U0 (U0.alloc (.cells #[.int .i64 0, .int .i64 0, .slice none 0 0, .slice none 0 0, .slice none 0 0, .slice none 0 0, .slice none 0 0, .slice none 0 0] 32)) := (Below.refl _ _).alloc (Nat.le_refl _) _
   have HA : Hid (BoxAt zero8 32 U0.heap.size (U0.alloc (.cells #[.int .i64 0, .int .i64 0, .slice none 0 0, .slice none 0 0, .slice none 0 0, .slice none 0 0, .slice none 0 0, .slice none 0 0] 32)) ∧ Wb.heap.size ≤ U0.heap.size) := ⟨heap_alloc_new _ _, HU.out.size⟩
   replace HU := upU HU hb
   clear hb
   refine hK.out _ _ (HS.out _ HU.out) (fun _ => ?_); clear hK K; try simp only [pt, sb, s0, s1]
   generalize U0.alloc (.cells #[.int .i64 0, .int .i64 0, .slice none 0 0, .slice none 0 0, .slice none 0 0, .slice none 0 0, .slice none 0 0, .slice none 0 0] 32) = U1 at *
   generalize U0.heap.size = X at *
   refine wpAnyH_ready (rs := [1]) (by kernel_rfl) (by simp) ?_
   refine AllReadyH.cons rfl (fun K hK => ?_) AllReadyH.nil
   simp only [ga, gz, gs]; rw [if_pos (by rfl)]
   go_wp2_with fail
   refine (toPart_l p U1 HSM.out.1 (HC.out.below (HX.out.below HU.out).2)).mono ?_
   rintro e U2 ⟨p2, rfl, ho, hp, hb⟩
   have HQ : Hid (PartOwn U2 Wb.heap.size p2 ∧ p2.pure = p.pure ∧ p2.pure.Small) := ⟨ho.lower HU.out.size, hp, by rw [hp]; exact HSM.out.2.1⟩
   replace HU := upU HU hb
   replace HA := upA HA hb
   clear ho hp hb
   refine hK.out _ _ (HS.out _ HU.out) (fun _ => ?_); clear hK K; try simp only [pt, sb, s0, s1]
   refine wpAnyH_ready (rs := [3]) (by kernel_rfl) (by simp) ?_
   refine AllReadyH.cons rfl (fun K hK => ?_) AllReadyH.nil
   simp only [ga, gz, gs]; rw [if_pos (by rfl)]
   go_wp2_with fail
   refine (toPort_l z U2 HSZ.out.1 (HCZ.out.1.below (HX.out.below HU.out).2)).mono ?_
   rintro e U3 ⟨za, zc, rfl, -, hb⟩
   replace HU := upU HU hb
   replace HQ := upP HQ hb
   replace HA := upA HA hb
   clear hb
   refine hK.out _ _ (HS.out _ HU.out) (fun _ => ?_); clear hK K; try simp only [pt, sb, s0, s1]
   refine wpAnyH_ready (rs := [4]) (by kernel_rfl) (by simp) ?_
   refine AllReadyH.cons rfl (fun K hK => ?_) AllReadyH.nil
   simp only [ga, gz, gs]; rw [if_pos (by rfl)]
   go_wp2_with fail
   refine (specWithPort_any p2 (portN.set z za zc) U3 Wb.heap.size HWz.out HQ.out.2.2 HQ.out.1).mono ?_
   rintro e U4 hE
   replace hE : TurnRes U3 (withR p2.pure { p2.pure with ports := insG (·.id) (⟨z.id, z.out, z.queue, z.max, []⟩ : PortP) p2.pure.ports }) e U4 := hE
   rw [HQ.out.2.1] at hE
   obtain ⟨r3, rfl, ho, hp, hb⟩ := hE
   rw [HOK.out]
   have HR0 : Hid (PartOwn U4 Wb.heap.size r3 ∧ r3.pure = PU) := ⟨ho.lower HU.out.size, hp.trans HPU.out⟩
   have HNE : Hid (∀ g ∈ r3.blocks, g ≠ X) := fun g hg => by have := (ho.lt g hg).1; have := HA.out.1.lt; omega
   clear HQ
   replace HU := upU HU hb
   replace HA := upA HA hb
   clear ho hp hb
   refine hK.out _ _ (HS.out _ HU.out) (fun _ => ?_); clear hK K; try simp only [pt, sb, s0, s1]
   refine tk 5 (v := ?_) ?_ (HS.out _ HU.out) ?_; rotate_left; (intro w0 hS0; go_simp; try with_reducible rfl); simp only [pt, sb, s0, s1]
   refine tk 6 (v := ?_) ?_ (HS.out _ HU.out) ?_; rotate_left; (intro w0 hS0; go_simp; try with_reducible rfl); simp only [pt, sb, s0, s1]
   refine tk 7 (v := ?_) ?_ (HS.out _ HU.out) ?_; rotate_left; (intro w0 hS0; go_simp; try with_reducible rfl); simp only [pt, sb, s0, s1]
  all_goals
   refine wpAnyH_ready (rs := [9]) (by kernel_rfl) (by simp) ?_
   refine AllReadyH.cons rfl (fun K hK => ?_) AllReadyH.nil
   simp only [ga, gz, gs]; rw [if_pos (by rfl)]
   refine oper_store _ _ _ rfl X _ _ r3.cells rfl rfl HA.out.1 (by kernel_rfl) rfl (by kernel_rfl) ?_
   have HE : Hid (Below Wb.heap.size Wb (U4.setRow X r3.cells)) := below_setRow HU.out HA.out.2 _
   refine hK.out _ _ (HS.out _ HE.out) (fun _ => ?_); clear hK K; try simp only [pn]
   refine tk 10 (v := ?_) ?_ (HS.out _ HE.out) ?_; rotate_left; (intro w0 hS0; go_simp; try with_reducible rfl); simp only [pt, sb, s0, s1]
   refine wpAnyH_done (by kernel_rfl) ?_ _
   refine cut_normal ⟨X, r3, .agg p.cells, .agg p2.cells, .agg #[.int .i64 z.id, .bool z.out, .bool z.queue, .int .i64 z.max, .slice z.itemsA z.items.length z.itemsC], .agg (portVs (portN.set z za zc)), .tuple #[.agg r3.cells, .bool ok], .tuple #[.agg r3.cells, .bool ok], .agg r3.cells, .bool ok, by simp only [puts_cons, puts_nil, pt, sb, s0, s1], ⟨setRow_heap _ _ _ _ _ _ HA.out.1, HR0.out.1.same fun g hg => setRow_other _ _ _ _ (HNE.out g hg)⟩, HR0.out.2, HA.out.2, HNE.out, HE.out⟩
 rintro a' W3 ⟨X3, r3, d0, d1, d2, d3, d4, d5, d6, d7, rfl, h3, hp3, hx3, hn3, hb⟩
 simp only [puts_cons, puts_nil, pt, sb, s0, s1]
 have hz1 := HZ.out.lt
 have H3 : Hid (PartIn W3 X3 Wb.heap.size r3) := h3
 have HP3 : Hid (r3.pure = PU) := hp3
 have HR : Hid ((∀ g ∈ r3.blocks, w.heap.size + 1 < g ∧ g < W3.heap.size) ∧ w.heap.size + 1 < X3 ∧ X3 < W3.heap.size) := ⟨fun g hg => by have := h3.2.lt g hg; omega, by omega, h3.1.lt⟩
 replace HX := upX HX hb
 replace HZ := upZ HZ hb
 clear h3 hp3 hx3 hn3 hb hz1
 obtain ⟨m0, m1, m2, m3, m4, m5, m6, m7⟩ := srcCells HX.out.1
 go_wp2_with fail
 clear m0 m1 m2 m3 m4 m5 m6 m7
 refine (toPart_l p W3 HSM.out.1 (HC.out.below HX.out.2)).mono ?_
 rintro e V4 ⟨p4, rfl, ho, hp, hb⟩
 have hb2 : Below W3.heap.size W3 (V4.alloc (.cells #[.int .i64 p4.id, .int .i64 p4.next, .slice p4.procA p4.procs.length p4.procC, .slice p4.semA p4.sems.length p4.semC, .slice p4.eventA p4.events.length p4.eventC, .slice p4.boardA p4.boards.length p4.boardC, .slice p4.bufferA p4.buffers.length p4.bufferC, .slice p4.portA p4.ports.length p4.portC] 32)) := hb.alloc hb.size _
 have H4 : Hid (PartIn (V4.alloc (.cells #[.int .i64 p4.id, .int .i64 p4.next, .slice p4.procA p4.procs.length p4.procC, .slice p4.semA p4.sems.length p4.semC, .slice p4.eventA p4.events.length p4.eventC, .slice p4.boardA p4.boards.length p4.boardC, .slice p4.bufferA p4.buffers.length p4.bufferC, .slice p4.portA p4.ports.length p4.portC] 32)) V4.heap.size W3.heap.size p4) := ⟨heap_alloc_new _ _, ho.below ((Below.refl _ _).alloc (Nat.le_refl _) _)⟩
 have HP4 : Hid (p4.pure = p.pure ∧ p4.pure.Small ∧ (∀ g ∈ p4.blocks, W3.heap.size ≤ g ∧ g < V4.heap.size) ∧ W3.heap.size ≤ V4.heap.size) := ⟨hp, by rw [hp]; exact HSM.out.2.1, fun g hg => ho.lt g hg, hb.size⟩
 obtain ⟨z0, z1, z2, z3, z4⟩ := portSrc (HZ.out.below hb2)
 unfold PartD.cells
 go_wp2_with fail
 clear z0 z1 z2 z3 z4
 generalize V4.alloc (.cells #[.int .i64 p4.id, .int .i64 p4.next, .slice p4.procA p4.procs.length p4.procC, .slice p4.semA p4.sems.length p4.semC, .slice p4.eventA p4.events.length p4.eventC, .slice p4.boardA p4.boards.length p4.boardC, .slice p4.bufferA p4.buffers.length p4.bufferC, .slice p4.portA p4.ports.length p4.portC] 32) = W4 at *
 have hxl4 := H4.out.1.lt
 generalize V4.heap.size = X4 at *
 replace HX := upX HX hb2
 replace HZ := upZ HZ hb2
 replace H3 := upI H3 hb2
 clear hb2 hb ho hp
 refine (toPort_l z W4 HSZ.out.1 (HCZ.out.1.below HX.out.2)).mono ?_
 rintro e V9 ⟨za, zc, he, hm, hb⟩
 have hzp : (portN.set z za zc).toPortP = z.toPortP := rfl
 generalize portN.set z za zc = z9 at *
 subst he
 clear za zc
 have hb2 : Below W4.heap.size W4 (V9.alloc (.cells #[.int .i64 z9.id, .bool z9.out, .bool z9.queue, .int .i64 z9.max, .slice z9.itemsA z9.items.length z9.itemsC] 61)) := hb.alloc hb.size _
 have H9 : Hid (PortIn (V9.alloc (.cells #[.int .i64 z9.id, .bool z9.out, .bool z9.queue, .int .i64 z9.max, .slice z9.itemsA z9.items.length z9.itemsC] 61)) V9.heap.size W4.heap.size z9) := ⟨heap_alloc_new _ _, mine_below (hm.low (by omega)) ((Below.refl _ _).alloc (Nat.le_refl _) _)⟩
 have HP9 : Hid (z9.toPortP = z.toPortP ∧ (∀ g ∈ blk z9.itemsA, W4.heap.size ≤ g ∧ g < V9.heap.size) ∧ W4.heap.size ≤ V9.heap.size ∧ X4 < W4.heap.size) := ⟨hzp, fun g hg => by have := hm.lt (mem_blk.1 hg); omega, hb.size, hxl4⟩
 clear hzp
 obtain ⟨b0, b1, b2, b3, b4, b5, b6, b7⟩ := (H4.out.below hb2).1.cells
 obtain ⟨c0, c1, c2, c3, c4⟩ := port_cells H9.out.1
 unfold portVs
 go_wp2_with fail
 clear b0 b1 b2 b3 b4 b5 b6 b7
 clear c0 c1 c2 c3 c4
 generalize V9.alloc (.cells #[.int .i64 z9.id, .bool z9.out, .bool z9.queue, .int .i64 z9.max, .slice z9.itemsA z9.items.length z9.itemsC] 61) = W9 at *
 have hxl9 : V9.heap.size < W9.heap.size := (Array.getElem?_eq_some_iff.1 H9.out.1).1
 generalize V9.heap.size = X9 at *
 replace HX := upX HX hb2
 replace HZ := upZ HZ hb2
 replace H3 := upI H3 hb2
 replace H4 := upI H4 hb2
 clear hb2 hb hm hxl4
 have e0 : z9.id = z.id := congrArg PortP.id HP9.out.1
 have e1 : z9.out = z.out := congrArg PortP.out HP9.out.1
 have e2 : z9.queue = z.queue := congrArg PortP.queue HP9.out.1
 have e3 : z9.max = z.max := congrArg PortP.max HP9.out.1
 refine (implWithPort_any p4 z9 W9 (by rw [e0]; exact HWz.out) (small_good HP4.out.2.1 H4.out.2)).mono ?_
 rintro e V5 hE
 rw [HP4.out.1, e0, e1, e2, e3] at hE
 clear e0 e1 e2 e3
 obtain ⟨r5, rfl, ho, hp, hb⟩ := hE
 rw [HOK.out]
 have hb2 : Below W9.heap.size W9 (V5.alloc (.cells #[.int .i64 r5.id, .int .i64 r5.next, .slice r5.procA r5.procs.length r5.procC, .slice r5.semA r5.sems.length r5.semC, .slice r5.eventA r5.events.length r5.eventC, .slice r5.boardA r5.boards.length r5.boardC, .slice r5.bufferA r5.buffers.length r5.bufferC, .slice r5.portA r5.ports.length r5.portC] 32)) := hb.alloc hb.size _
 have H5 : Hid (PartIn (V5.alloc (.cells #[.int .i64 r5.id, .int .i64 r5.next, .slice r5.procA r5.procs.length r5.procC, .slice r5.semA r5.sems.length r5.semC, .slice r5.eventA r5.events.length r5.eventC, .slice r5.boardA r5.boards.length r5.boardC, .slice r5.bufferA r5.buffers.length r5.bufferC, .slice r5.portA r5.ports.length r5.portC] 32)) V5.heap.size W9.heap.size r5) := ⟨heap_alloc_new _ _, ho.below ((Below.refl _ _).alloc (Nat.le_refl _) _)⟩
 have HP5 : Hid (r5.pure = PU ∧ (∀ g ∈ r5.blocks, X9 < g ∧ g ≠ V5.heap.size) ∧ X9 < V5.heap.size) := ⟨hp.trans HPU.out, fun g hg => by have := ho.lt g hg; omega, by have := hb.size; omega⟩
 clear ho hp
 replace HX := upX HX hb2
 replace HZ := upZ HZ hb2
 replace H3 := upI H3 hb2
 replace H4 := upI H4 hb2
 replace H9 := upQ H9 hb2
 obtain ⟨v0, v1, v2, v3, v4, v5, v6, v7⟩ := H3.out.1.cells
 unfold PartD.cells
 go_wp2_with fail
 clear v0 v1 v2 v3 v4 v5 v6 v7
 generalize V5.alloc (.cells #[.int .i64 r5.id, .int .i64 r5.next, .slice r5.procA r5.procs.length r5.procC, .slice r5.semA r5.sems.length r5.semC, .slice r5.eventA r5.events.length r5.eventC, .slice r5.boardA r5.boards.length r5.boardC, .slice r5.bufferA r5.buffers.length r5.bufferC, .slice r5.portA r5.ports.length r5.portC] 32) = W5 at *
 generalize V5.heap.size = X5 at *
 clear hb2 hb hxl9
 have HE : Hid (r3.pure = r5.pure) := HP3.out.trans HP5.out.1.symm
 have HL : Hid (r5.pure.Small) := by rw [HP5.out.1, ← HPU.out]; exact (smallPort HSM.out.2.1 ⟨HWz.out, Nat.zero_le _, (fun s hs => by cases hs)⟩)
 refine (eqPart_l r5 r3 W5 HL.out HE.out H5.out.2.at H3.out.2.at).mono ?_
 rintro e W6 ⟨rfl, hb⟩
 replace HX := upX HX hb
 replace HZ := upZ HZ hb
 replace H3 := upI H3 hb
 replace H4 := upI H4 hb
 replace H9 := upQ H9 hb
 replace H5 := upI H5 hb
 clear hb
 go_wp2_with fail
 have HS : Hid (PartBox W6 X4 p4 ∧ W6.heap[w.heap.size]? = some (.cells p.cells 73 (0, 0))) := ⟨H4.out.1, HX.out.1⟩
 refine wp_region_held_drew (S := fun w' => PartBox w' X4 p4 ∧ w'.heap[w.heap.size]? = some (.cells p.cells 73 (0, 0))) (by kernel_rfl) HS.out (fun hHeld => ?_)
 refine tkr 0 (v := .agg p4.cells) rfl (yieldsIf_row (by rfl) 32 _ rfl X4 (by rfl) 32 _ _ (fun _ h => h.1) Tryz.underlying32 rfl (by kernel_rfl)) hHeld ?_
 simp only [pt, sb, s0, s1]
 refine tkr 1 (v := .agg p.cells) rfl (yieldsIf_row (by rfl) 73 _ rfl w.heap.size (by rfl) 73 _ _ (fun _ h => h.2) Tryz.underlying73 rfl (by kernel_rfl)) hHeld ?_
 simp only [pt, sb, s0, s1]
 refine wpAnyH_ready (rs := [2]) (by kernel_rfl) (by simp) ?_
 refine AllReadyH.cons rfl (fun K hK => ?_) AllReadyH.nil
 simp only [ga, gz, gs]; rw [if_pos (by rfl)]
 go_wp2_with fail
 refine (toPart_l p W6.drew HSM.out.1 (HC.out.below HX.out.2.drew)).mono ?_
 rintro e W7 ⟨p6, rfl, ho, hp, hb2⟩
 have hb : Below W6.heap.size W6 W7 := below_undrew' hb2
 have H7 : Hid (PartD.At W7 p6 ∧ p6.pure = p4.pure) := ⟨ho.at, by rw [hp, HP4.out.1]⟩
 replace HX := upX HX hb
 replace HZ := upZ HZ hb
 replace H3 := upI H3 hb
 replace H4 := upI H4 hb
 replace H9 := upQ H9 hb
 replace H5 := upI H5 hb
 clear hb hb2 ho hp HS hHeld
 refine hK.out _ _ ⟨H4.out.1, HX.out.1⟩ (fun hHeld => ?_)
 clear hK K
 try simp only [pt, sb, s0, s1]
 refine wpAnyH_ready (rs := [3]) (by kernel_rfl) (by simp) ?_
 refine AllReadyH.cons rfl (fun K hK => ?_) AllReadyH.nil
 simp only [ga, gz, gs]; rw [if_pos (by rfl)]
 go_wp2_with fail
 refine (eqPart_l p4 p6 W7 HP4.out.2.1 H7.out.2 H4.out.2.at H7.out.1).mono ?_
 rintro e W8 ⟨rfl, hb⟩
 replace HX := upX HX hb
 replace HZ := upZ HZ hb
 replace H3 := upI H3 hb
 replace H4 := upI H4 hb
 replace H9 := upQ H9 hb
 replace H5 := upI H5 hb
 clear hb H7
 refine hK.out _ _ ⟨H4.out.1, HX.out.1⟩ (fun hHeld => ?_)
 clear hK K
 try simp only [pt, sb, s0, s1]
 refine tkr 4 (v := .bool false) rfl (Or.inl ⟨by rfl, fun _ _ => rfl⟩) ⟨H4.out.1, HX.out.1⟩ ?_
 simp only [pt, sb, s0, s1]
 refine wpAnyH_done (by kernel_rfl) ?_ _
 clear hHeld
 go_wp2_with fail
 refine wp_region_held_drew (S := fun w' => PortIn w' X9 W4.heap.size z9 ∧ BoxAt #[.int .i64 z.id, .bool z.out, .bool z.queue, .int .i64 z.max, .slice z.itemsA z.items.length z.itemsC] 88 (w.heap.size + 1) w') (by kernel_rfl) ⟨H9.out.below (Below.refl _ _).drew, HZ.out.below (Below.refl _ _).drew⟩ (fun hHeld => ?_)
 refine tkr 0 (v := .agg (portVs z9)) rfl (yieldsIf_row (by rfl) 61 _ rfl X9 (by rfl) 61 _ _ (fun _ h => h.1.1) Tryz.underlying61 rfl (by kernel_rfl)) hHeld ?_; simp only [pt, sb, s0, s1]
 refine tkr 1 (v := .agg #[.int .i64 z.id, .bool z.out, .bool z.queue, .int .i64 z.max, .slice z.itemsA z.items.length z.itemsC]) rfl (yieldsIf_row (by rfl) 88 _ rfl (w.heap.size + 1) (by rfl) 88 _ _ (fun _ h => h.2) Tryz.underlying88 rfl (by kernel_rfl)) hHeld ?_; simp only [pt, sb, s0, s1]
 refine wpAnyH_ready (rs := [2]) (by kernel_rfl) (by simp) ?_
 refine AllReadyH.cons rfl (fun K hK => ?_) AllReadyH.nil
 simp only [ga, gz, gs]; rw [if_pos (by rfl)]
 go_wp2_with fail
 refine (toPort_l z W8.drew HSZ.out.1 (HCZ.out.1.below HX.out.2.drew)).mono ?_
 rintro e Y7 ⟨za, zc, rfl, hm, hb2⟩
 have hb : Below W8.heap.size W8 Y7 := below_undrew' hb2
 replace HX := upX HX hb
 replace HZ := upZ HZ hb
 replace H3 := upI H3 hb
 replace H4 := upI H4 hb
 replace H9 := upQ H9 hb
 replace H5 := upI H5 hb
 clear hb hb2 hHeld
 refine hK.out _ _ ⟨H9.out, HZ.out⟩ (fun hHeld => ?_); clear hK K; try simp only [pt, sb, s0, s1]
 refine wpAnyH_ready (rs := [3]) (by kernel_rfl) (by simp) ?_
 refine AllReadyH.cons rfl (fun K hK => ?_) AllReadyH.nil
 simp only [ga, gz, gs]; rw [if_pos (by rfl)]
 go_wp2_with fail
 refine (eqPort_l z9 (portN.set z za zc) Y7 HP9.out.1.symm (by have h5 : z9.items = z.items := congrArg PortP.items HP9.out.1; rw [h5]; exact HSZ.out.1) H9.out.2.row hm.row).mono ?_
 rintro e Y8 ⟨rfl, hb⟩
 replace HX := upX HX hb
 replace HZ := upZ HZ hb
 replace H3 := upI H3 hb
 replace H4 := upI H4 hb
 replace H9 := upQ H9 hb
 replace H5 := upI H5 hb
 clear hb hm
 refine hK.out _ _ ⟨H9.out, HZ.out⟩ (fun hHeld => ?_); clear hK K; try simp only [pt, sb, s0, s1]
 refine tkr 4 (v := .bool false) rfl (Or.inl ⟨by rfl, fun _ _ => rfl⟩) ⟨H9.out, HZ.out⟩ ?_; simp only [pt, sb, s0, s1]
 refine wpAnyH_done (by kernel_rfl) ?_ _
 clear hHeld
 obtain ⟨b0, b1, b2, b3, b4, b5, b6, b7⟩ := H4.out.1.cells
 have HCT : Hid (1 + (cntPart p4 : Nat) ≤ (90000000 : Int)) := by have h5 := cnt_part p4; rw [HP4.out.1] at h5; have h6 := HSM.out.2.2; show (1 : Int) + _ ≤ _; omega
 go_wp2_with fail
 clear b0 b1 b2 b3 b4 b5 b6 b7
 refine (markPart_l p4 1 Y8 W3.heap.size (small_cnt HP4.out.2.1) (by omega) HCT.out H4.out.2).mono ?_
 rintro e M9 ⟨rfl, -, hkb⟩
 have hrw := HR.out
 have hr4 := HP4.out.2.2
 have hr5 := HP5.out.2
 have hr9 := HP9.out.2
 replace HX : Hid (SrcS p w M9) := HX.out.kept hkb fun g hg => by have := hr4.1 g hg; omega
 replace HZ : Hid (BoxAt #[.int .i64 z.id, .bool z.out, .bool z.queue, .int .i64 z.max, .slice z.itemsA z.items.length z.itemsC] 88 (w.heap.size + 1) M9) := HZ.out.kept hkb fun hm => by have := hr4.1 _ hm; omega
 replace H3 : Hid (PartIn M9 X3 Wb.heap.size r3) := H3.out.kept hkb (fun hm => by have := hr4.1 _ hm; omega) (fun g hg hm => by have := hr4.1 g hm; have := hrw.1 g hg; omega)
 replace H5 : Hid (PartIn M9 X5 W9.heap.size r5) := H5.out.kept hkb (fun hm => by have := hr4.1 _ hm; omega) (fun g hg hm => by have := hr4.1 g hm; have := hr5.1 g hg; omega)
 replace H9 : Hid (PortIn M9 X9 W4.heap.size z9) := H9.out.kept hkb (fun hm => by have := hr4.1 _ hm; omega) (fun g hg hm => by have := hr4.1 g hm; have := hr9.1 g hg; omega)
 clear H4 hkb hrw hr4 hr5 hr9
 obtain ⟨c0, c1, c2, c3, c4⟩ := port_cells H9.out.1
 go_wp2_with fail
 clear c0 c1 c2 c3 c4
 have hzl : z9.items.length ≤ 1048576 := by have h5 : z9.items = z.items := congrArg PortP.items HP9.out.1; rw [h5]; exact HSZ.out.1
 have hz0 : (1 : Int) ≤ 1 + (cntPart p4 : Nat) := by omega
 have hz1 : 1 + (cntPart p4 : Nat) + (cntL (fun _ : ByteArray => 1) z9.items : Nat) ≤ (90000000 : Int) := by have h5 := cnt_part p4; rw [HP4.out.1] at h5; have h6 := HSM.out.2.2; have h7 := cnt_str z9.items; show (1 : Int) + _ + _ ≤ _; omega
 refine (markPort_any z9 _ M9 W4.heap.size hzl hz0 hz1 H9.out.2).mono ?_
 rintro e N9 ⟨rfl, hkb⟩
 clear hzl hz0 hz1
 have hrw := HR.out
 have hr4 := HP4.out.2.2
 have hr5 := HP5.out.2
 have hr9 := HP9.out.2
 replace HX : Hid (SrcS p w N9) := HX.out.kept hkb fun g hg => by have := hr9.1 g hg; omega
 replace HZ : Hid (BoxAt #[.int .i64 z.id, .bool z.out, .bool z.queue, .int .i64 z.max, .slice z.itemsA z.items.length z.itemsC] 88 (w.heap.size + 1) N9) := HZ.out.kept hkb fun hm => by have := hr9.1 _ hm; omega
 replace H3 : Hid (PartIn N9 X3 Wb.heap.size r3) := H3.out.kept hkb (fun hm => by have := hr9.1 _ hm; omega) (fun g hg hm => by have := hr9.1 g hm; have := hrw.1 g hg; omega)
 replace H5 : Hid (PartIn N9 X5 W9.heap.size r5) := H5.out.kept hkb (fun hm => by have := hr9.1 _ hm; omega) (fun g hg hm => by have := hr9.1 g hm; have := hr5.1 g hg; omega)
 clear H9 hkb hrw hr4 hr5 hr9
 have nn : decide ((1 : Int) + (cntPart p4 : Nat) + (cntL (fun _ : ByteArray => 1) z9.items : Nat) < 0) = false := decide_eq_false (by omega)
 obtain ⟨u0, u1, u2, u3, u4, u5, u6, u7⟩ := H5.out.1.cells
 obtain ⟨v0, v1, v2, v3, v4, v5, v6, v7⟩ := H3.out.1.cells
 go_wp2_with fail
 clear u0 u1 u2 u3 u4 u5 u6 u7
 clear v0 v1 v2 v3 v4 v5 v6 v7
 clear nn
 refine (eqPart_l r5 r3 N9 HL.out HE.out H5.out.2.at H3.out.2.at).mono ?_
 rintro e W10 ⟨rfl, hb⟩
 replace HX := upX HX hb
 replace HZ := upZ HZ hb
 replace H3 := upI H3 hb
 replace H5 := upI H5 hb
 clear hb
 obtain ⟨u0, u1, u2, u3, u4, u5, u6, u7⟩ := H5.out.1.cells
 go_wp2_with fail
 clear u0 u1 u2 u3 u4 u5 u6 u7
 have HCR : Hid (1 + (cntPart r5 : Nat) ≤ (90000000 : Int)) := by have h5 := cnt_part r5; have h6 : r5.pure.total ≤ 1048577 := (by rw [HP5.out.1, ← HPU.out]; exact Nat.le_trans totalPort (by have h7 := HSM.out.2.2; simp only [List.length_nil]; omega)); show (1 : Int) + _ ≤ _; omega
 refine (markPart_l r5 1 W10 W9.heap.size (small_cnt HL.out) (by omega) HCR.out H5.out.2).mono ?_
 rintro e W11 ⟨rfl, hmk, hkb⟩
 have hrw := HR.out
 have hr4 := HP4.out.2.2
 have hr5 := HP5.out.2
 have hr9 := HP9.out.2
 replace HX : Hid (SrcS p w W11) := HX.out.kept hkb fun g hg => by have := hr5.1 g hg; omega
 replace HZ : Hid (BoxAt #[.int .i64 z.id, .bool z.out, .bool z.queue, .int .i64 z.max, .slice z.itemsA z.items.length z.itemsC] 88 (w.heap.size + 1) W11) := HZ.out.kept hkb fun hm => by have := hr5.1 _ hm; omega
 replace H3 : Hid (PartIn W11 X3 Wb.heap.size r3) := H3.out.kept hkb (fun hm => by have := hr5.1 _ hm; omega) (fun g hg hm => by have := hr5.1 g hm; have := hrw.1 g hg; omega)
 have HB5 : Hid (PartBox W11 X5 r5) := (hkb.same _ H5.out.1.lt fun hm => by have := hr5.1 _ hm; omega).trans H5.out.1
 have HM : Hid (PartOwn W11 W9.heap.size (mkPart 1 r5)) := hmk
 clear H5 hkb hmk hrw hr4 hr5 hr9
 obtain ⟨u0, u1, u2, u3, u4, u5, u6, u7⟩ := HB5.out.cells
 go_wp2_with fail
 clear u0 u1 u2 u3 u4 u5 u6 u7
 refine (heldPart_l r5 1 W11 (small_cnt HL.out) (by omega) HCR.out HM.out.at).mono ?_
 rintro e W12 ⟨rfl, hb⟩
 replace HX := upX HX hb
 replace HZ := upZ HZ hb
 replace H3 := upI H3 hb
 replace HB5 := upB HB5 hb
 replace HM := upM HM hb
 clear hb
 have nq : ¬ (1 : Int) + (cntPart r5 : Nat) < 0 := by omega
 have nd : ((1 : Int) + (cntPart r5 : Nat) != 1 + (cntPart r5 : Nat)) = false := by simp
 go_wp2_with fail
 refine wp_cut (fun a0 a' w' => ∃ (X : Nat) (r : PartD) (d0 d1 d2 d3 d4 d5 d6 d7 : Value), a' = puts a0 [(95, d0), (96, d1), (97, d2), (98, d3), (99, d4), (94, d5), (100, d6), (101, d7), (15, .pointer (some ⟨X, 0, none⟩)), (16, .bool ok)] ∧ PartIn w' X W12.heap.size r ∧ r.pure = PU ∧ W12.heap.size ≤ X ∧ (∀ g ∈ r.blocks, g ≠ X) ∧ Below W12.heap.size W12 w') ?_ ?_
 focus
  have HS : Hid (∀ U, Below W12.heap.size W12 U → SrcS p w U ∧ BoxAt #[.int .i64 z.id, .bool z.out, .bool z.queue, .int .i64 z.max, .slice z.itemsA z.items.length z.itemsC] 88 (w.heap.size + 1) U) := fun U hb => ⟨HX.out.below hb, HZ.out.below hb⟩
  have HU : Hid (Below W12.heap.size W12 W12.drew) := (Below.refl _ _).drew
  refine wp_region_held_drew (S := fun w' => SrcS p w w' ∧ BoxAt #[.int .i64 z.id, .bool z.out, .bool z.queue, .int .i64 z.max, .slice z.itemsA z.items.length z.itemsC] 88 (w.heap.size + 1) w') (by kernel_rfl) (HS.out _ HU.out) (fun hHeld => ?_)
  clear hHeld
  generalize W12.drew = U0 at *
  refine tkr 0 (v := .agg p.cells) rfl (yieldsIf_row (by rfl) 73 _ rfl w.heap.size (by rfl) 73 _ _ (fun _ h => h.1.1) Tryz.underlying73 rfl (by kernel_rfl)) (HS.out _ HU.out) ?_; simp only [pt, sb, s0, s1]
  refine tkr 2 (v := .agg #[.int .i64 z.id, .bool z.out, .bool z.queue, .int .i64 z.max, .slice z.itemsA z.items.length z.itemsC]) rfl (yieldsIf_row (by rfl) 88 _ rfl (w.heap.size + 1) (by rfl) 88 _ _ (fun _ h => h.2) Tryz.underlying88 rfl (by kernel_rfl)) (HS.out _ HU.out) ?_; simp only [pt, sb, s0, s1]
  refine wpAnyH_ready (rs := [1, 8]) (by kernel_rfl) (by simp) ?_
  refine AllReadyH.cons rfl (fun K hK => ?_) (AllReadyH.cons rfl (fun K hK => ?_) AllReadyH.nil)
  focus
   simp only [ga, gz, gs]; rw [if_pos (by rfl)]
   go_wp2_with fail
   refine (toPart_l p U0 HSM.out.1 (HC.out.below (HX.out.below HU.out).2)).mono ?_
   rintro e U1 ⟨p2, rfl, ho, hp, hb⟩
   have HQ : Hid (PartOwn U1 W12.heap.size p2 ∧ p2.pure = p.pure ∧ p2.pure.Small) := ⟨ho.lower HU.out.size, hp, by rw [hp]; exact HSM.out.2.1⟩
   replace HU := upU HU hb
   clear ho hp hb
   refine hK.out _ _ (HS.out _ HU.out) (fun _ => ?_); clear hK K; try simp only [pt, sb, s0, s1]
   refine wpAnyH_ready (rs := [3, 8]) (by kernel_rfl) (by simp) ?_
   refine AllReadyH.cons rfl (fun K hK => ?_) (AllReadyH.cons rfl (fun K hK => ?_) AllReadyH.nil)
   focus
    simp only [ga, gz, gs]; rw [if_pos (by rfl)]
    go_wp2_with fail
    refine (toPort_l z U1 HSZ.out.1 (HCZ.out.1.below (HX.out.below HU.out).2)).mono ?_
    rintro e U2 ⟨za, zc, rfl, -, hb⟩
    replace HU := upU HU hb
    replace HQ := upP HQ hb
    clear hb
    refine hK.out _ _ (HS.out _ HU.out) (fun _ => ?_); clear hK K; try simp only [pt, sb, s0, s1]
    refine wpAnyH_ready (rs := [4, 8]) (by kernel_rfl) (by simp) ?_
    refine AllReadyH.cons rfl (fun K hK => ?_) (AllReadyH.cons rfl (fun K hK => ?_) AllReadyH.nil)
    focus
     simp only [ga, gz, gs]; rw [if_pos (by rfl)]
     go_wp2_with fail
     refine (implWithPort_any p2 (portN.set z za zc) U2 HWz.out (small_good HQ.out.2.2 HQ.out.1)).mono ?_
     rintro e U3 hE
     replace hE : TurnRes U2 (withR p2.pure { p2.pure with ports := insG (·.id) (⟨z.id, z.out, z.queue, z.max, []⟩ : PortP) p2.pure.ports }) e U3 := hE
     rw [HQ.out.2.1] at hE
     obtain ⟨r3, rfl, ho, hp, hb⟩ := hE
     rw [HOK.out]
     have HR0 : Hid (PartOwn U3 W12.heap.size r3 ∧ r3.pure = PU) := ⟨ho.lower HU.out.size, hp.trans HPU.out⟩
     clear HQ
     replace HU := upU HU hb
     clear ho hp hb
     refine hK.out _ _ (HS.out _ HU.out) (fun _ => ?_); clear hK K; try simp only [pt, sb, s0, s1]
     refine tk 5 (v := ?_) ?_ (HS.out _ HU.out) ?_; rotate_left; (intro w0 hS0; go_simp; try with_reducible rfl); simp only [pt, sb, s0, s1]
     refine tk 6 (v := ?_) ?_ (HS.out _ HU.out) ?_; rotate_left; (intro w0 hS0; go_simp; try with_reducible rfl); simp only [pt, sb, s0, s1]
     refine tk 7 (v := ?_) ?_ (HS.out _ HU.out) ?_; rotate_left; (intro w0 hS0; go_simp; try with_reducible rfl); simp only [pt, sb, s0, s1]
     refine wpAnyH_ready (rs := [8]) (by kernel_rfl) (by simp) ?_
     refine AllReadyH.cons rfl (fun K hK => ?_) AllReadyH.nil
     simp only [ga, gz, gs]; rw [if_pos (by rfl)]
     go_wp2_with fail
     have hb : Below U3.heap.size U3 (U3.alloc (.cells #[.int .i64 0, .int .i64 0, .slice none 0 0, .slice none 0 0, .slice none 0 0, .slice none 0 0, .slice none 0 0, .slice none 0 0] 32)) := (Below.refl _ _).alloc (Nat.le_refl _) _
     have HA : Hid (BoxAt zero8 32 U3.heap.size (U3.alloc (.cells #[.int .i64 0, .int .i64 0, .slice none 0 0, .slice none 0 0, .slice none 0 0, .slice none 0 0, .slice none 0 0, .slice none 0 0] 32)) ∧ W12.heap.size ≤ U3.heap.size) := ⟨heap_alloc_new _ _, HU.out.size⟩
     have HNE : Hid (∀ g ∈ r3.blocks, g ≠ U3.heap.size) := fun g hg => by have := (HR0.out.1.lt g hg).2; omega
     replace HU := upU HU hb
     replace HR0 := upP HR0 hb
     clear hb
     refine hK.out _ _ (HS.out _ HU.out) (fun _ => ?_); clear hK K; try simp only [pt, sb, s0, s1]
     generalize U3.alloc (.cells #[.int .i64 0, .int .i64 0, .slice none 0 0, .slice none 0 0, .slice none 0 0, .slice none 0 0, .slice none 0 0, .slice none 0 0] 32) = U4 at *
     generalize U3.heap.size = X at *
    rotate_left
    focus
     simp only [ga, gz, gs]; rw [if_pos (by rfl)]
     go_wp2_with fail
     have hb : Below U2.heap.size U2 (U2.alloc (.cells #[.int .i64 0, .int .i64 0, .slice none 0 0, .slice none 0 0, .slice none 0 0, .slice none 0 0, .slice none 0 0, .slice none 0 0] 32)) := (Below.refl _ _).alloc (Nat.le_refl _) _
     have HA : Hid (BoxAt zero8 32 U2.heap.size (U2.alloc (.cells #[.int .i64 0, .int .i64 0, .slice none 0 0, .slice none 0 0, .slice none 0 0, .slice none 0 0, .slice none 0 0, .slice none 0 0] 32)) ∧ W12.heap.size ≤ U2.heap.size) := ⟨heap_alloc_new _ _, HU.out.size⟩
     replace HU := upU HU hb
     replace HQ := upP HQ hb
     clear hb
     refine hK.out _ _ (HS.out _ HU.out) (fun _ => ?_); clear hK K; try simp only [pt, sb, s0, s1]
     generalize U2.alloc (.cells #[.int .i64 0, .int .i64 0, .slice none 0 0, .slice none 0 0, .slice none 0 0, .slice none 0 0, .slice none 0 0, .slice none 0 0] 32) = U3 at *
     generalize U2.heap.size = X at *
     refine wpAnyH_ready (rs := [4]) (by kernel_rfl) (by simp) ?_
     refine AllReadyH.cons rfl (fun K hK => ?_) AllReadyH.nil
     simp only [ga, gz, gs]; rw [if_pos (by rfl)]
     go_wp2_with fail
     refine (implWithPort_any p2 (portN.set z za zc) U3 HWz.out (small_good HQ.out.2.2 HQ.out.1)).mono ?_
     rintro e U4 hE
     replace hE : TurnRes U3 (withR p2.pure { p2.pure with ports := insG (·.id) (⟨z.id, z.out, z.queue, z.max, []⟩ : PortP) p2.pure.ports }) e U4 := hE
     rw [HQ.out.2.1] at hE
     obtain ⟨r3, rfl, ho, hp, hb⟩ := hE
     rw [HOK.out]
     have HR0 : Hid (PartOwn U4 W12.heap.size r3 ∧ r3.pure = PU) := ⟨ho.lower HU.out.size, hp.trans HPU.out⟩
     have HNE : Hid (∀ g ∈ r3.blocks, g ≠ X) := fun g hg => by have := (ho.lt g hg).1; have := HA.out.1.lt; omega
     clear HQ
     replace HU := upU HU hb
     replace HA := upA HA hb
     clear ho hp hb
     refine hK.out _ _ (HS.out _ HU.out) (fun _ => ?_); clear hK K; try simp only [pt, sb, s0, s1]
     refine tk 5 (v := ?_) ?_ (HS.out _ HU.out) ?_; rotate_left; (intro w0 hS0; go_simp; try with_reducible rfl); simp only [pt, sb, s0, s1]
     refine tk 6 (v := ?_) ?_ (HS.out _ HU.out) ?_; rotate_left; (intro w0 hS0; go_simp; try with_reducible rfl); simp only [pt, sb, s0, s1]
     refine tk 7 (v := ?_) ?_ (HS.out _ HU.out) ?_; rotate_left; (intro w0 hS0; go_simp; try with_reducible rfl); simp only [pt, sb, s0, s1]
   rotate_left 2
   focus
    simp only [ga, gz, gs]; rw [if_pos (by rfl)]
    go_wp2_with fail
    have hb : Below U1.heap.size U1 (U1.alloc (.cells #[.int .i64 0, .int .i64 0, .slice none 0 0, .slice none 0 0, .slice none 0 0, .slice none 0 0, .slice none 0 0, .slice none 0 0] 32)) := (Below.refl _ _).alloc (Nat.le_refl _) _
    have HA : Hid (BoxAt zero8 32 U1.heap.size (U1.alloc (.cells #[.int .i64 0, .int .i64 0, .slice none 0 0, .slice none 0 0, .slice none 0 0, .slice none 0 0, .slice none 0 0, .slice none 0 0] 32)) ∧ W12.heap.size ≤ U1.heap.size) := ⟨heap_alloc_new _ _, HU.out.size⟩
    replace HU := upU HU hb
    replace HQ := upP HQ hb
    clear hb
    refine hK.out _ _ (HS.out _ HU.out) (fun _ => ?_); clear hK K; try simp only [pt, sb, s0, s1]
    generalize U1.alloc (.cells #[.int .i64 0, .int .i64 0, .slice none 0 0, .slice none 0 0, .slice none 0 0, .slice none 0 0, .slice none 0 0, .slice none 0 0] 32) = U2 at *
    generalize U1.heap.size = X at *
    refine wpAnyH_ready (rs := [3]) (by kernel_rfl) (by simp) ?_
    refine AllReadyH.cons rfl (fun K hK => ?_) AllReadyH.nil
    simp only [ga, gz, gs]; rw [if_pos (by rfl)]
    go_wp2_with fail
    refine (toPort_l z U2 HSZ.out.1 (HCZ.out.1.below (HX.out.below HU.out).2)).mono ?_
    rintro e U3 ⟨za, zc, rfl, -, hb⟩
    replace HU := upU HU hb
    replace HQ := upP HQ hb
    replace HA := upA HA hb
    clear hb
    refine hK.out _ _ (HS.out _ HU.out) (fun _ => ?_); clear hK K; try simp only [pt, sb, s0, s1]
    refine wpAnyH_ready (rs := [4]) (by kernel_rfl) (by simp) ?_
    refine AllReadyH.cons rfl (fun K hK => ?_) AllReadyH.nil
    simp only [ga, gz, gs]; rw [if_pos (by rfl)]
    go_wp2_with fail
    refine (implWithPort_any p2 (portN.set z za zc) U3 HWz.out (small_good HQ.out.2.2 HQ.out.1)).mono ?_
    rintro e U4 hE
    replace hE : TurnRes U3 (withR p2.pure { p2.pure with ports := insG (·.id) (⟨z.id, z.out, z.queue, z.max, []⟩ : PortP) p2.pure.ports }) e U4 := hE
    rw [HQ.out.2.1] at hE
    obtain ⟨r3, rfl, ho, hp, hb⟩ := hE
    rw [HOK.out]
    have HR0 : Hid (PartOwn U4 W12.heap.size r3 ∧ r3.pure = PU) := ⟨ho.lower HU.out.size, hp.trans HPU.out⟩
    have HNE : Hid (∀ g ∈ r3.blocks, g ≠ X) := fun g hg => by have := (ho.lt g hg).1; have := HA.out.1.lt; omega
    clear HQ
    replace HU := upU HU hb
    replace HA := upA HA hb
    clear ho hp hb
    refine hK.out _ _ (HS.out _ HU.out) (fun _ => ?_); clear hK K; try simp only [pt, sb, s0, s1]
    refine tk 5 (v := ?_) ?_ (HS.out _ HU.out) ?_; rotate_left; (intro w0 hS0; go_simp; try with_reducible rfl); simp only [pt, sb, s0, s1]
    refine tk 6 (v := ?_) ?_ (HS.out _ HU.out) ?_; rotate_left; (intro w0 hS0; go_simp; try with_reducible rfl); simp only [pt, sb, s0, s1]
    refine tk 7 (v := ?_) ?_ (HS.out _ HU.out) ?_; rotate_left; (intro w0 hS0; go_simp; try with_reducible rfl); simp only [pt, sb, s0, s1]
  rotate_left 3
  focus
   simp only [ga, gz, gs]; rw [if_pos (by rfl)]
   go_wp2_with fail
   have hb : Below U0.heap.size U0 (U0.alloc (.cells #[.int .i64 0, .int .i64 0, .slice none 0 0, .slice none 0 0, .slice none 0 0, .slice none 0 0, .slice none 0 0, .slice none 0 0] 32)) := (Below.refl _ _).alloc (Nat.le_refl _) _
   have HA : Hid (BoxAt zero8 32 U0.heap.size (U0.alloc (.cells #[.int .i64 0, .int .i64 0, .slice none 0 0, .slice none 0 0, .slice none 0 0, .slice none 0 0, .slice none 0 0, .slice none 0 0] 32)) ∧ W12.heap.size ≤ U0.heap.size) := ⟨heap_alloc_new _ _, HU.out.size⟩
   replace HU := upU HU hb
   clear hb
   refine hK.out _ _ (HS.out _ HU.out) (fun _ => ?_); clear hK K; try simp only [pt, sb, s0, s1]
   generalize U0.alloc (.cells #[.int .i64 0, .int .i64 0, .slice none 0 0, .slice none 0 0, .slice none 0 0, .slice none 0 0, .slice none 0 0, .slice none 0 0] 32) = U1 at *
   generalize U0.heap.size = X at *
   refine wpAnyH_ready (rs := [1]) (by kernel_rfl) (by simp) ?_
   refine AllReadyH.cons rfl (fun K hK => ?_) AllReadyH.nil
   simp only [ga, gz, gs]; rw [if_pos (by rfl)]
   go_wp2_with fail
   refine (toPart_l p U1 HSM.out.1 (HC.out.below (HX.out.below HU.out).2)).mono ?_
   rintro e U2 ⟨p2, rfl, ho, hp, hb⟩
   have HQ : Hid (PartOwn U2 W12.heap.size p2 ∧ p2.pure = p.pure ∧ p2.pure.Small) := ⟨ho.lower HU.out.size, hp, by rw [hp]; exact HSM.out.2.1⟩
   replace HU := upU HU hb
   replace HA := upA HA hb
   clear ho hp hb
   refine hK.out _ _ (HS.out _ HU.out) (fun _ => ?_); clear hK K; try simp only [pt, sb, s0, s1]
   refine wpAnyH_ready (rs := [3]) (by kernel_rfl) (by simp) ?_
   refine AllReadyH.cons rfl (fun K hK => ?_) AllReadyH.nil
   simp only [ga, gz, gs]; rw [if_pos (by rfl)]
   go_wp2_with fail
   refine (toPort_l z U2 HSZ.out.1 (HCZ.out.1.below (HX.out.below HU.out).2)).mono ?_
   rintro e U3 ⟨za, zc, rfl, -, hb⟩
   replace HU := upU HU hb
   replace HQ := upP HQ hb
   replace HA := upA HA hb
   clear hb
   refine hK.out _ _ (HS.out _ HU.out) (fun _ => ?_); clear hK K; try simp only [pt, sb, s0, s1]
   refine wpAnyH_ready (rs := [4]) (by kernel_rfl) (by simp) ?_
   refine AllReadyH.cons rfl (fun K hK => ?_) AllReadyH.nil
   simp only [ga, gz, gs]; rw [if_pos (by rfl)]
   go_wp2_with fail
   refine (implWithPort_any p2 (portN.set z za zc) U3 HWz.out (small_good HQ.out.2.2 HQ.out.1)).mono ?_
   rintro e U4 hE
   replace hE : TurnRes U3 (withR p2.pure { p2.pure with ports := insG (·.id) (⟨z.id, z.out, z.queue, z.max, []⟩ : PortP) p2.pure.ports }) e U4 := hE
   rw [HQ.out.2.1] at hE
   obtain ⟨r3, rfl, ho, hp, hb⟩ := hE
   rw [HOK.out]
   have HR0 : Hid (PartOwn U4 W12.heap.size r3 ∧ r3.pure = PU) := ⟨ho.lower HU.out.size, hp.trans HPU.out⟩
   have HNE : Hid (∀ g ∈ r3.blocks, g ≠ X) := fun g hg => by have := (ho.lt g hg).1; have := HA.out.1.lt; omega
   clear HQ
   replace HU := upU HU hb
   replace HA := upA HA hb
   clear ho hp hb
   refine hK.out _ _ (HS.out _ HU.out) (fun _ => ?_); clear hK K; try simp only [pt, sb, s0, s1]
   refine tk 5 (v := ?_) ?_ (HS.out _ HU.out) ?_; rotate_left; (intro w0 hS0; go_simp; try with_reducible rfl); simp only [pt, sb, s0, s1]
   refine tk 6 (v := ?_) ?_ (HS.out _ HU.out) ?_; rotate_left; (intro w0 hS0; go_simp; try with_reducible rfl); simp only [pt, sb, s0, s1]
   refine tk 7 (v := ?_) ?_ (HS.out _ HU.out) ?_; rotate_left; (intro w0 hS0; go_simp; try with_reducible rfl); simp only [pt, sb, s0, s1]
  all_goals
   refine wpAnyH_ready (rs := [9]) (by kernel_rfl) (by simp) ?_
   refine AllReadyH.cons rfl (fun K hK => ?_) AllReadyH.nil
   simp only [ga, gz, gs]; rw [if_pos (by rfl)]
   refine oper_store _ _ _ rfl X _ _ r3.cells rfl rfl HA.out.1 (by kernel_rfl) rfl (by kernel_rfl) ?_
   have HE : Hid (Below W12.heap.size W12 (U4.setRow X r3.cells)) := below_setRow HU.out HA.out.2 _
   refine hK.out _ _ (HS.out _ HE.out) (fun _ => ?_); clear hK K; try simp only [pn]
   refine tk 10 (v := ?_) ?_ (HS.out _ HE.out) ?_; rotate_left; (intro w0 hS0; go_simp; try with_reducible rfl); simp only [pt, sb, s0, s1]
   refine wpAnyH_done (by kernel_rfl) ?_ _
   refine cut_normal ⟨X, r3, .agg p.cells, .agg p2.cells, .agg #[.int .i64 z.id, .bool z.out, .bool z.queue, .int .i64 z.max, .slice z.itemsA z.items.length z.itemsC], .agg (portVs (portN.set z za zc)), .tuple #[.agg r3.cells, .bool ok], .tuple #[.agg r3.cells, .bool ok], .agg r3.cells, .bool ok, by simp only [puts_cons, puts_nil, pt, sb, s0, s1], ⟨setRow_heap _ _ _ _ _ _ HA.out.1, HR0.out.1.same fun g hg => setRow_other _ _ _ _ (HNE.out g hg)⟩, HR0.out.2, HA.out.2, HNE.out, HE.out⟩
 rintro a' W14 ⟨X14, r14, d0, d1, d2, d3, d4, d5, d6, d7, rfl, h14, hp14, -, -, hb⟩
 simp only [puts_cons, puts_nil, pt, sb, s0, s1]
 have H14 : Hid (PartIn W14 X14 W12.heap.size r14) := h14
 have HE14 : Hid (r3.pure = r14.pure) := HP3.out.trans hp14.symm
 have HL14 : Hid (r14.pure.Small) := by rw [hp14, ← HPU.out]; exact (smallPort HSM.out.2.1 ⟨HWz.out, Nat.zero_le _, (fun s hs => by cases hs)⟩)
 replace HX := upX HX hb
 replace HZ := upZ HZ hb
 replace H3 := upI H3 hb
 replace HB5 := upB HB5 hb
 replace HM := upM HM hb
 clear h14 hp14 hb
 obtain ⟨u0, u1, u2, u3, u4, u5, u6, u7⟩ := H14.out.1.cells
 obtain ⟨v0, v1, v2, v3, v4, v5, v6, v7⟩ := H3.out.1.cells
 go_wp2_with fail
 clear u0 u1 u2 u3 u4 u5 u6 u7
 clear v0 v1 v2 v3 v4 v5 v6 v7
 refine (eqPart_l r14 r3 W14 HL14.out HE14.out H14.out.2.at H3.out.2.at).mono ?_
 rintro e W15 ⟨rfl, hb⟩
 replace HX := upX HX hb
 replace HZ := upZ HZ hb
 replace H3 := upI H3 hb
 replace HB5 := upB HB5 hb
 replace HM := upM HM hb
 clear hb
 obtain ⟨u0, u1, u2, u3, u4, u5, u6, u7⟩ := HB5.out.cells
 go_wp2_with fail
 clear u0 u1 u2 u3 u4 u5 u6 u7
 refine (heldPart_l r5 1 W15 (small_cnt HL.out) (by omega) HCR.out HM.out.at).mono ?_
 rintro e W16 ⟨rfl, hb⟩
 replace HX := upX HX hb
 replace HZ := upZ HZ hb
 replace H3 := upI H3 hb
 replace HB5 := upB HB5 hb
 replace HM := upM HM hb
 clear hb
 go_wp2
 go_ret
 exact ⟨rfl, HX.out.2⟩
end Go.Proofs.YtkbcplnlehdjfaaGreat
