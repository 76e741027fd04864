/- What the proof leans on, part 29: MkProc, MkPort, TdProc, LwBase. -/
import Derived.Test.YtkbcplnlehdjfaaGreatOwnR12
import Derived.Test.YtkbcplnlehdjfaaGreatOwnR26
import Derived.Test.YtkbcplnlehdjfaaGreatOwnR27
import Derived.Test.YtkbcplnlehdjfaaGreatOwnR28
import Derived.Deep.RegionHeld

namespace Go.Proofs.YtkbcplnlehdjfaaGreat
open Go.RowKit
attribute [local go_sem ↓] Go.wp_at_zero Go.wp_at_succ
def cProc (x : ProcD) : Nat := 2 + cntL (fun _ : OpD => 4) x.prog + 9
def mkProcAt (k k2 : Int) (x : ProcD) : ProcD := { x with id := k, prio := k + 1, prog := markL mkOp (fun _ => 4) (k + 1 + 1) x.prog, state := k2, pc := k2 + 1, left := k2 + 1 + 1, wake := k2 + 1 + 1 + 1, on := k2 + 1 + 1 + 1 + 1, held := markB (k2 + 1 + 1 + 1 + 1 + 1), got := markB (k2 + 1 + 1 + 1 + 1 + 1 + 1), code := k2 + 1 + 1 + 1 + 1 + 1 + 1 + 1, since := k2 + 1 + 1 + 1 + 1 + 1 + 1 + 1 + 1 }
def mkProc (k : Int) (x : ProcD) : ProcD := mkProcAt k (k + 1 + 1 + (cntL (fun _ : OpD => 4) x.prog : Nat)) x
set_option maxRecDepth 100000 in
set_option maxHeartbeats 4000000 in
theorem markSProc_l (a : Option Addr) (l : List ProcD) (cap : Nat) (k : Int) (w : World) (base : Nat) (hl : l.length ≤ 1048576) (hk : ∀ x ∈ l, x.prog.length ≤ 1048576) (h0 : 1 ≤ k) (h1 : k + (cntL cProc l : Nat) ≤ 90000000) (ho : w.ownsRow base 43 12 (.slice a l.length cap) l.length (procK.flat l)) (hm : ∀ x ∈ l, procN.Mine w base x) (hn : (blk a ++ l.filterMap procN.kid).Nodup) :
  Calls Tryz.prog 128 #[.slice a l.length cap, .int .i64 k] w fun e w' => e = .returned (.int .i64 (k + (cntL cProc l : Nat))) ∧ w'.ownsRow base 43 12 (.slice a l.length cap) l.length (procK.flat (markL mkProc cProc k l)) ∧ (∀ y ∈ markL mkProc cProc k l, procN.Mine w' base y) ∧ KeptBut w w' (blk a ++ l.filterMap procN.kid) := by
 by_cases hz : l.length = 0
 ·have hl0 : l = [] := List.eq_nil_of_length_eq_zero hz
  subst hl0
  have HO : Hid (w.ownsRow base 43 12 (.slice a 0 cap) 0 (procK.flat [])) := ho
  clear ho
  go_enter Tryz.func128, Tryz.ntmps128
  go_wp2_with fail
  go_loopw [1, 5] (fun q i wr => q = .int .i64 k ∧ i = .int .i64 0 ∧ wr = w) (fun _ _ _ => 0)
  case atStart => exact ⟨rfl, rfl, rfl⟩
  case round =>
   obtain ⟨rfl, rfl, rfl⟩ := hrel
   go_wp2
   go_ret
   exact ⟨ret_int (by simp [cntL]), HO.out, (fun y hy => by cases hy), KeptBut.refl _ _⟩
 obtain ⟨g, rfl, hrow⟩ := RowAt.of_owns (K := procK) ho hz
 have HR : Hid (RowAt procK 43 w base g cap l ∧ Mines procN w base g l) := ⟨hrow, hm, hn⟩
 have HB : Hid (k + (cntL cProc l : Nat) ≤ 90000000 ∧ ∀ x ∈ l, x.prog.length ≤ 1048576) := ⟨h1, hk⟩
 clear ho hrow h1 hz hm hn hk
 go_enter Tryz.func128, Tryz.ntmps128
 go_wp2_with fail
 go_loopw [1, 5] (fun q i wr => ∃ (j : Nat) (m : Int), j ≤ l.length ∧ i = .int .i64 j ∧ q = .int .i64 m ∧ 1 ≤ m ∧ m ≤ 90000000 ∧ Hid (m = k + (cntL cProc (l.take j) : Nat) ∧ RowAt procK 43 wr base g cap (markL mkProc cProc k (l.take j) ++ l.drop j) ∧ Mines procN wr base g (markL mkProc cProc k (l.take j) ++ l.drop j) ∧ KeptBut w wr (g :: l.filterMap procN.kid))) (fun _ i _ => l.length - (intOf i).toNat)
 case atStart => exact ⟨0, k, Nat.zero_le _, rfl, rfl, h0, by have := HB.out.1; omega, ⟨by simp [cntL], HR.out.1, HR.out.2, KeptBut.refl _ _⟩⟩
 case round =>
  clear HR
  obtain ⟨j, m, hj, rfl, rfl, m0, m1, HA⟩ := hrel
  by_cases hlt : j < l.length
  ·have i0 : (0 : Int) ≤ (j : Int) := by omega
   have i1 : (j : Int) < (l.length : Int) := by omega
   obtain ⟨x, hx⟩ : ∃ x, l[j]? = some x := ⟨_, List.getElem?_eq_getElem hlt⟩
   have hdr : l.drop j = x :: l.drop (j + 1) := drop_at hx
   have hcn := cntL_take_lt (c := cProc) hx
   have hup := cntL_up (c := cProc) hx
   have hcx : cProc x = 2 + cntL (fun _ : OpD => 4) x.prog + 9 := rfl
   have HX : Hid (l[j]? = some x ∧ x.prog.length ≤ 1048576 ∧ m + 1 + 1 + (cntL (fun _ : OpD => 4) x.prog : Nat) + 9 ≤ 90000000 ∧ m + 1 + 1 + (cntL (fun _ : OpD => 4) x.prog : Nat) + 9 = k + (cntL cProc (l.take (j + 1)) : Nat)) := ⟨hx, HB.out.2 x (List.mem_of_getElem? hx), by have := HB.out.1; have := HA.out.1; omega, by have := HA.out.1; omega⟩
   have HW : Hid (RowAt procK 43 wr base g cap (markL mkProc cProc k (l.take j) ++ x :: l.drop (j + 1)) ∧ (markL mkProc cProc k (l.take j)).length = j) := ⟨by have := HA.out.2.1; rwa [hdr] at this, by rw [markL_length, List.length_take]; omega⟩
   have HM : Hid (Mines procN wr base g (markL mkProc cProc k (l.take j) ++ x :: l.drop (j + 1))) := by have := HA.out.2.2.1; rwa [hdr] at this
   have m2 : m + 1 + 1 ≤ 90000000 := by have := HX.out.2.2.1; omega
   have hgl : g < wr.heap.size := HW.out.1.lt
   clear hx hdr hcn hup hcx
   obtain ⟨⟨u0, c0⟩, f0⟩ : (∃ u, wr.cell? ⟨g, j * 12, none⟩ = some u) ∧ wr.frozen? ⟨g, j * 12, none⟩ = false := RowAt.at_mid HW.out.1 HW.out.2 (r := 0) (by decide : 0 < procK.n)
   obtain ⟨⟨u1, c1⟩, f1⟩ : (∃ u, wr.cell? ⟨g, j * 12 + 1, none⟩ = some u) ∧ wr.frozen? ⟨g, j * 12 + 1, none⟩ = false := RowAt.at_mid HW.out.1 HW.out.2 (r := 1) (by decide : 1 < procK.n)
   have c2 : wr.cell? ⟨g, j * 12 + 2, none⟩ = some (.slice x.progA x.prog.length x.progC) := (RowAt.mid_cell HW.out.1 HW.out.2 (r := 2) (by decide : 2 < procK.n))
   have h5 := RowAt.part (K := procK) (x := x) (y := ({ x with id := m, prio := m + 1 } : ProcD)) (j := 0) (vs := [.int .i64 m, .int .i64 (m + 1)]) HW.out.1 (by show 0 + 2 ≤ 12; omega) (fun r hr => by match r, hr with | 0, _ => rfl | 1, _ => rfl) (fun r hr hn => by match r, hr, hn with | 0, _, hn => exact absurd ⟨by omega, by show 0 < 0 + 2; omega⟩ hn | 1, _, hn => exact absurd ⟨by omega, by show 1 < 0 + 2; omega⟩ hn | 2, _, _ => rfl | 3, _, _ => rfl | 4, _, _ => rfl | 5, _, _ => rfl | 6, _, _ => rfl | 7, _, _ => rfl | 8, _, _ => rfl | 9, _, _ => rfl | 10, _, _ => rfl | 11, _, _ => rfl)
   rw [HW.out.2, show procK.n = 12 from rfl] at h5
   have h6 : KeptBut wr (setAllW wr g (j * 12) [.int .i64 m, .int .i64 (m + 1)]) [g] := KeptBut.set _ (by simp)
   simp only [setAllW, Nat.add_zero] at h5 h6
   have HS : Hid (RowAt procK 43 ((wr.setCell ⟨g, j * 12, none⟩ (.int .i64 m)).setCell ⟨g, j * 12 + 1, none⟩ (.int .i64 (m + 1))) base g cap (markL mkProc cProc k (l.take j) ++ ({ x with id := m, prio := m + 1 } : ProcD) :: l.drop (j + 1)) ∧ Mines procN ((wr.setCell ⟨g, j * 12, none⟩ (.int .i64 m)).setCell ⟨g, j * 12 + 1, none⟩ (.int .i64 (m + 1))) base g (markL mkProc cProc k (l.take j) ++ ({ x with id := m, prio := m + 1 } : ProcD) :: l.drop (j + 1)) ∧ KeptBut w ((wr.setCell ⟨g, j * 12, none⟩ (.int .i64 m)).setCell ⟨g, j * 12 + 1, none⟩ (.int .i64 (m + 1))) (g :: l.filterMap procN.kid)) := ⟨h5, (HM.out.keep h6).turn rfl ((HM.out.keep h6).mine x (by simp)), HA.out.2.2.2.trans (h6.mono (by simp))⟩
   clear h5 h6
   go_wp2_with fail
   generalize (wr.setCell ⟨g, j * 12, none⟩ (.int .i64 m)).setCell ⟨g, j * 12 + 1, none⟩ (.int .i64 (m + 1)) = W1 at *
   clear c2
   refine (markSOp_l x.progA x.prog x.progC (m + 1 + 1) W1 base HX.out.2.1 (by omega) (by have := HX.out.2.2.1; omega) (HS.out.2.1.mine ({ x with id := m, prio := m + 1 } : ProcD) (by simp))).mono ?_
   rintro e v ⟨rfl, hown, hkb⟩
   have HV : Hid (RowAt procK 43 v base g cap (markL mkProc cProc k (l.take j) ++ ({ x with id := m, prio := m + 1, prog := markL mkOp (fun _ => 4) (m + 1 + 1) x.prog } : ProcD) :: l.drop (j + 1)) ∧ Mines procN v base g (markL mkProc cProc k (l.take j) ++ ({ x with id := m, prio := m + 1, prog := markL mkOp (fun _ => 4) (m + 1 + 1) x.prog } : ProcD) :: l.drop (j + 1)) ∧ KeptBut w v (g :: l.filterMap procN.kid)) := by
    have hap := HS.out.2.1.apart (z := ({ x with id := m, prio := m + 1 } : ProcD)) (by simp)
    have h7 := HS.out.1.same (hkb.same g HS.out.1.lt hap)
    have hm7 : procN.Mine v base ({ x with id := m, prio := m + 1, prog := markL mkOp (fun _ => 4) (m + 1 + 1) x.prog } : ProcD) := by
     show v.ownsRow base _ 4 (.slice x.progA (markL mkOp (fun _ => 4) (m + 1 + 1) x.prog).length x.progC) (markL mkOp (fun _ => 4) (m + 1 + 1) x.prog).length (opK.flat (markL mkOp (fun _ => 4) (m + 1 + 1) x.prog))
     rw [markL_length]
     exact hown
    refine ⟨?_, HS.out.2.1.inner hkb rfl hm7, HS.out.2.2.trans (hkb.mono fun b hb => ?_)⟩
    ·exact RowAt.part (K := procK) (x := ({ x with id := m, prio := m + 1 } : ProcD)) (y := ({ x with id := m, prio := m + 1, prog := markL mkOp (fun _ => 4) (m + 1 + 1) x.prog } : ProcD)) (j := 0) (vs := []) h7 (by show 0 + 0 ≤ 12; omega) (fun r hr => absurd hr (by simp)) (fun r hr _ => by match r, hr with | 0, _ => rfl | 1, _ => rfl | 2, _ => (show some (Value.slice x.progA (markL mkOp (fun _ => 4) (m + 1 + 1) x.prog).length x.progC) = some (.slice x.progA x.prog.length x.progC); rw [markL_length]) | 3, _ => rfl | 4, _ => rfl | 5, _ => rfl | 6, _ => rfl | 7, _ => rfl | 8, _ => rfl | 9, _ => rfl | 10, _ => rfl | 11, _ => rfl)
    ·exact List.mem_cons_of_mem _ (List.mem_filterMap.2 ⟨x, List.mem_of_getElem? HX.out.1, mem_blk.1 hb⟩)
   obtain ⟨m', hm'⟩ : ∃ q : Int, q = m + 1 + 1 + (cntL (fun _ : OpD => 4) x.prog : Nat) := ⟨_, rfl⟩
   rw [← hm']
   have HQ : Hid (m' = m + 1 + 1 + (cntL (fun _ : OpD => 4) x.prog : Nat)) := hm'
   have p0 : 1 ≤ m' := by omega
   have p1 : m' + 9 ≤ 90000000 := by have := HX.out.2.2.1; omega
   clear hown hkb HS hm'
   obtain ⟨⟨u3, c3⟩, f3⟩ : (∃ u, v.cell? ⟨g, j * 12 + 3, none⟩ = some u) ∧ v.frozen? ⟨g, j * 12 + 3, none⟩ = false := RowAt.at_mid HV.out.1 HW.out.2 (r := 3) (by decide : 3 < procK.n)
   obtain ⟨⟨u4, c4⟩, f4⟩ : (∃ u, v.cell? ⟨g, j * 12 + 4, none⟩ = some u) ∧ v.frozen? ⟨g, j * 12 + 4, none⟩ = false := RowAt.at_mid HV.out.1 HW.out.2 (r := 4) (by decide : 4 < procK.n)
   obtain ⟨⟨u5, c5⟩, f5⟩ : (∃ u, v.cell? ⟨g, j * 12 + 5, none⟩ = some u) ∧ v.frozen? ⟨g, j * 12 + 5, none⟩ = false := RowAt.at_mid HV.out.1 HW.out.2 (r := 5) (by decide : 5 < procK.n)
   obtain ⟨⟨u6, c6⟩, f6⟩ : (∃ u, v.cell? ⟨g, j * 12 + 6, none⟩ = some u) ∧ v.frozen? ⟨g, j * 12 + 6, none⟩ = false := RowAt.at_mid HV.out.1 HW.out.2 (r := 6) (by decide : 6 < procK.n)
   obtain ⟨⟨u7, c7⟩, f7⟩ : (∃ u, v.cell? ⟨g, j * 12 + 7, none⟩ = some u) ∧ v.frozen? ⟨g, j * 12 + 7, none⟩ = false := RowAt.at_mid HV.out.1 HW.out.2 (r := 7) (by decide : 7 < procK.n)
   have h5 := RowAt.part (K := procK) (x := ({ x with id := m, prio := m + 1, prog := markL mkOp (fun _ => 4) (m + 1 + 1) x.prog } : ProcD)) (y := ({ x with id := m, prio := m + 1, prog := markL mkOp (fun _ => 4) (m + 1 + 1) x.prog, state := m', pc := m' + 1, left := m' + 1 + 1, wake := m' + 1 + 1 + 1, on := m' + 1 + 1 + 1 + 1 } : ProcD)) (j := 3) (vs := [.int .i64 (m'), .int .i64 (m' + 1), .int .i64 (m' + 1 + 1), .int .i64 (m' + 1 + 1 + 1), .int .i64 (m' + 1 + 1 + 1 + 1)]) HV.out.1 (by show 3 + 5 ≤ 12; omega) (fun r hr => by match r, hr with | 0, _ => rfl | 1, _ => rfl | 2, _ => rfl | 3, _ => rfl | 4, _ => rfl) (fun r hr hn => by match r, hr, hn with | 0, _, _ => rfl | 1, _, _ => rfl | 2, _, _ => rfl | 3, _, hn => exact absurd ⟨by omega, by show 3 < 3 + 5; omega⟩ hn | 4, _, hn => exact absurd ⟨by omega, by show 4 < 3 + 5; omega⟩ hn | 5, _, hn => exact absurd ⟨by omega, by show 5 < 3 + 5; omega⟩ hn | 6, _, hn => exact absurd ⟨by omega, by show 6 < 3 + 5; omega⟩ hn | 7, _, hn => exact absurd ⟨by omega, by show 7 < 3 + 5; omega⟩ hn | 8, _, _ => rfl | 9, _, _ => rfl | 10, _, _ => rfl | 11, _, _ => rfl)
   rw [HW.out.2, show procK.n = 12 from rfl] at h5
   have h6 : KeptBut v (setAllW v g (j * 12 + 3) [.int .i64 (m'), .int .i64 (m' + 1), .int .i64 (m' + 1 + 1), .int .i64 (m' + 1 + 1 + 1), .int .i64 (m' + 1 + 1 + 1 + 1)]) [g] := KeptBut.set _ (by simp)
   simp only [setAllW, Nat.add_assoc, Nat.reduceAdd] at h5 h6
   have HS1 : Hid (RowAt procK 43 (((((v.setCell ⟨g, j * 12 + 3, none⟩ (.int .i64 (m'))).setCell ⟨g, j * 12 + 4, none⟩ (.int .i64 (m' + 1))).setCell ⟨g, j * 12 + 5, none⟩ (.int .i64 (m' + 1 + 1))).setCell ⟨g, j * 12 + 6, none⟩ (.int .i64 (m' + 1 + 1 + 1))).setCell ⟨g, j * 12 + 7, none⟩ (.int .i64 (m' + 1 + 1 + 1 + 1))) base g cap (markL mkProc cProc k (l.take j) ++ ({ x with id := m, prio := m + 1, prog := markL mkOp (fun _ => 4) (m + 1 + 1) x.prog, state := m', pc := m' + 1, left := m' + 1 + 1, wake := m' + 1 + 1 + 1, on := m' + 1 + 1 + 1 + 1 } : ProcD) :: l.drop (j + 1)) ∧ Mines procN (((((v.setCell ⟨g, j * 12 + 3, none⟩ (.int .i64 (m'))).setCell ⟨g, j * 12 + 4, none⟩ (.int .i64 (m' + 1))).setCell ⟨g, j * 12 + 5, none⟩ (.int .i64 (m' + 1 + 1))).setCell ⟨g, j * 12 + 6, none⟩ (.int .i64 (m' + 1 + 1 + 1))).setCell ⟨g, j * 12 + 7, none⟩ (.int .i64 (m' + 1 + 1 + 1 + 1))) base g (markL mkProc cProc k (l.take j) ++ ({ x with id := m, prio := m + 1, prog := markL mkOp (fun _ => 4) (m + 1 + 1) x.prog, state := m', pc := m' + 1, left := m' + 1 + 1, wake := m' + 1 + 1 + 1, on := m' + 1 + 1 + 1 + 1 } : ProcD) :: l.drop (j + 1)) ∧ KeptBut w (((((v.setCell ⟨g, j * 12 + 3, none⟩ (.int .i64 (m'))).setCell ⟨g, j * 12 + 4, none⟩ (.int .i64 (m' + 1))).setCell ⟨g, j * 12 + 5, none⟩ (.int .i64 (m' + 1 + 1))).setCell ⟨g, j * 12 + 6, none⟩ (.int .i64 (m' + 1 + 1 + 1))).setCell ⟨g, j * 12 + 7, none⟩ (.int .i64 (m' + 1 + 1 + 1 + 1))) (g :: l.filterMap procN.kid)) := ⟨h5, (HV.out.2.1.keep h6).turn rfl ((HV.out.2.1.keep h6).mine ({ x with id := m, prio := m + 1, prog := markL mkOp (fun _ => 4) (m + 1 + 1) x.prog } : ProcD) (by simp)), HV.out.2.2.trans (h6.mono (by simp))⟩
   clear h5 h6
   go_wp2_with fail
   refine (markText_any (m' + 1 + 1 + 1 + 1 + 1) (by omega) (by omega) _).mono ?_
   rintro e v1 ⟨rfl, hb⟩
   have HT1 : Hid (RowAt procK 43 v1 base g cap (markL mkProc cProc k (l.take j) ++ ({ x with id := m, prio := m + 1, prog := markL mkOp (fun _ => 4) (m + 1 + 1) x.prog, state := m', pc := m' + 1, left := m' + 1 + 1, wake := m' + 1 + 1 + 1, on := m' + 1 + 1 + 1 + 1 } : ProcD) :: l.drop (j + 1)) ∧ Mines procN v1 base g (markL mkProc cProc k (l.take j) ++ ({ x with id := m, prio := m + 1, prog := markL mkOp (fun _ => 4) (m + 1 + 1) x.prog, state := m', pc := m' + 1, left := m' + 1 + 1, wake := m' + 1 + 1 + 1, on := m' + 1 + 1 + 1 + 1 } : ProcD) :: l.drop (j + 1)) ∧ KeptBut w v1 (g :: l.filterMap procN.kid)) := ⟨HS1.out.1.same (hb.block g HS1.out.1.lt), HS1.out.2.1.keep (KeptBut.of_below hb), HS1.out.2.2.trans (KeptBut.of_below hb)⟩
   clear hb
   obtain ⟨⟨u8, c8⟩, f8⟩ : (∃ u, v1.cell? ⟨g, j * 12 + 8, none⟩ = some u) ∧ v1.frozen? ⟨g, j * 12 + 8, none⟩ = false := RowAt.at_mid HT1.out.1 HW.out.2 (r := 8) (by decide : 8 < procK.n)
   have h5 := RowAt.part (K := procK) (x := ({ x with id := m, prio := m + 1, prog := markL mkOp (fun _ => 4) (m + 1 + 1) x.prog, state := m', pc := m' + 1, left := m' + 1 + 1, wake := m' + 1 + 1 + 1, on := m' + 1 + 1 + 1 + 1 } : ProcD)) (y := ({ x with id := m, prio := m + 1, prog := markL mkOp (fun _ => 4) (m + 1 + 1) x.prog, state := m', pc := m' + 1, left := m' + 1 + 1, wake := m' + 1 + 1 + 1, on := m' + 1 + 1 + 1 + 1, held := markB (m' + 1 + 1 + 1 + 1 + 1) } : ProcD)) (j := 8) (vs := [.string (markB (m' + 1 + 1 + 1 + 1 + 1))]) HT1.out.1 (by show 8 + 1 ≤ 12; omega) (fun r hr => by match r, hr with | 0, _ => rfl) (fun r hr hn => by match r, hr, hn with | 0, _, _ => rfl | 1, _, _ => rfl | 2, _, _ => rfl | 3, _, _ => rfl | 4, _, _ => rfl | 5, _, _ => rfl | 6, _, _ => rfl | 7, _, _ => rfl | 8, _, hn => exact absurd ⟨by omega, by show 8 < 8 + 1; omega⟩ hn | 9, _, _ => rfl | 10, _, _ => rfl | 11, _, _ => rfl)
   rw [HW.out.2, show procK.n = 12 from rfl] at h5
   have h6 : KeptBut v1 (setAllW v1 g (j * 12 + 8) [.string (markB (m' + 1 + 1 + 1 + 1 + 1))]) [g] := KeptBut.set _ (by simp)
   simp only [setAllW] at h5 h6
   have HS2 : Hid (RowAt procK 43 (v1.setCell ⟨g, j * 12 + 8, none⟩ (.string (markB (m' + 1 + 1 + 1 + 1 + 1)))) base g cap (markL mkProc cProc k (l.take j) ++ ({ x with id := m, prio := m + 1, prog := markL mkOp (fun _ => 4) (m + 1 + 1) x.prog, state := m', pc := m' + 1, left := m' + 1 + 1, wake := m' + 1 + 1 + 1, on := m' + 1 + 1 + 1 + 1, held := markB (m' + 1 + 1 + 1 + 1 + 1) } : ProcD) :: l.drop (j + 1)) ∧ Mines procN (v1.setCell ⟨g, j * 12 + 8, none⟩ (.string (markB (m' + 1 + 1 + 1 + 1 + 1)))) base g (markL mkProc cProc k (l.take j) ++ ({ x with id := m, prio := m + 1, prog := markL mkOp (fun _ => 4) (m + 1 + 1) x.prog, state := m', pc := m' + 1, left := m' + 1 + 1, wake := m' + 1 + 1 + 1, on := m' + 1 + 1 + 1 + 1, held := markB (m' + 1 + 1 + 1 + 1 + 1) } : ProcD) :: l.drop (j + 1)) ∧ KeptBut w (v1.setCell ⟨g, j * 12 + 8, none⟩ (.string (markB (m' + 1 + 1 + 1 + 1 + 1)))) (g :: l.filterMap procN.kid)) := ⟨h5, (HT1.out.2.1.keep h6).turn rfl ((HT1.out.2.1.keep h6).mine ({ x with id := m, prio := m + 1, prog := markL mkOp (fun _ => 4) (m + 1 + 1) x.prog, state := m', pc := m' + 1, left := m' + 1 + 1, wake := m' + 1 + 1 + 1, on := m' + 1 + 1 + 1 + 1 } : ProcD) (by simp)), HT1.out.2.2.trans (h6.mono (by simp))⟩
   clear h5 h6
   go_wp2_with fail
   refine (markText_any (m' + 1 + 1 + 1 + 1 + 1 + 1) (by omega) (by omega) _).mono ?_
   rintro e v2 ⟨rfl, hb⟩
   have HT2 : Hid (RowAt procK 43 v2 base g cap (markL mkProc cProc k (l.take j) ++ ({ x with id := m, prio := m + 1, prog := markL mkOp (fun _ => 4) (m + 1 + 1) x.prog, state := m', pc := m' + 1, left := m' + 1 + 1, wake := m' + 1 + 1 + 1, on := m' + 1 + 1 + 1 + 1, held := markB (m' + 1 + 1 + 1 + 1 + 1) } : ProcD) :: l.drop (j + 1)) ∧ Mines procN v2 base g (markL mkProc cProc k (l.take j) ++ ({ x with id := m, prio := m + 1, prog := markL mkOp (fun _ => 4) (m + 1 + 1) x.prog, state := m', pc := m' + 1, left := m' + 1 + 1, wake := m' + 1 + 1 + 1, on := m' + 1 + 1 + 1 + 1, held := markB (m' + 1 + 1 + 1 + 1 + 1) } : ProcD) :: l.drop (j + 1)) ∧ KeptBut w v2 (g :: l.filterMap procN.kid)) := ⟨HS2.out.1.same (hb.block g HS2.out.1.lt), HS2.out.2.1.keep (KeptBut.of_below hb), HS2.out.2.2.trans (KeptBut.of_below hb)⟩
   clear hb
   obtain ⟨⟨u9, c9⟩, f9⟩ : (∃ u, v2.cell? ⟨g, j * 12 + 9, none⟩ = some u) ∧ v2.frozen? ⟨g, j * 12 + 9, none⟩ = false := RowAt.at_mid HT2.out.1 HW.out.2 (r := 9) (by decide : 9 < procK.n)
   obtain ⟨⟨u10, c10⟩, f10⟩ : (∃ u, v2.cell? ⟨g, j * 12 + 10, none⟩ = some u) ∧ v2.frozen? ⟨g, j * 12 + 10, none⟩ = false := RowAt.at_mid HT2.out.1 HW.out.2 (r := 10) (by decide : 10 < procK.n)
   obtain ⟨⟨u11, c11⟩, f11⟩ : (∃ u, v2.cell? ⟨g, j * 12 + 11, none⟩ = some u) ∧ v2.frozen? ⟨g, j * 12 + 11, none⟩ = false := RowAt.at_mid HT2.out.1 HW.out.2 (r := 11) (by decide : 11 < procK.n)
   have h5 := RowAt.part (K := procK) (x := ({ x with id := m, prio := m + 1, prog := markL mkOp (fun _ => 4) (m + 1 + 1) x.prog, state := m', pc := m' + 1, left := m' + 1 + 1, wake := m' + 1 + 1 + 1, on := m' + 1 + 1 + 1 + 1, held := markB (m' + 1 + 1 + 1 + 1 + 1) } : ProcD)) (y := ({ x with id := m, prio := m + 1, prog := markL mkOp (fun _ => 4) (m + 1 + 1) x.prog, state := m', pc := m' + 1, left := m' + 1 + 1, wake := m' + 1 + 1 + 1, on := m' + 1 + 1 + 1 + 1, held := markB (m' + 1 + 1 + 1 + 1 + 1), got := markB (m' + 1 + 1 + 1 + 1 + 1 + 1), code := m' + 1 + 1 + 1 + 1 + 1 + 1 + 1, since := m' + 1 + 1 + 1 + 1 + 1 + 1 + 1 + 1 } : ProcD)) (j := 9) (vs := [.string (markB (m' + 1 + 1 + 1 + 1 + 1 + 1)), .int .i64 (m' + 1 + 1 + 1 + 1 + 1 + 1 + 1), .int .i64 (m' + 1 + 1 + 1 + 1 + 1 + 1 + 1 + 1)]) HT2.out.1 (by show 9 + 3 ≤ 12; omega) (fun r hr => by match r, hr with | 0, _ => rfl | 1, _ => rfl | 2, _ => rfl) (fun r hr hn => by match r, hr, hn with | 0, _, _ => rfl | 1, _, _ => rfl | 2, _, _ => rfl | 3, _, _ => rfl | 4, _, _ => rfl | 5, _, _ => rfl | 6, _, _ => rfl | 7, _, _ => rfl | 8, _, _ => rfl | 9, _, hn => exact absurd ⟨by omega, by show 9 < 9 + 3; omega⟩ hn | 10, _, hn => exact absurd ⟨by omega, by show 10 < 9 + 3; omega⟩ hn | 11, _, hn => exact absurd ⟨by omega, by show 11 < 9 + 3; omega⟩ hn)
   rw [HW.out.2, show procK.n = 12 from rfl] at h5
   have h6 : KeptBut v2 (setAllW v2 g (j * 12 + 9) [.string (markB (m' + 1 + 1 + 1 + 1 + 1 + 1)), .int .i64 (m' + 1 + 1 + 1 + 1 + 1 + 1 + 1), .int .i64 (m' + 1 + 1 + 1 + 1 + 1 + 1 + 1 + 1)]) [g] := KeptBut.set _ (by simp)
   simp only [setAllW, Nat.add_assoc, Nat.reduceAdd] at h5 h6
   have HS3 : Hid (RowAt procK 43 (((v2.setCell ⟨g, j * 12 + 9, none⟩ (.string (markB (m' + 1 + 1 + 1 + 1 + 1 + 1)))).setCell ⟨g, j * 12 + 10, none⟩ (.int .i64 (m' + 1 + 1 + 1 + 1 + 1 + 1 + 1))).setCell ⟨g, j * 12 + 11, none⟩ (.int .i64 (m' + 1 + 1 + 1 + 1 + 1 + 1 + 1 + 1))) base g cap (markL mkProc cProc k (l.take j) ++ ({ x with id := m, prio := m + 1, prog := markL mkOp (fun _ => 4) (m + 1 + 1) x.prog, state := m', pc := m' + 1, left := m' + 1 + 1, wake := m' + 1 + 1 + 1, on := m' + 1 + 1 + 1 + 1, held := markB (m' + 1 + 1 + 1 + 1 + 1), got := markB (m' + 1 + 1 + 1 + 1 + 1 + 1), code := m' + 1 + 1 + 1 + 1 + 1 + 1 + 1, since := m' + 1 + 1 + 1 + 1 + 1 + 1 + 1 + 1 } : ProcD) :: l.drop (j + 1)) ∧ Mines procN (((v2.setCell ⟨g, j * 12 + 9, none⟩ (.string (markB (m' + 1 + 1 + 1 + 1 + 1 + 1)))).setCell ⟨g, j * 12 + 10, none⟩ (.int .i64 (m' + 1 + 1 + 1 + 1 + 1 + 1 + 1))).setCell ⟨g, j * 12 + 11, none⟩ (.int .i64 (m' + 1 + 1 + 1 + 1 + 1 + 1 + 1 + 1))) base g (markL mkProc cProc k (l.take j) ++ ({ x with id := m, prio := m + 1, prog := markL mkOp (fun _ => 4) (m + 1 + 1) x.prog, state := m', pc := m' + 1, left := m' + 1 + 1, wake := m' + 1 + 1 + 1, on := m' + 1 + 1 + 1 + 1, held := markB (m' + 1 + 1 + 1 + 1 + 1), got := markB (m' + 1 + 1 + 1 + 1 + 1 + 1), code := m' + 1 + 1 + 1 + 1 + 1 + 1 + 1, since := m' + 1 + 1 + 1 + 1 + 1 + 1 + 1 + 1 } : ProcD) :: l.drop (j + 1)) ∧ KeptBut w (((v2.setCell ⟨g, j * 12 + 9, none⟩ (.string (markB (m' + 1 + 1 + 1 + 1 + 1 + 1)))).setCell ⟨g, j * 12 + 10, none⟩ (.int .i64 (m' + 1 + 1 + 1 + 1 + 1 + 1 + 1))).setCell ⟨g, j * 12 + 11, none⟩ (.int .i64 (m' + 1 + 1 + 1 + 1 + 1 + 1 + 1 + 1))) (g :: l.filterMap procN.kid)) := ⟨h5, (HT2.out.2.1.keep h6).turn rfl ((HT2.out.2.1.keep h6).mine ({ x with id := m, prio := m + 1, prog := markL mkOp (fun _ => 4) (m + 1 + 1) x.prog, state := m', pc := m' + 1, left := m' + 1 + 1, wake := m' + 1 + 1 + 1, on := m' + 1 + 1 + 1 + 1, held := markB (m' + 1 + 1 + 1 + 1 + 1) } : ProcD) (by simp)), HT2.out.2.2.trans (h6.mono (by simp))⟩
   clear h5 h6
   have HN : Hid (RowAt procK 43 (((v2.setCell ⟨g, j * 12 + 9, none⟩ (.string (markB (m' + 1 + 1 + 1 + 1 + 1 + 1)))).setCell ⟨g, j * 12 + 10, none⟩ (.int .i64 (m' + 1 + 1 + 1 + 1 + 1 + 1 + 1))).setCell ⟨g, j * 12 + 11, none⟩ (.int .i64 (m' + 1 + 1 + 1 + 1 + 1 + 1 + 1 + 1))) base g cap (markL mkProc cProc k (l.take (j + 1)) ++ l.drop (j + 1)) ∧ Mines procN (((v2.setCell ⟨g, j * 12 + 9, none⟩ (.string (markB (m' + 1 + 1 + 1 + 1 + 1 + 1)))).setCell ⟨g, j * 12 + 10, none⟩ (.int .i64 (m' + 1 + 1 + 1 + 1 + 1 + 1 + 1))).setCell ⟨g, j * 12 + 11, none⟩ (.int .i64 (m' + 1 + 1 + 1 + 1 + 1 + 1 + 1 + 1))) base g (markL mkProc cProc k (l.take (j + 1)) ++ l.drop (j + 1)) ∧ KeptBut w (((v2.setCell ⟨g, j * 12 + 9, none⟩ (.string (markB (m' + 1 + 1 + 1 + 1 + 1 + 1)))).setCell ⟨g, j * 12 + 10, none⟩ (.int .i64 (m' + 1 + 1 + 1 + 1 + 1 + 1 + 1))).setCell ⟨g, j * 12 + 11, none⟩ (.int .i64 (m' + 1 + 1 + 1 + 1 + 1 + 1 + 1 + 1))) (g :: l.filterMap procN.kid)) := by
    rw [markL_up HX.out.1, List.append_assoc, ← HA.out.1, show mkProc m x = mkProcAt m m' x by rw [HQ.out]; rfl]
    exact HS3.out
   go_wp2
   go_roundw
   case rel => exact ⟨j + 1, m' + 9, by omega, by go_num, by go_num, by omega, by omega, ⟨by have := HX.out.2.2.2; have := HQ.out; omega, HN.out.1, HN.out.2.1, HN.out.2.2⟩⟩
   case measure => simp [intOf]; omega
  ·have i1 : ¬ (j : Int) < (l.length : Int) := by omega
   have ej : j = l.length := by omega
   subst ej
   have HE : Hid (RowAt procK 43 wr base g cap (markL mkProc cProc k l) ∧ Mines procN wr base g (markL mkProc cProc k l) ∧ m = k + (cntL cProc l : Nat)) := by have h5 := HA.out.2.1; have h6 := HA.out.1; have h7 := HA.out.2.2.1; rw [List.take_length, List.drop_length, List.append_nil] at h5 h7; rw [List.take_length] at h6; exact ⟨h5, h7, h6⟩
   go_wp2
   go_ret
   refine ⟨ret_int HE.out.2.2, ?_, HE.out.2.1.mine, HA.out.2.2.2⟩
   have h7 := HE.out.1.owns
   rw [markL_length] at h7
   exact h7
end Go.Proofs.YtkbcplnlehdjfaaGreat

/- Lists of the kind Port, marked. (Made by mkmarkn.py.) -/
namespace Go.Proofs.YtkbcplnlehdjfaaGreat
open Go.RowKit
attribute [local go_sem ↓] Go.wp_at_zero Go.wp_at_succ
def cPort (x : PortD) : Nat := 4 + cntL (fun _ : ByteArray => 1) x.items
def mkPort (k : Int) (x : PortD) : PortD := { x with id := k, out := (k + 1) % 3 == 0, queue := (k + 1 + 1) % 3 == 0, max := k + 1 + 1 + 1, items := markL mkStr (fun _ => 1) (k + 1 + 1 + 1 + 1) x.items }
set_option maxRecDepth 100000 in
set_option maxHeartbeats 4000000 in
theorem markSPort_l (a : Option Addr) (l : List PortD) (cap : Nat) (k : Int) (w : World) (base : Nat) (hl : l.length ≤ 1048576) (hk : ∀ x ∈ l, x.items.length ≤ 1048576) (h0 : 1 ≤ k) (h1 : k + (cntL cPort l : Nat) ≤ 90000000) (ho : w.ownsRow base 61 5 (.slice a l.length cap) l.length (portK.flat l)) (hm : ∀ x ∈ l, portN.Mine w base x) (hn : (blk a ++ l.filterMap portN.kid).Nodup) :
  Calls Tryz.prog 133 #[.slice a l.length cap, .int .i64 k] w fun e w' => e = .returned (.int .i64 (k + (cntL cPort l : Nat))) ∧ w'.ownsRow base 61 5 (.slice a l.length cap) l.length (portK.flat (markL mkPort cPort k l)) ∧ (∀ y ∈ markL mkPort cPort k l, portN.Mine w' base y) ∧ KeptBut w w' (blk a ++ l.filterMap portN.kid) := by
 by_cases hz : l.length = 0
 ·have hl0 : l = [] := List.eq_nil_of_length_eq_zero hz
  subst hl0
  have HO : Hid (w.ownsRow base 61 5 (.slice a 0 cap) 0 (portK.flat [])) := ho
  clear ho
  go_enter Tryz.func133, Tryz.ntmps133
  go_wp2_with fail
  go_loopw [1, 5] (fun q i wr => q = .int .i64 k ∧ i = .int .i64 0 ∧ wr = w) (fun _ _ _ => 0)
  case atStart => exact ⟨rfl, rfl, rfl⟩
  case round =>
   obtain ⟨rfl, rfl, rfl⟩ := hrel
   go_wp2
   go_ret
   exact ⟨ret_int (by simp [cntL]), HO.out, (fun y hy => by cases hy), KeptBut.refl _ _⟩
 obtain ⟨g, rfl, hrow⟩ := RowAt.of_owns (K := portK) ho hz
 have HR : Hid (RowAt portK 61 w base g cap l ∧ Mines portN w base g l) := ⟨hrow, hm, hn⟩
 have HB : Hid (k + (cntL cPort l : Nat) ≤ 90000000 ∧ ∀ x ∈ l, x.items.length ≤ 1048576) := ⟨h1, hk⟩
 clear ho hrow h1 hz hm hn hk
 go_enter Tryz.func133, Tryz.ntmps133
 go_wp2_with fail
 go_loopw [1, 5] (fun q i wr => ∃ (j : Nat) (m : Int), j ≤ l.length ∧ i = .int .i64 j ∧ q = .int .i64 m ∧ 1 ≤ m ∧ m ≤ 90000000 ∧ Hid (m = k + (cntL cPort (l.take j) : Nat) ∧ RowAt portK 61 wr base g cap (markL mkPort cPort k (l.take j) ++ l.drop j) ∧ Mines portN wr base g (markL mkPort cPort k (l.take j) ++ l.drop j) ∧ KeptBut w wr (g :: l.filterMap portN.kid))) (fun _ i _ => l.length - (intOf i).toNat)
 case atStart => exact ⟨0, k, Nat.zero_le _, rfl, rfl, h0, by have := HB.out.1; omega, ⟨by simp [cntL], HR.out.1, HR.out.2, KeptBut.refl _ _⟩⟩
 case round =>
  clear HR
  obtain ⟨j, m, hj, rfl, rfl, m0, m1, HA⟩ := hrel
  by_cases hlt : j < l.length
  ·have i0 : (0 : Int) ≤ (j : Int) := by omega
   have i1 : (j : Int) < (l.length : Int) := by omega
   obtain ⟨x, hx⟩ : ∃ x, l[j]? = some x := ⟨_, List.getElem?_eq_getElem hlt⟩
   have hdr : l.drop j = x :: l.drop (j + 1) := drop_at hx
   have hcn := cntL_take_lt (c := cPort) hx
   have hup := cntL_up (c := cPort) hx
   have hcx : cPort x = 4 + cntL (fun _ : ByteArray => 1) x.items := rfl
   have HX : Hid (l[j]? = some x ∧ x.items.length ≤ 1048576 ∧ m + 1 + 1 + 1 + 1 + (cntL (fun _ : ByteArray => 1) x.items : Nat) ≤ 90000000 ∧ m + 1 + 1 + 1 + 1 + (cntL (fun _ : ByteArray => 1) x.items : Nat) = k + (cntL cPort (l.take (j + 1)) : Nat)) := ⟨hx, HB.out.2 x (List.mem_of_getElem? hx), by have := HB.out.1; have := HA.out.1; omega, by have := HA.out.1; omega⟩
   have HW : Hid (RowAt portK 61 wr base g cap (markL mkPort cPort k (l.take j) ++ x :: l.drop (j + 1)) ∧ (markL mkPort cPort k (l.take j)).length = j) := ⟨by have := HA.out.2.1; rwa [hdr] at this, by rw [markL_length, List.length_take]; omega⟩
   have HM : Hid (Mines portN wr base g (markL mkPort cPort k (l.take j) ++ x :: l.drop (j + 1))) := by have := HA.out.2.2.1; rwa [hdr] at this
   have m2 : m + 1 + 1 + 1 + 1 ≤ 90000000 := by have := HX.out.2.2.1; omega
   have hgl : g < wr.heap.size := HW.out.1.lt
   clear hx hdr hcn hup hcx
   have q0 := RowAt.at_mid HW.out.1 HW.out.2 (r := 0) (by decide : 0 < portK.n)
   obtain ⟨⟨u0, c0⟩, f0⟩ : (∃ u, wr.cell? ⟨g, j * 5, none⟩ = some u) ∧ wr.frozen? ⟨g, j * 5, none⟩ = false := q0
   have q1 := RowAt.at_mid HW.out.1 HW.out.2 (r := 1) (by decide : 1 < portK.n)
   obtain ⟨⟨u1, c1⟩, f1⟩ : (∃ u, wr.cell? ⟨g, j * 5 + 1, none⟩ = some u) ∧ wr.frozen? ⟨g, j * 5 + 1, none⟩ = false := q1
   have q2 := RowAt.at_mid HW.out.1 HW.out.2 (r := 2) (by decide : 2 < portK.n)
   obtain ⟨⟨u2, c2⟩, f2⟩ : (∃ u, wr.cell? ⟨g, j * 5 + 2, none⟩ = some u) ∧ wr.frozen? ⟨g, j * 5 + 2, none⟩ = false := q2
   have q3 := RowAt.at_mid HW.out.1 HW.out.2 (r := 3) (by decide : 3 < portK.n)
   obtain ⟨⟨u3, c3⟩, f3⟩ : (∃ u, wr.cell? ⟨g, j * 5 + 3, none⟩ = some u) ∧ wr.frozen? ⟨g, j * 5 + 3, none⟩ = false := q3
   have c2 : wr.cell? ⟨g, j * 5 + 4, none⟩ = some (.slice x.itemsA x.items.length x.itemsC) := (RowAt.mid_cell HW.out.1 HW.out.2 (r := 4) (by decide : 4 < portK.n))
   have h5 := RowAt.part (K := portK) (x := x) (y := ({ x with id := m, out := (m + 1) % 3 == 0, queue := (m + 1 + 1) % 3 == 0, max := m + 1 + 1 + 1 } : PortD)) (j := 0) (vs := [.int .i64 (m), .bool ((m + 1) % 3 == 0), .bool ((m + 1 + 1) % 3 == 0), .int .i64 (m + 1 + 1 + 1)]) HW.out.1 (by show 0 + 4 ≤ 5; omega) (fun r hr => by match r, hr with | 0, _ => rfl | 1, _ => rfl | 2, _ => rfl | 3, _ => rfl) (fun r hr hn => by match r, hr, hn with | 0, _, hn => exact absurd ⟨by omega, by show 0 < 0 + 4; omega⟩ hn | 1, _, hn => exact absurd ⟨by omega, by show 1 < 0 + 4; omega⟩ hn | 2, _, hn => exact absurd ⟨by omega, by show 2 < 0 + 4; omega⟩ hn | 3, _, hn => exact absurd ⟨by omega, by show 3 < 0 + 4; omega⟩ hn | 4, _, _ => rfl)
   rw [HW.out.2, show portK.n = 5 from rfl] at h5
   have h6 : KeptBut wr (setAllW wr g (j * 5) [.int .i64 (m), .bool ((m + 1) % 3 == 0), .bool ((m + 1 + 1) % 3 == 0), .int .i64 (m + 1 + 1 + 1)]) [g] := KeptBut.set _ (by simp)
   simp only [setAllW, Nat.add_zero, Nat.add_assoc, Nat.reduceAdd] at h5 h6
   have HS : Hid (RowAt portK 61 ((((wr.setCell ⟨g, j * 5, none⟩ (.int .i64 (m))).setCell ⟨g, j * 5 + 1, none⟩ (.bool ((m + 1) % 3 == 0))).setCell ⟨g, j * 5 + 2, none⟩ (.bool ((m + 1 + 1) % 3 == 0))).setCell ⟨g, j * 5 + 3, none⟩ (.int .i64 (m + 1 + 1 + 1))) base g cap (markL mkPort cPort k (l.take j) ++ ({ x with id := m, out := (m + 1) % 3 == 0, queue := (m + 1 + 1) % 3 == 0, max := m + 1 + 1 + 1 } : PortD) :: l.drop (j + 1)) ∧ Mines portN ((((wr.setCell ⟨g, j * 5, none⟩ (.int .i64 (m))).setCell ⟨g, j * 5 + 1, none⟩ (.bool ((m + 1) % 3 == 0))).setCell ⟨g, j * 5 + 2, none⟩ (.bool ((m + 1 + 1) % 3 == 0))).setCell ⟨g, j * 5 + 3, none⟩ (.int .i64 (m + 1 + 1 + 1))) base g (markL mkPort cPort k (l.take j) ++ ({ x with id := m, out := (m + 1) % 3 == 0, queue := (m + 1 + 1) % 3 == 0, max := m + 1 + 1 + 1 } : PortD) :: l.drop (j + 1)) ∧ KeptBut w ((((wr.setCell ⟨g, j * 5, none⟩ (.int .i64 (m))).setCell ⟨g, j * 5 + 1, none⟩ (.bool ((m + 1) % 3 == 0))).setCell ⟨g, j * 5 + 2, none⟩ (.bool ((m + 1 + 1) % 3 == 0))).setCell ⟨g, j * 5 + 3, none⟩ (.int .i64 (m + 1 + 1 + 1))) (g :: l.filterMap portN.kid)) := ⟨h5, (HM.out.keep h6).turn rfl ((HM.out.keep h6).mine x (by simp)), HA.out.2.2.2.trans (h6.mono (by simp))⟩
   clear h5 h6
   go_wp2_with fail
   generalize (((wr.setCell ⟨g, j * 5, none⟩ (.int .i64 (m))).setCell ⟨g, j * 5 + 1, none⟩ (.bool ((m + 1) % 3 == 0))).setCell ⟨g, j * 5 + 2, none⟩ (.bool ((m + 1 + 1) % 3 == 0))).setCell ⟨g, j * 5 + 3, none⟩ (.int .i64 (m + 1 + 1 + 1)) = W1 at *
   refine (markSStr_l x.itemsA x.items x.itemsC (m + 1 + 1 + 1 + 1) W1 base HX.out.2.1 (by omega) HX.out.2.2.1 (HS.out.2.1.mine ({ x with id := m, out := (m + 1) % 3 == 0, queue := (m + 1 + 1) % 3 == 0, max := m + 1 + 1 + 1 } : PortD) (by simp))).mono ?_
   rintro e v ⟨rfl, hown, hkb⟩
   have HV : Hid (RowAt portK 61 v base g cap (markL mkPort cPort k (l.take (j + 1)) ++ l.drop (j + 1)) ∧ Mines portN v base g (markL mkPort cPort k (l.take (j + 1)) ++ l.drop (j + 1)) ∧ KeptBut w v (g :: l.filterMap portN.kid)) := by
    have hap := HS.out.2.1.apart (z := ({ x with id := m, out := (m + 1) % 3 == 0, queue := (m + 1 + 1) % 3 == 0, max := m + 1 + 1 + 1 } : PortD)) (by simp)
    rw [markL_up HX.out.1, List.append_assoc, ← HA.out.1]
    have h7 := HS.out.1.same (hkb.same g HS.out.1.lt hap)
    have hm7 : portN.Mine v base (mkPort m x) := by
     show v.ownsRow base _ 1 (.slice x.itemsA (markL mkStr (fun _ => 1) (m + 1 + 1 + 1 + 1) x.items).length x.itemsC) (markL mkStr (fun _ => 1) (m + 1 + 1 + 1 + 1) x.items).length (strK.flat (markL mkStr (fun _ => 1) (m + 1 + 1 + 1 + 1) x.items))
     rw [markL_length]
     exact hown
    refine ⟨?_, HS.out.2.1.inner hkb rfl hm7, HS.out.2.2.trans (hkb.mono fun b hb => ?_)⟩
    ·exact RowAt.part (K := portK) (x := ({ x with id := m, out := (m + 1) % 3 == 0, queue := (m + 1 + 1) % 3 == 0, max := m + 1 + 1 + 1 } : PortD)) (y := mkPort m x) (j := 0) (vs := []) h7 (by show 0 + 0 ≤ 5; omega) (fun r hr => absurd hr (by simp)) (fun r hr _ => by match r, hr with | 0, _ => rfl | 1, _ => rfl | 2, _ => rfl | 3, _ => rfl | 4, _ => (show some (Value.slice x.itemsA (markL mkStr (fun _ => 1) (m + 1 + 1 + 1 + 1) x.items).length x.itemsC) = some (.slice x.itemsA x.items.length x.itemsC); rw [markL_length]))
    ·exact List.mem_cons_of_mem _ (List.mem_filterMap.2 ⟨x, List.mem_of_getElem? HX.out.1, mem_blk.1 hb⟩)
   clear hown hkb HS
   have m3 : m + 1 + 1 + 1 + 1 + (cntL (fun _ : ByteArray => 1) x.items : Nat) ≤ 90000000 := HX.out.2.2.1
   go_wp2
   go_roundw
   case rel => exact ⟨j + 1, m + 1 + 1 + 1 + 1 + (cntL (fun _ : ByteArray => 1) x.items : Nat), by omega, by go_num, rfl, by omega, by omega, ⟨HX.out.2.2.2, HV.out.1, HV.out.2.1, HV.out.2.2⟩⟩
   case measure => simp [intOf]; omega
  ·have i1 : ¬ (j : Int) < (l.length : Int) := by omega
   have ej : j = l.length := by omega
   subst ej
   have HE : Hid (RowAt portK 61 wr base g cap (markL mkPort cPort k l) ∧ Mines portN wr base g (markL mkPort cPort k l) ∧ m = k + (cntL cPort l : Nat)) := by have h5 := HA.out.2.1; have h6 := HA.out.1; have h7 := HA.out.2.2.1; rw [List.take_length, List.drop_length, List.append_nil] at h5 h7; rw [List.take_length] at h6; exact ⟨h5, h7, h6⟩
   go_wp2
   go_ret
   refine ⟨ret_int HE.out.2.2, ?_, HE.out.2.1.mine, HA.out.2.2.2⟩
   have h7 := HE.out.1.owns
   rw [markL_length] at h7
   exact h7
set_option maxRecDepth 100000 in
set_option maxHeartbeats 4000000 in
theorem heldSPort_l (a : Option Addr) (l : List PortD) (cap : Nat) (k : Int) (w : World) (hl : l.length ≤ 1048576) (hk : ∀ x ∈ l, x.items.length ≤ 1048576) (h0 : 1 ≤ k) (h1 : k + (cntL cPort l : Nat) ≤ 90000000) (hr : portK.Lies w a (markL mkPort cPort k l)) :
  Calls Tryz.prog 140 #[.slice a l.length cap, .int .i64 k] w fun e w' => e = .returned (.int .i64 (k + (cntL cPort l : Nat))) ∧ Below w.heap.size w w' := by
 have HR : Hid (portK.Lies w a (markL mkPort cPort k l) ∧ k + (cntL cPort l : Nat) ≤ 90000000 ∧ ∀ x ∈ l, x.items.length ≤ 1048576) := ⟨hr, h1, hk⟩
 clear hr h1 hk
 go_enter Tryz.func140, Tryz.ntmps140
 go_wp2_with fail
 go_loopw [1, 5] (fun q i wr => ∃ (j : Nat) (m : Int), j ≤ l.length ∧ i = .int .i64 j ∧ q = .int .i64 m ∧ 1 ≤ m ∧ m ≤ 90000000 ∧ Hid (m = k + (cntL cPort (l.take j) : Nat) ∧ Below w.heap.size w wr)) (fun _ i _ => l.length - (intOf i).toNat)
 case atStart => exact ⟨0, k, Nat.zero_le _, rfl, rfl, h0, by have := HR.out.2.1; omega, ⟨by simp [cntL], Below.refl _ _⟩⟩
 case round =>
  obtain ⟨j, m, hj, rfl, rfl, m0, m1, HA⟩ := hrel
  by_cases hlt : j < l.length
  ·have i0 : (0 : Int) ≤ (j : Int) := by omega
   have i1 : (j : Int) < (l.length : Int) := by omega
   obtain ⟨x, hx⟩ : ∃ x, l[j]? = some x := ⟨_, List.getElem?_eq_getElem hlt⟩
   have hcn := cntL_take_lt (c := cPort) hx
   have hup := cntL_up (c := cPort) hx
   have hcx : cPort x = 4 + cntL (fun _ : ByteArray => 1) x.items := rfl
   have hg := markL_get (f := mkPort) (c := cPort) (k := k) hx
   rw [← HA.out.1] at hg
   have hls : portK.Lies wr a (markL mkPort cPort k l) := HR.out.1.below HA.out.2
   obtain ⟨g, ha, hat⟩ := hls.at hg
   have c0 : wr.cell? ⟨g, j * 5, none⟩ = some (.int .i64 (m)) := hat 0 _ rfl
   have c1 : wr.cell? ⟨g, j * 5 + 1, none⟩ = some (.bool ((m + 1) % 3 == 0)) := hat 1 _ rfl
   have c2 : wr.cell? ⟨g, j * 5 + 2, none⟩ = some (.bool ((m + 1 + 1) % 3 == 0)) := hat 2 _ rfl
   have c3 : wr.cell? ⟨g, j * 5 + 3, none⟩ = some (.int .i64 (m + 1 + 1 + 1)) := hat 3 _ rfl
   have cp : wr.cell? ⟨g, j * 5 + 4, none⟩ = some (.slice x.itemsA x.items.length x.itemsC) := (hat 4 _ rfl).trans (show some (Value.slice x.itemsA (markL mkStr (fun _ => 1) (m + 1 + 1 + 1 + 1) x.items).length x.itemsC) = _ by rw [markL_length])
   have HX : Hid (x.items.length ≤ 1048576 ∧ m + 1 + 1 + 1 + 1 + (cntL (fun _ : ByteArray => 1) x.items : Nat) ≤ 90000000 ∧ m + 1 + 1 + 1 + 1 + (cntL (fun _ : ByteArray => 1) x.items : Nat) = k + (cntL cPort (l.take (j + 1)) : Nat) ∧ strK.Lies wr x.itemsA (markL mkStr (fun _ => 1) (m + 1 + 1 + 1 + 1) x.items)) := ⟨HR.out.2.2 x (List.mem_of_getElem? hx), by have := HR.out.2.1; have := HA.out.1; omega, by have := HA.out.1; omega, hls.2 _ (List.mem_of_getElem? hg) (x.itemsA, strK.flat (markL mkStr (fun _ => 1) (m + 1 + 1 + 1 + 1) x.items)) (List.mem_singleton.2 rfl), fun _ _ r hr => by cases hr⟩
   have m2 : m + 1 + 1 + 1 + 1 + (cntL (fun _ : ByteArray => 1) x.items : Nat) ≤ 90000000 := HX.out.2.1
   subst ha
   clear hx hcn hup hcx hg hat hls
   go_wp2_with fail
   refine (heldSStr_l x.itemsA x.items x.itemsC (m + 1 + 1 + 1 + 1) wr HX.out.1 (by omega) HX.out.2.1 HX.out.2.2.2).mono ?_
   rintro e v ⟨rfl, hb⟩
   have HV : Hid (Below w.heap.size w v) := HA.out.2.trans (hb.mono HA.out.2.size)
   clear hb
   go_wp2
   go_roundw
   case rel => exact ⟨j + 1, m + 1 + 1 + 1 + 1 + (cntL (fun _ : ByteArray => 1) x.items : Nat), by omega, by go_num, rfl, by omega, by omega, ⟨HX.out.2.2.1, HV.out⟩⟩
   case measure => simp [intOf]; omega
  ·have i1 : ¬ (j : Int) < (l.length : Int) := by omega
   have HE : Hid (m = k + (cntL cPort l : Nat)) := by have h6 := HA.out.1; rw [List.take_of_length_le (by omega)] at h6; exact h6
   go_wp2
   go_ret
   exact ⟨ret_int HE.out, HA.out.2⟩
end Go.Proofs.YtkbcplnlehdjfaaGreat

/- The things of a shelf of the kind Proc, told as a list. (Made by mktold.py.) -/
namespace Go.Proofs.YtkbcplnlehdjfaaGreat
open Go.RowKit Go.Maps
set_option maxRecDepth 100000 in
set_option maxHeartbeats 4000000 in
theorem toldProc_any (most : Int) (base b : Nat) (l : List (ProcD × Nat)) (w : World) (h : Shelf procVs (fun x : ProcD => x.id) 43 w base b l) (hl : l.length ≤ 1048576) (hwf : ∀ p ∈ (keysOf (fun x : ProcD => x.id) l), (Lit.int .i64 p.1).wf = true) :
  Calls Tryz.prog 165 #[.agg #[.int .i64 most, .map (some b)]] w fun e w' => ToldEnds procK 43 w (l.map (·.1)) e w' := by
 obtain ⟨i0, hi, e0⟩ := Option.map_eq_some_iff.1 rinfProc
 simp only [Prod.mk.injEq] at e0
 have HI : Hid (Tryz.prog.info? 43 = some i0 ∧ i0.zero = some _ ∧ i0.size = 12 ∧ i0.bytes = 128) := ⟨hi, e0⟩
 have H : Hid (Shelf procVs (fun x : ProcD => x.id) 43 (w.alloc (.cells #[.int .i64 most, .map (some b)] 110)) base b l ∧ (∀ p ∈ (keysOf (fun x : ProcD => x.id) l), (Lit.int .i64 p.1).wf = true) ∧ Below w.heap.size w (w.alloc (.cells #[.int .i64 most, .map (some b)] 110))) := ⟨h.below ((Below.refl _ _).alloc (Nat.le_refl _) _), hwf, (Below.refl _ _).alloc (Nat.le_refl _) _⟩
 have HK : Hid ((keysOf (fun x : ProcD => x.id) l).length = l.length) := keysOf_length l
 clear h hwf hi e0
 go_enter Tryz.func165, Tryz.ntmps165
 go_wp2_with fail
 generalize w.alloc (.cells #[.int .i64 most, .map (some b)] 110) = W at *
 refine (allProc_any most b (keysOf (fun x : ProcD => x.id) l) W H.out.1.map (by rw [HK.out]; exact hl) H.out.2.1).mono ?_
 rintro e w2 ⟨a, cap, rfl, hown, hb2⟩
 obtain ⟨a', cap', hv, hrow⟩ := own_form hown
 cases hv
 have HR : Hid (Row w2 a ((keysOf (fun x : ProcD => x.id) l).map fun p => ptrV p.2)) := hrow
 have HO : Hid (Shelf procVs (fun x : ProcD => x.id) 43 w2 base b l ∧ Below w.heap.size w w2) := ⟨H.out.1.below hb2, H.out.2.2.trans (hb2.mono H.out.2.2.size)⟩
 rw [HK.out]
 clear hown hrow hb2
 go_wp2_with fail
 go_loopw [3, 9] (fun t i wr => ∃ k : Nat, k ≤ l.length ∧ i = .int .i64 k ∧ ∃ a' cap', t = .slice a' k cap' ∧ Hid (wr.ownsRow w2.heap.size 43 12 (.slice a' k cap') k (procK.flat ((l.take k).map (·.1))) ∧ Below w2.heap.size w2 wr)) (fun _ i _ => l.length - (intOf i).toNat)
 case atStart => exact ⟨0, Nat.zero_le _, rfl, none, 0, rfl, ⟨World.ownsRow_nil _ _ _ _, Below.refl _ _⟩⟩
 case round =>
  obtain ⟨k, hk, rfl, a', cap', rfl, HA⟩ := hrel
  by_cases hlt : k < l.length
  ·have i0' : (0 : Int) ≤ (k : Int) := by omega
   have i1 : (k : Int) < (l.length : Int) := by omega
   obtain ⟨p, hp⟩ : ∃ p, l[k]? = some p := ⟨_, List.getElem?_eq_getElem hlt⟩
   obtain ⟨g, ha, hc⟩ := (HR.out.below HA.out.2) k (ptrV p.2) (by simp [keysOf, hp])
   subst ha
   unfold ptrV at hc
   have HP : Hid (l[k]? = some p) := hp
   obtain ⟨s0, s1, s2, s3, s4, s5, s6, s7, s8, s9, s10, s11⟩ := proc_cells ((HO.out.1.below HA.out.2).box p (List.mem_of_getElem? hp))
   have hsz3 := HA.out.2.size
   clear hp
   go_wp2_with (at_builtin; refine wpList_append_own_at _ rfl _ _ 25 rfl w2.heap.size 43 i0 _ 12 128 Tryz.underlying25 HI.out.1 HI.out.2.1 HI.out.2.2.1 HI.out.2.2.2 rfl (by decide) (.slice a' k cap') k (procK.flat ((l.take k).map (·.1))) rfl (HA.out.1.alloc _) ⟨wr.heap.size, 0, none⟩ 1 1 (procK.vals p.1) (by rfl) rfl (World.news_of_block (cs := #[.int .i64 p.1.id, .int .i64 p.1.prio, .slice p.1.progA p.1.prog.length p.1.progC, .int .i64 p.1.state, .int .i64 p.1.pc, .int .i64 p.1.left, .int .i64 p.1.wake, .int .i64 p.1.on, .string p.1.held, .string p.1.got, .int .i64 p.1.code, .int .i64 p.1.since]) (t := 43) (fr := (0, 0)) (heap_alloc_new wr _)) (by simp [procK, procVals, Value.oneCell']) (by unfold maxLen; omega) (by omega) (by simp; omega) ?_; intro v' w5 hown' hgrow hnil hloc; obtain ⟨a5, cap5, rfl, -⟩ := own_form hown'; have HN : Hid (w5.ownsRow w2.heap.size 43 12 (.slice a5 (k + 1) cap5) (k + 1) (procK.flat ((l.take (k + 1)).map (·.1))) ∧ Below w2.heap.size w2 w5) := ⟨by rw [take_up HP.out, List.map_append, procK.flat_append]; exact hown', (HA.out.2.alloc hsz3 _).grown hgrow (by simp; omega) (fun q hq => (HA.out.1.lt q hq).1)⟩; clear hown' hgrow hnil hloc)
   go_roundw
   case rel => exact ⟨k + 1, by omega, by go_num, a5, cap5, rfl, HN⟩
   case measure => simp [intOf]; omega
  ·have i1 : ¬ (k : Int) < (l.length : Int) := by omega
   have ek : k = l.length := by omega
   subst ek
   go_wp2
   go_ret
   refine ⟨a', cap', by rw [List.length_map]; rfl, ?_, HO.out.2.trans (HA.out.2.mono HO.out.2.size)⟩
   have h5 := own_low HA.out.1 HO.out.2.size
   rw [List.take_length] at h5
   rw [List.length_map]
   exact h5
end Go.Proofs.YtkbcplnlehdjfaaGreat

/- Loads of structs in regions that draw their order; partitions that came in, small and with right numbers; impl.PartOk. -/
namespace Go.Proofs.YtkbcplnlehdjfaaGreat
open Go.RowKit
theorem yieldsIf_row {P : Program} {ops : Array Oper} {S : World → Prop} {o : Oper} {a : Act} (hw : Region.wanted o (yielded ops a.tmps) = true) (ty : TypeId) (x : Operand) (ho : o.op = .load ty x)
  (g : Nat) (hx : a.eval x = .pointer (some ⟨g, 0, none⟩)) (t : TypeId) (cs : Array Value) (d : TypeDesc) (hS : ∀ w, S w → w.heap[g]? = some (.cells cs t (0, 0)))
  (hu : P.underlying ty = some d) (hd : (match d with | .struct _ | .array _ _ => true | _ => false) = true) (hi : (P.info? ty).map (·.size) = some cs.size) : YieldsIf P ops S o (.agg cs) a :=
 .inl ⟨hw, fun w hw' => by
  unfold execOp
  simp only [ho, hx, Instr.loadAt, Instr.sureAddr, Sem.run_bind, Sem.run_pure, Result.andThen_ok, run_loadVar_row w g t ty cs (0, 0) d (hS w hw') hu hd hi]⟩
/-- The numbers of a partition fit their kind. -/
structure PartD.Ints (p : PartD) : Prop where
 procs : ∀ x ∈ p.procs, x.Wf
 sems : ∀ x ∈ p.sems, (Lit.int .i64 x.id).wf = true
 events : ∀ x ∈ p.events, (Lit.int .i64 x.id).wf = true
 boards : ∀ x ∈ p.boards, (Lit.int .i64 x.id).wf = true
 buffers : ∀ x ∈ p.buffers, (Lit.int .i64 x.id).wf = true
 ports : ∀ x ∈ p.ports, (Lit.int .i64 x.id).wf = true
theorem small_of {p : PartD} (h : p.Shorts) (hi : p.Ints) : p.pure.Small := by
 refine ⟨by simpa [PartD.pure] using h.nProc, h.nSem, h.nEvent, h.nBoard, by simpa [PartD.pure] using h.nBuffer, by simpa [PartD.pure] using h.nPort, fun x hx => ?_, hi.sems, hi.events, fun x hx => ⟨hi.boards x hx, h.boards x hx⟩, fun x hx => ?_, fun x hx => ?_⟩
 ·obtain ⟨y, hy, rfl⟩ := List.mem_map.1 hx
  have h1 := h.procs y hy
  have h2 := hi.procs y hy
  exact ⟨⟨h1.prog, h1.ops, h1.held, h1.got⟩, h2.id, h2.on, h2.since⟩
 ·obtain ⟨y, hy, rfl⟩ := List.mem_map.1 hx
  exact ⟨hi.buffers y hy, h.buffers y hy⟩
 ·obtain ⟨y, hy, rfl⟩ := List.mem_map.1 hx
  exact ⟨hi.ports y hy, h.ports y hy⟩
end Go.Proofs.YtkbcplnlehdjfaaGreat
