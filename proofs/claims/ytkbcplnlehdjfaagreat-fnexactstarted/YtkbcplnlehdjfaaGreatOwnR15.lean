/- What the proof leans on, part 15: MkPort, PartAdd. -/
import Derived.Test.YtkbcplnlehdjfaaGreatOwnR12
import Derived.Test.YtkbcplnlehdjfaaGreatOwnR14

namespace Go.Proofs.YtkbcplnlehdjfaaGreat
open Go.RowKit
attribute [local go_sem ↓] Go.wp_at_zero Go.wp_at_succ
def cPort (x : PortD) : Nat := 4 + cntL (fun _ : ByteArray => 1) x.items
def mkPort (k : Int) (x : PortD) : PortD := { x with id := k, out := (k + 1) % 3 == 0, queue := (k + 1 + 1) % 3 == 0, max := k + 1 + 1 + 1, items := markL mkStr (fun _ => 1) (k + 1 + 1 + 1 + 1) x.items }
set_option maxRecDepth 100000 in
set_option maxHeartbeats 4000000 in
theorem markSPort_l (a : Option Addr) (l : List PortD) (cap : Nat) (k : Int) (w : World) (base : Nat) (hl : l.length ≤ 1048576) (hk : ∀ x ∈ l, x.items.length ≤ 1048576) (h0 : 1 ≤ k) (h1 : k + (cntL cPort l : Nat) ≤ 90000000) (ho : w.ownsRow base 61 5 (.slice a l.length cap) l.length (portK.flat l)) (hm : ∀ x ∈ l, portN.Mine w base x) (hn : (blk a ++ l.filterMap portN.kid).Nodup) :
  Calls Tryz.prog 133 #[.slice a l.length cap, .int .i64 k] w fun e w' => e = .returned (.int .i64 (k + (cntL cPort l : Nat))) ∧ w'.ownsRow base 61 5 (.slice a l.length cap) l.length (portK.flat (markL mkPort cPort k l)) ∧ (∀ y ∈ markL mkPort cPort k l, portN.Mine w' base y) ∧ KeptBut w w' (blk a ++ l.filterMap portN.kid) := by
 by_cases hz : l.length = 0
 ·have hl0 : l = [] := List.eq_nil_of_length_eq_zero hz
  subst hl0
  have HO : Hid (w.ownsRow base 61 5 (.slice a 0 cap) 0 (portK.flat [])) := ho
  clear ho
  go_enter Tryz.func133, Tryz.ntmps133
  go_wp2_with fail
  go_loopw [1, 5] (fun q i wr => q = .int .i64 k ∧ i = .int .i64 0 ∧ wr = w) (fun _ _ _ => 0)
  case atStart => exact ⟨rfl, rfl, rfl⟩
  case round =>
   obtain ⟨rfl, rfl, rfl⟩ := hrel
   go_wp2
   go_ret
   exact ⟨ret_int (by simp [cntL]), HO.out, (fun y hy => by cases hy), KeptBut.refl _ _⟩
 obtain ⟨g, rfl, hrow⟩ := RowAt.of_owns (K := portK) ho hz
 have HR : Hid (RowAt portK 61 w base g cap l ∧ Mines portN w base g l) := ⟨hrow, hm, hn⟩
 have HB : Hid (k + (cntL cPort l : Nat) ≤ 90000000 ∧ ∀ x ∈ l, x.items.length ≤ 1048576) := ⟨h1, hk⟩
 clear ho hrow h1 hz hm hn hk
 go_enter Tryz.func133, Tryz.ntmps133
 go_wp2_with fail
 go_loopw [1, 5] (fun q i wr => ∃ (j : Nat) (m : Int), j ≤ l.length ∧ i = .int .i64 j ∧ q = .int .i64 m ∧ 1 ≤ m ∧ m ≤ 90000000 ∧ Hid (m = k + (cntL cPort (l.take j) : Nat) ∧ RowAt portK 61 wr base g cap (markL mkPort cPort k (l.take j) ++ l.drop j) ∧ Mines portN wr base g (markL mkPort cPort k (l.take j) ++ l.drop j) ∧ KeptBut w wr (g :: l.filterMap portN.kid))) (fun _ i _ => l.length - (intOf i).toNat)
 case atStart => exact ⟨0, k, Nat.zero_le _, rfl, rfl, h0, by have := HB.out.1; omega, ⟨by simp [cntL], HR.out.1, HR.out.2, KeptBut.refl _ _⟩⟩
 case round =>
  clear HR
  obtain ⟨j, m, hj, rfl, rfl, m0, m1, HA⟩ := hrel
  by_cases hlt : j < l.length
  ·have i0 : (0 : Int) ≤ (j : Int) := by omega
   have i1 : (j : Int) < (l.length : Int) := by omega
   obtain ⟨x, hx⟩ : ∃ x, l[j]? = some x := ⟨_, List.getElem?_eq_getElem hlt⟩
   have hdr : l.drop j = x :: l.drop (j + 1) := drop_at hx
   have hcn := cntL_take_lt (c := cPort) hx
   have hup := cntL_up (c := cPort) hx
   have hcx : cPort x = 4 + cntL (fun _ : ByteArray => 1) x.items := rfl
   have HX : Hid (l[j]? = some x ∧ x.items.length ≤ 1048576 ∧ m + 1 + 1 + 1 + 1 + (cntL (fun _ : ByteArray => 1) x.items : Nat) ≤ 90000000 ∧ m + 1 + 1 + 1 + 1 + (cntL (fun _ : ByteArray => 1) x.items : Nat) = k + (cntL cPort (l.take (j + 1)) : Nat)) := ⟨hx, HB.out.2 x (List.mem_of_getElem? hx), by have := HB.out.1; have := HA.out.1; omega, by have := HA.out.1; omega⟩
   have HW : Hid (RowAt portK 61 wr base g cap (markL mkPort cPort k (l.take j) ++ x :: l.drop (j + 1)) ∧ (markL mkPort cPort k (l.take j)).length = j) := ⟨by have := HA.out.2.1; rwa [hdr] at this, by rw [markL_length, List.length_take]; omega⟩
   have HM : Hid (Mines portN wr base g (markL mkPort cPort k (l.take j) ++ x :: l.drop (j + 1))) := by have := HA.out.2.2.1; rwa [hdr] at this
   have m2 : m + 1 + 1 + 1 + 1 ≤ 90000000 := by have := HX.out.2.2.1; omega
   have hgl : g < wr.heap.size := HW.out.1.lt
   clear hx hdr hcn hup hcx
   have q0 := RowAt.at_mid HW.out.1 HW.out.2 (r := 0) (by decide : 0 < portK.n)
   obtain ⟨⟨u0, c0⟩, f0⟩ : (∃ u, wr.cell? ⟨g, j * 5, none⟩ = some u) ∧ wr.frozen? ⟨g, j * 5, none⟩ = false := q0
   have q1 := RowAt.at_mid HW.out.1 HW.out.2 (r := 1) (by decide : 1 < portK.n)
   obtain ⟨⟨u1, c1⟩, f1⟩ : (∃ u, wr.cell? ⟨g, j * 5 + 1, none⟩ = some u) ∧ wr.frozen? ⟨g, j * 5 + 1, none⟩ = false := q1
   have q2 := RowAt.at_mid HW.out.1 HW.out.2 (r := 2) (by decide : 2 < portK.n)
   obtain ⟨⟨u2, c2⟩, f2⟩ : (∃ u, wr.cell? ⟨g, j * 5 + 2, none⟩ = some u) ∧ wr.frozen? ⟨g, j * 5 + 2, none⟩ = false := q2
   have q3 := RowAt.at_mid HW.out.1 HW.out.2 (r := 3) (by decide : 3 < portK.n)
   obtain ⟨⟨u3, c3⟩, f3⟩ : (∃ u, wr.cell? ⟨g, j * 5 + 3, none⟩ = some u) ∧ wr.frozen? ⟨g, j * 5 + 3, none⟩ = false := q3
   have c2 : wr.cell? ⟨g, j * 5 + 4, none⟩ = some (.slice x.itemsA x.items.length x.itemsC) := (RowAt.mid_cell HW.out.1 HW.out.2 (r := 4) (by decide : 4 < portK.n))
   have h5 := RowAt.part (K := portK) (x := x) (y := ({ x with id := m, out := (m + 1) % 3 == 0, queue := (m + 1 + 1) % 3 == 0, max := m + 1 + 1 + 1 } : PortD)) (j := 0) (vs := [.int .i64 (m), .bool ((m + 1) % 3 == 0), .bool ((m + 1 + 1) % 3 == 0), .int .i64 (m + 1 + 1 + 1)]) HW.out.1 (by show 0 + 4 ≤ 5; omega) (fun r hr => by match r, hr with | 0, _ => rfl | 1, _ => rfl | 2, _ => rfl | 3, _ => rfl) (fun r hr hn => by match r, hr, hn with | 0, _, hn => exact absurd ⟨by omega, by show 0 < 0 + 4; omega⟩ hn | 1, _, hn => exact absurd ⟨by omega, by show 1 < 0 + 4; omega⟩ hn | 2, _, hn => exact absurd ⟨by omega, by show 2 < 0 + 4; omega⟩ hn | 3, _, hn => exact absurd ⟨by omega, by show 3 < 0 + 4; omega⟩ hn | 4, _, _ => rfl)
   rw [HW.out.2, show portK.n = 5 from rfl] at h5
   have h6 : KeptBut wr (setAllW wr g (j * 5) [.int .i64 (m), .bool ((m + 1) % 3 == 0), .bool ((m + 1 + 1) % 3 == 0), .int .i64 (m + 1 + 1 + 1)]) [g] := KeptBut.set _ (by simp)
   simp only [setAllW, Nat.add_zero, Nat.add_assoc, Nat.reduceAdd] at h5 h6
   have HS : Hid (RowAt portK 61 ((((wr.setCell ⟨g, j * 5, none⟩ (.int .i64 (m))).setCell ⟨g, j * 5 + 1, none⟩ (.bool ((m + 1) % 3 == 0))).setCell ⟨g, j * 5 + 2, none⟩ (.bool ((m + 1 + 1) % 3 == 0))).setCell ⟨g, j * 5 + 3, none⟩ (.int .i64 (m + 1 + 1 + 1))) base g cap (markL mkPort cPort k (l.take j) ++ ({ x with id := m, out := (m + 1) % 3 == 0, queue := (m + 1 + 1) % 3 == 0, max := m + 1 + 1 + 1 } : PortD) :: l.drop (j + 1)) ∧ Mines portN ((((wr.setCell ⟨g, j * 5, none⟩ (.int .i64 (m))).setCell ⟨g, j * 5 + 1, none⟩ (.bool ((m + 1) % 3 == 0))).setCell ⟨g, j * 5 + 2, none⟩ (.bool ((m + 1 + 1) % 3 == 0))).setCell ⟨g, j * 5 + 3, none⟩ (.int .i64 (m + 1 + 1 + 1))) base g (markL mkPort cPort k (l.take j) ++ ({ x with id := m, out := (m + 1) % 3 == 0, queue := (m + 1 + 1) % 3 == 0, max := m + 1 + 1 + 1 } : PortD) :: l.drop (j + 1)) ∧ KeptBut w ((((wr.setCell ⟨g, j * 5, none⟩ (.int .i64 (m))).setCell ⟨g, j * 5 + 1, none⟩ (.bool ((m + 1) % 3 == 0))).setCell ⟨g, j * 5 + 2, none⟩ (.bool ((m + 1 + 1) % 3 == 0))).setCell ⟨g, j * 5 + 3, none⟩ (.int .i64 (m + 1 + 1 + 1))) (g :: l.filterMap portN.kid)) := ⟨h5, (HM.out.keep h6).turn rfl ((HM.out.keep h6).mine x (by simp)), HA.out.2.2.2.trans (h6.mono (by simp))⟩
   clear h5 h6
   go_wp2_with fail
   generalize (((wr.setCell ⟨g, j * 5, none⟩ (.int .i64 (m))).setCell ⟨g, j * 5 + 1, none⟩ (.bool ((m + 1) % 3 == 0))).setCell ⟨g, j * 5 + 2, none⟩ (.bool ((m + 1 + 1) % 3 == 0))).setCell ⟨g, j * 5 + 3, none⟩ (.int .i64 (m + 1 + 1 + 1)) = W1 at *
   refine (markSStr_l x.itemsA x.items x.itemsC (m + 1 + 1 + 1 + 1) W1 base HX.out.2.1 (by omega) HX.out.2.2.1 (HS.out.2.1.mine ({ x with id := m, out := (m + 1) % 3 == 0, queue := (m + 1 + 1) % 3 == 0, max := m + 1 + 1 + 1 } : PortD) (by simp))).mono ?_
   rintro e v ⟨rfl, hown, hkb⟩
   have HV : Hid (RowAt portK 61 v base g cap (markL mkPort cPort k (l.take (j + 1)) ++ l.drop (j + 1)) ∧ Mines portN v base g (markL mkPort cPort k (l.take (j + 1)) ++ l.drop (j + 1)) ∧ KeptBut w v (g :: l.filterMap portN.kid)) := by
    have hap := HS.out.2.1.apart (z := ({ x with id := m, out := (m + 1) % 3 == 0, queue := (m + 1 + 1) % 3 == 0, max := m + 1 + 1 + 1 } : PortD)) (by simp)
    rw [markL_up HX.out.1, List.append_assoc, ← HA.out.1]
    have h7 := HS.out.1.same (hkb.same g HS.out.1.lt hap)
    have hm7 : portN.Mine v base (mkPort m x) := by
     show v.ownsRow base _ 1 (.slice x.itemsA (markL mkStr (fun _ => 1) (m + 1 + 1 + 1 + 1) x.items).length x.itemsC) (markL mkStr (fun _ => 1) (m + 1 + 1 + 1 + 1) x.items).length (strK.flat (markL mkStr (fun _ => 1) (m + 1 + 1 + 1 + 1) x.items))
     rw [markL_length]
     exact hown
    refine ⟨?_, HS.out.2.1.inner hkb rfl hm7, HS.out.2.2.trans (hkb.mono fun b hb => ?_)⟩
    ·exact RowAt.part (K := portK) (x := ({ x with id := m, out := (m + 1) % 3 == 0, queue := (m + 1 + 1) % 3 == 0, max := m + 1 + 1 + 1 } : PortD)) (y := mkPort m x) (j := 0) (vs := []) h7 (by show 0 + 0 ≤ 5; omega) (fun r hr => absurd hr (by simp)) (fun r hr _ => by match r, hr with | 0, _ => rfl | 1, _ => rfl | 2, _ => rfl | 3, _ => rfl | 4, _ => (show some (Value.slice x.itemsA (markL mkStr (fun _ => 1) (m + 1 + 1 + 1 + 1) x.items).length x.itemsC) = some (.slice x.itemsA x.items.length x.itemsC); rw [markL_length]))
    ·exact List.mem_cons_of_mem _ (List.mem_filterMap.2 ⟨x, List.mem_of_getElem? HX.out.1, mem_blk.1 hb⟩)
   clear hown hkb HS
   have m3 : m + 1 + 1 + 1 + 1 + (cntL (fun _ : ByteArray => 1) x.items : Nat) ≤ 90000000 := HX.out.2.2.1
   go_wp2
   go_roundw
   case rel => exact ⟨j + 1, m + 1 + 1 + 1 + 1 + (cntL (fun _ : ByteArray => 1) x.items : Nat), by omega, by go_num, rfl, by omega, by omega, ⟨HX.out.2.2.2, HV.out.1, HV.out.2.1, HV.out.2.2⟩⟩
   case measure => simp [intOf]; omega
  ·have i1 : ¬ (j : Int) < (l.length : Int) := by omega
   have ej : j = l.length := by omega
   subst ej
   have HE : Hid (RowAt portK 61 wr base g cap (markL mkPort cPort k l) ∧ Mines portN wr base g (markL mkPort cPort k l) ∧ m = k + (cntL cPort l : Nat)) := by have h5 := HA.out.2.1; have h6 := HA.out.1; have h7 := HA.out.2.2.1; rw [List.take_length, List.drop_length, List.append_nil] at h5 h7; rw [List.take_length] at h6; exact ⟨h5, h7, h6⟩
   go_wp2
   go_ret
   refine ⟨ret_int HE.out.2.2, ?_, HE.out.2.1.mine, HA.out.2.2.2⟩
   have h7 := HE.out.1.owns
   rw [markL_length] at h7
   exact h7
set_option maxRecDepth 100000 in
set_option maxHeartbeats 4000000 in
theorem heldSPort_l (a : Option Addr) (l : List PortD) (cap : Nat) (k : Int) (w : World) (hl : l.length ≤ 1048576) (hk : ∀ x ∈ l, x.items.length ≤ 1048576) (h0 : 1 ≤ k) (h1 : k + (cntL cPort l : Nat) ≤ 90000000) (hr : portK.Lies w a (markL mkPort cPort k l)) :
  Calls Tryz.prog 140 #[.slice a l.length cap, .int .i64 k] w fun e w' => e = .returned (.int .i64 (k + (cntL cPort l : Nat))) ∧ Below w.heap.size w w' := by
 have HR : Hid (portK.Lies w a (markL mkPort cPort k l) ∧ k + (cntL cPort l : Nat) ≤ 90000000 ∧ ∀ x ∈ l, x.items.length ≤ 1048576) := ⟨hr, h1, hk⟩
 clear hr h1 hk
 go_enter Tryz.func140, Tryz.ntmps140
 go_wp2_with fail
 go_loopw [1, 5] (fun q i wr => ∃ (j : Nat) (m : Int), j ≤ l.length ∧ i = .int .i64 j ∧ q = .int .i64 m ∧ 1 ≤ m ∧ m ≤ 90000000 ∧ Hid (m = k + (cntL cPort (l.take j) : Nat) ∧ Below w.heap.size w wr)) (fun _ i _ => l.length - (intOf i).toNat)
 case atStart => exact ⟨0, k, Nat.zero_le _, rfl, rfl, h0, by have := HR.out.2.1; omega, ⟨by simp [cntL], Below.refl _ _⟩⟩
 case round =>
  obtain ⟨j, m, hj, rfl, rfl, m0, m1, HA⟩ := hrel
  by_cases hlt : j < l.length
  ·have i0 : (0 : Int) ≤ (j : Int) := by omega
   have i1 : (j : Int) < (l.length : Int) := by omega
   obtain ⟨x, hx⟩ : ∃ x, l[j]? = some x := ⟨_, List.getElem?_eq_getElem hlt⟩
   have hcn := cntL_take_lt (c := cPort) hx
   have hup := cntL_up (c := cPort) hx
   have hcx : cPort x = 4 + cntL (fun _ : ByteArray => 1) x.items := rfl
   have hg := markL_get (f := mkPort) (c := cPort) (k := k) hx
   rw [← HA.out.1] at hg
   have hls : portK.Lies wr a (markL mkPort cPort k l) := HR.out.1.below HA.out.2
   obtain ⟨g, ha, hat⟩ := hls.at hg
   have c0 : wr.cell? ⟨g, j * 5, none⟩ = some (.int .i64 (m)) := hat 0 _ rfl
   have c1 : wr.cell? ⟨g, j * 5 + 1, none⟩ = some (.bool ((m + 1) % 3 == 0)) := hat 1 _ rfl
   have c2 : wr.cell? ⟨g, j * 5 + 2, none⟩ = some (.bool ((m + 1 + 1) % 3 == 0)) := hat 2 _ rfl
   have c3 : wr.cell? ⟨g, j * 5 + 3, none⟩ = some (.int .i64 (m + 1 + 1 + 1)) := hat 3 _ rfl
   have cp : wr.cell? ⟨g, j * 5 + 4, none⟩ = some (.slice x.itemsA x.items.length x.itemsC) := (hat 4 _ rfl).trans (show some (Value.slice x.itemsA (markL mkStr (fun _ => 1) (m + 1 + 1 + 1 + 1) x.items).length x.itemsC) = _ by rw [markL_length])
   have HX : Hid (x.items.length ≤ 1048576 ∧ m + 1 + 1 + 1 + 1 + (cntL (fun _ : ByteArray => 1) x.items : Nat) ≤ 90000000 ∧ m + 1 + 1 + 1 + 1 + (cntL (fun _ : ByteArray => 1) x.items : Nat) = k + (cntL cPort (l.take (j + 1)) : Nat) ∧ strK.Lies wr x.itemsA (markL mkStr (fun _ => 1) (m + 1 + 1 + 1 + 1) x.items)) := ⟨HR.out.2.2 x (List.mem_of_getElem? hx), by have := HR.out.2.1; have := HA.out.1; omega, by have := HA.out.1; omega, hls.2 _ (List.mem_of_getElem? hg) (x.itemsA, strK.flat (markL mkStr (fun _ => 1) (m + 1 + 1 + 1 + 1) x.items)) (List.mem_singleton.2 rfl), fun _ _ r hr => by cases hr⟩
   have m2 : m + 1 + 1 + 1 + 1 + (cntL (fun _ : ByteArray => 1) x.items : Nat) ≤ 90000000 := HX.out.2.1
   subst ha
   clear hx hcn hup hcx hg hat hls
   go_wp2_with fail
   refine (heldSStr_l x.itemsA x.items x.itemsC (m + 1 + 1 + 1 + 1) wr HX.out.1 (by omega) HX.out.2.1 HX.out.2.2.2).mono ?_
   rintro e v ⟨rfl, hb⟩
   have HV : Hid (Below w.heap.size w v) := HA.out.2.trans (hb.mono HA.out.2.size)
   clear hb
   go_wp2
   go_roundw
   case rel => exact ⟨j + 1, m + 1 + 1 + 1 + 1 + (cntL (fun _ : ByteArray => 1) x.items : Nat), by omega, by go_num, rfl, by omega, by omega, ⟨HX.out.2.2.1, HV.out⟩⟩
   case measure => simp [intOf]; omega
  ·have i1 : ¬ (j : Int) < (l.length : Int) := by omega
   have HE : Hid (m = k + (cntL cPort l : Nat)) := by have h6 := HA.out.1; rw [List.take_of_length_le (by omega)] at h6; exact h6
   go_wp2
   go_ret
   exact ⟨ret_int HE.out, HA.out.2⟩
end Go.Proofs.YtkbcplnlehdjfaaGreat

/- A partition in memory of its own, while it is made: a thing more in one of its lists. (Made by mkpartadd.py.) -/
namespace Go.Proofs.YtkbcplnlehdjfaaGreat
open Go.RowKit
theorem nodup_grow {Z A A' K k R : List Nat} (h : (Z ++ (A ++ (K ++ R))).Nodup) (hA : A'.Nodup) (hk : k.Nodup) (h1 : ∀ g ∈ A', g ∉ Z ∧ g ∉ K ∧ g ∉ k ∧ g ∉ R) (h2 : ∀ g ∈ k, g ∉ Z ∧ g ∉ K ∧ g ∉ R) : (Z ++ (A' ++ ((K ++ k) ++ R))).Nodup := by
 simp only [List.nodup_append, List.mem_append] at h ⊢
 obtain ⟨hz, ⟨-, ⟨hK, hR, hKR⟩, -⟩, hzz⟩ := h
 refine ⟨hz, ⟨hA, ⟨⟨hK, hk, fun a ha b hb e => (h2 b hb).2.1 (e ▸ ha)⟩, hR, fun a ha b hb e => ?_⟩, fun a ha b hb e => ?_⟩, fun a ha b hb e => ?_⟩
 ·rcases ha with ha | ha
  ·exact hKR a ha b hb e
  ·exact (h2 a ha).2.2 (e ▸ hb)
 ·subst e
  rcases hb with (hb | hb) | hb
  ·exact (h1 a ha).2.1 hb
  ·exact (h1 a ha).2.2.1 hb
  ·exact (h1 a ha).2.2.2 hb
 ·subst e
  rcases hb with hb | (hb | hb) | hb
  ·exact (h1 a hb).1 ha
  ·exact hzz a ha a (.inr (.inl hb)) rfl
  ·exact (h2 a hb).1 ha
  ·exact hzz a ha a (.inr (.inr hb)) rfl
theorem blk_nodup (a : Option Addr) : (blk a).Nodup := by cases a <;> simp [blk]
theorem kidL_nodup {α : Type} (N : Nest α) (x : α) : ([x].filterMap N.kid).Nodup := by
 cases h : N.kid x <;> simp [h]
theorem exists_kid {α : Type} {N : Nest α} {l : List α} {y : α} {g : Nat} (hy : y ∈ l) (hk : N.kid y = some g) : (∃ a, a ∈ l ∧ N.kid a = some g) = True := by simp only [eq_iff_iff, iff_true]; exact ⟨y, hy, hk⟩
theorem mem_kidL {α : Type} {N : Nest α} {x : α} {g : Nat} : g ∈ [x].filterMap N.kid ↔ N.kid x = some g := by simp
/-- One more of the kind Proc. -/
theorem PartOwn.addProc {w w' : World} {base : Nat} {q : PartD} {x : ProcD} {a : Option Addr} {c : Nat} (h : PartOwn w base q) (hm : procN.Mine w base x) (hx : ∀ g, procN.kid x = some g → g ∉ q.blocks)
  (ho : w'.ownsRow base 43 12 (.slice a (q.procs.length + 1) c) (q.procs.length + 1) (procK.flat (q.procs ++ [x]))) (hg : ∀ g, g < w.heap.size → g ∉ blk q.procA → w'.heap[g]? = w.heap[g]?) (hb : ∀ g ∈ blk a, g ∈ blk q.procA ∨ g = w.heap.size) :
  PartOwn w' base ({ q with procs := q.procs ++ [x], procA := a, procC := c } : PartD) ∧ ∀ g ∈ ({ q with procs := q.procs ++ [x], procA := a, procC := c } : PartD).blocks, g ∈ q.blocks ∨ procN.kid x = some g ∨ g = w.heap.size := by
 have hbs : q.blocks = [] ++ (blk q.procA ++ (q.procs.filterMap procN.kid ++ (blk q.semA ++ (blk q.eventA ++ (blk q.boardA ++ (blk q.bufferA ++ (q.buffers.filterMap bufferN.kid ++ (blk q.portA ++ q.ports.filterMap portN.kid)))))))) := by simp [PartD.blocks]
 have hbn : ({ q with procs := q.procs ++ [x], procA := a, procC := c } : PartD).blocks = [] ++ (blk a ++ ((q.procs.filterMap procN.kid ++ [x].filterMap procN.kid) ++ (blk q.semA ++ (blk q.eventA ++ (blk q.boardA ++ (blk q.bufferA ++ (q.buffers.filterMap bufferN.kid ++ (blk q.portA ++ q.ports.filterMap portN.kid)))))))) := by simp only [PartD.blocks, List.append_assoc, List.filterMap_append, List.nil_append]
 have hnd := h.nodup
 rw [hbs] at hnd
 have hlt : ∀ g ∈ q.blocks, g < w.heap.size := fun g hg => (h.lt g hg).2
 have hapart : ∀ g ∈ q.blocks, g ∉ blk q.procA → w'.heap[g]? = w.heap[g]? := fun g hgm hn => hg g (hlt g hgm) hn
 have hdis : ∀ g, (g ∈ [] ∨ g ∈ q.procs.filterMap procN.kid ∨ g ∈ (blk q.semA ++ (blk q.eventA ++ (blk q.boardA ++ (blk q.bufferA ++ (q.buffers.filterMap bufferN.kid ++ (blk q.portA ++ q.ports.filterMap portN.kid))))))) → g ∉ blk q.procA := fun g hgm hA => by
  obtain ⟨-, h2, h3⟩ := List.nodup_append.1 hnd
  obtain ⟨-, -, h4⟩ := List.nodup_append.1 h2
  rcases hgm with hgm | hgm | hgm
  ·exact h3 g hgm g (List.mem_append_left _ hA) rfl
  ·exact h4 g hA g (List.mem_append_left _ hgm) rfl
  ·exact h4 g hA g (List.mem_append_right _ hgm) rfl
 have hmem : ∀ g, (g ∈ [] ∨ g ∈ q.procs.filterMap procN.kid ∨ g ∈ (blk q.semA ++ (blk q.eventA ++ (blk q.boardA ++ (blk q.bufferA ++ (q.buffers.filterMap bufferN.kid ++ (blk q.portA ++ q.ports.filterMap portN.kid))))))) → g ∈ q.blocks := fun g hgm => by
  rw [hbs]
  simp only [List.mem_append]
  simp only [List.mem_append] at hgm
  rcases hgm with hgm | hgm | hgm
  ·exact .inl hgm
  ·exact .inr (.inr (.inl hgm))
  ·exact .inr (.inr (.inr hgm))
 have hs : ∀ g, (g ∈ [] ∨ g ∈ q.procs.filterMap procN.kid ∨ g ∈ (blk q.semA ++ (blk q.eventA ++ (blk q.boardA ++ (blk q.bufferA ++ (q.buffers.filterMap bufferN.kid ++ (blk q.portA ++ q.ports.filterMap portN.kid))))))) → w'.heap[g]? = w.heap[g]? := fun g hgm => hapart g (hmem g hgm) (hdis g hgm)
 have hxs : ∀ g, procN.kid x = some g → w'.heap[g]? = w.heap[g]? := fun g hk => hg g (hm.lt hk).2 fun hA => hx g hk (by rw [hbs]; simp only [List.mem_append]; exact .inr (.inl hA))
 refine ⟨⟨(by simpa using ho), own_same h.sems fun g hgm => hs g (.inr <| .inr (by simp [hgm])), own_same h.events fun g hgm => hs g (.inr <| .inr (by simp [hgm])), own_same h.boards fun g hgm => hs g (.inr <| .inr (by simp [hgm])), own_same h.buffers fun g hgm => hs g (.inr <| .inr (by simp [hgm])), own_same h.ports fun g hgm => hs g (.inr <| .inr (by simp [hgm])), fun y hy => by
  rcases List.mem_append.1 hy with hy | hy
  ·exact (h.mineP y hy).same fun g hk => hs g (.inr (.inl (List.mem_filterMap.2 ⟨y, hy, hk⟩)))
  ·simp only [List.mem_cons, List.not_mem_nil, or_false] at hy
   subst hy
   exact hm.same hxs, fun y hy => (h.mineF y hy).same fun g hk => hs g (.inr <| .inr (by simp only [List.mem_append, List.mem_filterMap]; simp [exists_kid hy hk])), fun y hy => (h.mineQ y hy).same fun g hk => hs g (.inr <| .inr (by simp only [List.mem_append, List.mem_filterMap]; simp [exists_kid hy hk])), ?_⟩, ?_⟩
 ·rw [hbn]
  refine nodup_grow hnd (blk_nodup a) (kidL_nodup _ x) (fun g hga => ?_) (fun g hgk => ?_)
  ·have key : ∀ g', (g' ∈ [] ∨ g' ∈ q.procs.filterMap procN.kid ∨ g' ∈ (blk q.semA ++ (blk q.eventA ++ (blk q.boardA ++ (blk q.bufferA ++ (q.buffers.filterMap bufferN.kid ++ (blk q.portA ++ q.ports.filterMap portN.kid))))))) → g' ≠ g := fun g' hg' e => by
    rcases hb g hga with h1 | h1
    ·exact hdis g' hg' (e ▸ h1)
    ·have := hlt g' (hmem g' hg')
     omega
   refine ⟨fun hz => key g (.inl hz) rfl, fun hz => key g (.inr (.inl hz)) rfl, fun hz => ?_, fun hz => key g (.inr (.inr hz)) rfl⟩
   rw [mem_kidL] at hz
   rcases hb g hga with h1 | h1
   ·exact hx g hz (by rw [hbs]; simp only [List.mem_append]; exact .inr (.inl h1))
   ·have := (hm.lt hz).2
    omega
  ·rw [mem_kidL] at hgk
   have hn := hx g hgk
   exact ⟨fun hz => hn (hmem g (.inl hz)), fun hz => hn (hmem g (.inr (.inl hz))), fun hz => hn (hmem g (.inr (.inr hz)))⟩
 ·intro g hgm
  rw [hbn] at hgm
  rw [hbs]
  simp only [List.mem_append] at hgm ⊢
  rcases hgm with hgm | hgm | (hgm | hgm) | hgm
  ·exact .inl (.inl hgm)
  ·rcases hb g hgm with h1 | h1
   ·exact .inl (.inr (.inl h1))
   ·exact .inr (.inr h1)
  ·exact .inl (.inr (.inr (.inl hgm)))
  ·exact .inr (.inl (mem_kidL.1 hgm))
  ·exact .inl (.inr (.inr (.inr hgm)))
/-- One more of the kind Buffer. -/
theorem PartOwn.addBuffer {w w' : World} {base : Nat} {q : PartD} {x : BufferD} {a : Option Addr} {c : Nat} (h : PartOwn w base q) (hm : bufferN.Mine w base x) (hx : ∀ g, bufferN.kid x = some g → g ∉ q.blocks)
  (ho : w'.ownsRow base 144 3 (.slice a (q.buffers.length + 1) c) (q.buffers.length + 1) (bufferK.flat (q.buffers ++ [x]))) (hg : ∀ g, g < w.heap.size → g ∉ blk q.bufferA → w'.heap[g]? = w.heap[g]?) (hb : ∀ g ∈ blk a, g ∈ blk q.bufferA ∨ g = w.heap.size) :
  PartOwn w' base ({ q with buffers := q.buffers ++ [x], bufferA := a, bufferC := c } : PartD) ∧ ∀ g ∈ ({ q with buffers := q.buffers ++ [x], bufferA := a, bufferC := c } : PartD).blocks, g ∈ q.blocks ∨ bufferN.kid x = some g ∨ g = w.heap.size := by
 have hbs : q.blocks = (blk q.procA ++ q.procs.filterMap procN.kid ++ blk q.semA ++ blk q.eventA ++ blk q.boardA) ++ (blk q.bufferA ++ (q.buffers.filterMap bufferN.kid ++ (blk q.portA ++ q.ports.filterMap portN.kid))) := by simp [PartD.blocks, List.append_assoc]
 have hbn : ({ q with buffers := q.buffers ++ [x], bufferA := a, bufferC := c } : PartD).blocks = (blk q.procA ++ q.procs.filterMap procN.kid ++ blk q.semA ++ blk q.eventA ++ blk q.boardA) ++ (blk a ++ ((q.buffers.filterMap bufferN.kid ++ [x].filterMap bufferN.kid) ++ (blk q.portA ++ q.ports.filterMap portN.kid))) := by simp only [PartD.blocks, List.append_assoc, List.filterMap_append]
 have hnd := h.nodup
 rw [hbs] at hnd
 have hlt : ∀ g ∈ q.blocks, g < w.heap.size := fun g hg => (h.lt g hg).2
 have hapart : ∀ g ∈ q.blocks, g ∉ blk q.bufferA → w'.heap[g]? = w.heap[g]? := fun g hgm hn => hg g (hlt g hgm) hn
 have hdis : ∀ g, (g ∈ (blk q.procA ++ q.procs.filterMap procN.kid ++ blk q.semA ++ blk q.eventA ++ blk q.boardA) ∨ g ∈ q.buffers.filterMap bufferN.kid ∨ g ∈ (blk q.portA ++ q.ports.filterMap portN.kid)) → g ∉ blk q.bufferA := fun g hgm hA => by
  obtain ⟨-, h2, h3⟩ := List.nodup_append.1 hnd
  obtain ⟨-, -, h4⟩ := List.nodup_append.1 h2
  rcases hgm with hgm | hgm | hgm
  ·exact h3 g hgm g (List.mem_append_left _ hA) rfl
  ·exact h4 g hA g (List.mem_append_left _ hgm) rfl
  ·exact h4 g hA g (List.mem_append_right _ hgm) rfl
 have hmem : ∀ g, (g ∈ (blk q.procA ++ q.procs.filterMap procN.kid ++ blk q.semA ++ blk q.eventA ++ blk q.boardA) ∨ g ∈ q.buffers.filterMap bufferN.kid ∨ g ∈ (blk q.portA ++ q.ports.filterMap portN.kid)) → g ∈ q.blocks := fun g hgm => by
  rw [hbs]
  simp only [List.mem_append]
  simp only [List.mem_append] at hgm
  rcases hgm with hgm | hgm | hgm
  ·exact .inl hgm
  ·exact .inr (.inr (.inl hgm))
  ·exact .inr (.inr (.inr hgm))
 have hs : ∀ g, (g ∈ (blk q.procA ++ q.procs.filterMap procN.kid ++ blk q.semA ++ blk q.eventA ++ blk q.boardA) ∨ g ∈ q.buffers.filterMap bufferN.kid ∨ g ∈ (blk q.portA ++ q.ports.filterMap portN.kid)) → w'.heap[g]? = w.heap[g]? := fun g hgm => hapart g (hmem g hgm) (hdis g hgm)
 have hxs : ∀ g, bufferN.kid x = some g → w'.heap[g]? = w.heap[g]? := fun g hk => hg g (hm.lt hk).2 fun hA => hx g hk (by rw [hbs]; simp only [List.mem_append]; exact .inr (.inl hA))
 refine ⟨⟨own_same h.procs fun g hgm => hs g (.inl (by simp [hgm])), own_same h.sems fun g hgm => hs g (.inl (by simp [hgm])), own_same h.events fun g hgm => hs g (.inl (by simp [hgm])), own_same h.boards fun g hgm => hs g (.inl (by simp [hgm])), (by simpa using ho), own_same h.ports fun g hgm => hs g (.inr <| .inr (by simp [hgm])), fun y hy => (h.mineP y hy).same fun g hk => hs g (.inl (by simp only [List.mem_append, List.mem_filterMap]; simp [exists_kid hy hk])), fun y hy => by
  rcases List.mem_append.1 hy with hy | hy
  ·exact (h.mineF y hy).same fun g hk => hs g (.inr (.inl (List.mem_filterMap.2 ⟨y, hy, hk⟩)))
  ·simp only [List.mem_cons, List.not_mem_nil, or_false] at hy
   subst hy
   exact hm.same hxs, fun y hy => (h.mineQ y hy).same fun g hk => hs g (.inr <| .inr (by simp only [List.mem_append, List.mem_filterMap]; simp [exists_kid hy hk])), ?_⟩, ?_⟩
 ·rw [hbn]
  refine nodup_grow hnd (blk_nodup a) (kidL_nodup _ x) (fun g hga => ?_) (fun g hgk => ?_)
  ·have key : ∀ g', (g' ∈ (blk q.procA ++ q.procs.filterMap procN.kid ++ blk q.semA ++ blk q.eventA ++ blk q.boardA) ∨ g' ∈ q.buffers.filterMap bufferN.kid ∨ g' ∈ (blk q.portA ++ q.ports.filterMap portN.kid)) → g' ≠ g := fun g' hg' e => by
    rcases hb g hga with h1 | h1
    ·exact hdis g' hg' (e ▸ h1)
    ·have := hlt g' (hmem g' hg')
     omega
   refine ⟨fun hz => key g (.inl hz) rfl, fun hz => key g (.inr (.inl hz)) rfl, fun hz => ?_, fun hz => key g (.inr (.inr hz)) rfl⟩
   rw [mem_kidL] at hz
   rcases hb g hga with h1 | h1
   ·exact hx g hz (by rw [hbs]; simp only [List.mem_append]; exact .inr (.inl h1))
   ·have := (hm.lt hz).2
    omega
  ·rw [mem_kidL] at hgk
   have hn := hx g hgk
   exact ⟨fun hz => hn (hmem g (.inl hz)), fun hz => hn (hmem g (.inr (.inl hz))), fun hz => hn (hmem g (.inr (.inr hz)))⟩
 ·intro g hgm
  rw [hbn] at hgm
  rw [hbs]
  simp only [List.mem_append] at hgm ⊢
  rcases hgm with hgm | hgm | (hgm | hgm) | hgm
  ·exact .inl (.inl hgm)
  ·rcases hb g hgm with h1 | h1
   ·exact .inl (.inr (.inl h1))
   ·exact .inr (.inr h1)
  ·exact .inl (.inr (.inr (.inl hgm)))
  ·exact .inr (.inl (mem_kidL.1 hgm))
  ·exact .inl (.inr (.inr (.inr hgm)))
/-- One more of the kind Port. -/
theorem PartOwn.addPort {w w' : World} {base : Nat} {q : PartD} {x : PortD} {a : Option Addr} {c : Nat} (h : PartOwn w base q) (hm : portN.Mine w base x) (hx : ∀ g, portN.kid x = some g → g ∉ q.blocks)
  (ho : w'.ownsRow base 61 5 (.slice a (q.ports.length + 1) c) (q.ports.length + 1) (portK.flat (q.ports ++ [x]))) (hg : ∀ g, g < w.heap.size → g ∉ blk q.portA → w'.heap[g]? = w.heap[g]?) (hb : ∀ g ∈ blk a, g ∈ blk q.portA ∨ g = w.heap.size) :
  PartOwn w' base ({ q with ports := q.ports ++ [x], portA := a, portC := c } : PartD) ∧ ∀ g ∈ ({ q with ports := q.ports ++ [x], portA := a, portC := c } : PartD).blocks, g ∈ q.blocks ∨ portN.kid x = some g ∨ g = w.heap.size := by
 have hbs : q.blocks = (blk q.procA ++ q.procs.filterMap procN.kid ++ blk q.semA ++ blk q.eventA ++ blk q.boardA ++ blk q.bufferA ++ q.buffers.filterMap bufferN.kid) ++ (blk q.portA ++ (q.ports.filterMap portN.kid ++ [])) := by simp [PartD.blocks, List.append_assoc]
 have hbn : ({ q with ports := q.ports ++ [x], portA := a, portC := c } : PartD).blocks = (blk q.procA ++ q.procs.filterMap procN.kid ++ blk q.semA ++ blk q.eventA ++ blk q.boardA ++ blk q.bufferA ++ q.buffers.filterMap bufferN.kid) ++ (blk a ++ ((q.ports.filterMap portN.kid ++ [x].filterMap portN.kid) ++ [])) := by simp only [PartD.blocks, List.append_assoc, List.filterMap_append, List.append_nil]
 have hnd := h.nodup
 rw [hbs] at hnd
 have hlt : ∀ g ∈ q.blocks, g < w.heap.size := fun g hg => (h.lt g hg).2
 have hapart : ∀ g ∈ q.blocks, g ∉ blk q.portA → w'.heap[g]? = w.heap[g]? := fun g hgm hn => hg g (hlt g hgm) hn
 have hdis : ∀ g, (g ∈ (blk q.procA ++ q.procs.filterMap procN.kid ++ blk q.semA ++ blk q.eventA ++ blk q.boardA ++ blk q.bufferA ++ q.buffers.filterMap bufferN.kid) ∨ g ∈ q.ports.filterMap portN.kid ∨ g ∈ []) → g ∉ blk q.portA := fun g hgm hA => by
  obtain ⟨-, h2, h3⟩ := List.nodup_append.1 hnd
  obtain ⟨-, -, h4⟩ := List.nodup_append.1 h2
  rcases hgm with hgm | hgm | hgm
  ·exact h3 g hgm g (List.mem_append_left _ hA) rfl
  ·exact h4 g hA g (List.mem_append_left _ hgm) rfl
  ·exact h4 g hA g (List.mem_append_right _ hgm) rfl
 have hmem : ∀ g, (g ∈ (blk q.procA ++ q.procs.filterMap procN.kid ++ blk q.semA ++ blk q.eventA ++ blk q.boardA ++ blk q.bufferA ++ q.buffers.filterMap bufferN.kid) ∨ g ∈ q.ports.filterMap portN.kid ∨ g ∈ []) → g ∈ q.blocks := fun g hgm => by
  rw [hbs]
  simp only [List.mem_append]
  simp only [List.mem_append] at hgm
  rcases hgm with hgm | hgm | hgm
  ·exact .inl hgm
  ·exact .inr (.inr (.inl hgm))
  ·exact .inr (.inr (.inr hgm))
 have hs : ∀ g, (g ∈ (blk q.procA ++ q.procs.filterMap procN.kid ++ blk q.semA ++ blk q.eventA ++ blk q.boardA ++ blk q.bufferA ++ q.buffers.filterMap bufferN.kid) ∨ g ∈ q.ports.filterMap portN.kid ∨ g ∈ []) → w'.heap[g]? = w.heap[g]? := fun g hgm => hapart g (hmem g hgm) (hdis g hgm)
 have hxs : ∀ g, portN.kid x = some g → w'.heap[g]? = w.heap[g]? := fun g hk => hg g (hm.lt hk).2 fun hA => hx g hk (by rw [hbs]; simp only [List.mem_append]; exact .inr (.inl hA))
 refine ⟨⟨own_same h.procs fun g hgm => hs g (.inl (by simp [hgm])), own_same h.sems fun g hgm => hs g (.inl (by simp [hgm])), own_same h.events fun g hgm => hs g (.inl (by simp [hgm])), own_same h.boards fun g hgm => hs g (.inl (by simp [hgm])), own_same h.buffers fun g hgm => hs g (.inl (by simp [hgm])), (by simpa using ho), fun y hy => (h.mineP y hy).same fun g hk => hs g (.inl (by simp only [List.mem_append, List.mem_filterMap]; simp [exists_kid hy hk])), fun y hy => (h.mineF y hy).same fun g hk => hs g (.inl (by simp only [List.mem_append, List.mem_filterMap]; simp [exists_kid hy hk])), fun y hy => by
  rcases List.mem_append.1 hy with hy | hy
  ·exact (h.mineQ y hy).same fun g hk => hs g (.inr (.inl (List.mem_filterMap.2 ⟨y, hy, hk⟩)))
  ·simp only [List.mem_cons, List.not_mem_nil, or_false] at hy
   subst hy
   exact hm.same hxs, ?_⟩, ?_⟩
 ·rw [hbn]
  refine nodup_grow hnd (blk_nodup a) (kidL_nodup _ x) (fun g hga => ?_) (fun g hgk => ?_)
  ·have key : ∀ g', (g' ∈ (blk q.procA ++ q.procs.filterMap procN.kid ++ blk q.semA ++ blk q.eventA ++ blk q.boardA ++ blk q.bufferA ++ q.buffers.filterMap bufferN.kid) ∨ g' ∈ q.ports.filterMap portN.kid ∨ g' ∈ []) → g' ≠ g := fun g' hg' e => by
    rcases hb g hga with h1 | h1
    ·exact hdis g' hg' (e ▸ h1)
    ·have := hlt g' (hmem g' hg')
     omega
   refine ⟨fun hz => key g (.inl hz) rfl, fun hz => key g (.inr (.inl hz)) rfl, fun hz => ?_, fun hz => key g (.inr (.inr hz)) rfl⟩
   rw [mem_kidL] at hz
   rcases hb g hga with h1 | h1
   ·exact hx g hz (by rw [hbs]; simp only [List.mem_append]; exact .inr (.inl h1))
   ·have := (hm.lt hz).2
    omega
  ·rw [mem_kidL] at hgk
   have hn := hx g hgk
   exact ⟨fun hz => hn (hmem g (.inl hz)), fun hz => hn (hmem g (.inr (.inl hz))), fun hz => hn (hmem g (.inr (.inr hz)))⟩
 ·intro g hgm
  rw [hbn] at hgm
  rw [hbs]
  simp only [List.mem_append] at hgm ⊢
  rcases hgm with hgm | hgm | (hgm | hgm) | hgm
  ·exact .inl (.inl hgm)
  ·rcases hb g hgm with h1 | h1
   ·exact .inl (.inr (.inl h1))
   ·exact .inr (.inr h1)
  ·exact .inl (.inr (.inr (.inl hgm)))
  ·exact .inr (.inl (mem_kidL.1 hgm))
  ·exact .inl (.inr (.inr (.inr hgm)))
end Go.Proofs.YtkbcplnlehdjfaaGreat
