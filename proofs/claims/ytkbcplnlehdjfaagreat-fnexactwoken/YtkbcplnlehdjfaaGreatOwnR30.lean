/- What the proof leans on, part 30: MkBuffer, TdBuffer, TdPort, TdBoard, TdEvent, TdSem. -/
import Derived.Test.YtkbcplnlehdjfaaGreatOwnR10
import Derived.Test.YtkbcplnlehdjfaaGreatOwnR27
import Derived.Test.YtkbcplnlehdjfaaGreatOwnR28

namespace Go.Proofs.YtkbcplnlehdjfaaGreat
open Go.RowKit
attribute [local go_sem ↓] Go.wp_at_zero Go.wp_at_succ
def cBuffer (x : BufferD) : Nat := 2 + cntL (fun _ : ByteArray => 1) x.items
def mkBuffer (k : Int) (x : BufferD) : BufferD := { x with id := k, max := k + 1, items := markL mkStr (fun _ => 1) (k + 1 + 1) x.items }
set_option maxRecDepth 100000 in
set_option maxHeartbeats 4000000 in
theorem markSBuffer_l (a : Option Addr) (l : List BufferD) (cap : Nat) (k : Int) (w : World) (base : Nat) (hl : l.length ≤ 1048576) (hk : ∀ x ∈ l, x.items.length ≤ 1048576) (h0 : 1 ≤ k) (h1 : k + (cntL cBuffer l : Nat) ≤ 90000000) (ho : w.ownsRow base 144 3 (.slice a l.length cap) l.length (bufferK.flat l)) (hm : ∀ x ∈ l, bufferN.Mine w base x) (hn : (blk a ++ l.filterMap bufferN.kid).Nodup) :
  Calls Tryz.prog 132 #[.slice a l.length cap, .int .i64 k] w fun e w' => e = .returned (.int .i64 (k + (cntL cBuffer l : Nat))) ∧ w'.ownsRow base 144 3 (.slice a l.length cap) l.length (bufferK.flat (markL mkBuffer cBuffer k l)) ∧ (∀ y ∈ markL mkBuffer cBuffer k l, bufferN.Mine w' base y) ∧ KeptBut w w' (blk a ++ l.filterMap bufferN.kid) := by
 by_cases hz : l.length = 0
 ·have hl0 : l = [] := List.eq_nil_of_length_eq_zero hz
  subst hl0
  have HO : Hid (w.ownsRow base 144 3 (.slice a 0 cap) 0 (bufferK.flat [])) := ho
  clear ho
  go_enter Tryz.func132, Tryz.ntmps132
  go_wp2_with fail
  go_loopw [1, 5] (fun q i wr => q = .int .i64 k ∧ i = .int .i64 0 ∧ wr = w) (fun _ _ _ => 0)
  case atStart => exact ⟨rfl, rfl, rfl⟩
  case round =>
   obtain ⟨rfl, rfl, rfl⟩ := hrel
   go_wp2
   go_ret
   exact ⟨ret_int (by simp [cntL]), HO.out, (fun y hy => by cases hy), KeptBut.refl _ _⟩
 obtain ⟨g, rfl, hrow⟩ := RowAt.of_owns (K := bufferK) ho hz
 have HR : Hid (RowAt bufferK 144 w base g cap l ∧ Mines bufferN w base g l) := ⟨hrow, hm, hn⟩
 have HB : Hid (k + (cntL cBuffer l : Nat) ≤ 90000000 ∧ ∀ x ∈ l, x.items.length ≤ 1048576) := ⟨h1, hk⟩
 clear ho hrow h1 hz hm hn hk
 go_enter Tryz.func132, Tryz.ntmps132
 go_wp2_with fail
 go_loopw [1, 5] (fun q i wr => ∃ (j : Nat) (m : Int), j ≤ l.length ∧ i = .int .i64 j ∧ q = .int .i64 m ∧ 1 ≤ m ∧ m ≤ 90000000 ∧ Hid (m = k + (cntL cBuffer (l.take j) : Nat) ∧ RowAt bufferK 144 wr base g cap (markL mkBuffer cBuffer k (l.take j) ++ l.drop j) ∧ Mines bufferN wr base g (markL mkBuffer cBuffer k (l.take j) ++ l.drop j) ∧ KeptBut w wr (g :: l.filterMap bufferN.kid))) (fun _ i _ => l.length - (intOf i).toNat)
 case atStart => exact ⟨0, k, Nat.zero_le _, rfl, rfl, h0, by have := HB.out.1; omega, ⟨by simp [cntL], HR.out.1, HR.out.2, KeptBut.refl _ _⟩⟩
 case round =>
  clear HR
  obtain ⟨j, m, hj, rfl, rfl, m0, m1, HA⟩ := hrel
  by_cases hlt : j < l.length
  ·have i0 : (0 : Int) ≤ (j : Int) := by omega
   have i1 : (j : Int) < (l.length : Int) := by omega
   obtain ⟨x, hx⟩ : ∃ x, l[j]? = some x := ⟨_, List.getElem?_eq_getElem hlt⟩
   have hdr : l.drop j = x :: l.drop (j + 1) := drop_at hx
   have hcn := cntL_take_lt (c := cBuffer) hx
   have hup := cntL_up (c := cBuffer) hx
   have hcx : cBuffer x = 2 + cntL (fun _ : ByteArray => 1) x.items := rfl
   have HX : Hid (l[j]? = some x ∧ x.items.length ≤ 1048576 ∧ m + 1 + 1 + (cntL (fun _ : ByteArray => 1) x.items : Nat) ≤ 90000000 ∧ m + 1 + 1 + (cntL (fun _ : ByteArray => 1) x.items : Nat) = k + (cntL cBuffer (l.take (j + 1)) : Nat)) := ⟨hx, HB.out.2 x (List.mem_of_getElem? hx), by have := HB.out.1; have := HA.out.1; omega, by have := HA.out.1; omega⟩
   have HW : Hid (RowAt bufferK 144 wr base g cap (markL mkBuffer cBuffer k (l.take j) ++ x :: l.drop (j + 1)) ∧ (markL mkBuffer cBuffer k (l.take j)).length = j) := ⟨by have := HA.out.2.1; rwa [hdr] at this, by rw [markL_length, List.length_take]; omega⟩
   have HM : Hid (Mines bufferN wr base g (markL mkBuffer cBuffer k (l.take j) ++ x :: l.drop (j + 1))) := by have := HA.out.2.2.1; rwa [hdr] at this
   have m2 : m + 1 + 1 ≤ 90000000 := by have := HX.out.2.2.1; omega
   have hgl : g < wr.heap.size := HW.out.1.lt
   clear hx hdr hcn hup hcx
   have q0 := RowAt.at_mid HW.out.1 HW.out.2 (r := 0) (by decide : 0 < bufferK.n)
   obtain ⟨⟨u0, c0⟩, f0⟩ : (∃ u, wr.cell? ⟨g, j * 3, none⟩ = some u) ∧ wr.frozen? ⟨g, j * 3, none⟩ = false := q0
   have q1 := RowAt.at_mid HW.out.1 HW.out.2 (r := 1) (by decide : 1 < bufferK.n)
   obtain ⟨⟨u1, c1⟩, f1⟩ : (∃ u, wr.cell? ⟨g, j * 3 + 1, none⟩ = some u) ∧ wr.frozen? ⟨g, j * 3 + 1, none⟩ = false := q1
   have c2 : wr.cell? ⟨g, j * 3 + 2, none⟩ = some (.slice x.itemsA x.items.length x.itemsC) := (RowAt.mid_cell HW.out.1 HW.out.2 (r := 2) (by decide : 2 < bufferK.n))
   have h5 := RowAt.part (K := bufferK) (x := x) (y := ({ x with id := m, max := m + 1 } : BufferD)) (j := 0) (vs := [.int .i64 (m), .int .i64 (m + 1)]) HW.out.1 (by show 0 + 2 ≤ 3; omega) (fun r hr => by match r, hr with | 0, _ => rfl | 1, _ => rfl) (fun r hr hn => by match r, hr, hn with | 0, _, hn => exact absurd ⟨by omega, by show 0 < 0 + 2; omega⟩ hn | 1, _, hn => exact absurd ⟨by omega, by show 1 < 0 + 2; omega⟩ hn | 2, _, _ => rfl)
   rw [HW.out.2, show bufferK.n = 3 from rfl] at h5
   have h6 : KeptBut wr (setAllW wr g (j * 3) [.int .i64 (m), .int .i64 (m + 1)]) [g] := KeptBut.set _ (by simp)
   simp only [setAllW, Nat.add_zero] at h5 h6
   have HS : Hid (RowAt bufferK 144 ((wr.setCell ⟨g, j * 3, none⟩ (.int .i64 (m))).setCell ⟨g, j * 3 + 1, none⟩ (.int .i64 (m + 1))) base g cap (markL mkBuffer cBuffer k (l.take j) ++ ({ x with id := m, max := m + 1 } : BufferD) :: l.drop (j + 1)) ∧ Mines bufferN ((wr.setCell ⟨g, j * 3, none⟩ (.int .i64 (m))).setCell ⟨g, j * 3 + 1, none⟩ (.int .i64 (m + 1))) base g (markL mkBuffer cBuffer k (l.take j) ++ ({ x with id := m, max := m + 1 } : BufferD) :: l.drop (j + 1)) ∧ KeptBut w ((wr.setCell ⟨g, j * 3, none⟩ (.int .i64 (m))).setCell ⟨g, j * 3 + 1, none⟩ (.int .i64 (m + 1))) (g :: l.filterMap bufferN.kid)) := ⟨h5, (HM.out.keep h6).turn rfl ((HM.out.keep h6).mine x (by simp)), HA.out.2.2.2.trans (h6.mono (by simp))⟩
   clear h5 h6
   go_wp2_with fail
   generalize (wr.setCell ⟨g, j * 3, none⟩ (.int .i64 (m))).setCell ⟨g, j * 3 + 1, none⟩ (.int .i64 (m + 1)) = W1 at *
   refine (markSStr_l x.itemsA x.items x.itemsC (m + 1 + 1) W1 base HX.out.2.1 (by omega) HX.out.2.2.1 (HS.out.2.1.mine ({ x with id := m, max := m + 1 } : BufferD) (by simp))).mono ?_
   rintro e v ⟨rfl, hown, hkb⟩
   have HV : Hid (RowAt bufferK 144 v base g cap (markL mkBuffer cBuffer k (l.take (j + 1)) ++ l.drop (j + 1)) ∧ Mines bufferN v base g (markL mkBuffer cBuffer k (l.take (j + 1)) ++ l.drop (j + 1)) ∧ KeptBut w v (g :: l.filterMap bufferN.kid)) := by
    have hap := HS.out.2.1.apart (z := ({ x with id := m, max := m + 1 } : BufferD)) (by simp)
    rw [markL_up HX.out.1, List.append_assoc, ← HA.out.1]
    have h7 := HS.out.1.same (hkb.same g HS.out.1.lt hap)
    have hm7 : bufferN.Mine v base (mkBuffer m x) := by
     show v.ownsRow base _ 1 (.slice x.itemsA (markL mkStr (fun _ => 1) (m + 1 + 1) x.items).length x.itemsC) (markL mkStr (fun _ => 1) (m + 1 + 1) x.items).length (strK.flat (markL mkStr (fun _ => 1) (m + 1 + 1) x.items))
     rw [markL_length]
     exact hown
    refine ⟨?_, HS.out.2.1.inner hkb rfl hm7, HS.out.2.2.trans (hkb.mono fun b hb => ?_)⟩
    ·exact RowAt.part (K := bufferK) (x := ({ x with id := m, max := m + 1 } : BufferD)) (y := mkBuffer m x) (j := 0) (vs := []) h7 (by show 0 + 0 ≤ 3; omega) (fun r hr => absurd hr (by simp)) (fun r hr _ => by match r, hr with | 0, _ => rfl | 1, _ => rfl | 2, _ => (show some (Value.slice x.itemsA (markL mkStr (fun _ => 1) (m + 1 + 1) x.items).length x.itemsC) = some (.slice x.itemsA x.items.length x.itemsC); rw [markL_length]))
    ·exact List.mem_cons_of_mem _ (List.mem_filterMap.2 ⟨x, List.mem_of_getElem? HX.out.1, mem_blk.1 hb⟩)
   clear hown hkb HS
   have m3 : m + 1 + 1 + (cntL (fun _ : ByteArray => 1) x.items : Nat) ≤ 90000000 := HX.out.2.2.1
   go_wp2
   go_roundw
   case rel => exact ⟨j + 1, m + 1 + 1 + (cntL (fun _ : ByteArray => 1) x.items : Nat), by omega, by go_num, rfl, by omega, by omega, ⟨HX.out.2.2.2, HV.out.1, HV.out.2.1, HV.out.2.2⟩⟩
   case measure => simp [intOf]; omega
  ·have i1 : ¬ (j : Int) < (l.length : Int) := by omega
   have ej : j = l.length := by omega
   subst ej
   have HE : Hid (RowAt bufferK 144 wr base g cap (markL mkBuffer cBuffer k l) ∧ Mines bufferN wr base g (markL mkBuffer cBuffer k l) ∧ m = k + (cntL cBuffer l : Nat)) := by have h5 := HA.out.2.1; have h6 := HA.out.1; have h7 := HA.out.2.2.1; rw [List.take_length, List.drop_length, List.append_nil] at h5 h7; rw [List.take_length] at h6; exact ⟨h5, h7, h6⟩
   go_wp2
   go_ret
   refine ⟨ret_int HE.out.2.2, ?_, HE.out.2.1.mine, HA.out.2.2.2⟩
   have h7 := HE.out.1.owns
   rw [markL_length] at h7
   exact h7
set_option maxRecDepth 100000 in
set_option maxHeartbeats 4000000 in
theorem heldSBuffer_l (a : Option Addr) (l : List BufferD) (cap : Nat) (k : Int) (w : World) (hl : l.length ≤ 1048576) (hk : ∀ x ∈ l, x.items.length ≤ 1048576) (h0 : 1 ≤ k) (h1 : k + (cntL cBuffer l : Nat) ≤ 90000000) (hr : bufferK.Lies w a (markL mkBuffer cBuffer k l)) :
  Calls Tryz.prog 139 #[.slice a l.length cap, .int .i64 k] w fun e w' => e = .returned (.int .i64 (k + (cntL cBuffer l : Nat))) ∧ Below w.heap.size w w' := by
 have HR : Hid (bufferK.Lies w a (markL mkBuffer cBuffer k l) ∧ k + (cntL cBuffer l : Nat) ≤ 90000000 ∧ ∀ x ∈ l, x.items.length ≤ 1048576) := ⟨hr, h1, hk⟩
 clear hr h1 hk
 go_enter Tryz.func139, Tryz.ntmps139
 go_wp2_with fail
 go_loopw [1, 5] (fun q i wr => ∃ (j : Nat) (m : Int), j ≤ l.length ∧ i = .int .i64 j ∧ q = .int .i64 m ∧ 1 ≤ m ∧ m ≤ 90000000 ∧ Hid (m = k + (cntL cBuffer (l.take j) : Nat) ∧ Below w.heap.size w wr)) (fun _ i _ => l.length - (intOf i).toNat)
 case atStart => exact ⟨0, k, Nat.zero_le _, rfl, rfl, h0, by have := HR.out.2.1; omega, ⟨by simp [cntL], Below.refl _ _⟩⟩
 case round =>
  obtain ⟨j, m, hj, rfl, rfl, m0, m1, HA⟩ := hrel
  by_cases hlt : j < l.length
  ·have i0 : (0 : Int) ≤ (j : Int) := by omega
   have i1 : (j : Int) < (l.length : Int) := by omega
   obtain ⟨x, hx⟩ : ∃ x, l[j]? = some x := ⟨_, List.getElem?_eq_getElem hlt⟩
   have hcn := cntL_take_lt (c := cBuffer) hx
   have hup := cntL_up (c := cBuffer) hx
   have hcx : cBuffer x = 2 + cntL (fun _ : ByteArray => 1) x.items := rfl
   have hg := markL_get (f := mkBuffer) (c := cBuffer) (k := k) hx
   rw [← HA.out.1] at hg
   have hls : bufferK.Lies wr a (markL mkBuffer cBuffer k l) := HR.out.1.below HA.out.2
   obtain ⟨g, ha, hat⟩ := hls.at hg
   have c0 : wr.cell? ⟨g, j * 3, none⟩ = some (.int .i64 (m)) := hat 0 _ rfl
   have c1 : wr.cell? ⟨g, j * 3 + 1, none⟩ = some (.int .i64 (m + 1)) := hat 1 _ rfl
   have cp : wr.cell? ⟨g, j * 3 + 2, none⟩ = some (.slice x.itemsA x.items.length x.itemsC) := (hat 2 _ rfl).trans (show some (Value.slice x.itemsA (markL mkStr (fun _ => 1) (m + 1 + 1) x.items).length x.itemsC) = _ by rw [markL_length])
   have HX : Hid (x.items.length ≤ 1048576 ∧ m + 1 + 1 + (cntL (fun _ : ByteArray => 1) x.items : Nat) ≤ 90000000 ∧ m + 1 + 1 + (cntL (fun _ : ByteArray => 1) x.items : Nat) = k + (cntL cBuffer (l.take (j + 1)) : Nat) ∧ strK.Lies wr x.itemsA (markL mkStr (fun _ => 1) (m + 1 + 1) x.items)) := ⟨HR.out.2.2 x (List.mem_of_getElem? hx), by have := HR.out.2.1; have := HA.out.1; omega, by have := HA.out.1; omega, hls.2 _ (List.mem_of_getElem? hg) (x.itemsA, strK.flat (markL mkStr (fun _ => 1) (m + 1 + 1) x.items)) (List.mem_singleton.2 rfl), fun _ _ r hr => by cases hr⟩
   have m2 : m + 1 + 1 + (cntL (fun _ : ByteArray => 1) x.items : Nat) ≤ 90000000 := HX.out.2.1
   subst ha
   clear hx hcn hup hcx hg hat hls
   go_wp2_with fail
   refine (heldSStr_l x.itemsA x.items x.itemsC (m + 1 + 1) wr HX.out.1 (by omega) HX.out.2.1 HX.out.2.2.2).mono ?_
   rintro e v ⟨rfl, hb⟩
   have HV : Hid (Below w.heap.size w v) := HA.out.2.trans (hb.mono HA.out.2.size)
   clear hb
   go_wp2
   go_roundw
   case rel => exact ⟨j + 1, m + 1 + 1 + (cntL (fun _ : ByteArray => 1) x.items : Nat), by omega, by go_num, rfl, by omega, by omega, ⟨HX.out.2.2.1, HV.out⟩⟩
   case measure => simp [intOf]; omega
  ·have i1 : ¬ (j : Int) < (l.length : Int) := by omega
   have HE : Hid (m = k + (cntL cBuffer l : Nat)) := by have h6 := HA.out.1; rw [List.take_of_length_le (by omega)] at h6; exact h6
   go_wp2
   go_ret
   exact ⟨ret_int HE.out, HA.out.2⟩
end Go.Proofs.YtkbcplnlehdjfaaGreat

/- The things of a shelf of the kind Buffer, told as a list. (Made by mktold.py.) -/
namespace Go.Proofs.YtkbcplnlehdjfaaGreat
open Go.RowKit Go.Maps
set_option maxRecDepth 100000 in
set_option maxHeartbeats 4000000 in
theorem toldBuffer_any (most : Int) (base b : Nat) (l : List (BufferD × Nat)) (w : World) (h : Shelf bufferVs (fun x : BufferD => x.id) 144 w base b l) (hl : l.length ≤ 1048576) (hwf : ∀ p ∈ (keysOf (fun x : BufferD => x.id) l), (Lit.int .i64 p.1).wf = true) :
  Calls Tryz.prog 169 #[.agg #[.int .i64 most, .map (some b)]] w fun e w' => ToldEnds bufferK 144 w (l.map (·.1)) e w' := by
 obtain ⟨i0, hi, e0⟩ := Option.map_eq_some_iff.1 rinfBuffer
 simp only [Prod.mk.injEq] at e0
 have HI : Hid (Tryz.prog.info? 144 = some i0 ∧ i0.zero = some _ ∧ i0.size = 3 ∧ i0.bytes = 40) := ⟨hi, e0⟩
 have H : Hid (Shelf bufferVs (fun x : BufferD => x.id) 144 (w.alloc (.cells #[.int .i64 most, .map (some b)] 122)) base b l ∧ (∀ p ∈ (keysOf (fun x : BufferD => x.id) l), (Lit.int .i64 p.1).wf = true) ∧ Below w.heap.size w (w.alloc (.cells #[.int .i64 most, .map (some b)] 122))) := ⟨h.below ((Below.refl _ _).alloc (Nat.le_refl _) _), hwf, (Below.refl _ _).alloc (Nat.le_refl _) _⟩
 have HK : Hid ((keysOf (fun x : BufferD => x.id) l).length = l.length) := keysOf_length l
 clear h hwf hi e0
 go_enter Tryz.func169, Tryz.ntmps169
 go_wp2_with fail
 generalize w.alloc (.cells #[.int .i64 most, .map (some b)] 122) = W at *
 refine (allBuffer_any most b (keysOf (fun x : BufferD => x.id) l) W H.out.1.map (by rw [HK.out]; exact hl) H.out.2.1).mono ?_
 rintro e w2 ⟨a, cap, rfl, hown, hb2⟩
 obtain ⟨a', cap', hv, hrow⟩ := own_form hown
 cases hv
 have HR : Hid (Row w2 a ((keysOf (fun x : BufferD => x.id) l).map fun p => ptrV p.2)) := hrow
 have HO : Hid (Shelf bufferVs (fun x : BufferD => x.id) 144 w2 base b l ∧ Below w.heap.size w w2) := ⟨H.out.1.below hb2, H.out.2.2.trans (hb2.mono H.out.2.2.size)⟩
 rw [HK.out]
 clear hown hrow hb2
 go_wp2_with fail
 go_loopw [3, 9] (fun t i wr => ∃ k : Nat, k ≤ l.length ∧ i = .int .i64 k ∧ ∃ a' cap', t = .slice a' k cap' ∧ Hid (wr.ownsRow w2.heap.size 144 3 (.slice a' k cap') k (bufferK.flat ((l.take k).map (·.1))) ∧ Below w2.heap.size w2 wr)) (fun _ i _ => l.length - (intOf i).toNat)
 case atStart => exact ⟨0, Nat.zero_le _, rfl, none, 0, rfl, ⟨World.ownsRow_nil _ _ _ _, Below.refl _ _⟩⟩
 case round =>
  obtain ⟨k, hk, rfl, a', cap', rfl, HA⟩ := hrel
  by_cases hlt : k < l.length
  ·have i0' : (0 : Int) ≤ (k : Int) := by omega
   have i1 : (k : Int) < (l.length : Int) := by omega
   obtain ⟨p, hp⟩ : ∃ p, l[k]? = some p := ⟨_, List.getElem?_eq_getElem hlt⟩
   obtain ⟨g, ha, hc⟩ := (HR.out.below HA.out.2) k (ptrV p.2) (by simp [keysOf, hp])
   subst ha
   unfold ptrV at hc
   have HP : Hid (l[k]? = some p) := hp
   obtain ⟨s0, s1, s2⟩ := buffer_cells ((HO.out.1.below HA.out.2).box p (List.mem_of_getElem? hp))
   have hsz3 := HA.out.2.size
   clear hp
   go_wp2_with (at_builtin; refine wpList_append_own_at _ rfl _ _ 29 rfl w2.heap.size 144 i0 _ 3 40 Tryz.underlying29 HI.out.1 HI.out.2.1 HI.out.2.2.1 HI.out.2.2.2 rfl (by decide) (.slice a' k cap') k (bufferK.flat ((l.take k).map (·.1))) rfl (HA.out.1.alloc _) ⟨wr.heap.size, 0, none⟩ 1 1 (bufferK.vals p.1) (by rfl) rfl (World.news_of_block (cs := #[.int .i64 p.1.id, .int .i64 p.1.max, .slice p.1.itemsA p.1.items.length p.1.itemsC]) (t := 144) (fr := (0, 0)) (heap_alloc_new wr _)) (by simp [bufferK, bufferVals, Value.oneCell']) (by unfold maxLen; omega) (by omega) (by simp; omega) ?_; intro v' w5 hown' hgrow hnil hloc; obtain ⟨a5, cap5, rfl, -⟩ := own_form hown'; have HN : Hid (w5.ownsRow w2.heap.size 144 3 (.slice a5 (k + 1) cap5) (k + 1) (bufferK.flat ((l.take (k + 1)).map (·.1))) ∧ Below w2.heap.size w2 w5) := ⟨by rw [take_up HP.out, List.map_append, bufferK.flat_append]; exact hown', (HA.out.2.alloc hsz3 _).grown hgrow (by simp; omega) (fun q hq => (HA.out.1.lt q hq).1)⟩; clear hown' hgrow hnil hloc)
   go_roundw
   case rel => exact ⟨k + 1, by omega, by go_num, a5, cap5, rfl, HN⟩
   case measure => simp [intOf]; omega
  ·have i1 : ¬ (k : Int) < (l.length : Int) := by omega
   have ek : k = l.length := by omega
   subst ek
   go_wp2
   go_ret
   refine ⟨a', cap', by rw [List.length_map]; rfl, ?_, HO.out.2.trans (HA.out.2.mono HO.out.2.size)⟩
   have h5 := own_low HA.out.1 HO.out.2.size
   rw [List.take_length] at h5
   rw [List.length_map]
   exact h5
end Go.Proofs.YtkbcplnlehdjfaaGreat

/- The things of a shelf of the kind Port, told as a list. (Made by mktold.py.) -/
namespace Go.Proofs.YtkbcplnlehdjfaaGreat
open Go.RowKit Go.Maps
set_option maxRecDepth 100000 in
set_option maxHeartbeats 4000000 in
theorem toldPort_any (most : Int) (base b : Nat) (l : List (PortD × Nat)) (w : World) (h : Shelf portVs (fun x : PortD => x.id) 61 w base b l) (hl : l.length ≤ 1048576) (hwf : ∀ p ∈ (keysOf (fun x : PortD => x.id) l), (Lit.int .i64 p.1).wf = true) :
  Calls Tryz.prog 170 #[.agg #[.int .i64 most, .map (some b)]] w fun e w' => ToldEnds portK 61 w (l.map (·.1)) e w' := by
 obtain ⟨i0, hi, e0⟩ := Option.map_eq_some_iff.1 rinfPort
 simp only [Prod.mk.injEq] at e0
 have HI : Hid (Tryz.prog.info? 61 = some i0 ∧ i0.zero = some _ ∧ i0.size = 5 ∧ i0.bytes = 48) := ⟨hi, e0⟩
 have H : Hid (Shelf portVs (fun x : PortD => x.id) 61 (w.alloc (.cells #[.int .i64 most, .map (some b)] 125)) base b l ∧ (∀ p ∈ (keysOf (fun x : PortD => x.id) l), (Lit.int .i64 p.1).wf = true) ∧ Below w.heap.size w (w.alloc (.cells #[.int .i64 most, .map (some b)] 125))) := ⟨h.below ((Below.refl _ _).alloc (Nat.le_refl _) _), hwf, (Below.refl _ _).alloc (Nat.le_refl _) _⟩
 have HK : Hid ((keysOf (fun x : PortD => x.id) l).length = l.length) := keysOf_length l
 clear h hwf hi e0
 go_enter Tryz.func170, Tryz.ntmps170
 go_wp2_with fail
 generalize w.alloc (.cells #[.int .i64 most, .map (some b)] 125) = W at *
 refine (allPort_any most b (keysOf (fun x : PortD => x.id) l) W H.out.1.map (by rw [HK.out]; exact hl) H.out.2.1).mono ?_
 rintro e w2 ⟨a, cap, rfl, hown, hb2⟩
 obtain ⟨a', cap', hv, hrow⟩ := own_form hown
 cases hv
 have HR : Hid (Row w2 a ((keysOf (fun x : PortD => x.id) l).map fun p => ptrV p.2)) := hrow
 have HO : Hid (Shelf portVs (fun x : PortD => x.id) 61 w2 base b l ∧ Below w.heap.size w w2) := ⟨H.out.1.below hb2, H.out.2.2.trans (hb2.mono H.out.2.2.size)⟩
 rw [HK.out]
 clear hown hrow hb2
 go_wp2_with fail
 go_loopw [3, 9] (fun t i wr => ∃ k : Nat, k ≤ l.length ∧ i = .int .i64 k ∧ ∃ a' cap', t = .slice a' k cap' ∧ Hid (wr.ownsRow w2.heap.size 61 5 (.slice a' k cap') k (portK.flat ((l.take k).map (·.1))) ∧ Below w2.heap.size w2 wr)) (fun _ i _ => l.length - (intOf i).toNat)
 case atStart => exact ⟨0, Nat.zero_le _, rfl, none, 0, rfl, ⟨World.ownsRow_nil _ _ _ _, Below.refl _ _⟩⟩
 case round =>
  obtain ⟨k, hk, rfl, a', cap', rfl, HA⟩ := hrel
  by_cases hlt : k < l.length
  ·have i0' : (0 : Int) ≤ (k : Int) := by omega
   have i1 : (k : Int) < (l.length : Int) := by omega
   obtain ⟨p, hp⟩ : ∃ p, l[k]? = some p := ⟨_, List.getElem?_eq_getElem hlt⟩
   obtain ⟨g, ha, hc⟩ := (HR.out.below HA.out.2) k (ptrV p.2) (by simp [keysOf, hp])
   subst ha
   unfold ptrV at hc
   have HP : Hid (l[k]? = some p) := hp
   obtain ⟨s0, s1, s2, s3, s4⟩ := port_cells ((HO.out.1.below HA.out.2).box p (List.mem_of_getElem? hp))
   have hsz3 := HA.out.2.size
   clear hp
   go_wp2_with (at_builtin; refine wpList_append_own_at _ rfl _ _ 30 rfl w2.heap.size 61 i0 _ 5 48 Tryz.underlying30 HI.out.1 HI.out.2.1 HI.out.2.2.1 HI.out.2.2.2 rfl (by decide) (.slice a' k cap') k (portK.flat ((l.take k).map (·.1))) rfl (HA.out.1.alloc _) ⟨wr.heap.size, 0, none⟩ 1 1 (portK.vals p.1) (by rfl) rfl (World.news_of_block (cs := #[.int .i64 p.1.id, .bool p.1.out, .bool p.1.queue, .int .i64 p.1.max, .slice p.1.itemsA p.1.items.length p.1.itemsC]) (t := 61) (fr := (0, 0)) (heap_alloc_new wr _)) (by simp [portK, portVals, Value.oneCell']) (by unfold maxLen; omega) (by omega) (by simp; omega) ?_; intro v' w5 hown' hgrow hnil hloc; obtain ⟨a5, cap5, rfl, -⟩ := own_form hown'; have HN : Hid (w5.ownsRow w2.heap.size 61 5 (.slice a5 (k + 1) cap5) (k + 1) (portK.flat ((l.take (k + 1)).map (·.1))) ∧ Below w2.heap.size w2 w5) := ⟨by rw [take_up HP.out, List.map_append, portK.flat_append]; exact hown', (HA.out.2.alloc hsz3 _).grown hgrow (by simp; omega) (fun q hq => (HA.out.1.lt q hq).1)⟩; clear hown' hgrow hnil hloc)
   go_roundw
   case rel => exact ⟨k + 1, by omega, by go_num, a5, cap5, rfl, HN⟩
   case measure => simp [intOf]; omega
  ·have i1 : ¬ (k : Int) < (l.length : Int) := by omega
   have ek : k = l.length := by omega
   subst ek
   go_wp2
   go_ret
   refine ⟨a', cap', by rw [List.length_map]; rfl, ?_, HO.out.2.trans (HA.out.2.mono HO.out.2.size)⟩
   have h5 := own_low HA.out.1 HO.out.2.size
   rw [List.take_length] at h5
   rw [List.length_map]
   exact h5
end Go.Proofs.YtkbcplnlehdjfaaGreat

/- The things of a shelf of the kind Board, told as a list. (Made by mktold.py.) -/
namespace Go.Proofs.YtkbcplnlehdjfaaGreat
open Go.RowKit Go.Maps
set_option maxRecDepth 100000 in
set_option maxHeartbeats 4000000 in
theorem toldBoard_any (most : Int) (base b : Nat) (l : List (BoardD × Nat)) (w : World) (h : Shelf boardVs (fun x : BoardD => x.id) 141 w base b l) (hl : l.length ≤ 1048576) (hwf : ∀ p ∈ (keysOf (fun x : BoardD => x.id) l), (Lit.int .i64 p.1).wf = true) :
  Calls Tryz.prog 168 #[.agg #[.int .i64 most, .map (some b)]] w fun e w' => ToldEnds boardK 141 w (l.map (·.1)) e w' := by
 obtain ⟨i0, hi, e0⟩ := Option.map_eq_some_iff.1 rinfBoard
 simp only [Prod.mk.injEq] at e0
 have HI : Hid (Tryz.prog.info? 141 = some i0 ∧ i0.zero = some _ ∧ i0.size = 3 ∧ i0.bytes = 32) := ⟨hi, e0⟩
 have H : Hid (Shelf boardVs (fun x : BoardD => x.id) 141 (w.alloc (.cells #[.int .i64 most, .map (some b)] 119)) base b l ∧ (∀ p ∈ (keysOf (fun x : BoardD => x.id) l), (Lit.int .i64 p.1).wf = true) ∧ Below w.heap.size w (w.alloc (.cells #[.int .i64 most, .map (some b)] 119))) := ⟨h.below ((Below.refl _ _).alloc (Nat.le_refl _) _), hwf, (Below.refl _ _).alloc (Nat.le_refl _) _⟩
 have HK : Hid ((keysOf (fun x : BoardD => x.id) l).length = l.length) := keysOf_length l
 clear h hwf hi e0
 go_enter Tryz.func168, Tryz.ntmps168
 go_wp2_with fail
 generalize w.alloc (.cells #[.int .i64 most, .map (some b)] 119) = W at *
 refine (allBoard_any most b (keysOf (fun x : BoardD => x.id) l) W H.out.1.map (by rw [HK.out]; exact hl) H.out.2.1).mono ?_
 rintro e w2 ⟨a, cap, rfl, hown, hb2⟩
 obtain ⟨a', cap', hv, hrow⟩ := own_form hown
 cases hv
 have HR : Hid (Row w2 a ((keysOf (fun x : BoardD => x.id) l).map fun p => ptrV p.2)) := hrow
 have HO : Hid (Shelf boardVs (fun x : BoardD => x.id) 141 w2 base b l ∧ Below w.heap.size w w2) := ⟨H.out.1.below hb2, H.out.2.2.trans (hb2.mono H.out.2.2.size)⟩
 rw [HK.out]
 clear hown hrow hb2
 go_wp2_with fail
 go_loopw [3, 9] (fun t i wr => ∃ k : Nat, k ≤ l.length ∧ i = .int .i64 k ∧ ∃ a' cap', t = .slice a' k cap' ∧ Hid (wr.ownsRow w2.heap.size 141 3 (.slice a' k cap') k (boardK.flat ((l.take k).map (·.1))) ∧ Below w2.heap.size w2 wr)) (fun _ i _ => l.length - (intOf i).toNat)
 case atStart => exact ⟨0, Nat.zero_le _, rfl, none, 0, rfl, ⟨World.ownsRow_nil _ _ _ _, Below.refl _ _⟩⟩
 case round =>
  obtain ⟨k, hk, rfl, a', cap', rfl, HA⟩ := hrel
  by_cases hlt : k < l.length
  ·have i0' : (0 : Int) ≤ (k : Int) := by omega
   have i1 : (k : Int) < (l.length : Int) := by omega
   obtain ⟨p, hp⟩ : ∃ p, l[k]? = some p := ⟨_, List.getElem?_eq_getElem hlt⟩
   obtain ⟨g, ha, hc⟩ := (HR.out.below HA.out.2) k (ptrV p.2) (by simp [keysOf, hp])
   subst ha
   unfold ptrV at hc
   have HP : Hid (l[k]? = some p) := hp
   obtain ⟨s0, s1, s2⟩ := board_cells ((HO.out.1.below HA.out.2).box p (List.mem_of_getElem? hp))
   have hsz3 := HA.out.2.size
   clear hp
   go_wp2_with (at_builtin; refine wpList_append_own_at _ rfl _ _ 28 rfl w2.heap.size 141 i0 _ 3 32 Tryz.underlying28 HI.out.1 HI.out.2.1 HI.out.2.2.1 HI.out.2.2.2 rfl (by decide) (.slice a' k cap') k (boardK.flat ((l.take k).map (·.1))) rfl (HA.out.1.alloc _) ⟨wr.heap.size, 0, none⟩ 1 1 (boardK.vals p.1) (by rfl) rfl (World.news_of_block (cs := #[.int .i64 p.1.id, .bool p.1.shown, .string p.1.text]) (t := 141) (fr := (0, 0)) (heap_alloc_new wr _)) (by simp [boardK, boardVals, Value.oneCell']) (by unfold maxLen; omega) (by omega) (by simp; omega) ?_; intro v' w5 hown' hgrow hnil hloc; obtain ⟨a5, cap5, rfl, -⟩ := own_form hown'; have HN : Hid (w5.ownsRow w2.heap.size 141 3 (.slice a5 (k + 1) cap5) (k + 1) (boardK.flat ((l.take (k + 1)).map (·.1))) ∧ Below w2.heap.size w2 w5) := ⟨by rw [take_up HP.out, List.map_append, boardK.flat_append]; exact hown', (HA.out.2.alloc hsz3 _).grown hgrow (by simp; omega) (fun q hq => (HA.out.1.lt q hq).1)⟩; clear hown' hgrow hnil hloc)
   go_roundw
   case rel => exact ⟨k + 1, by omega, by go_num, a5, cap5, rfl, HN⟩
   case measure => simp [intOf]; omega
  ·have i1 : ¬ (k : Int) < (l.length : Int) := by omega
   have ek : k = l.length := by omega
   subst ek
   go_wp2
   go_ret
   refine ⟨a', cap', by rw [List.length_map]; rfl, ?_, HO.out.2.trans (HA.out.2.mono HO.out.2.size)⟩
   have h5 := own_low HA.out.1 HO.out.2.size
   rw [List.take_length] at h5
   rw [List.length_map]
   exact h5
end Go.Proofs.YtkbcplnlehdjfaaGreat

/- The things of a shelf of the kind Event, told as a list. (Made by mktold.py.) -/
namespace Go.Proofs.YtkbcplnlehdjfaaGreat
open Go.RowKit Go.Maps
set_option maxRecDepth 100000 in
set_option maxHeartbeats 4000000 in
theorem toldEvent_any (most : Int) (base b : Nat) (l : List (EventD × Nat)) (w : World) (h : Shelf eventVs (fun x : EventD => x.id) 138 w base b l) (hl : l.length ≤ 1048576) (hwf : ∀ p ∈ (keysOf (fun x : EventD => x.id) l), (Lit.int .i64 p.1).wf = true) :
  Calls Tryz.prog 167 #[.agg #[.int .i64 most, .map (some b)]] w fun e w' => ToldEnds eventK 138 w (l.map (·.1)) e w' := by
 obtain ⟨i0, hi, e0⟩ := Option.map_eq_some_iff.1 rinfEvent
 simp only [Prod.mk.injEq] at e0
 have HI : Hid (Tryz.prog.info? 138 = some i0 ∧ i0.zero = some _ ∧ i0.size = 2 ∧ i0.bytes = 16) := ⟨hi, e0⟩
 have H : Hid (Shelf eventVs (fun x : EventD => x.id) 138 (w.alloc (.cells #[.int .i64 most, .map (some b)] 116)) base b l ∧ (∀ p ∈ (keysOf (fun x : EventD => x.id) l), (Lit.int .i64 p.1).wf = true) ∧ Below w.heap.size w (w.alloc (.cells #[.int .i64 most, .map (some b)] 116))) := ⟨h.below ((Below.refl _ _).alloc (Nat.le_refl _) _), hwf, (Below.refl _ _).alloc (Nat.le_refl _) _⟩
 have HK : Hid ((keysOf (fun x : EventD => x.id) l).length = l.length) := keysOf_length l
 clear h hwf hi e0
 go_enter Tryz.func167, Tryz.ntmps167
 go_wp2_with fail
 generalize w.alloc (.cells #[.int .i64 most, .map (some b)] 116) = W at *
 refine (allEvent_any most b (keysOf (fun x : EventD => x.id) l) W H.out.1.map (by rw [HK.out]; exact hl) H.out.2.1).mono ?_
 rintro e w2 ⟨a, cap, rfl, hown, hb2⟩
 obtain ⟨a', cap', hv, hrow⟩ := own_form hown
 cases hv
 have HR : Hid (Row w2 a ((keysOf (fun x : EventD => x.id) l).map fun p => ptrV p.2)) := hrow
 have HO : Hid (Shelf eventVs (fun x : EventD => x.id) 138 w2 base b l ∧ Below w.heap.size w w2) := ⟨H.out.1.below hb2, H.out.2.2.trans (hb2.mono H.out.2.2.size)⟩
 rw [HK.out]
 clear hown hrow hb2
 go_wp2_with fail
 go_loopw [3, 9] (fun t i wr => ∃ k : Nat, k ≤ l.length ∧ i = .int .i64 k ∧ ∃ a' cap', t = .slice a' k cap' ∧ Hid (wr.ownsRow w2.heap.size 138 2 (.slice a' k cap') k (eventK.flat ((l.take k).map (·.1))) ∧ Below w2.heap.size w2 wr)) (fun _ i _ => l.length - (intOf i).toNat)
 case atStart => exact ⟨0, Nat.zero_le _, rfl, none, 0, rfl, ⟨World.ownsRow_nil _ _ _ _, Below.refl _ _⟩⟩
 case round =>
  obtain ⟨k, hk, rfl, a', cap', rfl, HA⟩ := hrel
  by_cases hlt : k < l.length
  ·have i0' : (0 : Int) ≤ (k : Int) := by omega
   have i1 : (k : Int) < (l.length : Int) := by omega
   obtain ⟨p, hp⟩ : ∃ p, l[k]? = some p := ⟨_, List.getElem?_eq_getElem hlt⟩
   obtain ⟨g, ha, hc⟩ := (HR.out.below HA.out.2) k (ptrV p.2) (by simp [keysOf, hp])
   subst ha
   unfold ptrV at hc
   have HP : Hid (l[k]? = some p) := hp
   obtain ⟨s0, s1⟩ := event_cells ((HO.out.1.below HA.out.2).box p (List.mem_of_getElem? hp))
   have hsz3 := HA.out.2.size
   clear hp
   go_wp2_with (at_builtin; refine wpList_append_own_at _ rfl _ _ 27 rfl w2.heap.size 138 i0 _ 2 16 Tryz.underlying27 HI.out.1 HI.out.2.1 HI.out.2.2.1 HI.out.2.2.2 rfl (by decide) (.slice a' k cap') k (eventK.flat ((l.take k).map (·.1))) rfl (HA.out.1.alloc _) ⟨wr.heap.size, 0, none⟩ 1 1 (eventK.vals p.1) (by rfl) rfl (World.news_of_block (cs := #[.int .i64 p.1.id, .bool p.1.up]) (t := 138) (fr := (0, 0)) (heap_alloc_new wr _)) (by simp [eventK, eventVals, Value.oneCell']) (by unfold maxLen; omega) (by omega) (by simp; omega) ?_; intro v' w5 hown' hgrow hnil hloc; obtain ⟨a5, cap5, rfl, -⟩ := own_form hown'; have HN : Hid (w5.ownsRow w2.heap.size 138 2 (.slice a5 (k + 1) cap5) (k + 1) (eventK.flat ((l.take (k + 1)).map (·.1))) ∧ Below w2.heap.size w2 w5) := ⟨by rw [take_up HP.out, List.map_append, eventK.flat_append]; exact hown', (HA.out.2.alloc hsz3 _).grown hgrow (by simp; omega) (fun q hq => (HA.out.1.lt q hq).1)⟩; clear hown' hgrow hnil hloc)
   go_roundw
   case rel => exact ⟨k + 1, by omega, by go_num, a5, cap5, rfl, HN⟩
   case measure => simp [intOf]; omega
  ·have i1 : ¬ (k : Int) < (l.length : Int) := by omega
   have ek : k = l.length := by omega
   subst ek
   go_wp2
   go_ret
   refine ⟨a', cap', by rw [List.length_map]; rfl, ?_, HO.out.2.trans (HA.out.2.mono HO.out.2.size)⟩
   have h5 := own_low HA.out.1 HO.out.2.size
   rw [List.take_length] at h5
   rw [List.length_map]
   exact h5
end Go.Proofs.YtkbcplnlehdjfaaGreat

/- The things of a shelf of the kind Sem, told as a list. (Made by mktold.py.) -/
namespace Go.Proofs.YtkbcplnlehdjfaaGreat
open Go.RowKit Go.Maps
set_option maxRecDepth 100000 in
set_option maxHeartbeats 4000000 in
theorem toldSem_any (most : Int) (base b : Nat) (l : List (SemD × Nat)) (w : World) (h : Shelf semVs (fun x : SemD => x.id) 49 w base b l) (hl : l.length ≤ 1048576) (hwf : ∀ p ∈ (keysOf (fun x : SemD => x.id) l), (Lit.int .i64 p.1).wf = true) :
  Calls Tryz.prog 166 #[.agg #[.int .i64 most, .map (some b)]] w fun e w' => ToldEnds semK 49 w (l.map (·.1)) e w' := by
 obtain ⟨i0, hi, e0⟩ := Option.map_eq_some_iff.1 rinfSem
 simp only [Prod.mk.injEq] at e0
 have HI : Hid (Tryz.prog.info? 49 = some i0 ∧ i0.zero = some _ ∧ i0.size = 3 ∧ i0.bytes = 24) := ⟨hi, e0⟩
 have H : Hid (Shelf semVs (fun x : SemD => x.id) 49 (w.alloc (.cells #[.int .i64 most, .map (some b)] 113)) base b l ∧ (∀ p ∈ (keysOf (fun x : SemD => x.id) l), (Lit.int .i64 p.1).wf = true) ∧ Below w.heap.size w (w.alloc (.cells #[.int .i64 most, .map (some b)] 113))) := ⟨h.below ((Below.refl _ _).alloc (Nat.le_refl _) _), hwf, (Below.refl _ _).alloc (Nat.le_refl _) _⟩
 have HK : Hid ((keysOf (fun x : SemD => x.id) l).length = l.length) := keysOf_length l
 clear h hwf hi e0
 go_enter Tryz.func166, Tryz.ntmps166
 go_wp2_with fail
 generalize w.alloc (.cells #[.int .i64 most, .map (some b)] 113) = W at *
 refine (allSem_any most b (keysOf (fun x : SemD => x.id) l) W H.out.1.map (by rw [HK.out]; exact hl) H.out.2.1).mono ?_
 rintro e w2 ⟨a, cap, rfl, hown, hb2⟩
 obtain ⟨a', cap', hv, hrow⟩ := own_form hown
 cases hv
 have HR : Hid (Row w2 a ((keysOf (fun x : SemD => x.id) l).map fun p => ptrV p.2)) := hrow
 have HO : Hid (Shelf semVs (fun x : SemD => x.id) 49 w2 base b l ∧ Below w.heap.size w w2) := ⟨H.out.1.below hb2, H.out.2.2.trans (hb2.mono H.out.2.2.size)⟩
 rw [HK.out]
 clear hown hrow hb2
 go_wp2_with fail
 go_loopw [3, 9] (fun t i wr => ∃ k : Nat, k ≤ l.length ∧ i = .int .i64 k ∧ ∃ a' cap', t = .slice a' k cap' ∧ Hid (wr.ownsRow w2.heap.size 49 3 (.slice a' k cap') k (semK.flat ((l.take k).map (·.1))) ∧ Below w2.heap.size w2 wr)) (fun _ i _ => l.length - (intOf i).toNat)
 case atStart => exact ⟨0, Nat.zero_le _, rfl, none, 0, rfl, ⟨World.ownsRow_nil _ _ _ _, Below.refl _ _⟩⟩
 case round =>
  obtain ⟨k, hk, rfl, a', cap', rfl, HA⟩ := hrel
  by_cases hlt : k < l.length
  ·have i0' : (0 : Int) ≤ (k : Int) := by omega
   have i1 : (k : Int) < (l.length : Int) := by omega
   obtain ⟨p, hp⟩ : ∃ p, l[k]? = some p := ⟨_, List.getElem?_eq_getElem hlt⟩
   obtain ⟨g, ha, hc⟩ := (HR.out.below HA.out.2) k (ptrV p.2) (by simp [keysOf, hp])
   subst ha
   unfold ptrV at hc
   have HP : Hid (l[k]? = some p) := hp
   obtain ⟨s0, s1, s2⟩ := sem_cells ((HO.out.1.below HA.out.2).box p (List.mem_of_getElem? hp))
   have hsz3 := HA.out.2.size
   clear hp
   go_wp2_with (at_builtin; refine wpList_append_own_at _ rfl _ _ 26 rfl w2.heap.size 49 i0 _ 3 24 Tryz.underlying26 HI.out.1 HI.out.2.1 HI.out.2.2.1 HI.out.2.2.2 rfl (by decide) (.slice a' k cap') k (semK.flat ((l.take k).map (·.1))) rfl (HA.out.1.alloc _) ⟨wr.heap.size, 0, none⟩ 1 1 (semK.vals p.1) (by rfl) rfl (World.news_of_block (cs := #[.int .i64 p.1.id, .int .i64 p.1.n, .int .i64 p.1.max]) (t := 49) (fr := (0, 0)) (heap_alloc_new wr _)) (by simp [semK, semVals, Value.oneCell']) (by unfold maxLen; omega) (by omega) (by simp; omega) ?_; intro v' w5 hown' hgrow hnil hloc; obtain ⟨a5, cap5, rfl, -⟩ := own_form hown'; have HN : Hid (w5.ownsRow w2.heap.size 49 3 (.slice a5 (k + 1) cap5) (k + 1) (semK.flat ((l.take (k + 1)).map (·.1))) ∧ Below w2.heap.size w2 w5) := ⟨by rw [take_up HP.out, List.map_append, semK.flat_append]; exact hown', (HA.out.2.alloc hsz3 _).grown hgrow (by simp; omega) (fun q hq => (HA.out.1.lt q hq).1)⟩; clear hown' hgrow hnil hloc)
   go_roundw
   case rel => exact ⟨k + 1, by omega, by go_num, a5, cap5, rfl, HN⟩
   case measure => simp [intOf]; omega
  ·have i1 : ¬ (k : Int) < (l.length : Int) := by omega
   have ek : k = l.length := by omega
   subst ek
   go_wp2
   go_ret
   refine ⟨a', cap', by rw [List.length_map]; rfl, ?_, HO.out.2.trans (HA.out.2.mono HO.out.2.size)⟩
   have h5 := own_low HA.out.1 HO.out.2.size
   rw [List.take_length] at h5
   rw [List.length_map]
   exact h5
end Go.Proofs.YtkbcplnlehdjfaaGreat
