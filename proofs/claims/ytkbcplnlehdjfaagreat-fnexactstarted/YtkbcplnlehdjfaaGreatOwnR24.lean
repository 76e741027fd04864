/- What the proof leans on, part 24: TdBuffer, AlPort, TdPort, TdPart, OpenT, OpenF. -/
import Derived.Deep.RegionHeld
import Derived.Laws.CopyOwn
import Derived.Test.YtkbcplnlehdjfaaGreatOwnR2
import Derived.Test.YtkbcplnlehdjfaaGreatOwnR5
import Derived.Test.YtkbcplnlehdjfaaGreatOwnR10
import Derived.Test.YtkbcplnlehdjfaaGreatOwnR15
import Derived.Test.YtkbcplnlehdjfaaGreatOwnR22
import Derived.Test.YtkbcplnlehdjfaaGreatOwnR23

namespace Go.Proofs.YtkbcplnlehdjfaaGreat
open Go.RowKit Go.Maps
set_option maxRecDepth 100000 in
set_option maxHeartbeats 4000000 in
theorem toldBuffer_any (most : Int) (base b : Nat) (l : List (BufferD × Nat)) (w : World) (h : Shelf bufferVs (fun x : BufferD => x.id) 144 w base b l) (hl : l.length ≤ 1048576) (hwf : ∀ p ∈ (keysOf (fun x : BufferD => x.id) l), (Lit.int .i64 p.1).wf = true) :
  Calls Tryz.prog 169 #[.agg #[.int .i64 most, .map (some b)]] w fun e w' => ToldEnds bufferK 144 w (l.map (·.1)) e w' := by
 obtain ⟨i0, hi, e0⟩ := Option.map_eq_some_iff.1 rinfBuffer
 simp only [Prod.mk.injEq] at e0
 have HI : Hid (Tryz.prog.info? 144 = some i0 ∧ i0.zero = some _ ∧ i0.size = 3 ∧ i0.bytes = 40) := ⟨hi, e0⟩
 have H : Hid (Shelf bufferVs (fun x : BufferD => x.id) 144 (w.alloc (.cells #[.int .i64 most, .map (some b)] 122)) base b l ∧ (∀ p ∈ (keysOf (fun x : BufferD => x.id) l), (Lit.int .i64 p.1).wf = true) ∧ Below w.heap.size w (w.alloc (.cells #[.int .i64 most, .map (some b)] 122))) := ⟨h.below ((Below.refl _ _).alloc (Nat.le_refl _) _), hwf, (Below.refl _ _).alloc (Nat.le_refl _) _⟩
 have HK : Hid ((keysOf (fun x : BufferD => x.id) l).length = l.length) := keysOf_length l
 clear h hwf hi e0
 go_enter Tryz.func169, Tryz.ntmps169
 go_wp2_with fail
 generalize w.alloc (.cells #[.int .i64 most, .map (some b)] 122) = W at *
 refine (allBuffer_any most b (keysOf (fun x : BufferD => x.id) l) W H.out.1.map (by rw [HK.out]; exact hl) H.out.2.1).mono ?_
 rintro e w2 ⟨a, cap, rfl, hown, hb2⟩
 obtain ⟨a', cap', hv, hrow⟩ := own_form hown
 cases hv
 have HR : Hid (Row w2 a ((keysOf (fun x : BufferD => x.id) l).map fun p => ptrV p.2)) := hrow
 have HO : Hid (Shelf bufferVs (fun x : BufferD => x.id) 144 w2 base b l ∧ Below w.heap.size w w2) := ⟨H.out.1.below hb2, H.out.2.2.trans (hb2.mono H.out.2.2.size)⟩
 rw [HK.out]
 clear hown hrow hb2
 go_wp2_with fail
 go_loopw [3, 9] (fun t i wr => ∃ k : Nat, k ≤ l.length ∧ i = .int .i64 k ∧ ∃ a' cap', t = .slice a' k cap' ∧ Hid (wr.ownsRow w2.heap.size 144 3 (.slice a' k cap') k (bufferK.flat ((l.take k).map (·.1))) ∧ Below w2.heap.size w2 wr)) (fun _ i _ => l.length - (intOf i).toNat)
 case atStart => exact ⟨0, Nat.zero_le _, rfl, none, 0, rfl, ⟨World.ownsRow_nil _ _ _ _, Below.refl _ _⟩⟩
 case round =>
  obtain ⟨k, hk, rfl, a', cap', rfl, HA⟩ := hrel
  by_cases hlt : k < l.length
  ·have i0' : (0 : Int) ≤ (k : Int) := by omega
   have i1 : (k : Int) < (l.length : Int) := by omega
   obtain ⟨p, hp⟩ : ∃ p, l[k]? = some p := ⟨_, List.getElem?_eq_getElem hlt⟩
   obtain ⟨g, ha, hc⟩ := (HR.out.below HA.out.2) k (ptrV p.2) (by simp [keysOf, hp])
   subst ha
   unfold ptrV at hc
   have HP : Hid (l[k]? = some p) := hp
   obtain ⟨s0, s1, s2⟩ := buffer_cells ((HO.out.1.below HA.out.2).box p (List.mem_of_getElem? hp))
   have hsz3 := HA.out.2.size
   clear hp
   go_wp2_with (at_builtin; refine wpList_append_own_at _ rfl _ _ 29 rfl w2.heap.size 144 i0 _ 3 40 Tryz.underlying29 HI.out.1 HI.out.2.1 HI.out.2.2.1 HI.out.2.2.2 rfl (by decide) (.slice a' k cap') k (bufferK.flat ((l.take k).map (·.1))) rfl (HA.out.1.alloc _) ⟨wr.heap.size, 0, none⟩ 1 1 (bufferK.vals p.1) (by rfl) rfl (World.news_of_block (cs := #[.int .i64 p.1.id, .int .i64 p.1.max, .slice p.1.itemsA p.1.items.length p.1.itemsC]) (t := 144) (fr := (0, 0)) (heap_alloc_new wr _)) (by simp [bufferK, bufferVals, Value.oneCell']) (by unfold maxLen; omega) (by omega) (by simp; omega) ?_; intro v' w5 hown' hgrow hnil hloc; obtain ⟨a5, cap5, rfl, -⟩ := own_form hown'; have HN : Hid (w5.ownsRow w2.heap.size 144 3 (.slice a5 (k + 1) cap5) (k + 1) (bufferK.flat ((l.take (k + 1)).map (·.1))) ∧ Below w2.heap.size w2 w5) := ⟨by rw [take_up HP.out, List.map_append, bufferK.flat_append]; exact hown', (HA.out.2.alloc hsz3 _).grown hgrow (by simp; omega) (fun q hq => (HA.out.1.lt q hq).1)⟩; clear hown' hgrow hnil hloc)
   go_roundw
   case rel => exact ⟨k + 1, by omega, by go_num, a5, cap5, rfl, HN⟩
   case measure => simp [intOf]; omega
  ·have i1 : ¬ (k : Int) < (l.length : Int) := by omega
   have ek : k = l.length := by omega
   subst ek
   go_wp2
   go_ret
   refine ⟨a', cap', by rw [List.length_map]; rfl, ?_, HO.out.2.trans (HA.out.2.mono HO.out.2.size)⟩
   have h5 := own_low HA.out.1 HO.out.2.size
   rw [List.take_length] at h5
   rw [List.length_map]
   exact h5
end Go.Proofs.YtkbcplnlehdjfaaGreat

/- The things of a shelf of the kind Port, in order. (Made by mkall.py.) -/
namespace Go.Proofs.YtkbcplnlehdjfaaGreat
open Go.RowKit Go.Maps Go.Sort Go.Shelf
theorem keysPort_call (mb : Option Nat) (W : World) : Calls Tryz.prog 227 #[.map mb] W fun e w' => e = .returned (.func (.func 243) #[] #[.pointer (some ⟨W.heap.size, 0, none⟩)]) ∧ w' = W.alloc (.cells #[.map mb] 123) :=
 (callsIn_wide (n := 5)).1 (AnyZI.keys_in Tryz.keysPort Fence.wide 5 trivial rfl mb W)
theorem sortedKeysPort_any (Bm b : Nat) (m : MapL) (W : World) (hBm : Bm < W.heap.size) (hc : W.cell? ⟨Bm, 0, none⟩ = some (.map (some b))) (h : MapIs W b m) (hm : m.length ≤ 1048576) :
  Calls Tryz.prog 220 #[.func (.func 243) #[] #[.pointer (some ⟨Bm, 0, none⟩)]] W fun e w' => ∃ v : Value, e = .returned v ∧ w'.ownsRow W.heap.size 2 1 v m.length (m.map fun p => .int .i64 p.1) ∧ Below W.heap.size W w' := by
 have hsz : Maps.size (mapD m) = m.length := size_map m
 have hseq : SeqGives Fence.wide 2 Tryz.prog 243 #[.pointer (some ⟨Bm, 0, none⟩)] encZ (fun ss => ss.Perm (intKeys (mapD m))) (Maps.size (mapD m)) W :=
  AnyZI.keys_gives (ρ := Tryz.keysPort_ren) { Tryz.keysPort with } Fence.wide _ trivial rfl (by omega) Bm b m.length (mapD m) W hBm hc h.1
 have cS := AnyZI.sorted_in Tryz.sortedA Fence.wide 5 trivial trivial trivial trivial rfl (by omega) (Tryz.sortsA _) (enters_of Tryz.func231 (by kernel_rfl) rfl) 243 #[.pointer (some ⟨Bm, 0, none⟩)] trivial (enters_of Tryz.func243 (by kernel_rfl) rfl) _ _ (by rw [hsz]; unfold maxLen; omega) (by rw [hsz]; omega) _ hseq
 change CallsIn _ _ Tryz.prog 220 _ _ _ at cS
 refine (callsIn_wide.1 cS).mono ?_
 rintro e w' ⟨v, ss, rfl, hS, hrow, hnil, hbel⟩
 refine ⟨v, rfl, ?_, hbel⟩
 rw [keys_sorted h.2 hS] at hrow
 have hl : ss.length = m.length := by
  rw [hS.length_eq, keys_int, List.length_map]
 rw [hl, List.map_map] at hrow
 exact hrow
theorem ptrInfoPort : (Tryz.prog.info? 225).map (fun i => (i.zero, i.size, i.bytes)) = some (some (.pointer none), 1, 8) := by kernel_rfl
set_option maxRecDepth 100000 in
set_option maxHeartbeats 2000000 in
theorem allPort_any (most : Int) (b : Nat) (m : MapL) (w : World) (h : MapIs w b m) (hm : m.length ≤ 1048576) (hwf : ∀ p ∈ m, (Lit.int .i64 p.1).wf = true) :
  Calls Tryz.prog 211 #[.agg #[.int .i64 most, .map (some b)]] w fun e w' => ∃ a cap, e = .returned (.slice a m.length cap) ∧ w'.ownsRow w.heap.size 225 1 (.slice a m.length cap) m.length (m.map fun p => ptrV p.2) ∧ Below w.heap.size w w' := by
 obtain ⟨i0, hi, e0⟩ := Option.map_eq_some_iff.1 ptrInfoPort
 simp only [Prod.mk.injEq] at e0
 have HI : Hid (Tryz.prog.info? 225 = some i0 ∧ i0.zero = some (.pointer none) ∧ i0.size = 1 ∧ i0.bytes = 8) := ⟨hi, e0⟩
 have HM : Hid (MapIs w b m ∧ ∀ p ∈ m, (Lit.int .i64 p.1).wf = true) := ⟨h, hwf⟩
 have hbl : b < w.heap.size := h.lt
 clear hi e0 h hwf
 go_enter Tryz.func211, Tryz.ntmps211
 go_wp2_with (go_at_call 227; refine (keysPort_call _ _).mono ?_; rintro e w' ⟨rfl, rfl⟩)
 refine (sortedKeysPort_any (w.heap.size + 1) b m _ (by simp) (by simp) (HM.out.1.below (((Below.refl _ w).alloc (Nat.le_refl _) _).alloc (by simp) _)) hm).mono ?_
 rintro e w2 ⟨v, rfl, hown, hb2⟩
 have HB2 : Hid (Below w.heap.size w w2) := (((Below.refl _ w).alloc (Nat.le_refl _) _).alloc (by simp) _).trans (hb2.mono (by simp; omega))
 have HS : Hid (w2.heap[w.heap.size]? = some (.cells #[.int .i64 most, .map (some b)] 125 (0, 0))) := (hb2.block _ (by simp; omega)).trans ((heap_alloc_old _ _ (by simp)).trans (heap_alloc_new _ _))
 obtain ⟨a, cap, hv, hrow⟩ := own_form hown
 have HR : Hid (Row w2 a (m.map fun p => .int .i64 p.1)) := hrow
 rw [hv]
 clear hv hown hrow hb2 v
 go_wp2_with fail
 go_loopw [3, 11] (fun l i wr => ∃ k : Nat, k ≤ m.length ∧ i = .int .i64 k ∧ ∃ a' cap', l = .slice a' k cap' ∧ Hid (wr.ownsRow w2.heap.size 225 1 (.slice a' k cap') k ((m.take k).map fun p => ptrV p.2) ∧ Below w2.heap.size w2 wr)) (fun _ i _ => m.length - (intOf i).toNat)
 case atStart => exact ⟨0, Nat.zero_le _, rfl, none, 0, rfl, ⟨World.ownsRow_nil _ _ _ _, Below.refl _ _⟩⟩
 case round =>
  obtain ⟨k, hk, rfl, a', cap', rfl, HO⟩ := hrel
  by_cases hlt : k < m.length
  ·have i0' : (0 : Int) ≤ (k : Int) := by omega
   have i1 : (k : Int) < (m.length : Int) := by omega
   obtain ⟨p, hp⟩ : ∃ p, m[k]? = some p := ⟨_, List.getElem?_eq_getElem hlt⟩
   have hpm := List.mem_of_getElem? hp
   obtain ⟨g, ha, hc⟩ := (HR.out.below HO.out.2) k (.int .i64 p.1) (by simp [hp])
   subst ha
   have hsz2 := HB2.out.size
   have hsz3 := HO.out.2.size
   have hmw : MapIs wr b m := HM.out.1.below (HB2.out.trans (HO.out.2.mono hsz2))
   have hlk := hmw.look Tryz.underlying123 (zeroPtrPort wr) (HM.out.2 p hpm) false
   rw [lookM_mem hmw.2 hpm] at hlk
   have hsw : wr.heap[w.heap.size]? = some (.cells #[.int .i64 most, .map (some b)] 125 (0, 0)) := (HO.out.2.block _ (Array.getElem?_eq_some_iff.1 HS.out).1).trans HS.out
   have s1 : wr.cell? ⟨w.heap.size, 1, none⟩ = some (.map (some b)) := by simp [World.cell?, hsw]
   have HP : Hid (m[k]? = some p) := hp
   simp only [ptrO, ptrV, Bool.false_eq_true, if_false] at hlk
   clear hp hpm hmw hsw
   go_wp2_with (at_builtin; refine wpList_append_own_at _ rfl _ _ 263 rfl w2.heap.size 225 i0 (.pointer none) 1 8 Tryz.underlying263 HI.out.1 HI.out.2.1 HI.out.2.2.1 HI.out.2.2.2 rfl (by decide) (.slice a' k cap') k ((m.take k).map fun p => ptrV p.2) rfl (HO.out.1.alloc _) ⟨wr.heap.size, 0, none⟩ 1 1 [.pointer (some ⟨p.2, 0, none⟩)] (by rfl) rfl (World.news_of_block (cs := #[.pointer (some ⟨p.2, 0, none⟩)]) (t := 225) (fr := (0, 0)) (heap_alloc_new wr _)) (by simp [Value.oneCell']) (by unfold maxLen; omega) (by omega) (by simp; omega) ?_; intro v' w5 hown' hgrow hnil hloc; obtain ⟨a5, cap5, rfl, -⟩ := own_form hown'; have HN : Hid (w5.ownsRow w2.heap.size 225 1 (.slice a5 (k + 1) cap5) (k + 1) ((m.take (k + 1)).map fun p => ptrV p.2) ∧ Below w2.heap.size w2 w5) := ⟨by rw [take_up HP.out, List.map_append]; exact hown', (HO.out.2.alloc hsz3 _).grown hgrow (by simp; omega) (fun q hq => (HO.out.1.lt q hq).1)⟩; clear hown' hgrow hnil hloc)
   go_roundw
   case rel => exact ⟨k + 1, by omega, by go_num, a5, cap5, rfl, HN⟩
   case measure => simp [intOf]; omega
  ·have i1 : ¬ (k : Int) < (m.length : Int) := by omega
   have e : k = m.length := by omega
   subst e
   go_wp2
   go_ret
   refine ⟨a', cap', rfl, ?_, HB2.out.trans (HO.out.2.mono HB2.out.size)⟩
   have := own_low HO.out.1 HB2.out.size
   rwa [List.take_length] at this
end Go.Proofs.YtkbcplnlehdjfaaGreat

/- The things of a shelf of the kind Port, told as a list. (Made by mktold.py.) -/
namespace Go.Proofs.YtkbcplnlehdjfaaGreat
open Go.RowKit Go.Maps
set_option maxRecDepth 100000 in
set_option maxHeartbeats 4000000 in
theorem toldPort_any (most : Int) (base b : Nat) (l : List (PortD × Nat)) (w : World) (h : Shelf portVs (fun x : PortD => x.id) 61 w base b l) (hl : l.length ≤ 1048576) (hwf : ∀ p ∈ (keysOf (fun x : PortD => x.id) l), (Lit.int .i64 p.1).wf = true) :
  Calls Tryz.prog 170 #[.agg #[.int .i64 most, .map (some b)]] w fun e w' => ToldEnds portK 61 w (l.map (·.1)) e w' := by
 obtain ⟨i0, hi, e0⟩ := Option.map_eq_some_iff.1 rinfPort
 simp only [Prod.mk.injEq] at e0
 have HI : Hid (Tryz.prog.info? 61 = some i0 ∧ i0.zero = some _ ∧ i0.size = 5 ∧ i0.bytes = 48) := ⟨hi, e0⟩
 have H : Hid (Shelf portVs (fun x : PortD => x.id) 61 (w.alloc (.cells #[.int .i64 most, .map (some b)] 125)) base b l ∧ (∀ p ∈ (keysOf (fun x : PortD => x.id) l), (Lit.int .i64 p.1).wf = true) ∧ Below w.heap.size w (w.alloc (.cells #[.int .i64 most, .map (some b)] 125))) := ⟨h.below ((Below.refl _ _).alloc (Nat.le_refl _) _), hwf, (Below.refl _ _).alloc (Nat.le_refl _) _⟩
 have HK : Hid ((keysOf (fun x : PortD => x.id) l).length = l.length) := keysOf_length l
 clear h hwf hi e0
 go_enter Tryz.func170, Tryz.ntmps170
 go_wp2_with fail
 generalize w.alloc (.cells #[.int .i64 most, .map (some b)] 125) = W at *
 refine (allPort_any most b (keysOf (fun x : PortD => x.id) l) W H.out.1.map (by rw [HK.out]; exact hl) H.out.2.1).mono ?_
 rintro e w2 ⟨a, cap, rfl, hown, hb2⟩
 obtain ⟨a', cap', hv, hrow⟩ := own_form hown
 cases hv
 have HR : Hid (Row w2 a ((keysOf (fun x : PortD => x.id) l).map fun p => ptrV p.2)) := hrow
 have HO : Hid (Shelf portVs (fun x : PortD => x.id) 61 w2 base b l ∧ Below w.heap.size w w2) := ⟨H.out.1.below hb2, H.out.2.2.trans (hb2.mono H.out.2.2.size)⟩
 rw [HK.out]
 clear hown hrow hb2
 go_wp2_with fail
 go_loopw [3, 9] (fun t i wr => ∃ k : Nat, k ≤ l.length ∧ i = .int .i64 k ∧ ∃ a' cap', t = .slice a' k cap' ∧ Hid (wr.ownsRow w2.heap.size 61 5 (.slice a' k cap') k (portK.flat ((l.take k).map (·.1))) ∧ Below w2.heap.size w2 wr)) (fun _ i _ => l.length - (intOf i).toNat)
 case atStart => exact ⟨0, Nat.zero_le _, rfl, none, 0, rfl, ⟨World.ownsRow_nil _ _ _ _, Below.refl _ _⟩⟩
 case round =>
  obtain ⟨k, hk, rfl, a', cap', rfl, HA⟩ := hrel
  by_cases hlt : k < l.length
  ·have i0' : (0 : Int) ≤ (k : Int) := by omega
   have i1 : (k : Int) < (l.length : Int) := by omega
   obtain ⟨p, hp⟩ : ∃ p, l[k]? = some p := ⟨_, List.getElem?_eq_getElem hlt⟩
   obtain ⟨g, ha, hc⟩ := (HR.out.below HA.out.2) k (ptrV p.2) (by simp [keysOf, hp])
   subst ha
   unfold ptrV at hc
   have HP : Hid (l[k]? = some p) := hp
   obtain ⟨s0, s1, s2, s3, s4⟩ := port_cells ((HO.out.1.below HA.out.2).box p (List.mem_of_getElem? hp))
   have hsz3 := HA.out.2.size
   clear hp
   go_wp2_with (at_builtin; refine wpList_append_own_at _ rfl _ _ 30 rfl w2.heap.size 61 i0 _ 5 48 Tryz.underlying30 HI.out.1 HI.out.2.1 HI.out.2.2.1 HI.out.2.2.2 rfl (by decide) (.slice a' k cap') k (portK.flat ((l.take k).map (·.1))) rfl (HA.out.1.alloc _) ⟨wr.heap.size, 0, none⟩ 1 1 (portK.vals p.1) (by rfl) rfl (World.news_of_block (cs := #[.int .i64 p.1.id, .bool p.1.out, .bool p.1.queue, .int .i64 p.1.max, .slice p.1.itemsA p.1.items.length p.1.itemsC]) (t := 61) (fr := (0, 0)) (heap_alloc_new wr _)) (by simp [portK, portVals, Value.oneCell']) (by unfold maxLen; omega) (by omega) (by simp; omega) ?_; intro v' w5 hown' hgrow hnil hloc; obtain ⟨a5, cap5, rfl, -⟩ := own_form hown'; have HN : Hid (w5.ownsRow w2.heap.size 61 5 (.slice a5 (k + 1) cap5) (k + 1) (portK.flat ((l.take (k + 1)).map (·.1))) ∧ Below w2.heap.size w2 w5) := ⟨by rw [take_up HP.out, List.map_append, portK.flat_append]; exact hown', (HA.out.2.alloc hsz3 _).grown hgrow (by simp; omega) (fun q hq => (HA.out.1.lt q hq).1)⟩; clear hown' hgrow hnil hloc)
   go_roundw
   case rel => exact ⟨k + 1, by omega, by go_num, a5, cap5, rfl, HN⟩
   case measure => simp [intOf]; omega
  ·have i1 : ¬ (k : Int) < (l.length : Int) := by omega
   have ek : k = l.length := by omega
   subst ek
   go_wp2
   go_ret
   refine ⟨a', cap', by rw [List.length_map]; rfl, ?_, HO.out.2.trans (HA.out.2.mono HO.out.2.size)⟩
   have h5 := own_low HA.out.1 HO.out.2.size
   rw [List.take_length] at h5
   rw [List.length_map]
   exact h5
end Go.Proofs.YtkbcplnlehdjfaaGreat

/- An open partition told. (Made by mktoldpart.py.) -/
namespace Go.Proofs.YtkbcplnlehdjfaaGreat
open Go.RowKit Go.Maps
attribute [local go_sem ↓] Go.wp_at_zero Go.wp_at_succ
theorem nodup_told {kp kf kq r1 r2 r3 r4 r5 r6 : List Nat} {N n1 n2 n3 n4 n5 n6 : Nat} (hk : (kp ++ (kf ++ kq)).Nodup) (hkl : ∀ g ∈ kp ++ (kf ++ kq), g < N) (h1 : Btw N n1 r1) (h2 : Btw n1 n2 r2) (h3 : Btw n2 n3 r3) (h4 : Btw n3 n4 r4) (h5 : Btw n4 n5 r5) (h6 : Btw n5 n6 r6)
  (e : N ≤ n1 ∧ n1 ≤ n2 ∧ n2 ≤ n3 ∧ n3 ≤ n4 ∧ n4 ≤ n5 ∧ n5 ≤ n6) : (r1 ++ (kp ++ (r2 ++ (r3 ++ (r4 ++ (r5 ++ (kf ++ (r6 ++ kq)))))))).Nodup := by
 have hp : (r1 ++ (kp ++ (r2 ++ (r3 ++ (r4 ++ (r5 ++ (kf ++ (r6 ++ kq)))))))).Perm ((kp ++ (kf ++ kq)) ++ (r1 ++ (r2 ++ (r3 ++ (r4 ++ (r5 ++ r6)))))) := by
  rw [List.perm_iff_count]
  intro x
  simp only [List.count_append]
  omega
 rw [hp.nodup_iff, List.nodup_append]
 have hr : Btw N n6 (r1 ++ (r2 ++ (r3 ++ (r4 ++ (r5 ++ r6))))) := h1.append (h2.append (h3.append (h4.append (h5.append h6 (by omega) (by omega) (by omega)) (by omega) (by omega) (by omega)) (by omega) (by omega) (by omega)) (by omega) (by omega) (by omega)) (by omega) (by omega) (by omega)
 refine ⟨hk, hr.1, fun a ha b hb e => ?_⟩
 have := hkl a ha
 have := (hr.2 b hb).1
 omega
theorem btw_row {w : World} {base n size cap : Nat} {e : TypeId} {a : Option Addr} {xs : List Value} (h : w.ownsRow base e size (.slice a n cap) n xs) : Btw base w.heap.size (blk a) := ⟨blk_nodup a, fun _ hg => own_lt h hg⟩
/-- The lists of an open partition are short, its numbers fit. -/
structure OpenD.Fits (S : OpenD) : Prop where
 nProc : S.lp.length ≤ 1048576
 wProc : ∀ p ∈ keysOf (fun x : ProcD => x.id) S.lp, (Lit.int .i64 p.1).wf = true
 nSem : S.ls.length ≤ 1048576
 wSem : ∀ p ∈ keysOf (fun x : SemD => x.id) S.ls, (Lit.int .i64 p.1).wf = true
 nEvent : S.le.length ≤ 1048576
 wEvent : ∀ p ∈ keysOf (fun x : EventD => x.id) S.le, (Lit.int .i64 p.1).wf = true
 nBoard : S.lb.length ≤ 1048576
 wBoard : ∀ p ∈ keysOf (fun x : BoardD => x.id) S.lb, (Lit.int .i64 p.1).wf = true
 nBuffer : S.lf.length ≤ 1048576
 wBuffer : ∀ p ∈ keysOf (fun x : BufferD => x.id) S.lf, (Lit.int .i64 p.1).wf = true
 nPort : S.lq.length ≤ 1048576
 wPort : ∀ p ∈ keysOf (fun x : PortD => x.id) S.lq, (Lit.int .i64 p.1).wf = true
def ToldS (o : Nat) (S : OpenD) (w' : World) : Prop := w'.cell? ⟨o, 0, none⟩ = some (.int .i64 S.q.id) ∧ w'.cell? ⟨o, 1, none⟩ = some (.int .i64 S.q.next) ∧ w'.cell? ⟨o, 2, none⟩ = some (.int .i64 6) ∧ w'.cell? ⟨o, 3, none⟩ = some (.map (some S.q.bp)) ∧ w'.cell? ⟨o, 4, none⟩ = some (.int .i64 5) ∧ w'.cell? ⟨o, 5, none⟩ = some (.map (some S.q.bs)) ∧ w'.cell? ⟨o, 6, none⟩ = some (.int .i64 5) ∧ w'.cell? ⟨o, 7, none⟩ = some (.map (some S.q.be)) ∧ w'.cell? ⟨o, 8, none⟩ = some (.int .i64 5) ∧ w'.cell? ⟨o, 9, none⟩ = some (.map (some S.q.bb)) ∧ w'.cell? ⟨o, 10, none⟩ = some (.int .i64 5) ∧ w'.cell? ⟨o, 11, none⟩ = some (.map (some S.q.bf)) ∧ w'.cell? ⟨o, 12, none⟩ = some (.int .i64 5) ∧ w'.cell? ⟨o, 13, none⟩ = some (.map (some S.q.bq))
theorem toldS_of {o : Nat} {S : OpenD} {w : World} (h : OpenBox w o S.q) : ToldS o S w := ⟨h.cell 0, h.cell 1, h.cell 2, h.cell 3, h.cell 4, h.cell 5, h.cell 6, h.cell 7, h.cell 8, h.cell 9, h.cell 10, h.cell 11, h.cell 12, h.cell 13⟩
/-- What telling an open partition ends in. -/
def PartEnds (w : World) (base : Nat) (v : PartP) (e : Ending) (w' : World) : Prop := ∃ r : PartD, e = .returned (.agg r.cells) ∧ PartOwn w' base r ∧ r.pure = v ∧ Below w.heap.size w w'
set_option maxRecDepth 100000 in
set_option maxHeartbeats 8000000 in
theorem toldPart_any (o base : Nat) (S : OpenD) (w : World) (h : OpenAt w base o S) (hf : S.Fits) : Calls Tryz.prog 85 #[.pointer (some ⟨o, 0, none⟩)] w fun e w' => PartEnds w base S.pure e w' := by
 have hb0 : Below w.heap.size w (w.alloc (.cells #[.int .i64 0, .int .i64 0, .slice none 0 0, .slice none 0 0, .slice none 0 0, .slice none 0 0, .slice none 0 0, .slice none 0 0] 32)) := (Below.refl _ _).alloc (Nat.le_refl _) _
 have HZ : Hid (OpenAt w base o S ∧ S.Fits ∧ Below w.heap.size w (w.alloc (.cells #[.int .i64 0, .int .i64 0, .slice none 0 0, .slice none 0 0, .slice none 0 0, .slice none 0 0, .slice none 0 0, .slice none 0 0] 32)).drew ∧ (w.alloc (.cells #[.int .i64 0, .int .i64 0, .slice none 0 0, .slice none 0 0, .slice none 0 0, .slice none 0 0, .slice none 0 0, .slice none 0 0] 32)).drew.heap[w.heap.size]? = some (.cells #[.int .i64 0, .int .i64 0, .slice none 0 0, .slice none 0 0, .slice none 0 0, .slice none 0 0, .slice none 0 0, .slice none 0 0] 32 (0, 0)) ∧ w.heap.size < (w.alloc (.cells #[.int .i64 0, .int .i64 0, .slice none 0 0, .slice none 0 0, .slice none 0 0, .slice none 0 0, .slice none 0 0, .slice none 0 0] 32)).drew.heap.size) := ⟨h, hf, hb0.drew, heap_alloc_new _ _, by simp⟩
 have HS : Hid (ToldS o S (w.alloc (.cells #[.int .i64 0, .int .i64 0, .slice none 0 0, .slice none 0 0, .slice none 0 0, .slice none 0 0, .slice none 0 0, .slice none 0 0] 32)).drew) := toldS_of (h.opn.below hb0.drew)
 clear h hf hb0
 go_enter Tryz.func85, Tryz.ntmps85
 go_wp2_with fail
 generalize w.alloc (.cells #[.int .i64 0, .int .i64 0, .slice none 0 0, .slice none 0 0, .slice none 0 0, .slice none 0 0, .slice none 0 0, .slice none 0 0] 32) = W at *
 refine wp_region_held_drew (S := ToldS o S) (by kernel_rfl) HS.out (fun hHeld => ?_)
 refine tk 0 (v := ?_) ?_ hHeld ?_; rotate_left; (intro w0 hS0; obtain ⟨q0, q1, q2, q3, q4, q5, q6, q7, q8, q9, q10, q11, q12, q13⟩ := hS0; go_simp; try with_reducible rfl); simp only [pt, sb, s0, s1]
 refine tk 1 (v := ?_) ?_ hHeld ?_; rotate_left; (intro w0 hS0; obtain ⟨q0, q1, q2, q3, q4, q5, q6, q7, q8, q9, q10, q11, q12, q13⟩ := hS0; go_simp; try with_reducible rfl); simp only [pt, sb, s0, s1]
 refine tk 2 (v := ?_) ?_ hHeld ?_; rotate_left; (intro w0 hS0; obtain ⟨q0, q1, q2, q3, q4, q5, q6, q7, q8, q9, q10, q11, q12, q13⟩ := hS0; go_simp; try with_reducible rfl); simp only [pt, sb, s0, s1]
 refine tk 3 (v := ?_) ?_ hHeld ?_; rotate_left; (intro w0 hS0; obtain ⟨q0, q1, q2, q3, q4, q5, q6, q7, q8, q9, q10, q11, q12, q13⟩ := hS0; go_simp; try with_reducible rfl); simp only [pt, sb, s0, s1]
 refine tk 4 (v := ?_) ?_ hHeld ?_; rotate_left; (intro w0 hS0; obtain ⟨q0, q1, q2, q3, q4, q5, q6, q7, q8, q9, q10, q11, q12, q13⟩ := hS0; go_simp; try with_reducible rfl); simp only [pt, sb, s0, s1]
 refine tk 5 (v := ?_) ?_ hHeld ?_; rotate_left; (intro w0 hS0; obtain ⟨q0, q1, q2, q3, q4, q5, q6, q7, q8, q9, q10, q11, q12, q13⟩ := hS0; go_simp; try with_reducible rfl); simp only [pt, sb, s0, s1]
 refine tk 6 (v := ?_) ?_ hHeld ?_; rotate_left; (intro w0 hS0; obtain ⟨q0, q1, q2, q3, q4, q5, q6, q7, q8, q9, q10, q11, q12, q13⟩ := hS0; go_simp; try with_reducible rfl); simp only [pt, sb, s0, s1]
 refine tk 7 (v := ?_) ?_ hHeld ?_; rotate_left; (intro w0 hS0; obtain ⟨q0, q1, q2, q3, q4, q5, q6, q7, q8, q9, q10, q11, q12, q13⟩ := hS0; go_simp; try with_reducible rfl); simp only [pt, sb, s0, s1]
 refine tk 8 (v := ?_) ?_ hHeld ?_; rotate_left; (intro w0 hS0; obtain ⟨q0, q1, q2, q3, q4, q5, q6, q7, q8, q9, q10, q11, q12, q13⟩ := hS0; go_simp; try with_reducible rfl); simp only [pt, sb, s0, s1]
 refine tk 9 (v := ?_) ?_ hHeld ?_; rotate_left; (intro w0 hS0; obtain ⟨q0, q1, q2, q3, q4, q5, q6, q7, q8, q9, q10, q11, q12, q13⟩ := hS0; go_simp; try with_reducible rfl); simp only [pt, sb, s0, s1]
 refine tk 10 (v := ?_) ?_ hHeld ?_; rotate_left; (intro w0 hS0; obtain ⟨q0, q1, q2, q3, q4, q5, q6, q7, q8, q9, q10, q11, q12, q13⟩ := hS0; go_simp; try with_reducible rfl); simp only [pt, sb, s0, s1]
 refine tk 11 (v := ?_) ?_ hHeld ?_; rotate_left; (intro w0 hS0; obtain ⟨q0, q1, q2, q3, q4, q5, q6, q7, q8, q9, q10, q11, q12, q13⟩ := hS0; go_simp; try with_reducible rfl); simp only [pt, sb, s0, s1]
 refine tk 13 (v := ?_) ?_ hHeld ?_; rotate_left; (intro w0 hS0; obtain ⟨q0, q1, q2, q3, q4, q5, q6, q7, q8, q9, q10, q11, q12, q13⟩ := hS0; go_simp; try with_reducible rfl); simp only [pt, sb, s0, s1]
 refine tk 14 (v := ?_) ?_ hHeld ?_; rotate_left; (intro w0 hS0; obtain ⟨q0, q1, q2, q3, q4, q5, q6, q7, q8, q9, q10, q11, q12, q13⟩ := hS0; go_simp; try with_reducible rfl); simp only [pt, sb, s0, s1]
 refine tk 15 (v := ?_) ?_ hHeld ?_; rotate_left; (intro w0 hS0; obtain ⟨q0, q1, q2, q3, q4, q5, q6, q7, q8, q9, q10, q11, q12, q13⟩ := hS0; go_simp; try with_reducible rfl); simp only [pt, sb, s0, s1]
 refine tk 16 (v := ?_) ?_ hHeld ?_; rotate_left; (intro w0 hS0; obtain ⟨q0, q1, q2, q3, q4, q5, q6, q7, q8, q9, q10, q11, q12, q13⟩ := hS0; go_simp; try with_reducible rfl); simp only [pt, sb, s0, s1]
 refine tk 18 (v := ?_) ?_ hHeld ?_; rotate_left; (intro w0 hS0; obtain ⟨q0, q1, q2, q3, q4, q5, q6, q7, q8, q9, q10, q11, q12, q13⟩ := hS0; go_simp; try with_reducible rfl); simp only [pt, sb, s0, s1]
 refine tk 19 (v := ?_) ?_ hHeld ?_; rotate_left; (intro w0 hS0; obtain ⟨q0, q1, q2, q3, q4, q5, q6, q7, q8, q9, q10, q11, q12, q13⟩ := hS0; go_simp; try with_reducible rfl); simp only [pt, sb, s0, s1]
 refine tk 20 (v := ?_) ?_ hHeld ?_; rotate_left; (intro w0 hS0; obtain ⟨q0, q1, q2, q3, q4, q5, q6, q7, q8, q9, q10, q11, q12, q13⟩ := hS0; go_simp; try with_reducible rfl); simp only [pt, sb, s0, s1]
 refine tk 21 (v := ?_) ?_ hHeld ?_; rotate_left; (intro w0 hS0; obtain ⟨q0, q1, q2, q3, q4, q5, q6, q7, q8, q9, q10, q11, q12, q13⟩ := hS0; go_simp; try with_reducible rfl); simp only [pt, sb, s0, s1]
 refine tk 23 (v := ?_) ?_ hHeld ?_; rotate_left; (intro w0 hS0; obtain ⟨q0, q1, q2, q3, q4, q5, q6, q7, q8, q9, q10, q11, q12, q13⟩ := hS0; go_simp; try with_reducible rfl); simp only [pt, sb, s0, s1]
 refine tk 24 (v := ?_) ?_ hHeld ?_; rotate_left; (intro w0 hS0; obtain ⟨q0, q1, q2, q3, q4, q5, q6, q7, q8, q9, q10, q11, q12, q13⟩ := hS0; go_simp; try with_reducible rfl); simp only [pt, sb, s0, s1]
 refine tk 25 (v := ?_) ?_ hHeld ?_; rotate_left; (intro w0 hS0; obtain ⟨q0, q1, q2, q3, q4, q5, q6, q7, q8, q9, q10, q11, q12, q13⟩ := hS0; go_simp; try with_reducible rfl); simp only [pt, sb, s0, s1]
 refine tk 26 (v := ?_) ?_ hHeld ?_; rotate_left; (intro w0 hS0; obtain ⟨q0, q1, q2, q3, q4, q5, q6, q7, q8, q9, q10, q11, q12, q13⟩ := hS0; go_simp; try with_reducible rfl); simp only [pt, sb, s0, s1]
 refine tk 28 (v := ?_) ?_ hHeld ?_; rotate_left; (intro w0 hS0; obtain ⟨q0, q1, q2, q3, q4, q5, q6, q7, q8, q9, q10, q11, q12, q13⟩ := hS0; go_simp; try with_reducible rfl); simp only [pt, sb, s0, s1]
 refine tk 29 (v := ?_) ?_ hHeld ?_; rotate_left; (intro w0 hS0; obtain ⟨q0, q1, q2, q3, q4, q5, q6, q7, q8, q9, q10, q11, q12, q13⟩ := hS0; go_simp; try with_reducible rfl); simp only [pt, sb, s0, s1]
 refine tk 30 (v := ?_) ?_ hHeld ?_; rotate_left; (intro w0 hS0; obtain ⟨q0, q1, q2, q3, q4, q5, q6, q7, q8, q9, q10, q11, q12, q13⟩ := hS0; go_simp; try with_reducible rfl); simp only [pt, sb, s0, s1]
 refine tk 31 (v := ?_) ?_ hHeld ?_; rotate_left; (intro w0 hS0; obtain ⟨q0, q1, q2, q3, q4, q5, q6, q7, q8, q9, q10, q11, q12, q13⟩ := hS0; go_simp; try with_reducible rfl); simp only [pt, sb, s0, s1]
 refine tk 33 (v := ?_) ?_ hHeld ?_; rotate_left; (intro w0 hS0; obtain ⟨q0, q1, q2, q3, q4, q5, q6, q7, q8, q9, q10, q11, q12, q13⟩ := hS0; go_simp; try with_reducible rfl); simp only [pt, sb, s0, s1]
 refine tk 34 (v := ?_) ?_ hHeld ?_; rotate_left; (intro w0 hS0; obtain ⟨q0, q1, q2, q3, q4, q5, q6, q7, q8, q9, q10, q11, q12, q13⟩ := hS0; go_simp; try with_reducible rfl); simp only [pt, sb, s0, s1]
 refine tk 35 (v := ?_) ?_ hHeld ?_; rotate_left; (intro w0 hS0; obtain ⟨q0, q1, q2, q3, q4, q5, q6, q7, q8, q9, q10, q11, q12, q13⟩ := hS0; go_simp; try with_reducible rfl); simp only [pt, sb, s0, s1]
 refine tk 36 (v := ?_) ?_ hHeld ?_; rotate_left; (intro w0 hS0; obtain ⟨q0, q1, q2, q3, q4, q5, q6, q7, q8, q9, q10, q11, q12, q13⟩ := hS0; go_simp; try with_reducible rfl); simp only [pt, sb, s0, s1]
 clear HS
 generalize hWd : W.drew = W0 at *
 clear hWd
 refine wpAnyH_ready (rs := [12]) (by kernel_rfl) (by simp) ?_
 refine AllReadyH.cons rfl (fun K hK => ?_) AllReadyH.nil
 simp only [List.getElem_toArray, List.getElem_cons_zero, List.getElem_cons_succ]
 rw [if_pos (by rfl)]
 go_wp2_with fail
 refine (toldProc_any 6 base S.q.bp S.lp W0 (HZ.out.1.procs.below HZ.out.2.2.1) HZ.out.2.1.nProc HZ.out.2.1.wProc).mono ?_
 rintro e W1 ⟨a1, c1, rfl, hown, hb⟩
 have HT1 : Hid (Btw W0.heap.size W1.heap.size (blk a1) ∧ W0.heap.size ≤ W1.heap.size) := ⟨btw_row hown, hb.size⟩
 have HY : Hid (W1.ownsRow W0.heap.size 43 12 (.slice a1 (S.lp.map (·.1)).length c1) (S.lp.map (·.1)).length (procK.flat (S.lp.map (·.1))) ∧ W0.heap.size ≤ W1.heap.size) := ⟨hown, hb.size⟩
 have HR := HY
 clear HY
 have HZ2 : Hid (OpenAt w base o S ∧ S.Fits ∧ Below w.heap.size w W1 ∧ W1.heap[w.heap.size]? = some (.cells #[.int .i64 0, .int .i64 0, .slice none 0 0, .slice none 0 0, .slice none 0 0, .slice none 0 0, .slice none 0 0, .slice none 0 0] 32 (0, 0)) ∧ w.heap.size < W0.heap.size) := ⟨HZ.out.1, HZ.out.2.1, HZ.out.2.2.1.trans (hb.mono HZ.out.2.2.1.size), (hb.block _ (Array.getElem?_eq_some_iff.1 HZ.out.2.2.2.1).1).trans HZ.out.2.2.2.1, HZ.out.2.2.2.2⟩
 clear HZ hown hb
 have HZ := HZ2
 clear HZ2 hHeld
 refine hK.out _ _ (toldS_of (HZ.out.1.opn.below HZ.out.2.2.1)) (fun hHeld => ?_)
 clear hK K
 try simp only [List.getElem_toArray, List.getElem_cons_zero, List.getElem_cons_succ, Act.put, List.setIfInBounds_toArray, List.set_cons_zero, List.set_cons_succ]
 refine wpAnyH_ready (rs := [17]) (by kernel_rfl) (by simp) ?_
 refine AllReadyH.cons rfl (fun K hK => ?_) AllReadyH.nil
 simp only [List.getElem_toArray, List.getElem_cons_zero, List.getElem_cons_succ]
 rw [if_pos (by rfl)]
 go_wp2_with fail
 refine (toldSem_any 5 base S.q.bs S.ls W1 (HZ.out.1.sems.below HZ.out.2.2.1) HZ.out.2.1.nSem HZ.out.2.1.wSem).mono ?_
 rintro e W2 ⟨a2, c2, rfl, hown, hb⟩
 have HT2 : Hid (Btw W1.heap.size W2.heap.size (blk a2) ∧ W1.heap.size ≤ W2.heap.size) := ⟨btw_row hown, hb.size⟩
 have HY : Hid (W2.ownsRow W0.heap.size 43 12 (.slice a1 (S.lp.map (·.1)).length c1) (S.lp.map (·.1)).length (procK.flat (S.lp.map (·.1))) ∧ W2.ownsRow W1.heap.size 49 3 (.slice a2 (S.ls.map (·.1)).length c2) (S.ls.map (·.1)).length (semK.flat (S.ls.map (·.1))) ∧ W0.heap.size ≤ W1.heap.size ∧ W1.heap.size ≤ W2.heap.size) := ⟨own_below HR.out.1 hb, hown, HR.out.2, hb.size⟩
 clear HR
 have HR := HY
 clear HY
 have HZ2 : Hid (OpenAt w base o S ∧ S.Fits ∧ Below w.heap.size w W2 ∧ W2.heap[w.heap.size]? = some (.cells #[.int .i64 0, .int .i64 0, .slice none 0 0, .slice none 0 0, .slice none 0 0, .slice none 0 0, .slice none 0 0, .slice none 0 0] 32 (0, 0)) ∧ w.heap.size < W0.heap.size) := ⟨HZ.out.1, HZ.out.2.1, HZ.out.2.2.1.trans (hb.mono HZ.out.2.2.1.size), (hb.block _ (Array.getElem?_eq_some_iff.1 HZ.out.2.2.2.1).1).trans HZ.out.2.2.2.1, HZ.out.2.2.2.2⟩
 clear HZ hown hb
 have HZ := HZ2
 clear HZ2 hHeld
 refine hK.out _ _ (toldS_of (HZ.out.1.opn.below HZ.out.2.2.1)) (fun hHeld => ?_)
 clear hK K
 try simp only [List.getElem_toArray, List.getElem_cons_zero, List.getElem_cons_succ, Act.put, List.setIfInBounds_toArray, List.set_cons_zero, List.set_cons_succ]
 refine wpAnyH_ready (rs := [22]) (by kernel_rfl) (by simp) ?_
 refine AllReadyH.cons rfl (fun K hK => ?_) AllReadyH.nil
 simp only [List.getElem_toArray, List.getElem_cons_zero, List.getElem_cons_succ]
 rw [if_pos (by rfl)]
 go_wp2_with fail
 refine (toldEvent_any 5 base S.q.be S.le W2 (HZ.out.1.events.below HZ.out.2.2.1) HZ.out.2.1.nEvent HZ.out.2.1.wEvent).mono ?_
 rintro e W3 ⟨a3, c3, rfl, hown, hb⟩
 have HT3 : Hid (Btw W2.heap.size W3.heap.size (blk a3) ∧ W2.heap.size ≤ W3.heap.size) := ⟨btw_row hown, hb.size⟩
 have HY : Hid (W3.ownsRow W0.heap.size 43 12 (.slice a1 (S.lp.map (·.1)).length c1) (S.lp.map (·.1)).length (procK.flat (S.lp.map (·.1))) ∧ W3.ownsRow W1.heap.size 49 3 (.slice a2 (S.ls.map (·.1)).length c2) (S.ls.map (·.1)).length (semK.flat (S.ls.map (·.1))) ∧ W3.ownsRow W2.heap.size 138 2 (.slice a3 (S.le.map (·.1)).length c3) (S.le.map (·.1)).length (eventK.flat (S.le.map (·.1))) ∧ W0.heap.size ≤ W1.heap.size ∧ W1.heap.size ≤ W2.heap.size ∧ W2.heap.size ≤ W3.heap.size) := ⟨own_below HR.out.1 hb, own_below HR.out.2.1 hb, hown, HR.out.2.2.1, HR.out.2.2.2, hb.size⟩
 clear HR
 have HR := HY
 clear HY
 have HZ2 : Hid (OpenAt w base o S ∧ S.Fits ∧ Below w.heap.size w W3 ∧ W3.heap[w.heap.size]? = some (.cells #[.int .i64 0, .int .i64 0, .slice none 0 0, .slice none 0 0, .slice none 0 0, .slice none 0 0, .slice none 0 0, .slice none 0 0] 32 (0, 0)) ∧ w.heap.size < W0.heap.size) := ⟨HZ.out.1, HZ.out.2.1, HZ.out.2.2.1.trans (hb.mono HZ.out.2.2.1.size), (hb.block _ (Array.getElem?_eq_some_iff.1 HZ.out.2.2.2.1).1).trans HZ.out.2.2.2.1, HZ.out.2.2.2.2⟩
 clear HZ hown hb
 have HZ := HZ2
 clear HZ2 hHeld
 refine hK.out _ _ (toldS_of (HZ.out.1.opn.below HZ.out.2.2.1)) (fun hHeld => ?_)
 clear hK K
 try simp only [List.getElem_toArray, List.getElem_cons_zero, List.getElem_cons_succ, Act.put, List.setIfInBounds_toArray, List.set_cons_zero, List.set_cons_succ]
 refine wpAnyH_ready (rs := [27]) (by kernel_rfl) (by simp) ?_
 refine AllReadyH.cons rfl (fun K hK => ?_) AllReadyH.nil
 simp only [List.getElem_toArray, List.getElem_cons_zero, List.getElem_cons_succ]
 rw [if_pos (by rfl)]
 go_wp2_with fail
 refine (toldBoard_any 5 base S.q.bb S.lb W3 (HZ.out.1.boards.below HZ.out.2.2.1) HZ.out.2.1.nBoard HZ.out.2.1.wBoard).mono ?_
 rintro e W4 ⟨a4, c4, rfl, hown, hb⟩
 have HT4 : Hid (Btw W3.heap.size W4.heap.size (blk a4) ∧ W3.heap.size ≤ W4.heap.size) := ⟨btw_row hown, hb.size⟩
 have HY : Hid (W4.ownsRow W0.heap.size 43 12 (.slice a1 (S.lp.map (·.1)).length c1) (S.lp.map (·.1)).length (procK.flat (S.lp.map (·.1))) ∧ W4.ownsRow W1.heap.size 49 3 (.slice a2 (S.ls.map (·.1)).length c2) (S.ls.map (·.1)).length (semK.flat (S.ls.map (·.1))) ∧ W4.ownsRow W2.heap.size 138 2 (.slice a3 (S.le.map (·.1)).length c3) (S.le.map (·.1)).length (eventK.flat (S.le.map (·.1))) ∧ W4.ownsRow W3.heap.size 141 3 (.slice a4 (S.lb.map (·.1)).length c4) (S.lb.map (·.1)).length (boardK.flat (S.lb.map (·.1))) ∧ W0.heap.size ≤ W1.heap.size ∧ W1.heap.size ≤ W2.heap.size ∧ W2.heap.size ≤ W3.heap.size ∧ W3.heap.size ≤ W4.heap.size) := ⟨own_below HR.out.1 hb, own_below HR.out.2.1 hb, own_below HR.out.2.2.1 hb, hown, HR.out.2.2.2.1, HR.out.2.2.2.2.1, HR.out.2.2.2.2.2, hb.size⟩
 clear HR
 have HR := HY
 clear HY
 have HZ2 : Hid (OpenAt w base o S ∧ S.Fits ∧ Below w.heap.size w W4 ∧ W4.heap[w.heap.size]? = some (.cells #[.int .i64 0, .int .i64 0, .slice none 0 0, .slice none 0 0, .slice none 0 0, .slice none 0 0, .slice none 0 0, .slice none 0 0] 32 (0, 0)) ∧ w.heap.size < W0.heap.size) := ⟨HZ.out.1, HZ.out.2.1, HZ.out.2.2.1.trans (hb.mono HZ.out.2.2.1.size), (hb.block _ (Array.getElem?_eq_some_iff.1 HZ.out.2.2.2.1).1).trans HZ.out.2.2.2.1, HZ.out.2.2.2.2⟩
 clear HZ hown hb
 have HZ := HZ2
 clear HZ2 hHeld
 refine hK.out _ _ (toldS_of (HZ.out.1.opn.below HZ.out.2.2.1)) (fun hHeld => ?_)
 clear hK K
 try simp only [List.getElem_toArray, List.getElem_cons_zero, List.getElem_cons_succ, Act.put, List.setIfInBounds_toArray, List.set_cons_zero, List.set_cons_succ]
 refine wpAnyH_ready (rs := [32]) (by kernel_rfl) (by simp) ?_
 refine AllReadyH.cons rfl (fun K hK => ?_) AllReadyH.nil
 simp only [List.getElem_toArray, List.getElem_cons_zero, List.getElem_cons_succ]
 rw [if_pos (by rfl)]
 go_wp2_with fail
 refine (toldBuffer_any 5 base S.q.bf S.lf W4 (HZ.out.1.buffers.below HZ.out.2.2.1) HZ.out.2.1.nBuffer HZ.out.2.1.wBuffer).mono ?_
 rintro e W5 ⟨a5, c5, rfl, hown, hb⟩
 have HT5 : Hid (Btw W4.heap.size W5.heap.size (blk a5) ∧ W4.heap.size ≤ W5.heap.size) := ⟨btw_row hown, hb.size⟩
 have HY : Hid (W5.ownsRow W0.heap.size 43 12 (.slice a1 (S.lp.map (·.1)).length c1) (S.lp.map (·.1)).length (procK.flat (S.lp.map (·.1))) ∧ W5.ownsRow W1.heap.size 49 3 (.slice a2 (S.ls.map (·.1)).length c2) (S.ls.map (·.1)).length (semK.flat (S.ls.map (·.1))) ∧ W5.ownsRow W2.heap.size 138 2 (.slice a3 (S.le.map (·.1)).length c3) (S.le.map (·.1)).length (eventK.flat (S.le.map (·.1))) ∧ W5.ownsRow W3.heap.size 141 3 (.slice a4 (S.lb.map (·.1)).length c4) (S.lb.map (·.1)).length (boardK.flat (S.lb.map (·.1))) ∧ W5.ownsRow W4.heap.size 144 3 (.slice a5 (S.lf.map (·.1)).length c5) (S.lf.map (·.1)).length (bufferK.flat (S.lf.map (·.1))) ∧ W0.heap.size ≤ W1.heap.size ∧ W1.heap.size ≤ W2.heap.size ∧ W2.heap.size ≤ W3.heap.size ∧ W3.heap.size ≤ W4.heap.size ∧ W4.heap.size ≤ W5.heap.size) := ⟨own_below HR.out.1 hb, own_below HR.out.2.1 hb, own_below HR.out.2.2.1 hb, own_below HR.out.2.2.2.1 hb, hown, HR.out.2.2.2.2.1, HR.out.2.2.2.2.2.1, HR.out.2.2.2.2.2.2.1, HR.out.2.2.2.2.2.2.2, hb.size⟩
 clear HR
 have HR := HY
 clear HY
 have HZ2 : Hid (OpenAt w base o S ∧ S.Fits ∧ Below w.heap.size w W5 ∧ W5.heap[w.heap.size]? = some (.cells #[.int .i64 0, .int .i64 0, .slice none 0 0, .slice none 0 0, .slice none 0 0, .slice none 0 0, .slice none 0 0, .slice none 0 0] 32 (0, 0)) ∧ w.heap.size < W0.heap.size) := ⟨HZ.out.1, HZ.out.2.1, HZ.out.2.2.1.trans (hb.mono HZ.out.2.2.1.size), (hb.block _ (Array.getElem?_eq_some_iff.1 HZ.out.2.2.2.1).1).trans HZ.out.2.2.2.1, HZ.out.2.2.2.2⟩
 clear HZ hown hb
 have HZ := HZ2
 clear HZ2 hHeld
 refine hK.out _ _ (toldS_of (HZ.out.1.opn.below HZ.out.2.2.1)) (fun hHeld => ?_)
 clear hK K
 try simp only [List.getElem_toArray, List.getElem_cons_zero, List.getElem_cons_succ, Act.put, List.setIfInBounds_toArray, List.set_cons_zero, List.set_cons_succ]
 refine wpAnyH_ready (rs := [37]) (by kernel_rfl) (by simp) ?_
 refine AllReadyH.cons rfl (fun K hK => ?_) AllReadyH.nil
 simp only [List.getElem_toArray, List.getElem_cons_zero, List.getElem_cons_succ]
 rw [if_pos (by rfl)]
 go_wp2_with fail
 refine (toldPort_any 5 base S.q.bq S.lq W5 (HZ.out.1.ports.below HZ.out.2.2.1) HZ.out.2.1.nPort HZ.out.2.1.wPort).mono ?_
 rintro e W6 ⟨a6, c6, rfl, hown, hb⟩
 have HT6 : Hid (Btw W5.heap.size W6.heap.size (blk a6) ∧ W5.heap.size ≤ W6.heap.size) := ⟨btw_row hown, hb.size⟩
 have HY : Hid (W6.ownsRow W0.heap.size 43 12 (.slice a1 (S.lp.map (·.1)).length c1) (S.lp.map (·.1)).length (procK.flat (S.lp.map (·.1))) ∧ W6.ownsRow W1.heap.size 49 3 (.slice a2 (S.ls.map (·.1)).length c2) (S.ls.map (·.1)).length (semK.flat (S.ls.map (·.1))) ∧ W6.ownsRow W2.heap.size 138 2 (.slice a3 (S.le.map (·.1)).length c3) (S.le.map (·.1)).length (eventK.flat (S.le.map (·.1))) ∧ W6.ownsRow W3.heap.size 141 3 (.slice a4 (S.lb.map (·.1)).length c4) (S.lb.map (·.1)).length (boardK.flat (S.lb.map (·.1))) ∧ W6.ownsRow W4.heap.size 144 3 (.slice a5 (S.lf.map (·.1)).length c5) (S.lf.map (·.1)).length (bufferK.flat (S.lf.map (·.1))) ∧ W6.ownsRow W5.heap.size 61 5 (.slice a6 (S.lq.map (·.1)).length c6) (S.lq.map (·.1)).length (portK.flat (S.lq.map (·.1))) ∧ W0.heap.size ≤ W1.heap.size ∧ W1.heap.size ≤ W2.heap.size ∧ W2.heap.size ≤ W3.heap.size ∧ W3.heap.size ≤ W4.heap.size ∧ W4.heap.size ≤ W5.heap.size ∧ W5.heap.size ≤ W6.heap.size) := ⟨own_below HR.out.1 hb, own_below HR.out.2.1 hb, own_below HR.out.2.2.1 hb, own_below HR.out.2.2.2.1 hb, own_below HR.out.2.2.2.2.1 hb, hown, HR.out.2.2.2.2.2.1, HR.out.2.2.2.2.2.2.1, HR.out.2.2.2.2.2.2.2.1, HR.out.2.2.2.2.2.2.2.2.1, HR.out.2.2.2.2.2.2.2.2.2, hb.size⟩
 clear HR
 have HR := HY
 clear HY
 have HZ2 : Hid (OpenAt w base o S ∧ S.Fits ∧ Below w.heap.size w W6 ∧ W6.heap[w.heap.size]? = some (.cells #[.int .i64 0, .int .i64 0, .slice none 0 0, .slice none 0 0, .slice none 0 0, .slice none 0 0, .slice none 0 0, .slice none 0 0] 32 (0, 0)) ∧ w.heap.size < W0.heap.size) := ⟨HZ.out.1, HZ.out.2.1, HZ.out.2.2.1.trans (hb.mono HZ.out.2.2.1.size), (hb.block _ (Array.getElem?_eq_some_iff.1 HZ.out.2.2.2.1).1).trans HZ.out.2.2.2.1, HZ.out.2.2.2.2⟩
 clear HZ hown hb
 have HZ := HZ2
 clear HZ2 hHeld
 refine hK.out _ _ (toldS_of (HZ.out.1.opn.below HZ.out.2.2.1)) (fun hHeld => ?_)
 clear hK K
 try simp only [List.getElem_toArray, List.getElem_cons_zero, List.getElem_cons_succ, Act.put, List.setIfInBounds_toArray, List.set_cons_zero, List.set_cons_succ]
 refine wpAnyH_take (i := 38) (v := .agg #[.int .i64 S.q.id, .int .i64 S.q.next, .slice a1 S.lp.length c1, .slice a2 S.ls.length c2, .slice a3 S.le.length c3, .slice a4 S.lb.length c4, .slice a5 S.lf.length c5, .slice a6 S.lq.length c6]) rfl (by kernel_rfl) (by kernel_rfl) (by kernel_rfl) (fun _ _ _ h => h) (Or.inl ⟨by kernel_rfl, ?_⟩) hHeld ?_
 ·intro w0 hS0
  go_simp
  try with_reducible rfl
 simp only [List.getElem_toArray, List.getElem_cons_zero, List.getElem_cons_succ, Act.put, List.setIfInBounds_toArray, List.set_cons_zero, List.set_cons_succ]
 refine wpAnyH_ready (rs := [39]) (by kernel_rfl) (by simp) ?_
 refine AllReadyH.cons rfl (fun K hK => ?_) AllReadyH.nil
 simp only [List.getElem_toArray, List.getElem_cons_zero, List.getElem_cons_succ]
 rw [if_pos (by rfl)]
 refine oper_store _ _ _ rfl w.heap.size _ _ #[.int .i64 S.q.id, .int .i64 S.q.next, .slice a1 S.lp.length c1, .slice a2 S.ls.length c2, .slice a3 S.le.length c3, .slice a4 S.lb.length c4, .slice a5 S.lf.length c5, .slice a6 S.lq.length c6] rfl rfl HZ.out.2.2.2.1 (by kernel_rfl) rfl (by simp [Value.oneCell']) ?_
 have hol : o < w.heap.size := (Array.getElem?_eq_some_iff.1 HZ.out.1.opn).1
 have hbs : Below w.heap.size w (W6.setRow w.heap.size #[.int .i64 S.q.id, .int .i64 S.q.next, .slice a1 S.lp.length c1, .slice a2 S.ls.length c2, .slice a3 S.le.length c3, .slice a4 S.lb.length c4, .slice a5 S.lf.length c5, .slice a6 S.lq.length c6]) := below_setRow HZ.out.2.2.1 (Nat.le_refl _) _
 refine hK.out _ _ (toldS_of (HZ.out.1.opn.below hbs)) (fun hHeld => ?_)
 clear hK K hHeld
 refine wpAnyH_done (by kernel_rfl) ?_ _
 repeat (first | go_values | go_skip | go_guarded | go_step | go_upon)
 refine bodyPost_ret (v := .agg #[.int .i64 S.q.id, .int .i64 S.q.next, .slice a1 S.lp.length c1, .slice a2 S.ls.length c2, .slice a3 S.le.length c3, .slice a4 S.lb.length c4, .slice a5 S.lf.length c5, .slice a6 S.lq.length c6]) (results_cell_row Tryz.results85 _ _ w.heap.size _ _ (0, 0) _ rfl (setRow_heap _ _ _ _ _ _ HZ.out.2.2.2.1) Tryz.underlying32 rfl (by kernel_rfl)) rfl ?_
 have hA := HZ.out.1
 have hbel := HZ.out.2.2.1
 have hlo := hA.low
 have hw0 := HZ.out.2.2.2.2
 have t1 := HT1.out.2
 have t2 := HT2.out.2
 have t3 := HT3.out.2
 have t4 := HT4.out.2
 have t5 := HT5.out.2
 have t6 := HT6.out.2
 have hmP : ∀ q ∈ S.lp, procN.Mine W6 base q.1 := fun q hq => (hA.mineP q hq).same fun g hk => hbel.block g ((hA.mineP q hq).lt hk).2
 have hmF : ∀ q ∈ S.lf, bufferN.Mine W6 base q.1 := fun q hq => (hA.mineF q hq).same fun g hk => hbel.block g ((hA.mineF q hq).lt hk).2
 have hmQ : ∀ q ∈ S.lq, portN.Mine W6 base q.1 := fun q hq => (hA.mineQ q hq).same fun g hk => hbel.block g ((hA.mineQ q hq).lt hk).2
 have hkn : S.kids.Nodup := (List.nodup_append.1 (List.nodup_cons.1 hA.nodup).2).2.1
 have hkl : ∀ g ∈ S.kids, g < w.heap.size := fun g hg => by
  simp only [OpenD.kids, List.mem_append, kids, List.mem_filterMap] at hg
  rcases hg with ⟨q, hq, hk⟩ | ⟨q, hq, hk⟩ | ⟨q, hq, hk⟩
  ·exact ((hA.mineP q hq).lt hk).2
  ·exact ((hA.mineF q hq).lt hk).2
  ·exact ((hA.mineQ q hq).lt hk).2
 have eP : (S.lp.map (·.1)).filterMap procN.kid = kids procN S.lp := by rw [List.filterMap_map]; rfl
 have eF : (S.lf.map (·.1)).filterMap bufferN.kid = kids bufferN S.lf := by rw [List.filterMap_map]; rfl
 have eQ : (S.lq.map (·.1)).filterMap portN.kid = kids portN S.lq := by rw [List.filterMap_map]; rfl
 have hown : PartOwn W6 base (⟨S.q.id, S.q.next, S.lp.map (·.1), a1, c1, S.ls.map (·.1), a2, c2, S.le.map (·.1), a3, c3, S.lb.map (·.1), a4, c4, S.lf.map (·.1), a5, c5, S.lq.map (·.1), a6, c6⟩ : PartD) := by
  refine ⟨own_low HR.out.1 (by omega), own_low HR.out.2.1 (by omega), own_low HR.out.2.2.1 (by omega), own_low HR.out.2.2.2.1 (by omega), own_low HR.out.2.2.2.2.1 (by omega), own_low HR.out.2.2.2.2.2.1 (by omega), ?_, ?_, ?_, ?_⟩
  ·intro x hx
   obtain ⟨q, hq, rfl⟩ := List.mem_map.1 hx
   exact hmP q hq
  ·intro x hx
   obtain ⟨q, hq, rfl⟩ := List.mem_map.1 hx
   exact hmF q hq
  ·intro x hx
   obtain ⟨q, hq, rfl⟩ := List.mem_map.1 hx
   exact hmQ q hq
  ·simp only [PartD.blocks, eP, eF, eQ]
   exact nodup_told (N := W0.heap.size) hkn (fun g hg => by have := hkl g hg; omega) HT1.out.1 HT2.out.1 HT3.out.1 HT4.out.1 HT5.out.1 HT6.out.1 ⟨t1, t2, t3, t4, t5, t6⟩
 have hne : ∀ g ∈ (⟨S.q.id, S.q.next, S.lp.map (·.1), a1, c1, S.ls.map (·.1), a2, c2, S.le.map (·.1), a3, c3, S.lb.map (·.1), a4, c4, S.lf.map (·.1), a5, c5, S.lq.map (·.1), a6, c6⟩ : PartD).blocks, g ≠ w.heap.size := fun g hg e => by
  simp only [PartD.blocks, eP, eF, eQ, List.mem_append] at hg
  have hk : ∀ g, (g ∈ kids procN S.lp ∨ g ∈ kids bufferN S.lf ∨ g ∈ kids portN S.lq) → g < w.heap.size := fun g h5 => hkl g (by simp only [OpenD.kids, List.mem_append]; exact h5)
  rcases hg with hg | hg | hg | hg | hg | hg | hg | hg | hg
  ·have := (HT1.out.1.2 g hg).1; omega
  ·have := hk g (.inl hg); omega
  ·have := (HT2.out.1.2 g hg).1; omega
  ·have := (HT3.out.1.2 g hg).1; omega
  ·have := (HT4.out.1.2 g hg).1; omega
  ·have := (HT5.out.1.2 g hg).1; omega
  ·have := hk g (.inr (.inl hg)); omega
  ·have := (HT6.out.1.2 g hg).1; omega
  ·have := hk g (.inr (.inr hg)); omega
 exact ⟨(⟨S.q.id, S.q.next, S.lp.map (·.1), a1, c1, S.ls.map (·.1), a2, c2, S.le.map (·.1), a3, c3, S.lb.map (·.1), a4, c4, S.lf.map (·.1), a5, c5, S.lq.map (·.1), a6, c6⟩ : PartD), by simp [PartD.cells], hown.same fun g hg => setRow_other _ _ _ _ (hne g hg), by simp [PartD.pure, OpenD.pure, Function.comp_def], hbs⟩
end Go.Proofs.YtkbcplnlehdjfaaGreat

/- One process of an open partition is turned where it lies. -/
namespace Go.Proofs.YtkbcplnlehdjfaaGreat
open Go.RowKit Go.Maps
/-- The open partition behind it: one process turned, the next turn's number another one. -/
def OpenD.turn (S : OpenD) (g : Nat) (f : ProcD → ProcD) (nx : Int) : OpenD := { S with q := { S.q with next := nx }, lp := upd g f S.lp }
theorem upd_kids {g : Nat} {f : ProcD → ProcD} (hf : ∀ x, procN.kid (f x) = procN.kid x) (l : List (ProcD × Nat)) : kids procN (upd g f l) = kids procN l := by
 induction l with
 | nil => rfl
 | cons p r ih =>
  have e : (upd g f (p :: r)) = (if p.2 = g then (f p.1, p.2) else p) :: upd g f r := rfl
  simp only [kids, List.filterMap_cons] at ih ⊢
  rw [e]
  simp only [List.filterMap_cons]
  by_cases h : p.2 = g
  ·simp only [h, if_true, hf]
   rw [ih]
  ·simp only [h, if_false]
   rw [ih]
theorem OpenAt.turn {w w' : World} {base o g : Nat} {S : OpenD} {f : ProcD → ProcD} {nx : Int} (h : OpenAt w base o S) (hf : ∀ x, (f x).id = x.id ∧ (f x).prog = x.prog ∧ (f x).progA = x.progA ∧ (f x).progC = x.progC)
  (hc : ∀ p ∈ S.lp, p.2 = g → w'.heap[g]? = some (.cells (procVs (f p.1)) 43 (0, 0))) (hg : g ∈ S.lp.map (·.2)) (ho : OpenBox w' o { S.q with next := nx }) (hs : ∀ b, b ≠ g → b ≠ o → w'.heap[b]? = w.heap[b]?) : OpenAt w' base o (S.turn g f nx) := by
 have hkid : ∀ x, procN.kid (f x) = procN.kid x := fun x => by show (f x).progA.map (·.block) = x.progA.map (·.block); rw [(hf x).2.2.1]
 have hn := h.nodup
 have hno := (List.nodup_cons.1 hn).1
 have hbk := (List.nodup_append.1 (List.nodup_cons.1 hn).2)
 have hb6 := hbk.1
 unfold OpenD.boxes at hb6
 have hin : ∀ b, b ∈ S.boxes ∨ b ∈ S.kids → b ≠ o := fun b hb e => hno (by rw [← e]; exact List.mem_append.2 hb)
 have hp := List.nodup_append.1 hb6
 have hgp : g ∈ S.q.bp :: S.lp.map (·.2) := List.mem_cons_of_mem _ hg
 have hgr : ∀ b, b ∈ ((S.q.bs :: S.ls.map (·.2)) ++ ((S.q.be :: S.le.map (·.2)) ++ ((S.q.bb :: S.lb.map (·.2)) ++ ((S.q.bf :: S.lf.map (·.2)) ++ (S.q.bq :: S.lq.map (·.2)))))) → b ≠ g := fun b hb e => hp.2.2 g hgp b hb e.symm
 have hgk : ∀ b ∈ S.kids, b ≠ g := fun b hb e => hbk.2.2 g (by unfold OpenD.boxes; exact List.mem_append_left _ hgp) b hb e.symm
 have hbp : S.q.bp ≠ g := fun e => by
  have := (List.nodup_cons.1 hp.1).1
  rw [e] at this
  exact this hg
 have hbx : ∀ b, b ∈ (S.q.bp :: S.lp.map (·.2)) → b ≠ o := fun b hb => hin b (.inl (by unfold OpenD.boxes; exact List.mem_append_left _ hb))
 have hbr : ∀ b, b ∈ ((S.q.bs :: S.ls.map (·.2)) ++ ((S.q.be :: S.le.map (·.2)) ++ ((S.q.bb :: S.lb.map (·.2)) ++ ((S.q.bf :: S.lf.map (·.2)) ++ (S.q.bq :: S.lq.map (·.2)))))) → w'.heap[b]? = w.heap[b]? := fun b hb => hs b (hgr b hb) (hin b (.inl (by unfold OpenD.boxes; exact List.mem_append_right _ hb)))
 have hkk : ∀ b ∈ S.kids, w'.heap[b]? = w.heap[b]? := fun b hb => hs b (hgk b hb) (hin b (.inr hb))
 have hmem : ∀ (b : Nat), (b ∈ kids procN S.lp ∨ b ∈ kids bufferN S.lf ∨ b ∈ kids portN S.lq) → b ∈ S.kids := fun b hb => by simp only [OpenD.kids, List.mem_append]; exact hb
 refine ⟨ho, h.procs.upd (fun p _ _ => (hf p.1).1) hc (hs _ hbp (hbx _ (by simp))) (fun b hb hne => hs b hne (hbx b (List.mem_cons_of_mem _ hb))), h.sems.same fun b hb => hbr b (List.mem_append_left _ hb), h.events.same fun b hb => hbr b (List.mem_append_right _ (List.mem_append_left _ hb)), h.boards.same fun b hb => hbr b (List.mem_append_right _ (List.mem_append_right _ (List.mem_append_left _ hb))), h.buffers.same fun b hb => hbr b (List.mem_append_right _ (List.mem_append_right _ (List.mem_append_right _ (List.mem_append_left _ hb)))), h.ports.same fun b hb => hbr b (List.mem_append_right _ (List.mem_append_right _ (List.mem_append_right _ (List.mem_append_right _ hb)))), fun p hp' => ?_, fun p hp' => (h.mineF p hp').same fun b hb => hkk b (hmem b (.inr (.inl (List.mem_filterMap.2 ⟨p, hp', hb⟩)))), fun p hp' => (h.mineQ p hp').same fun b hb => hkk b (hmem b (.inr (.inr (List.mem_filterMap.2 ⟨p, hp', hb⟩)))), ?_, h.low⟩
 ·obtain ⟨r, hr, rfl⟩ := mem_upd.1 hp'
  have hm : procN.Mine w' base r.1 := (h.mineP r hr).same fun b hb => hkk b (hmem b (.inl (List.mem_filterMap.2 ⟨r, hr, hb⟩)))
  split
  ·show w'.ownsRow base _ 4 (.slice (f r.1).progA (f r.1).prog.length (f r.1).progC) (f r.1).prog.length (opK.flat (f r.1).prog)
   rw [(hf r.1).2.1, (hf r.1).2.2.1, (hf r.1).2.2.2]
   exact hm
  ·exact hm
 ·have e1 : (S.turn g f nx).boxes = S.boxes := by simp only [OpenD.boxes, OpenD.turn, upd_blocks]
  have e2 : (S.turn g f nx).kids = S.kids := by simp only [OpenD.kids, OpenD.turn, upd_kids hkid]
  rw [e1, e2]
  exact hn
/-- The same, as data. -/
theorem OpenD.turn_pure {S : OpenD} {g : Nat} {x : ProcD} {f : ProcD → ProcD} {f' : ProcP → ProcP} {nx : Int} (hr : PartR S.pure) (hn : ∀ p ∈ S.lp, p.2 = g → p = (x, g)) (hx : (x, g) ∈ S.lp) (hf : ∀ y, (f y).toProcP = f' y.toProcP) :
  (S.turn g f nx).pure = { S.pure with next := nx, procs := turnP x.id f' S.pure.procs } := by
 have hrise := part_rise (partB_true hr)
 have key : (upd g f S.lp).map (·.1.toProcP) = turnP x.id f' (S.lp.map (·.1.toProcP)) := by
  unfold upd turnP
  rw [List.map_map, List.map_map]
  refine List.map_congr_left fun p hp => ?_
  simp only [Function.comp_def]
  by_cases hg : p.2 = g
  ·have hpx := hn p hp hg
   subst hpx
   rw [if_pos rfl, if_pos rfl]
   exact hf x
  ·rw [if_neg hg]
   have hne : ¬ p.1.toProcP.id = x.id := fun e => by
    have h5 : S.pure.procs.Pairwise (fun a b => a.id < b.id) := hrise
    have h6 : (S.lp.map (·.1.toProcP)).Pairwise (fun a b => a.id < b.id) := h5
    rw [List.pairwise_map] at h6
    obtain ⟨i, hi⟩ := List.mem_iff_getElem?.1 hp
    obtain ⟨j, hj⟩ := List.mem_iff_getElem?.1 hx
    obtain ⟨hi1, rfl⟩ := List.getElem?_eq_some_iff.1 hi
    obtain ⟨hj1, hj2⟩ := List.getElem?_eq_some_iff.1 hj
    rw [List.pairwise_iff_getElem] at h6
    have hxid : (S.lp[j]).1.id = x.id := by rw [hj2]
    rcases Nat.lt_trichotomy i j with hlt | heq | hgt
    ·have h7 : (S.lp[i]).1.id < (S.lp[j]).1.id := h6 i j hi1 hj1 hlt
     have h8 : (S.lp[i]).1.id = x.id := e
     omega
    ·subst heq; exact hg (by rw [hj2])
    ·have h7 : (S.lp[j]).1.id < (S.lp[i]).1.id := h6 j i hj1 hi1 hgt
     have h8 : (S.lp[i]).1.id = x.id := e
     omega
   rw [if_neg hne]
 show ({ S.pure with next := nx, procs := (upd g f S.lp).map (·.1.toProcP) } : PartP) = _
 rw [key]
 rfl
end Go.Proofs.YtkbcplnlehdjfaaGreat

/- An open partition that is right fits a machine; a process of it that comes last, that is started. (Made by mkstartedi.py.) -/
namespace Go.Proofs.YtkbcplnlehdjfaaGreat
open Go.RowKit Go.Maps
attribute [local go_sem ↓] Go.wp_at_zero Go.wp_at_succ
theorem wf_in {z : Int} (h : inB z 1 1000 = true) : (Lit.int .i64 z).wf = true := by
 have h2 := inB_iff.1 h
 have e1 : IntKind.min .i64 ≤ 0 := by decide
 have e2 : 100000 ≤ IntKind.max .i64 := by decide
 simp only [Lit.wf, Bool.and_eq_true, decide_eq_true_eq]
 omega
/-- An open partition that is right is short. -/
theorem open_fits {S : OpenD} (h : PartR S.pure) : S.Fits := by
 refine ⟨?_, ?_, ?_, ?_, ?_, ?_, ?_, ?_, ?_, ?_, ?_, ?_⟩
 ·have h5 := h.nProc
  have h6 : S.pure.procs.length = S.lp.length := by simp [OpenD.pure]
  omega
 ·intro p hp
  obtain ⟨r, hr, rfl⟩ := List.mem_map.1 hp
  exact wf_in (things_all h.procs (r.1.toProcP) (List.mem_map.2 ⟨r, hr, rfl⟩)).1
 ·have h5 := h.nSem
  have h6 : S.pure.sems.length = S.ls.length := by simp [OpenD.pure]
  omega
 ·intro p hp
  obtain ⟨r, hr, rfl⟩ := List.mem_map.1 hp
  exact wf_in (things_all h.sems (r.1) (List.mem_map.2 ⟨r, hr, rfl⟩)).1
 ·have h5 := h.nEvent
  have h6 : S.pure.events.length = S.le.length := by simp [OpenD.pure]
  omega
 ·intro p hp
  obtain ⟨r, hr, rfl⟩ := List.mem_map.1 hp
  exact wf_in (things_all h.events (r.1) (List.mem_map.2 ⟨r, hr, rfl⟩)).1
 ·have h5 := h.nBoard
  have h6 : S.pure.boards.length = S.lb.length := by simp [OpenD.pure]
  omega
 ·intro p hp
  obtain ⟨r, hr, rfl⟩ := List.mem_map.1 hp
  exact wf_in (things_all h.boards (r.1) (List.mem_map.2 ⟨r, hr, rfl⟩)).1
 ·have h5 := h.nBuffer
  have h6 : S.pure.buffers.length = S.lf.length := by simp [OpenD.pure]
  omega
 ·intro p hp
  obtain ⟨r, hr, rfl⟩ := List.mem_map.1 hp
  exact wf_in (things_all h.buffers (r.1.toBufferP) (List.mem_map.2 ⟨r, hr, rfl⟩)).1
 ·have h5 := h.nPort
  have h6 : S.pure.ports.length = S.lq.length := by simp [OpenD.pure]
  omega
 ·intro p hp
  obtain ⟨r, hr, rfl⟩ := List.mem_map.1 hp
  exact wf_in (things_all h.ports (r.1.toPortP) (List.mem_map.2 ⟨r, hr, rfl⟩)).1
theorem fits_turn {S : OpenD} {g : Nat} {f : ProcD → ProcD} {nx : Int} (h : S.Fits) (hf : ∀ x, (f x).id = x.id) : (S.turn g f nx).Fits := by
 have e : keysOf (fun x : ProcD => x.id) (upd g f S.lp) = keysOf (fun x : ProcD => x.id) S.lp := upd_keys fun p _ _ => hf p.1
 refine ⟨?_, ?_, h.nSem, h.wSem, h.nEvent, h.wEvent, h.nBoard, h.wBoard, h.nBuffer, h.wBuffer, h.nPort, h.wPort⟩
 ·show (upd g f S.lp).length ≤ _
  unfold upd
  rw [List.length_map]
  exact h.nProc
 ·show ∀ p ∈ keysOf (fun x : ProcD => x.id) (upd g f S.lp), _
  rw [e]
  exact h.wProc
set_option maxHeartbeats 2000000 in
theorem comesLast_any (o g : Nat) (nx : Int) (w : World) (h1 : w.cell? ⟨o, 1, none⟩ = some (.int .i64 nx)) (f1 : w.frozen? ⟨o, 1, none⟩ = false) (h2 : ∃ u, w.cell? ⟨g, 11, none⟩ = some u) (f2 : w.frozen? ⟨g, 11, none⟩ = false) (hne : ¬ o = g) (n0 : 0 ≤ nx) (n1 : nx ≤ 1000000000) :
  Calls Tryz.prog 180 #[.pointer (some ⟨o, 0, none⟩), .pointer (some ⟨g, 0, none⟩)] w fun e w' => e = .returned (.tuple #[]) ∧ w' = (w.setCell ⟨g, 11, none⟩ (.int .i64 nx)).setCell ⟨o, 1, none⟩ (.int .i64 (nx + 1)) := by
 obtain ⟨u, h2⟩ := h2
 have k1 : (w.setCell ⟨g, 11, none⟩ (.int .i64 nx)).cell? ⟨o, 1, none⟩ = some (.int .i64 nx) := (World.cell?_of_block (setCell_other hne)).trans h1
 have k2 : (w.setCell ⟨g, 11, none⟩ (.int .i64 nx)).frozen? ⟨o, 1, none⟩ = false := (World.frozen?_of_block (setCell_other hne)).trans f1
 go_enter Tryz.func180, Tryz.ntmps180
 go_wp2
 go_end0
 exact ⟨rfl, rfl⟩
def startF (nx : Int) (y : ProcD) : ProcD := { y with state := 1, since := nx }
set_option maxHeartbeats 2000000 in
theorem start_any (o g base : Nat) (S : OpenD) (x : ProcD) (w : World) (h : OpenAt w base o S) (hx : (x, g) ∈ S.lp) (n0 : 0 ≤ S.q.next) (n1 : S.q.next ≤ 1000000000) :
  Calls Tryz.prog 96 #[.pointer (some ⟨o, 0, none⟩), .pointer (some ⟨g, 0, none⟩)] w fun e w' => e = .returned (.tuple #[]) ∧ OpenAt w' base o (S.turn g (startF S.q.next) (S.q.next + 1)) ∧ Below base w w' := by
 have hgb : w.heap[g]? = some (.cells (procVs x) 43 (0, 0)) := h.procs.box (x, g) hx
 have hgm : g ∈ S.lp.map (·.2) := List.mem_map.2 ⟨(x, g), hx, rfl⟩
 have hno : ¬ o = g := fun e => by
  have h5 := (List.nodup_cons.1 h.nodup).1
  exact h5 (by rw [e]; simp only [OpenD.boxes, List.mem_append, List.mem_cons]; exact .inl (.inl (.inr hgm)))
 have hgl : base ≤ g := h.procs.low g (List.mem_cons_of_mem _ hgm)
 have hg1 := setCell_block (i := 3) (v := .int .i64 1) hgb
 have c3 : w.cell? ⟨g, 3, none⟩ = some (.int .i64 x.state) := (proc_cells hgb).2.2.2.1
 have z3 : w.frozen? ⟨g, 3, none⟩ = false := frozen_of_row _ _ _ _ _ hgb
 have HC : Hid ((w.setCell ⟨g, 3, none⟩ (.int .i64 1)).cell? ⟨o, 1, none⟩ = some (.int .i64 S.q.next) ∧ (w.setCell ⟨g, 3, none⟩ (.int .i64 1)).frozen? ⟨o, 1, none⟩ = false ∧ (∃ u, (w.setCell ⟨g, 3, none⟩ (.int .i64 1)).cell? ⟨g, 11, none⟩ = some u) ∧ (w.setCell ⟨g, 3, none⟩ (.int .i64 1)).frozen? ⟨g, 11, none⟩ = false) := ⟨(World.cell?_of_block (setCell_other hno)).trans (h.opn.cell 1), (World.frozen?_of_block (setCell_other hno)).trans (frozen_of_row _ _ _ _ _ h.opn), ⟨.int .i64 x.since, by simp [World.cell?, hg1, procVs]⟩, frozen_of_row _ _ _ _ _ hg1⟩
 have HE : Hid (OpenAt (((w.setCell ⟨g, 3, none⟩ (.int .i64 1)).setCell ⟨g, 11, none⟩ (.int .i64 S.q.next)).setCell ⟨o, 1, none⟩ (.int .i64 (S.q.next + 1))) base o (S.turn g (startF S.q.next) (S.q.next + 1)) ∧ Below base w (((w.setCell ⟨g, 3, none⟩ (.int .i64 1)).setCell ⟨g, 11, none⟩ (.int .i64 S.q.next)).setCell ⟨o, 1, none⟩ (.int .i64 (S.q.next + 1)))) := by
  refine ⟨h.turn (fun y => ⟨rfl, rfl, rfl, rfl⟩) (fun p hp hpg => ?_) hgm ?_ fun b hb hb2 => (setCell_other hb2).trans ((setCell_other hb).trans (setCell_other hb)), below_setCell (below_setCell (below_setCell (Below.refl _ _) hgl) hgl) h.low⟩
  ·have e := h.procs.one hp hx hpg
   subst e
   have h5 := (setCell_other (i := 1) (v := .int .i64 (S.q.next + 1)) (fun e => hno e.symm : g ≠ o)).trans (setCell_block (i := 11) (v := .int .i64 S.q.next) hg1)
   exact h5
  ·have h5 : ((w.setCell ⟨g, 3, none⟩ (.int .i64 1)).setCell ⟨g, 11, none⟩ (.int .i64 S.q.next)).heap[o]? = _ := ((setCell_other hno).trans (setCell_other hno)).trans h.opn
   exact setCell_block (i := 1) (v := .int .i64 (S.q.next + 1)) h5
 clear hgb hgm hg1 hgl h hx
 go_enter Tryz.func96, Tryz.ntmps96
 go_wp2_with fail
 refine (comesLast_any o g S.q.next _ HC.out.1 HC.out.2.1 HC.out.2.2.1 HC.out.2.2.2 hno n0 n1).mono ?_
 rintro e w2 ⟨rfl, rfl⟩
 go_wp2
 go_end0
 exact ⟨rfl, HE.out.1, HE.out.2⟩
end Go.Proofs.YtkbcplnlehdjfaaGreat
