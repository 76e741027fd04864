/- What the program's FrameOk answers. -/
import Derived.Test.YtlaeilcipibelaaDoorTable
namespace Go.Proofs.YtlaeilcipibelaaDoor
open Go.RowKit

set_option maxHeartbeats 1000000 in
set_option maxRecDepth 100000 in
theorem implFrameOk_any (major : Int) (g len cap : Nat) (Z : Nat → Int) (w : World) (hl : len ≤ 1048576) (hz : ∀ j, -9223372036854775808 ≤ Z j ∧ Z j ≤ 9223372036854775807) (hr : WinsAt w g len Z) :
    Calls Tryd.prog 13 #[.agg #[.int .i64 major, .slice (some ⟨g, 0, none⟩) len cap]] w fun e w' => e = .returned (.bool (frameB major len Z)) ∧ Below w.heap.size w w' := by
  obtain ⟨T, hT⟩ : ∃ T, tabZ = T := ⟨_, rfl⟩
  have hs : T.size = 62 := by rw [← hT]; exact tabZ_size
  have ho : T.all (·.oneCell') = true := by rw [← hT]; exact tabZ_one
  have HT : Hid (tabZ = T) := hT
  clear hT
  have HR : Hid (WinsAt w g len Z) := hr
  have HZ : Hid (∀ j, -9223372036854775808 ≤ Z j ∧ Z j ≤ 9223372036854775807) := hz
  clear hr hz
  go_enter Tryd.func13, Tryd.ntmps13
  go_wp2_with fail
  refine (tableOf_any major g len cap Z _ hl HZ.out (HR.out.alloc _)).mono ?_
  rintro e w1 ⟨⟨hf, cs, rfl, hc⟩ | ⟨hf, rfl⟩, hb1⟩
  · have hcs := hc.1
    have hco := hc.one
    have HF : Hid (frameB major len Z = true) := hf
    clear hf hc
    have z1 := hb1.size
    simp only [World.size_alloc] at z1
    go_wp2_with (first | (refine wpList_allocTab rfl rfl w1.heap.size rfl T HT.out ?_) | (refine wpList_storeTab rfl (.tmp 3) (.tmp 8) rfl w1.heap.size cs (by rfl) (by rfl) T (by exact heap_alloc_new _ _) hs hcs hco ?_))
    go_ret
    exact ⟨ret_bool HF.out.symm, below_setRow ((((Below.refl _ _).alloc (Nat.le_refl _) _).trans (hb1.mono (by simp))).alloc (by omega) _) (by omega) _⟩
  · have HF : Hid (frameB major len Z = false) := hf
    clear hf
    have z1 := hb1.size
    simp only [World.size_alloc] at z1
    rw [HT.out]
    go_wp2_with (first | (refine wpList_allocTab rfl rfl w1.heap.size rfl T HT.out ?_) | (refine wpList_storeTab rfl (.tmp 3) (.tmp 8) rfl w1.heap.size T (by rfl) (by rfl) T (by exact heap_alloc_new _ _) hs hs ho ?_))
    go_ret
    exact ⟨ret_bool HF.out.symm, below_setRow ((((Below.refl _ _).alloc (Nat.le_refl _) _).trans (hb1.mono (by simp))).alloc (by omega) _) (by omega) _⟩

end Go.Proofs.YtlaeilcipibelaaDoor
