/- The program's table of windows: what tableOf answers at every frame. -/
import Derived.Test.YtlaeilcipibelaaDoorTab
import Derived.Deep.WholeRow
namespace Go.Proofs.YtlaeilcipibelaaDoor
open Go.RowKit

/-- A table that holds a right frame's windows. -/
def IsTab (m : Int) (n : Nat) (Z : Nat → Int) (cs : Array Value) : Prop := cs.size = 62 ∧ ∀ j, j < 62 → cs[j]? = some (tabF m n Z n j)

theorem tabF_one (m : Int) (n : Nat) (Z : Nat → Int) (k j : Nat) : (tabF m n Z k j).oneCell' = true := by
  unfold tabF
  repeat' split
  all_goals rfl

theorem IsTab.one {m : Int} {n : Nat} {Z : Nat → Int} {cs : Array Value} (h : IsTab m n Z cs) : cs.all (·.oneCell') = true := by
  refine Array.all_eq_true_iff_forall_mem.2 fun v hv => ?_
  obtain ⟨i, hi, rfl⟩ := Array.getElem_of_mem hv
  have := h.2 i (by have := h.1; omega)
  rw [Array.getElem?_eq_getElem hi] at this
  rw [Option.some.inj this]
  exact tabF_one _ _ _ _ _

theorem heap_alloc3_new (w : World) (A B C : Obj) : (((w.alloc A).alloc B).alloc C).heap[w.heap.size + 1 + 1]? = some C := by
  have h := heap_alloc_new ((w.alloc A).alloc B) C
  rwa [World.size_alloc, World.size_alloc] at h

theorem setRow3 (w : World) (A B : Obj) (c c' : Array Value) (t : TypeId) : (((w.alloc A).alloc B).alloc (.cells c t)).setRow (w.heap.size + 1 + 1) c' = ((w.alloc A).alloc B).alloc (.cells c' t) := by
  have h := World.setRow_alloc_new ((w.alloc A).alloc B) c c' t
  rwa [World.size_alloc, World.size_alloc] at h

set_option maxHeartbeats 1000000 in
set_option maxRecDepth 100000 in
theorem tableOf_yes (major : Int) (g len cap : Nat) (Z : Nat → Int) (w : World) (h1 : 1 ≤ major) (h2 : major ≤ 1000) (h3 : len ≤ 20) (hz : ∀ j, -9223372036854775808 ≤ Z j ∧ Z j ≤ 9223372036854775807) (hr : WinsAt w g len Z) :
    Calls Tryd.prog 33 #[.agg #[.int .i64 major, .slice (some ⟨g, 0, none⟩) len cap]] w fun e w' =>
      (((∀ i, i < len → winAt major Z i = true) ∧ ∃ cs, e = .returned (.tuple #[.agg cs, .bool true]) ∧ IsTab major len Z cs) ∨ (¬ (∀ i, i < len → winAt major Z i = true) ∧ e = .returned (.tuple #[.agg tabZ, .bool false]))) ∧ Below w.heap.size w w' := by
  have k1 : ¬ major < 1 := by omega
  have k2 : ¬ 1000 < major := by omega
  have k3 : ¬ (20 : Int) < len := by omega
  have hgl := hr.lt
  obtain ⟨T, hT⟩ : ∃ T, tabZ = T := ⟨_, rfl⟩
  have hs : T.size = 62 := by rw [← hT]; exact tabZ_size
  have ho : T.all (·.oneCell') = true := by rw [← hT]; exact tabZ_one
  have HT : Hid (tabZ = T) := hT
  clear hT
  obtain ⟨U, hU⟩ : ∃ U, tabH major len = U := ⟨_, rfl⟩
  have hs' : U.size = 62 := by rw [← hU]; exact tabH_size _ _
  have ho' : U.all (·.oneCell') = true := by rw [← hU]; exact tabH_one _ _
  have HU : Hid (tabH major len = U) := hU
  clear hU
  go_enter Tryd.func33, Tryd.ntmps33
  go_wp2_with (first | (refine wpList_allocTab rfl rfl (w.heap.size + 1) ?hN T HT.out ?_; (case hN => (rw [World.size_alloc]; done))) | (refine wpList_allocTab rfl rfl (w.heap.size + 1 + 1) ?hN T HT.out ?_; (case hN => rw [World.size_alloc, World.size_alloc])) | (refine wpList_buildTab rfl (.tmp 24) (.tmp 27) rfl major len (by rfl) (by rfl) U HU.out ?_) | (refine wpList_storeTab rfl (.tmp 4) (.tmp 28) rfl (w.heap.size + 1 + 1) U (by rfl) (by rfl) T (by exact heap_alloc3_new _ _ _ _) hs hs' ho' ?_; rw [setRow3]))
  obtain ⟨W0, hW0⟩ : ∃ W0, (((w.alloc (Obj.cells #[Value.int IntKind.i64 major, Value.slice (some ⟨g, 0, none⟩) len cap] 26)).alloc (Obj.cells T 59)).alloc (Obj.cells U 59)) = W0 := ⟨_, rfl⟩
  have b0 : W0.heap.size = w.heap.size + 3 := by rw [← hW0]; simp
  have b1 : Below w.heap.size w W0 := by rw [← hW0]; go_grown
  have b2 : W0.rowIs (w.heap.size + 1 + 1) 59 62 (tabF major len Z 0) := by rw [← hW0, ← HU.out]; have := tab_start ((w.alloc (Obj.cells #[Value.int IntKind.i64 major, Value.slice (some ⟨g, 0, none⟩) len cap] 26)).alloc (Obj.cells T 59)) major len Z; rwa [World.size_alloc, World.size_alloc] at this
  have b3 : W0.heap[w.heap.size + 1]? = some (.cells T 59 (0, 0)) := by rw [← hW0, heap_alloc_old _ _ (by simp), heap_alloc2_new]
  have b4 : W0.heap[w.heap.size]? = some (.cells #[Value.int IntKind.i64 major, Value.slice (some ⟨g, 0, none⟩) len cap] 26 (0, 0)) := by rw [← hW0, heap_alloc_old _ _ (by simp; omega), heap_alloc2_old]
  rw [hW0]
  clear hW0
  go_loopw [5, 32] (fun t i wr => ∃ k : Nat, k ≤ len ∧ i = .int .i64 k ∧ t = .int .i64 (endAt Z k) ∧ (∀ i, i < k → winAt major Z i = true) ∧ wr.rowIs (w.heap.size + 1 + 1) 59 62 (tabF major len Z k) ∧ Below (w.heap.size + 1 + 1) W0 wr) (fun _ i _ => len - (intOf i).toNat)
  case atStart => exact ⟨0, Nat.zero_le _, rfl, rfl, fun i hi => by omega, b2, Below.refl _ _⟩
  case round =>
    obtain ⟨k, hk, rfl, rfl, hall, htab, hbel⟩ := hrel
    have HA : Hid (∀ i, i < k → winAt major Z i = true) := hall
    have he := endAt_nonneg k hall
    clear hall
    obtain ⟨he0, he1⟩ := he
    have he1 := he1 h1
    have hsz : w.heap.size + 1 + 1 < wr.heap.size := by have := hbel.size; omega
    have hsz0 : w.heap.size < wr.heap.size := by omega
    have hsz1 : w.heap.size + 1 < wr.heap.size := by omega
    have hB : Below w.heap.size w wr := b1.trans (hbel.mono (by omega))
    have r4 : wr.heap[w.heap.size]? = some (.cells #[Value.int IntKind.i64 major, Value.slice (some ⟨g, 0, none⟩) len cap] 26 (0, 0)) := (hbel.block _ (by omega)).trans b4
    have r3 : wr.heap[w.heap.size + 1]? = some (.cells T 59 (0, 0)) := (hbel.block _ (by omega)).trans b3
    have m0 : wr.cell? ⟨w.heap.size, 0, none⟩ = some (.int .i64 major) := by simp [World.cell?, r4]
    have R3 : Hid (wr.heap[w.heap.size + 1]? = some (.cells T 59 (0, 0))) := r3
    clear r3 r4
    have HTab : Hid (wr.rowIs (w.heap.size + 1 + 1) 59 62 (tabF major len Z k)) := htab
    clear htab
    by_cases hlt : k < len
    · have hra : WinsAt wr g len Z := hr.of_block (hB.block g hgl)
      have c0 : wr.cell? ⟨g, k * 3, none⟩ = some (.int .i64 (Z (k * 3))) := hra.cell (by omega)
      have c1 : wr.cell? ⟨g, k * 3 + 1, none⟩ = some (.int .i64 (Z (k * 3 + 1))) := hra.cell (by omega)
      have c2 : wr.cell? ⟨g, k * 3 + 2, none⟩ = some (.int .i64 (Z (k * 3 + 2))) := hra.cell (by omega)
      clear hra
      have q0 := hz (k * 3)
      have q0' := hz (k * 3 + 1)
      have HST : Hid (∀ wx : World, wx.rowIs (w.heap.size + 1 + 1) 59 62 (tabF major len Z k) → (((wx.setCell ⟨w.heap.size + 1 + 1, 2 + k * 3, none⟩ (.int .i64 (Z (k * 3)))).setCell ⟨w.heap.size + 1 + 1, 2 + k * 3 + 1, none⟩ (.int .i64 (Z (k * 3 + 1)))).setCell ⟨w.heap.size + 1 + 1, 2 + k * 3 + 2, none⟩ (.int .i64 (Z (k * 3 + 2)))).rowIs (w.heap.size + 1 + 1) 59 62 (tabF major len Z (k + 1))) := fun wx hx => tab_step hx
      have HE : Hid (endAt Z (k + 1) = Z (k * 3) + Z (k * 3 + 1)) := rfl
      have HW : Hid (winAt major Z k = winB major (endAt Z k) (Z (k * 3)) (Z (k * 3 + 1)) (Z (k * 3 + 2))) := rfl
      generalize Z (k * 3) = a at *
      generalize Z (k * 3 + 1) = l at *
      generalize Z (k * 3 + 2) = p at *
      generalize endAt Z k = en at *
      clear hz hr
      cases hwin : winB major en a l p with
      | false =>
        go_wp2_with (first | (go_at_call 65; refine (windowOk_any _ _ _ _ _ _ he0 h1 h2).mono ?_; rintro e w1 ⟨rfl, hb1⟩; rw [hwin]; have z1 := hb1.size; have R1 := (hb1.block (w.heap.size + 1) (by simp; omega)).trans ((heap_alloc_old _ _ (by omega)).trans R3.out); simp only [World.size_alloc] at z1) | (refine wpList_buildTab0 rfl rfl T HT.out ?_) | (refine wpList_storeTab rfl (.tmp 2) (.tmp 43) rfl (w.heap.size + 1) T (by rfl) (by rfl) T (by assumption) hs hs ho ?_))
        refine bodyPost_ret (tableResults (cs := T) (b := false) (g := w.heap.size + 1) (t := 59) (fr := (0, 0)) rfl rfl ?_ hs) rfl ⟨.inr ⟨fun hh => ?_, by rw [HT.out]⟩, ?_⟩
        · exact setRow_heap _ _ T _ _ _ R1
        · have := hh k hlt; rw [HW.out, hwin] at this; cases this
        · exact below_setRow ((hB.alloc (by omega) _).trans (hb1.mono (by simp; omega))) (by omega) _
      | true =>
        have hwo := winB_out hwin
        go_wp2_with fail
        refine (windowOk_any _ _ _ _ _ _ he0 h1 h2).mono ?_
        rintro e w1 ⟨rfl, hb1⟩
        rw [hwin]
        have z1 := hb1.size
        have hr1 : w1.rowIs (w.heap.size + 1 + 1) 59 62 (tabF major len Z k) := (HTab.out.alloc _).of_block (hb1.block _ (by simp; omega))
        have d0 := hr1.cell (i := 2 + k * 3) (by omega)
        have d1 := hr1.cell (i := 2 + k * 3 + 1) (by omega)
        have d2 := hr1.cell (i := 2 + k * 3 + 2) (by omega)
        have f0 := hr1.frozen (2 + k * 3)
        have f1 := hr1.frozen (2 + k * 3 + 1)
        have f2 := hr1.frozen (2 + k * 3 + 2)
        have e0 : w1.cell? ⟨wr.heap.size, 0, none⟩ = some (.int .i64 a) := (hb1.cell (p := ⟨wr.heap.size, 0, none⟩) (by simp)).trans (by simp)
        have e1 : w1.cell? ⟨wr.heap.size, 1, none⟩ = some (.int .i64 l) := (hb1.cell (p := ⟨wr.heap.size, 1, none⟩) (by simp)).trans (by simp)
        have e2 : w1.cell? ⟨wr.heap.size, 2, none⟩ = some (.int .i64 p) := (hb1.cell (p := ⟨wr.heap.size, 2, none⟩) (by simp)).trans (by simp)
        simp only [World.size_alloc] at z1
        have HR1 : Hid (w1.rowIs (w.heap.size + 1 + 1) 59 62 (tabF major len Z k)) := hr1
        have HB1 : Hid (Below w.heap.size w w1 ∧ Below (w.heap.size + 1 + 1) W0 w1) := ⟨(hB.alloc (by omega) _).trans (hb1.mono (by simp; omega)), (hbel.alloc (by omega) _).trans (hb1.mono (by simp; omega))⟩
        clear hr1 hb1 hbel hB
        go_wp2
        go_roundw
        case rel =>
          refine ⟨k + 1, by omega, by go_num, by rw [HE.out], ?_, HST.out _ HR1.out, ((HB1.out.2.setCell (Nat.le_refl _) _).setCell (Nat.le_refl _) _).setCell (Nat.le_refl _) _⟩
          intro i hi
          by_cases e : i = k
          · subst e; rw [HW.out]; exact hwin
          · exact HA.out i (by omega)
        case measure => simp [intOf]; omega
    · have e : k = len := by omega
      subst e
      obtain ⟨cs, hcs, hcsz, hcc⟩ := HTab.out
      have htab : IsTab major k Z cs := ⟨hcsz, hcc⟩
      have hcc1 := htab.one
      have HI : Hid (IsTab major k Z cs) := htab
      have HC : Hid (wr.heap[w.heap.size + 1 + 1]? = some (.cells cs 59 (0, 0))) := hcs
      clear htab hcc hcs hlt hz hr
      go_wp2_with (first | (refine wpList_load_row rfl 59 (.tmp 4) rfl (w.heap.size + 1 + 1) (by rfl) 59 cs (0, 0) _ HC.out Tryd.underlying59 rfl (by rw [tabSize, hcsz]) ?_) | (refine wpList_storeTab rfl (.tmp 2) (.tmp 54) rfl (w.heap.size + 1) cs (by rfl) (by rfl) T R3.out hs hcsz hcc1 ?_))
      refine bodyPost_ret (tableResults (cs := cs) (b := true) (g := w.heap.size + 1) (t := 59) (fr := (0, 0)) rfl rfl ?_ hcsz) rfl ⟨.inl ⟨HA.out, cs, rfl, HI.out⟩, ?_⟩
      · exact setRow_heap _ _ T _ _ _ R3.out
      · exact below_setRow hB (by omega) _

/-- tableOf at every frame. -/
theorem tableOf_any (major : Int) (g len cap : Nat) (Z : Nat → Int) (w : World) (hl : len ≤ 1048576) (hz : ∀ j, -9223372036854775808 ≤ Z j ∧ Z j ≤ 9223372036854775807) (hr : WinsAt w g len Z) :
    Calls Tryd.prog 33 #[.agg #[.int .i64 major, .slice (some ⟨g, 0, none⟩) len cap]] w fun e w' =>
      ((frameB major len Z = true ∧ ∃ cs, e = .returned (.tuple #[.agg cs, .bool true]) ∧ IsTab major len Z cs) ∨ (frameB major len Z = false ∧ e = .returned (.tuple #[.agg tabZ, .bool false]))) ∧ Below w.heap.size w w' := by
  by_cases h : major < 1 ∨ 1000 < major ∨ 20 < len
  · refine (tableOf_no major g len cap w hl h).mono ?_
    rintro e w' ⟨rfl, hb⟩
    exact ⟨.inr ⟨frameB_false (by omega), rfl⟩, hb⟩
  · refine (tableOf_yes major g len cap Z w (by omega) (by omega) (by omega) hz hr).mono ?_
    rintro e w' ⟨⟨ha, cs, rfl, hc⟩ | ⟨ha, rfl⟩, hb⟩
    · exact ⟨.inl ⟨frameB_true ⟨by omega, by omega, by omega, ha⟩, cs, rfl, hc⟩, hb⟩
    · exact ⟨.inr ⟨frameB_false (fun hh => ha hh.2.2.2), rfl⟩, hb⟩

end Go.Proofs.YtlaeilcipibelaaDoor
