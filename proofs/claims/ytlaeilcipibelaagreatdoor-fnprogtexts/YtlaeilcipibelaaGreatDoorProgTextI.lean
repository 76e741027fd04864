/- The text of a program: what the program writes. -/
import Derived.Test.YtlaeilcipibelaaGreatDoorProgText
import Derived.Test.YtlaeilcipibelaaGreatDoorFormText
import Derived.Test.YtlaeilcipibelaaGreatDoorJoinLay
namespace Go.Proofs.YtlaeilcipibelaaGreatDoor
open Go.RowKit

/-- What an op's form is, and what its text is. -/
theorem form_any (k n m : Int) (s : ByteArray) (h : opB k n m s = true) : ∃ (T : TypeId) (v : Value),
    (∀ w, Calls Tryz.prog 15 #[.agg #[.int .i64 k, .int .i64 n, .int .i64 m, .string s]] w fun e w' => e = .returned (.tuple #[.iface T v, .bool true]) ∧ Below w.heap.size w w') ∧
    (∀ w, Pow w → NamesAt w 0 → Calls Tryz.prog 16 #[.iface T v] w fun e w' => e = .returned (.string (opText k n m s)) ∧ Below w.heap.size w w') := by
  have hk := opR_kind h
  rcases hk with rfl | rfl | rfl | rfl | rfl | rfl | rfl | rfl | rfl | rfl | rfl | rfl | rfl | rfl | rfl | rfl | rfl
  · obtain ⟨a, b⟩ := opR_num (by decide) h; exact ⟨_, _, fun w => formOf_num 1 n m s w (by simp [isNum]), fun w hp hw => formText_1 n m s w hp hw a b⟩
  · obtain ⟨a, b⟩ := opR_num (by decide) h; exact ⟨_, _, fun w => formOf_num 2 n m s w (by simp [isNum]), fun w hp hw => formText_2 n m s w hp hw a b⟩
  · obtain ⟨a, b, c, d⟩ := opR_wait (by decide) h; exact ⟨_, _, fun w => formOf_wait 3 n m s w (by simp [isWait]), fun w hp hw => formText_3 n m s w hp hw a b c d⟩
  · obtain ⟨a, b⟩ := opR_num (by decide) h; exact ⟨_, _, fun w => formOf_num 4 n m s w (by simp [isNum]), fun w hp hw => formText_4 n m s w hp hw a b⟩
  · obtain ⟨a, b⟩ := opR_num (by decide) h; exact ⟨_, _, fun w => formOf_num 5 n m s w (by simp [isNum]), fun w hp hw => formText_5 n m s w hp hw a b⟩
  · obtain ⟨a, b⟩ := opR_num (by decide) h; exact ⟨_, _, fun w => formOf_num 6 n m s w (by simp [isNum]), fun w hp hw => formText_6 n m s w hp hw a b⟩
  · obtain ⟨a, b, c, d⟩ := opR_wait (by decide) h; exact ⟨_, _, fun w => formOf_wait 7 n m s w (by simp [isWait]), fun w hp hw => formText_7 n m s w hp hw a b c d⟩
  · obtain ⟨a, b, c, d, e⟩ := opR_send h; exact ⟨_, _, fun w => formOf_send 8 n m s w rfl, fun w hp hw => formText_8 n m s w hp hw a b c d e⟩
  · obtain ⟨a, b, c, d⟩ := opR_wait (by decide) h; exact ⟨_, _, fun w => formOf_wait 9 n m s w (by simp [isWait]), fun w hp hw => formText_9 n m s w hp hw a b c d⟩
  · obtain ⟨a, b, c⟩ := opR_text (by decide) h; exact ⟨_, _, fun w => formOf_text 10 n m s w (by simp [isText]), fun w hp hw => formText_10 n m s w hp hw a b c⟩
  · obtain ⟨a, b⟩ := opR_num (by decide) h; exact ⟨_, _, fun w => formOf_num 11 n m s w (by simp [isNum]), fun w hp hw => formText_11 n m s w hp hw a b⟩
  · obtain ⟨a, b, c, d⟩ := opR_wait (by decide) h; exact ⟨_, _, fun w => formOf_wait 12 n m s w (by simp [isWait]), fun w hp hw => formText_12 n m s w hp hw a b c d⟩
  · obtain ⟨a, b, c⟩ := opR_text (by decide) h; exact ⟨_, _, fun w => formOf_text 13 n m s w (by simp [isText]), fun w hp hw => formText_13 n m s w hp hw a b c⟩
  · obtain ⟨a, b⟩ := opR_num (by decide) h; exact ⟨_, _, fun w => formOf_num 14 n m s w (by simp [isNum]), fun w hp hw => formText_14 n m s w hp hw a b⟩
  · obtain ⟨a, b⟩ := opR_num (by decide) h; exact ⟨_, _, fun w => formOf_num 15 n m s w (by simp [isNum]), fun w hp hw => formText_15 n m s w hp hw a b⟩
  · obtain ⟨a, b⟩ := opR_num (by decide) h; exact ⟨_, _, fun w => formOf_num 16 n m s w (by simp [isNum]), fun w hp hw => formText_16 n m s w hp hw a b⟩
  · exact ⟨_, _, fun w => formOf_loop 17 n m s w rfl, fun w hp hw => formText_17 n m s w hp hw⟩

theorem join_text (K N M : Nat → Int) (S : Nat → ByteArray) (k : Nat) : (⟨(Lib.join ((((List.range k).map (opTextAt K N M S))).map (·.data.toList)) (⟨#[59]⟩ : ByteArray).data.toList).toArray⟩ : ByteArray) = pT K N M S k := by
  apply ByteArray.ext
  apply Array.ext'
  rw [pT_join]
  simp [List.map_map, Function.comp_def]

theorem strInfo : (Tryz.prog.info? 9).map (fun i => (i.zero, i.size, i.bytes)) = some (some (.string ⟨#[]⟩), 1, 16) := by kernel_rfl
theorem make_strs (n : Nat) (hn : n ≤ 1048576) (w : World) :
    (Instr.makeSlice 35 (.int .i64 (n : Int)) (.int .i64 (n : Int))).run Tryz.prog w = .ok (.slice (some ⟨w.heap.size, 0, none⟩) n n) (w.alloc (.cells (madeCells #[.string ⟨#[]⟩] n) 9)) := by
  have h := strInfo
  obtain ⟨i, hi, e⟩ := Option.map_eq_some_iff.1 h
  simp only [Prod.mk.injEq] at e
  obtain ⟨e1, e2, e3⟩ := e
  have := run_make (P := Tryz.prog) w 35 9 i _ Tryz.underlying35 hi e1 .i64 .i64 n n (by omega) (by omega) (by rw [e3]; omega) (by omega)
  rw [this, e2]
  simp [Value.cells]

set_option maxHeartbeats 2000000 in
theorem implProgText_any (g len cap : Nat) (K N M : Nat → Int) (S : Nat → ByteArray) (w : World) (hl : len ≤ 1048576) (hs : ∀ i, i < len → (S i).size ≤ 1048576) (hr : OpsAt w g len K N M S) (hp : Pow w) (hw : NamesAt w 0) :
    Calls Tryz.prog 6 #[.slice (some ⟨g, 0, none⟩) len cap] w fun e w' => e = .returned (.string (progText len K N M S)) ∧ Below w.heap.size w w' := by
  have HR : Hid (OpsAt w g len K N M S) := hr
  have HS : Hid (∀ i, i < len → (S i).size ≤ 1048576) := hs
  have HP : Hid (∀ X, Below w.heap.size w X → Pow X ∧ NamesAt X 0) := fun X hX => ⟨hp.below hX (Nat.le_refl _), hw.below hX⟩
  clear hr hs hp hw
  go_enter Tryz.func6, Tryz.ntmps6
  go_wp2_with fail
  refine (implProgOk_any g len cap K N M S w hl HS.out HR.out).mono ?_
  rintro e w1 ⟨rfl, hb1⟩
  have HR1 : Hid (OpsAt w1 g len K N M S ∧ Below w.heap.size w w1) := ⟨HR.out.below hb1, hb1⟩
  clear hb1 HR
  cases hf : progB len K N M S with
  | false =>
    have HF : Hid (progB len K N M S = false) := hf
    clear hf
    go_wp2
    go_ret
    exact ⟨by rw [progText, HF.out]; rfl, HR1.out.2⟩
  | true =>
    have HF : Hid (1 ≤ len ∧ len ≤ 20 ∧ (∀ j, j < len → opAtB K N M S j = true) ∧ progB len K N M S = true) := ⟨(progB_out hf).1, (progB_out hf).2.1, (progB_out hf).2.2, hf⟩
    clear hf
    have hmk := make_strs len hl w1
    have HM0 : Hid ((w1.alloc (.cells (madeCells #[.string ⟨#[]⟩] len) 9)).rowIs w1.heap.size 9 len (fun j => .string (if j < 0 then opTextAt K N M S j else ⟨#[]⟩)) ∧ Below w.heap.size w (w1.alloc (.cells (madeCells #[.string ⟨#[]⟩] len) 9)) ∧ OpsAt (w1.alloc (.cells (madeCells #[.string ⟨#[]⟩] len) 9)) g len K N M S) := by
      refine ⟨(World.rowIs_made w1 _ len _).congr (fun i _ => by simp), HR1.out.2.alloc HR1.out.2.size _, HR1.out.1.below ((Below.refl _ _).alloc (Nat.le_refl _) _)⟩
    have y1 : w.heap.size ≤ w1.heap.size := HR1.out.2.size
    go_wp2_with fail
    generalize w1.alloc (.cells (madeCells #[.string ⟨#[]⟩] len) 9) = W1 at *
    generalize w1.heap.size = gt at *
    go_loopw [16] (fun i wr => ∃ k : Nat, k ≤ len ∧ i = .int .i64 k ∧ Hid (wr.rowIs gt 9 len (fun j => .string (if j < k then opTextAt K N M S j else ⟨#[]⟩)) ∧ Below w.heap.size w wr ∧ OpsAt wr g len K N M S)) (fun i _ => len - (intOf i).toNat)
    case atStart => exact ⟨0, Nat.zero_le _, rfl, HM0⟩
    case round =>
      obtain ⟨k, hk, rfl, HW⟩ := hrel
      by_cases hlt : k < len
      · have c0 := HW.out.2.2.c0 hlt
        have c1 := HW.out.2.2.c1 hlt
        have c2 := HW.out.2.2.c2 hlt
        have c3 := HW.out.2.2.c3 hlt
        have i0 : (0 : Int) ≤ (k : Int) := by omega
        have i1 : (k : Int) < (len : Int) := by omega
        have hgl := HW.out.2.2.1
        have HO : Hid (opB (K k) (N k) (M k) (S k) = true) := HF.out.2.2.1 k hlt
        obtain ⟨T, v, hFo, hTo⟩ := form_any (K k) (N k) (M k) (S k) HO.out
        have HFT : Hid ((∀ w, Calls Tryz.prog 15 #[.agg #[.int .i64 (K k), .int .i64 (N k), .int .i64 (M k), .string (S k)]] w fun e w' => e = .returned (.tuple #[.iface T v, .bool true]) ∧ Below w.heap.size w w') ∧ (∀ w, Pow w → NamesAt w 0 → Calls Tryz.prog 16 #[.iface T v] w fun e w' => e = .returned (.string (opText (K k) (N k) (M k) (S k))) ∧ Below w.heap.size w w')) := ⟨hFo, hTo⟩
        clear hFo hTo
        go_wp2_with fail
        have HWA : Hid ((wr.alloc (.cells #[.int .i64 (K k), .int .i64 (N k), .int .i64 (M k), .string (S k)] 37)).rowIs gt 9 len (fun j => .string (if j < k then opTextAt K N M S j else ⟨#[]⟩)) ∧ Below w.heap.size w (wr.alloc (.cells #[.int .i64 (K k), .int .i64 (N k), .int .i64 (M k), .string (S k)] 37)) ∧ OpsAt (wr.alloc (.cells #[.int .i64 (K k), .int .i64 (N k), .int .i64 (M k), .string (S k)] 37)) g len K N M S) := ⟨HW.out.1.alloc _, HW.out.2.1.alloc HW.out.2.1.size _, HW.out.2.2.below ((Below.refl _ _).alloc (Nat.le_refl _) _)⟩
        clear c0 c1 c2 c3 hgl HW
        generalize wr.alloc (.cells #[.int .i64 (K k), .int .i64 (N k), .int .i64 (M k), .string (S k)] 37) = WA at *
        generalize wr.heap.size = gb at *
        refine (HFT.out.1 WA).mono ?_
        rintro e w2 ⟨rfl, hb2⟩
        have HW2 : Hid (w2.rowIs gt 9 len (fun j => .string (if j < k then opTextAt K N M S j else ⟨#[]⟩)) ∧ Below w.heap.size w w2 ∧ OpsAt w2 g len K N M S) := ⟨HWA.out.1.of_block (hb2.block _ HWA.out.1.lt), HWA.out.2.1.trans (hb2.mono HWA.out.2.1.size), HWA.out.2.2.below hb2⟩
        clear hb2 HWA
        go_wp2_with fail
        refine (HFT.out.2 w2 (HP.out w2 HW2.out.2.1).1 (HP.out w2 HW2.out.2.1).2).mono ?_
        rintro e w3 ⟨rfl, hb3⟩
        have HW3 : Hid (w3.rowIs gt 9 len (fun j => .string (if j < k then opTextAt K N M S j else ⟨#[]⟩)) ∧ Below w.heap.size w w3 ∧ OpsAt w3 g len K N M S) := ⟨HW2.out.1.of_block (hb3.block _ HW2.out.1.lt), HW2.out.2.1.trans (hb3.mono HW2.out.2.1.size), HW2.out.2.2.below hb3⟩
        have e0 : w3.cell? ⟨gt, k, none⟩ = some (.string (if k < k then opTextAt K N M S k else ⟨#[]⟩)) := HW3.out.1.cell hlt
        have f0 := HW3.out.1.frozen k
        have hgt := HW3.out.1.lt
        have HG : Hid (gt ≠ g) := fun e => by
          have h0 := HW3.out.2.2.c0 hlt
          have h1 := HW3.out.1.cell (i := 0) (by omega)
          have h2 := HW3.out.2.2.2 0 (by omega)
          rw [e, h2] at h1
          simp [opV] at h1
        clear hb3 HW2
        go_wp2
        go_roundw
        case rel =>
          refine ⟨k + 1, by omega, by go_num, (HW3.out.1.set k _).congr (fun j hj => ?_), HW3.out.2.1.setCell y1 _, HW3.out.2.2.of_block (Below.heap_setCell _ _ _ _ (fun e => HG.out e.symm))⟩
          by_cases hjk : j = k
          · subst hjk; rw [if_pos rfl, if_pos (by omega)]; rfl
          · rw [if_neg hjk]
            by_cases h2 : j < k
            · rw [if_pos h2, if_pos (by omega)]
            · rw [if_neg h2, if_neg (by omega)]
        case measure => simp [intOf]; omega
      · have e : k = len := by omega
        subst e
        have HLN : Hid (((List.range k).map (opTextAt K N M S)).length = k) := by show _ = k; simp
        go_wp2_with fail
        have hjoin : Calls Tryz.prog 17 #[.slice (some ⟨gt, 0, none⟩) k k, .string ⟨#[59]⟩] wr (fun e w' => e = .returned (.string (pT K N M S k)) ∧ Below wr.heap.size wr w') := by
          have hJ := Go.Proofs.Any.strings_Join Tryz.lays156 Tryz.Builder_Extra_156 gt 0 k ((List.range k).map (opTextAt K N M S)) ⟨#[59]⟩ wr (fun j x hx => by
            rw [List.getElem?_map] at hx
            obtain ⟨i, hi, rfl⟩ := Option.map_eq_some_iff.1 hx
            obtain ⟨h1, h2⟩ := List.getElem?_eq_some_iff.1 hi
            simp at h1 h2
            subst h2
            rw [Nat.zero_add, HW.out.1.cell h1, if_pos h1]) HW.out.1.lt (by rw [HLN.out]; omega) (by rw [HLN.out]; exact Nat.le_refl _) (by
            have e1 := join_text K N M S k
            have e2 := congrArg ByteArray.size e1
            have e3 := pT_size k HF.out.2.2.1
            simp only [ByteArray.size, List.size_toArray] at e2 e3
            rw [e2]
            have := HF.out.2.1
            omega)
          rw [HLN.out, join_text] at hJ
          exact hJ
        refine hjoin.mono ?_
        rintro e w2 ⟨rfl, hb2⟩
        have HB2 : Hid (Below w.heap.size w w2) := HW.out.2.1.trans (hb2.mono HW.out.2.1.size)
        clear hb2
        go_wp2
        go_ret
        exact ⟨by rw [progText, if_pos HF.out.2.2.2]; rfl, HB2.out⟩

end Go.Proofs.YtlaeilcipibelaaGreatDoor
