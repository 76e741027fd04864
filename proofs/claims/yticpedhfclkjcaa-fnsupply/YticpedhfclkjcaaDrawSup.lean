/- The arguments that are drawn for a supply. -/
import Derived.Test.YticpedhfclkjcaaDraws
namespace Go.Proofs.Yticpedhfclkjcaa
open Go.RowKit
attribute [local go_sem ↓] Go.wp_at_zero Go.wp_at_succ

/-- What is drawn for a supply. -/
def SupDrawn (w : World) (e : Ending) (w' : World) : Prop := ∃ (major p t t' : Int) (g n c : Nat) (Z : Nat → Int), e = .returned (.tuple #[.agg #[.int .i64 major, .slice (some ⟨g, 0, none⟩) n c], .int .i64 p, .int .i64 t, .int .i64 t']) ∧ 1 ≤ p ∧ p ≤ 3 ∧ n ≤ 4 ∧ w.heap.size ≤ g ∧ WinsAt w' g n Z ∧ (∀ j, -1000 ≤ Z j ∧ Z j ≤ 1000) ∧ Below w.heap.size w w'

set_option maxHeartbeats 1000000 in
theorem drawSupplyOf_any (a : Option Addr) (len cap : Nat) (w : World) (hl : len ≤ 1048576) (hb : Bytes w a len) :
    Calls Try.prog 11 #[.slice a len cap] w fun e w' => SupDrawn w e w' := by
  go_enter Try.func11, Try.ntmps11
  have hb0 : Bytes (w.alloc (.cells #[.int .i64 0, .slice none 0 0] 26)) a len := hb.below ((Below.refl _ _).alloc (Nat.le_refl _) _)
  go_wp2_with fail
  refine (open_any a len cap _ hb0).mono ?_
  rintro e w1 ⟨rfl, hb1, hr1, -⟩
  rw [World.size_alloc] at hb1 hr1
  go_wp2_with fail
  refine (frame_any _ a len cap w1 hl hr1).mono ?_
  rintro e w2 ⟨mj, g, n, c, Z, rfl, hn, hg, hw, hz, hb2, hr2⟩
  have HD0 : Hid (Drw a len cap w (w2.alloc (.cells #[.int .i64 mj, .slice (some ⟨g, 0, none⟩) n c] 26)) w2.heap.size g n c mj Z) := Drw.start hb1 hr1 hb2 hr2 hg hw
  clear hb1 hr1 hb2 hr2 hg hw hb0
  go_wp2_with fail
  generalize w2.alloc (.cells #[.int .i64 mj, .slice (some ⟨g, 0, none⟩) n c] 26) = W1 at *
  generalize w2.heap.size = B at *
  refine (below_any _ a len cap 3 W1 hl (by omega) (by omega) HD0.out.rd).mono ?_
  rintro e W2 ⟨p, p0, p1, rfl, hb3, hr3⟩
  have HD1 : Hid (Drw a len cap w W2 B g n c mj Z) := HD0.out.move hb3 hr3
  clear hb3 hr3 HD0
  have hpw : IntKind.i64.wrap (1 + p) = 1 + p := by rw [IntKind.wrap_i64]; omega
  go_wp2_with fail
  refine (time_any _ a len cap W2 hl HD1.out.rd).mono ?_
  rintro e W3 ⟨t, rfl, hb3, hr3⟩
  have HD2 : Hid (Drw a len cap w W3 B g n c mj Z) := HD1.out.move hb3 hr3
  clear hb3 hr3 HD1
  go_wp2_with fail
  refine (once_any _ a len cap 12 W3 hl (by omega) (by omega) HD2.out.rd).mono ?_
  rintro e W4 ⟨q, rfl, hb3, hr3⟩
  have HD : Hid (Drw a len cap w W4 B g n c mj Z) := HD2.out.move hb3 hr3
  clear hb3 hr3 HD2
  have f2 := HD.out.fr
  have b0 := HD.out.b0
  have c20 : W4.cell? ⟨B, 0, none⟩ = some (.int .i64 mj) := by simp [World.cell?, f2]
  have c21 : W4.cell? ⟨B, 1, none⟩ = some (.slice (some ⟨g, 0, none⟩) n c) := by simp [World.cell?, f2]
  have ne1 : ¬ B = w.heap.size := by omega
  have ne2 : ¬ w.heap.size = B := by omega
  clear f2
  cases q with
  | true =>
    go_wp2_with fail
    go_region_held3 (fun w' => w'.cell? ⟨B, 0, none⟩ = some (.int .i64 mj) ∧ w'.cell? ⟨B, 1, none⟩ = some (.slice (some ⟨g, 0, none⟩) n c)) (go_keep)
      ((go_at_call 23
        refine (time_any _ a len cap _ hl ?_).mono ?_
        exact HD.out.rd
        rintro e w4 ⟨t', rfl, hb4, hr4⟩
        have HD4 : Hid (Drw a len cap w w4 B g n c mj Z) := HD.out.move hb4.undrew hr4
        clear hb4 hr4
        have f4 := HD4.out.fr
        have r4 := HD4.out.res
        have c40 : w4.cell? ⟨B, 0, none⟩ = some (.int .i64 mj) := by simp [World.cell?, f4]
        have c41 : w4.cell? ⟨B, 1, none⟩ = some (.slice (some ⟨g, 0, none⟩) n c) := by simp [World.cell?, f4]
        have d40 : w4.cell? ⟨w.heap.size, 0, none⟩ = some (.int .i64 0) := by simp [World.cell?, r4]
        have d41 : w4.cell? ⟨w.heap.size, 1, none⟩ = some (.slice none 0 0) := by simp [World.cell?, r4]
        have z40 : w4.frozen? ⟨w.heap.size, 0, none⟩ = false := frozen_of_row _ _ _ _ _ r4
        have z41 : w4.frozen? ⟨w.heap.size, 1, none⟩ = false := frozen_of_row _ _ _ _ _ r4
        clear f4 r4))
    go_wp2
    refine bodyPost_ret (drawn3 Try.results11 (by rfl) (HD4.out.ends _ _).2.2) rfl ?_
    obtain ⟨e1, e2, _⟩ := HD4.out.ends (.int .i64 mj) (.slice (some ⟨g, 0, none⟩) n c)
    exact ⟨mj, 1 + p, t, t', g, n, c, Z, rfl, by omega, by omega, hn, by have := HD4.out.g0; omega, e1, hz, e2⟩
  | false =>
    by_cases h1 : t < 999999900
    · have h1a : ¬ 999999900 < t := by omega
      have h1b : t ≤ 999999900 := by omega
      have h1c : ¬ 999999900 ≤ t := by omega
      go_wp2_with fail
      go_region_held3 (fun w' => w'.cell? ⟨B, 0, none⟩ = some (.int .i64 mj) ∧ w'.cell? ⟨B, 1, none⟩ = some (.slice (some ⟨g, 0, none⟩) n c)) (go_keep)
        ((go_at_call 28
          refine (below_any _ a len cap 40 _ hl (by omega) (by omega) ?_).mono ?_
          exact HD.out.rd
          rintro e w4 ⟨t', t0, t1, rfl, hb4, hr4⟩
          have HD4 : Hid (Drw a len cap w w4 B g n c mj Z) := HD.out.move hb4.undrew hr4
          clear hb4 hr4
          have f4 := HD4.out.fr
          have r4 := HD4.out.res
          have c40 : w4.cell? ⟨B, 0, none⟩ = some (.int .i64 mj) := by simp [World.cell?, f4]
          have c41 : w4.cell? ⟨B, 1, none⟩ = some (.slice (some ⟨g, 0, none⟩) n c) := by simp [World.cell?, f4]
          have d40 : w4.cell? ⟨w.heap.size, 0, none⟩ = some (.int .i64 0) := by simp [World.cell?, r4]
          have d41 : w4.cell? ⟨w.heap.size, 1, none⟩ = some (.slice none 0 0) := by simp [World.cell?, r4]
          have z40 : w4.frozen? ⟨w.heap.size, 0, none⟩ = false := frozen_of_row _ _ _ _ _ r4
          have z41 : w4.frozen? ⟨w.heap.size, 1, none⟩ = false := frozen_of_row _ _ _ _ _ r4
          clear f4 r4))
      all_goals go_wp2
      all_goals refine bodyPost_ret (drawn3 Try.results11 (by rfl) (HD4.out.ends _ _).2.2) rfl ?_
      all_goals obtain ⟨e1, e2, _⟩ := HD4.out.ends (.int .i64 mj) (.slice (some ⟨g, 0, none⟩) n c)
      all_goals exact ⟨mj, 1 + p, t, IntKind.i64.wrap (t + t'), g, n, c, Z, rfl, by omega, by omega, hn, by have := HD4.out.g0; omega, e1, hz, e2⟩
    · by_cases h2 : 999999900 < t
      · have h1b : ¬ t ≤ 999999900 := by omega
        have h1c : 999999900 ≤ t := by omega
        go_wp2_with fail
        go_region_held3 (fun w' => w'.cell? ⟨B, 0, none⟩ = some (.int .i64 mj) ∧ w'.cell? ⟨B, 1, none⟩ = some (.slice (some ⟨g, 0, none⟩) n c)) (go_keep)
          ((go_at_call 28
            refine (below_any _ a len cap 40 _ hl (by omega) (by omega) ?_).mono ?_
            exact HD.out.rd
            rintro e w4 ⟨t', t0, t1, rfl, hb4, hr4⟩
            have HD4 : Hid (Drw a len cap w w4 B g n c mj Z) := HD.out.move hb4.undrew hr4
            clear hb4 hr4
            have f4 := HD4.out.fr
            have r4 := HD4.out.res
            have c40 : w4.cell? ⟨B, 0, none⟩ = some (.int .i64 mj) := by simp [World.cell?, f4]
            have c41 : w4.cell? ⟨B, 1, none⟩ = some (.slice (some ⟨g, 0, none⟩) n c) := by simp [World.cell?, f4]
            have d40 : w4.cell? ⟨w.heap.size, 0, none⟩ = some (.int .i64 0) := by simp [World.cell?, r4]
            have d41 : w4.cell? ⟨w.heap.size, 1, none⟩ = some (.slice none 0 0) := by simp [World.cell?, r4]
            have z40 : w4.frozen? ⟨w.heap.size, 0, none⟩ = false := frozen_of_row _ _ _ _ _ r4
            have z41 : w4.frozen? ⟨w.heap.size, 1, none⟩ = false := frozen_of_row _ _ _ _ _ r4
            clear f4 r4))
        all_goals go_wp2
        all_goals refine bodyPost_ret (drawn3 Try.results11 (by rfl) (HD4.out.ends _ _).2.2) rfl ?_
        all_goals obtain ⟨e1, e2, _⟩ := HD4.out.ends (.int .i64 mj) (.slice (some ⟨g, 0, none⟩) n c)
        all_goals exact ⟨mj, 1 + p, 999999900, IntKind.i64.wrap (999999900 + t'), g, n, c, Z, rfl, by omega, by omega, hn, by have := HD4.out.g0; omega, e1, hz, e2⟩
      · have h3 : t = 999999900 := by omega
        subst h3
        go_wp2_with fail
        go_region_held3 (fun w' => w'.cell? ⟨B, 0, none⟩ = some (.int .i64 mj) ∧ w'.cell? ⟨B, 1, none⟩ = some (.slice (some ⟨g, 0, none⟩) n c)) (go_keep)
          ((go_at_call 28
            refine (below_any _ a len cap 40 _ hl (by omega) (by omega) ?_).mono ?_
            exact HD.out.rd
            rintro e w4 ⟨t', t0, t1, rfl, hb4, hr4⟩
            have HD4 : Hid (Drw a len cap w w4 B g n c mj Z) := HD.out.move hb4.undrew hr4
            clear hb4 hr4
            have f4 := HD4.out.fr
            have r4 := HD4.out.res
            have c40 : w4.cell? ⟨B, 0, none⟩ = some (.int .i64 mj) := by simp [World.cell?, f4]
            have c41 : w4.cell? ⟨B, 1, none⟩ = some (.slice (some ⟨g, 0, none⟩) n c) := by simp [World.cell?, f4]
            have d40 : w4.cell? ⟨w.heap.size, 0, none⟩ = some (.int .i64 0) := by simp [World.cell?, r4]
            have d41 : w4.cell? ⟨w.heap.size, 1, none⟩ = some (.slice none 0 0) := by simp [World.cell?, r4]
            have z40 : w4.frozen? ⟨w.heap.size, 0, none⟩ = false := frozen_of_row _ _ _ _ _ r4
            have z41 : w4.frozen? ⟨w.heap.size, 1, none⟩ = false := frozen_of_row _ _ _ _ _ r4
            clear f4 r4))
        all_goals go_wp2
        all_goals refine bodyPost_ret (drawn3 Try.results11 (by rfl) (HD4.out.ends _ _).2.2) rfl ?_
        all_goals obtain ⟨e1, e2, _⟩ := HD4.out.ends (.int .i64 mj) (.slice (some ⟨g, 0, none⟩) n c)
        all_goals exact ⟨mj, 1 + p, 999999900, IntKind.i64.wrap (999999900 + t'), g, n, c, Z, rfl, by omega, by omega, hn, by have := HD4.out.g0; omega, e1, hz, e2⟩

end Go.Proofs.Yticpedhfclkjcaa
