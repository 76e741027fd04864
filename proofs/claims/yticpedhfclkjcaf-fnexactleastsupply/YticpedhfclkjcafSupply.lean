/- How many times a part owns up to a time: the specification's count and the program's. -/
import Derived.Test.YticpedhfclkjcafOwner
import Derived.Deep.RegionHeld3
namespace Go.Proofs.Yticpedhfclkjcaf
open Go.RowKit
attribute [local go_sem] Oper.semAt_some

def cutZ (l a x : Int) : Int := max 0 (min l (x - a))
def lenTo (Z : Nat → Int) (part : Int) : Nat → Int
  | 0 => 0
  | k + 1 => lenTo Z part k + if Z (k * 3 + 2) = part then Z (k * 3 + 1) else 0
def restTo (Z : Nat → Int) (part x : Int) : Nat → Int
  | 0 => 0
  | k + 1 => restTo Z part x k + if Z (k * 3 + 2) = part then cutZ (Z (k * 3 + 1)) (Z (k * 3)) x else 0
/-- The count from 0 on, up to t. -/
def supZ (major : Int) (len : Nat) (Z : Nat → Int) (part t : Int) : Int := t / major * lenTo Z part len + restTo Z part (t % major) len

theorem lenTo_bd {major : Int} {len : Nat} {Z : Nat → Int} {part : Int} (h2 : major ≤ 1000) (h : ∀ i, i < len → winAt major Z i = true) (k : Nat) (hk : k ≤ len) : 0 ≤ lenTo Z part k ∧ lenTo Z part k ≤ 1000 * k := by
  induction k with
  | zero => simp [lenTo]
  | succ k ih =>
    have ih := ih (by omega)
    have hw := right_win h (i := k) (by omega)
    simp only [lenTo]
    split <;> omega
theorem restTo_bd {major : Int} {len : Nat} {Z : Nat → Int} {part x : Int} (h2 : major ≤ 1000) (h : ∀ i, i < len → winAt major Z i = true) (k : Nat) (hk : k ≤ len) : 0 ≤ restTo Z part x k ∧ restTo Z part x k ≤ 1000 * k := by
  induction k with
  | zero => simp [restTo]
  | succ k ih =>
    have ih := ih (by omega)
    have hw := right_win h (i := k) (by omega)
    simp only [restTo, cutZ]
    split <;> omega
theorem mul_bd {q l : Int} (h0 : 0 ≤ q) (h1 : q ≤ 2000000000) (h2 : 0 ≤ l) (h3 : l ≤ 20000) : 0 ≤ q * l ∧ q * l ≤ 40000000000000 := by
  constructor
  · exact Int.mul_nonneg h0 h2
  · have := Int.mul_le_mul h1 h3 h2 (by omega)
    omega

theorem wrapI {n : Int} (h1 : -9223372036854775808 ≤ n) (h2 : n ≤ 9223372036854775807) : IntKind.i64.wrap n = n := by rw [IntKind.wrap_i64]; omega
theorem cut_spec (l a x : Int) : (if 0 < if x - a < l then x - a else l then if x - a < l then x - a else l else 0) = cutZ l a x := by
  unfold cutZ
  by_cases h : x - a < l
  · simp only [h, if_true]; split <;> omega
  · simp only [h, if_false]; split <;> omega
theorem cut_bd {l a x : Int} (h0 : 0 ≤ l) (h1 : l ≤ 1000) : 0 ≤ cutZ l a x ∧ cutZ l a x ≤ 1000 := by unfold cutZ; omega

set_option maxHeartbeats 1000000 in
theorem l1Supply_any (major part t : Int) (g len cap : Nat) (Z : Nat → Int) (w : World) (hl : len ≤ 20) (h1 : 1 ≤ major) (h2 : major ≤ 1000) (h3 : ∀ i, i < len → winAt major Z i = true) (t0 : 0 ≤ t) (t1 : t ≤ 2000000000) (hr : WinsAt w g len Z) :
    Calls Try.prog 23 #[.agg #[.int .i64 major, .slice (some ⟨g, 0, none⟩) len cap], .int .i64 part, .int .i64 t] w fun e w' => e = .returned (.int .i64 (supZ major len Z part t)) ∧ Below w.heap.size w w' := by
  have hgl := hr.lt
  have hm : ¬ major = 0 := by omega
  have H3 : Hid (∀ i, i < len → winAt major Z i = true) := h3
  clear h3
  have x0 : 0 ≤ t % major := Int.emod_nonneg _ hm
  have x1 : t % major < major := Int.emod_lt_of_pos _ (by omega)
  have q0 : 0 ≤ t / major := Int.ediv_nonneg t0 (by omega)
  have q1 : t / major ≤ 2000000000 := Int.le_trans (Int.ediv_le_self _ t0) t1
  go_enter Try.func23, Try.ntmps23
  go_wp2
  go_loopw [7, 8, 9] (fun a b i wr => ∃ k : Nat, k ≤ len ∧ i = .int .i64 k ∧ a = .int .i64 (lenTo Z part k) ∧ b = .int .i64 (restTo Z part (t % major) k) ∧ Below (w.heap.size + 1) (w.alloc (.cells #[.int .i64 major, .slice (some ⟨g, 0, none⟩) len cap] 29)) wr) (fun _ _ i _ => len - (intOf i).toNat)
  case atStart => exact ⟨0, Nat.zero_le _, rfl, rfl, rfl, Below.refl _ _⟩
  case round =>
    obtain ⟨k, hk, rfl, rfl, rfl, hbel⟩ := hrel
    have hs : w.heap.size < wr.heap.size := by have := hbel.size; simp only [World.size_alloc] at this; omega
    have m0 : wr.cell? ⟨w.heap.size, 0, none⟩ = some (.int .i64 major) := (hbel.cell (p := ⟨w.heap.size, 0, none⟩) (by simp)).trans (by simp)
    have m1 : wr.cell? ⟨w.heap.size, 1, none⟩ = some (.slice (some ⟨g, 0, none⟩) len cap) := (hbel.cell (p := ⟨w.heap.size, 1, none⟩) (by simp)).trans (by simp)
    have hB : Below w.heap.size w wr := ((Below.refl _ _).alloc (Nat.le_refl _) _).trans (hbel.mono (by omega))
    have lb := lenTo_bd (part := part) h2 H3.out k hk
    have rb := restTo_bd (part := part) (x := t % major) h2 H3.out k hk
    by_cases hlt : k < len
    · have hra : WinsAt wr g len Z := (hr.alloc _).of_block (hbel.block g (by omega))
      have c0 : wr.cell? ⟨g, k * 3, none⟩ = some (.int .i64 (Z (k * 3))) := hra.cell (by omega)
      have c1 : wr.cell? ⟨g, k * 3 + 1, none⟩ = some (.int .i64 (Z (k * 3 + 1))) := hra.cell (by omega)
      have c2 : wr.cell? ⟨g, k * 3 + 2, none⟩ = some (.int .i64 (Z (k * 3 + 2))) := hra.cell (by omega)
      clear hra hr
      have hw := right_win H3.out hlt
      have HL : Hid (lenTo Z part (k + 1) = lenTo Z part k + if Z (k * 3 + 2) = part then Z (k * 3 + 1) else 0) := rfl
      have HS : Hid (restTo Z part (t % major) (k + 1) = restTo Z part (t % major) k + if Z (k * 3 + 2) = part then cutZ (Z (k * 3 + 1)) (Z (k * 3)) (t % major) else 0) := rfl
      generalize Z (k * 3) = a at *
      generalize Z (k * 3 + 1) = l at *
      generalize Z (k * 3 + 2) = p at *
      obtain ⟨w0, w1, w2, w3, w4⟩ := hw
      by_cases q : p = part
      · subst q
        have qb : (p == p) = true := by simp
        have nz := World.new_ne wr ⟨w.heap.size, 0, none⟩ m0
        go_wp2
        go_region_held3 (fun w' => w'.cell? ⟨w.heap.size, 0, none⟩ = some (.int .i64 major) ∧ w'.cell? ⟨wr.heap.size, 0, none⟩ = some (.int .i64 a) ∧ w'.cell? ⟨wr.heap.size, 1, none⟩ = some (.int .i64 l)) (go_keep) (fail)
        have tm : t.tmod major = t % major := Int.tmod_eq_emod_of_nonneg t0
        have hx : IntKind.i64.wrap (t % major - a) = t % major - a := wrapI (by omega) (by omega)
        have cb := cut_bd (l := l) (a := a) (x := t % major) (by omega) (by omega)
        have hx2 : IntKind.i64.wrap (restTo Z p (t % major) k + cutZ l a (t % major)) = restTo Z p (t % major) k + cutZ l a (t % major) := wrapI (by omega) (by omega)
        simp only [tm, hx, cut_spec, hx2]
        have HL' : Hid (lenTo Z p (k + 1) = lenTo Z p k + l) := by have := HL.out; simp only [if_true] at this; exact this
        have HS' : Hid (restTo Z p (t % major) (k + 1) = restTo Z p (t % major) k + cutZ l a (t % major)) := by have := HS.out; simp only [if_true] at this; exact this
        clear tm hx hx2
        go_wp2
        go_roundw
        case rel => exact ⟨k + 1, by omega, by go_num, by rw [HL'.out], by rw [HS'.out], (hbel.alloc (by omega) _).drew⟩
        case measure => simp [intOf]; omega
      · have qb : (p == part) = false := by simp [q]
        go_wp2
        go_roundw
        case rel => exact ⟨k + 1, by omega, by go_num, by rw [HL.out, if_neg q]; simp, by rw [HS.out, if_neg q]; simp, hbel.alloc (by omega) _⟩
        case measure => simp [intOf]; omega
    · have e : k = len := by omega
      subst e
      have mb := mul_bd q0 q1 lb.1 (by omega)
      go_wp2
      go_ret
      exact ⟨rfl, hB⟩

end Go.Proofs.Yticpedhfclkjcaf
