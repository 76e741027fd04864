/- The program's reader of programs, which gives up. -/
import Derived.Test.YtlaeilcipibelaaGreatDoorProgIs
import Derived.Test.YtlaeilcipibelaaGreatDoorMustOp
import Derived.Test.YtlaeilcipibelaaGreatDoorSplt
namespace Go.Proofs.YtlaeilcipibelaaGreatDoor
open Go.RowKit

theorem opVs_snoc (os : List OpD) (o : OpD) {j : Nat} (h : j < os.length * 4) : opVs (os ++ [o]) j = opVs os j := by
  have hj : j / 4 < os.length := by omega
  have e : (os ++ [o])[j / 4]? = os[j / 4]? := List.getElem?_append_left hj
  simp only [opVs, opV, kOf, nOf, mOf, sOf, e]
theorem opVs_last (os : List OpD) (o : OpD) : opVs (os ++ [o]) (os.length * 4) = .int .i64 o.1 ∧ opVs (os ++ [o]) (os.length * 4 + 1) = .int .i64 o.2.1 ∧ opVs (os ++ [o]) (os.length * 4 + 2) = .int .i64 o.2.2.1 ∧ opVs (os ++ [o]) (os.length * 4 + 3) = .string o.2.2.2 := by
  have e : (os ++ [o])[os.length]? = some o := by simp
  obtain ⟨h1, h2, h3, h4⟩ := kOf_at e
  refine ⟨?_, ?_, ?_, ?_⟩
  · rw [opVs, opV_0, h1]
  · rw [opVs, opV_1, h2]
  · rw [opVs, opV_2, h3]
  · rw [opVs, opV_3, h4]
/-- The first ops are read and lie in block g. -/
structure PAt (s : ByteArray) (w x : World) (gp g : Nat) (ps : List ByteArray) (os : List OpD) : Prop where
  row : x.rowIs g 37 (ps.length * 4) (fun j => if j < os.length * 4 then opVs os j else zeroV j)
  bel : Below w.heap.size w x
  env : EnvW w
  new : w.heap.size ≤ g
  pc : ps.map (·.data.toList) = pcs 59 s.data.toList
  at_ : ∀ (j : Nat) p, ps[j]? = some p → x.cell? ⟨gp, j, none⟩ = some (.string p)
  ne : gp < g
  ok : ∀ (j : Nat) (p : ByteArray) (o : OpD), ps[j]? = some p → os[j]? = some o → OpIs p o
theorem PAt.below {s : ByteArray} {w x y : World} {gp g : Nat} {ps : List ByteArray} {os : List OpD} (h : PAt s w x gp g ps os) (hb : Below x.heap.size x y) : PAt s w y gp g ps os :=
  ⟨rowIs_below h.row hb, h.bel.trans (hb.mono h.bel.size), h.env, h.new, h.pc, fun j p hj => (hb.cell (p := ⟨gp, j, none⟩) (block_lt_of_cell (h.at_ j p hj))).trans (h.at_ j p hj), h.ne, h.ok⟩
theorem PAt.is {s : ByteArray} {w x : World} {gp g : Nat} {ps : List ByteArray} {os : List OpD} (h : PAt s w x gp g ps os) (hl : os.length = ps.length) (h20 : ps.length ≤ 20) : ProgIs s os := by
  refine ⟨?_, by omega, fun o ho => ?_⟩
  · rw [← h.pc]
    apply List.ext_getElem?
    intro j
    rw [List.getElem?_map, List.getElem?_map]
    by_cases hj : j < os.length
    · have e1 : os[j]? = some os[j] := List.getElem?_eq_getElem hj
      have e2 : ps[j]? = some ps[j] := List.getElem?_eq_getElem (by omega)
      have := h.ok j _ _ e2 e1
      rw [e1, e2, Option.map_some, Option.map_some, this.2]
    · rw [List.getElem?_eq_none (by omega), List.getElem?_eq_none (by omega)]
      rfl
  · obtain ⟨j, hj, rfl⟩ := List.getElem_of_mem ho
    exact (h.ok j _ _ (List.getElem?_eq_getElem (show j < ps.length by omega)) (List.getElem?_eq_getElem hj)).1
theorem PAt.push {s : ByteArray} {w x : World} {gp g : Nat} {ps : List ByteArray} {os : List OpD} (h : PAt s w x gp g ps os) {p : ByteArray} {o : OpD} (hp : ps[os.length]? = some p) (ho : OpIs p o) :
    PAt s w ((((x.setCell ⟨g, os.length * 4, none⟩ (.int .i64 o.1)).setCell ⟨g, os.length * 4 + 1, none⟩ (.int .i64 o.2.1)).setCell ⟨g, os.length * 4 + 2, none⟩ (.int .i64 o.2.2.1)).setCell ⟨g, os.length * 4 + 3, none⟩ (.string o.2.2.2)) gp g ps (os ++ [o]) := by
  obtain ⟨e0, e1, e2, e3⟩ := opVs_last os o
  have hr : x.rowIs g 37 (ps.length * 4) (fun j => if j < os.length * 4 then opVs (os ++ [o]) j else zeroV j) := h.row.congr (fun j _ => by
    by_cases hj : j < os.length * 4
    · simp only [if_pos hj]; exact (opVs_snoc os o hj).symm
    · simp only [if_neg hj])
  have hs := row_step hr
  rw [e0, e1, e2, e3] at hs
  refine ⟨by rw [show (os ++ [o]).length = os.length + 1 by simp]; exact hs, (((h.bel.setCell h.new _).setCell h.new _).setCell h.new _).setCell h.new _, h.env, h.new, h.pc, fun j q hj => ?_, h.ne, fun j q o' hj ho' => ?_⟩
  · have hne : gp ≠ g := Nat.ne_of_lt h.ne
    have hcell : ∀ (y : World) (i : Nat) (v : Value), (y.setCell ⟨g, i, none⟩ v).cell? ⟨gp, j, none⟩ = y.cell? ⟨gp, j, none⟩ := fun y i v => World.cell?_of_block (w := y) (a := ⟨gp, j, none⟩) (Below.heap_setCell _ _ _ _ (by simpa using hne))
    rw [hcell, hcell, hcell, hcell]
    exact h.at_ j q hj
  · by_cases hl : j < os.length
    · rw [List.getElem?_append_left hl] at ho'
      exact h.ok j q o' hj ho'
    · have hj2 : j = os.length := by
        have := (List.getElem?_eq_some_iff.1 ho').1
        simp at this
        omega
      subst hj2
      simp at ho'
      rw [hp] at hj
      cases hj
      subst ho'
      exact ho

/-- How the reader ends. -/
def PEnds (s : ByteArray) (w : World) (e : Ending) (w' : World) : Prop :=
  (∃ g os, ProgIs s os ∧ e = .returned (.slice (some ⟨g, 0, none⟩) os.length os.length) ∧ w.heap.size ≤ g ∧ w'.rowIs g 37 (os.length * 4) (opVs os)) ∨ (e = .panicked upC ∧ ∀ os, ¬ ProgIs s os)

set_option maxHeartbeats 4000000 in
theorem mustReadProg_any (s : ByteArray) (w : World) (hs : s.size ≤ 1048576) (he : EnvW w) :
    Calls Tryz.prog 33 #[.string s] w fun e w' => PEnds s w e w' ∧ Below w.heap.size w w' := by
  have HE : Hid (EnvW w) := he
  clear he
  go_enter Tryz.func33, Tryz.ntmps33
  go_wp2_with fail
  refine (split_any s 59 w hs HE.out.env).mono ?_
  rintro e w1 ⟨ps, hps, hpl, hpz, rfl, hpc, hpw, hb1⟩
  have HP : Hid (ps.map (·.data.toList) = pcs 59 s.data.toList ∧ (∀ p ∈ ps, p.size ≤ 1048576) ∧ (∀ (j : Nat) x, ps[j]? = some x → w1.cell? ⟨w.heap.size, j, none⟩ = some (.string x)) ∧ Below w.heap.size w w1 ∧ w.heap.size < w1.heap.size) := ⟨hps, hpz, hpc, hb1, hpw⟩
  have hps0 : ps.length ≠ 0 := by
    intro h
    have := congrArg List.length hps
    rw [List.length_map, h] at this
    exact pcs_ne _ _ (List.length_eq_zero_iff.1 this.symm)
  clear hps hpz hpc hb1 hpw
  by_cases h20 : 20 < ps.length
  · have h20' : (20 : Int) < (ps.length : Int) := by omega
    have HZ : Hid (∀ os, ¬ ProgIs s os) := fun os ho => by
      have := ho.len
      rw [← HP.out.1, List.length_map] at this
      have := ho.2.1
      omega
    go_wp2_with (go_at_call 47; refine (giveUp_any _).mono ?_; rintro e w' ⟨rfl, rfl⟩)
    exact ⟨rfl, .inr ⟨rfl, HZ.out⟩, HP.out.2.2.2.1⟩
  have h20' : ¬ (20 : Int) < (ps.length : Int) := by omega
  have hmk := make_ops ps.length (by omega)
  have HA : Hid (PAt s w (w1.alloc (.cells (madeCells #[.int .i64 0, .int .i64 0, .int .i64 0, .string ⟨#[]⟩] (ps.length * 4)) 37)) w.heap.size w1.heap.size ps []) := by
    have hb : Below w1.heap.size w1 (w1.alloc (.cells (madeCells #[.int .i64 0, .int .i64 0, .int .i64 0, .string ⟨#[]⟩] (ps.length * 4)) 37)) := (Below.refl _ _).alloc (Nat.le_refl _) _
    exact ⟨(row_zero w1 ps.length).congr (fun i _ => by simp), HP.out.2.2.2.1.trans (hb.mono HP.out.2.2.2.1.size), HE.out, HP.out.2.2.2.1.size, HP.out.1, fun j p hj => (hb.cell (p := ⟨w.heap.size, j, none⟩) HP.out.2.2.2.2).trans (HP.out.2.2.1 j p hj), HP.out.2.2.2.2, fun j p o _ ho => by simp at ho⟩
  have HPZ : Hid (∀ p ∈ ps, p.size ≤ 1048576) := HP.out.2.1
  clear HP
  go_wp2_with fail
  generalize w1.alloc (.cells (madeCells #[.int .i64 0, .int .i64 0, .int .i64 0, .string ⟨#[]⟩] (ps.length * 4)) 37) = W1 at *
  generalize w1.heap.size = g at *
  go_loopw [18] (fun i wr => ∃ os : List OpD, os.length ≤ ps.length ∧ i = .int .i64 (os.length : Int) ∧ Hid (PAt s w wr w.heap.size g ps os)) (fun i _ => ps.length - (intOf i).toNat)
  case atStart => exact ⟨[], by simp, rfl, HA⟩
  case round =>
    clear HA
    obtain ⟨os, hol, rfl, H⟩ := hrel
    by_cases hk : os.length < ps.length
    · have i0 : (0 : Int) ≤ (os.length : Int) := by omega
      have i1 : (os.length : Int) < (ps.length : Int) := by omega
      obtain ⟨px, hpx⟩ : ∃ px, ps[os.length]? = some px := ⟨_, List.getElem?_eq_getElem hk⟩
      have k1 := H.out.at_ _ _ hpx
      have HX : Hid (ps[os.length]? = some px) := hpx
      have hpz : px.size ≤ 1048576 := HPZ.out px (List.mem_of_getElem? hpx)
      clear hpx
      go_wp2_with fail
      refine (mustReadOp_any px wr hpz (H.out.env.below H.out.bel)).mono ?_
      rintro e w3 ⟨he, hb3⟩
      have H3 : Hid (PAt s w w3 w.heap.size g ps os) := H.out.below hb3
      clear hb3 H k1
      rcases he with ⟨o, ho, rfl⟩ | ⟨rfl, hno⟩
      · have HN : Hid _ := H3.out.push HX.out ho
        have d0 := H3.out.row.cell (i := os.length * 4) (by omega)
        have d1 := H3.out.row.cell (i := os.length * 4 + 1) (by omega)
        have d2 := H3.out.row.cell (i := os.length * 4 + 2) (by omega)
        have d3 := H3.out.row.cell (i := os.length * 4 + 3) (by omega)
        have f0 := H3.out.row.frozen (os.length * 4)
        have f1 := H3.out.row.frozen (os.length * 4 + 1)
        have f2 := H3.out.row.frozen (os.length * 4 + 2)
        have f3 := H3.out.row.frozen (os.length * 4 + 3)
        clear ho
        go_wp2
        go_roundw
        case rel => exact ⟨os ++ [o], by simp; omega, by simp, HN⟩
        case measure => simp [intOf]; omega
      · have HZ : Hid (∀ os, ¬ ProgIs s os) := fun os' ho' => by
          obtain ⟨o, _, h2⟩ := ho'.piece H3.out.pc HX.out
          exact hno o h2
        clear hno
        go_wp2
        exact ⟨rfl, .inr ⟨rfl, HZ.out⟩, H3.out.bel⟩
    · have i1 : ¬ (os.length : Int) < (ps.length : Int) := by omega
      have HKE : Hid (os.length = ps.length) := (by omega : os.length = ps.length)
      go_wp2
      go_ret
      have hi := H.out.is HKE.out (by omega)
      refine ⟨.inl ⟨g, os, hi, by rw [HKE.out]; rfl, H.out.new, ?_⟩, H.out.bel⟩
      rw [HKE.out]
      exact H.out.row.congr (fun j hj => by simp only [HKE.out, if_pos hj])

end Go.Proofs.YtlaeilcipibelaaGreatDoor
