/- Drawn programs and texts of programs; two programs held against each other. -/
import Derived.Test.YtlaeilcipibelaaGreatDoorPgDraw
import Derived.Test.YtlaeilcipibelaaGreatDoorPRdSpec
import Derived.Test.YtlaeilcipibelaaGreatDoorProgText
import Derived.Deep.AppendLies
import Derived.Maps.AppendAt
import Derived.Deep.QuietTactic
import Derived.BigQuiet
namespace Go.Proofs.YtlaeilcipibelaaGreatDoor
open Go.RowKit

/-- A program under drawing. -/
structure PgUp (r : Nat) (a : Option Addr) (len cap : Nat) (w x : World) (g c : Nat) (os : List OpD) : Prop where
  own : x.ownsRow w.heap.size 37 4 (.slice (some ⟨g, 0, none⟩) os.length c) os.length (cellsO os)
  but : But r w x
  rd : Rd r a len cap x
  st : Rd r a len cap w
  sz : ∀ o ∈ os, o.2.2.2.size ≤ 3
theorem PgUp.form {r : Nat} {a : Option Addr} {len cap : Nat} {w x : World} {g c : Nat} {os : List OpD} (h : PgUp r a len cap w x g c os) : w.heap.size ≤ g ∧ ListAt x g os := by
  rcases ownO_form h.own rfl with ⟨h1, _⟩ | ⟨g', c', h1, h2, h3, _⟩
  · cases h1
  · cases h1
    exact ⟨h2, h3⟩
theorem PgUp.move {r : Nat} {a : Option Addr} {len cap : Nat} {w x y : World} {g c : Nat} {os : List OpD} (h : PgUp r a len cap w x g c os) (hb : But r x y) (hr : Rd r a len cap y) : PgUp r a len cap w y g c os :=
  ⟨ownsRow_but h.own hb h.st.lt, h.but.trans hb, hr, h.st, h.sz⟩
theorem PgUp.alloc {r : Nat} {a : Option Addr} {len cap : Nat} {w x : World} {g c : Nat} {os : List OpD} (h : PgUp r a len cap w x g c os) (o : Obj) : PgUp r a len cap w (x.alloc o) g c os :=
  h.move ((But.refl _ _).alloc _) (h.rd.below ((Below.refl _ _).alloc (Nat.le_refl _) _))
theorem PgUp.next {r : Nat} {a : Option Addr} {len cap : Nat} {w x w5 : World} {g c g' c' : Nat} {os : List OpD} {o : OpD} (h : PgUp r a len cap w x g c os) (hz : o.2.2.2.size ≤ 3) (hg : x.grownBy w5 (some g))
    (hown : w5.ownsRow w.heap.size 37 4 (.slice (some ⟨g', 0, none⟩) (os.length + 1) c') (os.length + 1) (cellsO os ++ [.int .i64 o.1, .int .i64 o.2.1, .int .i64 o.2.2.1, .string o.2.2.2])) : PgUp r a len cap w w5 g' c' (os ++ [o]) := by
  have hf := h.form.1
  have hb : But r w w5 := h.but.grown hg (fun k hk => by cases hk; exact hf)
  obtain ⟨p, hp, hrow⟩ := h.rd.1
  have hrl := h.st.lt
  have hrow5 : w5.heap[r]? = some (.cells #[.slice a len cap, .int .i64 p] 51 (0, 0)) := (hg.block r (Array.getElem?_eq_some_iff.1 hrow).1 (fun e => by cases e; omega)).trans hrow
  refine ⟨?_, hb, ⟨⟨p, hp, hrow5⟩, h.st.2.but hb⟩, h.st, fun q hq => ?_⟩
  · rw [cellsO_append, len_snocO]
    simpa [cellsO] using hown
  · rcases List.mem_append.1 hq with hq | hq
    · exact h.sz q hq
    · rw [List.mem_singleton] at hq; subst hq; exact hz

set_option maxHeartbeats 4000000 in
theorem prog_any (r : Nat) (a : Option Addr) (len cap : Nat) (w : World) (hl : len ≤ 1048576) (h : Rd r a len cap w) :
    Calls Tryz.prog 14 #[.pointer (some ⟨r, 0, none⟩)] w fun e w' => ∃ (g c : Nat) (os : List OpD), e = .returned (.slice (some ⟨g, 0, none⟩) os.length c) ∧ os.length ≤ 6 ∧ PgUp r a len cap w w' g c os := by
  obtain ⟨i0, hi, e0⟩ := Option.map_eq_some_iff.1 opInfo'
  simp only [Prod.mk.injEq] at e0
  have HI : Hid (Tryz.prog.info? 37 = some i0 ∧ i0.zero = some (.agg #[.int .i64 0, .int .i64 0, .int .i64 0, .string ⟨#[]⟩]) ∧ i0.size = 4 ∧ i0.bytes = 40) := ⟨hi, e0⟩
  clear hi e0
  have HA : Hid (PgUp r a len cap w (w.alloc (.cells #[] 37)) w.heap.size 0 []) :=
    ⟨⟨rfl, .inr ⟨w.heap.size, 0, #[], rfl, Nat.le_refl _, heap_alloc_new _ _, Nat.le_refl _, Nat.zero_le _, rfl, rfl⟩⟩, (But.refl _ _).alloc _, h.below ((Below.refl _ _).alloc (Nat.le_refl _) _), h, fun o ho => by simp at ho⟩
  clear h
  go_enter Tryz.func14, Tryz.ntmps14
  go_wp2_with fail
  generalize w.alloc (.cells #[] 37) = W0 at *
  generalize hgs : w.heap.size = g0 at *
  refine (below_any r a len cap 5 _ hl (by omega) (by omega) HA.out.rd).mono ?_
  rintro e w1 ⟨v, v0, v1, rfl, hb1, hr1⟩
  have H1 : Hid (PgUp r a len cap w w1 g0 0 []) := HA.out.move hb1 hr1
  have e1 : IntKind.i64.wrap (1 + v) = 1 + v := by rw [IntKind.wrap_i64]; omega
  clear hb1 hr1 HA
  go_wp2_with fail
  go_loopw [3, 4] (fun v i wr => ∃ (g c : Nat) (os : List OpD) (m : Int), v = .slice (some ⟨g, 0, none⟩) os.length c ∧ i = .int .i64 m ∧ 0 ≤ m ∧ (os.length : Int) + m ≤ 5 ∧ Hid (PgUp r a len cap w wr g c os)) (fun _ i _ => (intOf i).toNat)
  case atStart => exact ⟨g0, 0, [], 1 + v, rfl, rfl, by omega, by simp; omega, H1⟩
  case round =>
    clear H1
    obtain ⟨g, c, os, m, rfl, rfl, hm0, hm5, H⟩ := hrel
    by_cases hm : 0 < m
    · go_wp2_with fail
      refine (op_any r a len cap _ hl H.out.rd).mono ?_
      rintro e w4 ⟨o, hoz, rfl, hb4, hr4⟩
      have H4 : Hid (PgUp r a len cap w w4 g c os) := H.out.move hb4 hr4
      have HX : Hid (PgUp r a len cap w (w4.alloc (.cells #[.int .i64 o.1, .int .i64 o.2.1, .int .i64 o.2.2.1, .string o.2.2.2] 37)) g c os) := H4.out.alloc _
      have e2 : IntKind.i64.wrap (m - 1) = m - 1 := by rw [IntKind.wrap_i64]; omega
      have hw4 := H4.out.but.size
      clear hb4 hr4 H
      go_wp2_with (at_builtin; refine wpList_append_own_at _ rfl _ _ 24 rfl w.heap.size 37 i0 (.agg #[.int .i64 0, .int .i64 0, .int .i64 0, .string ⟨#[]⟩]) 4 40 Tryz.underlying24 HI.out.1 HI.out.2.1 HI.out.2.2.1 HI.out.2.2.2 rfl (by decide) (.slice (some ⟨g, 0, none⟩) os.length c) os.length (cellsO os) rfl HX.out.own ⟨w4.heap.size, 0, none⟩ 1 1 [.int .i64 o.1, .int .i64 o.2.1, .int .i64 o.2.2.1, .string o.2.2.2] (by rfl) rfl (World.news_of_block (cs := #[.int .i64 o.1, .int .i64 o.2.1, .int .i64 o.2.2.1, .string o.2.2.2]) (t := 37) (fr := (0, 0)) (heap_alloc_new w4 _)) (by simp [Value.oneCell']) (by unfold maxLen; omega) (by omega) (by simp; omega) ?_; intro v' w5 hown' hgrow hnil hloc; obtain ⟨gg, cp, rfl⟩ := ownO_some hown'; have HN : Hid (PgUp r a len cap w w5 gg cp (os ++ [o])) := HX.out.next hoz hgrow hown'; clear hown' hgrow hnil hloc HX)
      go_roundw
      case rel => exact ⟨gg, cp, os ++ [o], m - 1, by rw [len_snocO], rfl, by omega, by rw [len_snocO]; omega, HN⟩
      case measure => simp [intOf]; omega
    · go_wp2_with fail
      refine (once_any r a len cap 3 _ hl (by omega) (by omega) H.out.rd).mono ?_
      rintro e w3 ⟨bb, rfl, hb3, hr3⟩
      have H3 : Hid (PgUp r a len cap w w3 g c os) := H.out.move hb3 hr3
      clear hb3 hr3 H
      cases bb with
      | false =>
        go_wp2
        go_ret
        exact ⟨g, c, os, rfl, by omega, H3.out⟩
      | true =>
        have HX : Hid (PgUp r a len cap w (w3.alloc (.cells #[.int .i64 17, .int .i64 0, .int .i64 0, .string ⟨#[]⟩] 37)) g c os) := H3.out.alloc _
        have hw4 := H3.out.but.size
        go_wp2_with (at_builtin; refine wpList_append_own_at _ rfl _ _ 24 rfl w.heap.size 37 i0 (.agg #[.int .i64 0, .int .i64 0, .int .i64 0, .string ⟨#[]⟩]) 4 40 Tryz.underlying24 HI.out.1 HI.out.2.1 HI.out.2.2.1 HI.out.2.2.2 rfl (by decide) (.slice (some ⟨g, 0, none⟩) os.length c) os.length (cellsO os) rfl HX.out.own ⟨w3.heap.size, 0, none⟩ 1 1 [.int .i64 17, .int .i64 0, .int .i64 0, .string ⟨#[]⟩] (by rfl) rfl (World.news_of_block (cs := #[.int .i64 17, .int .i64 0, .int .i64 0, .string ⟨#[]⟩]) (t := 37) (fr := (0, 0)) (heap_alloc_new w3 _)) (by simp [Value.oneCell']) (by unfold maxLen; omega) (by omega) (by simp; omega) ?_; intro v' w5 hown' hgrow hnil hloc; obtain ⟨gg, cp, rfl⟩ := ownO_some hown'; have HN : Hid (PgUp r a len cap w w5 gg cp (os ++ [(17, 0, 0, ⟨#[]⟩)])) := HX.out.next (Nat.zero_le 3) hgrow hown'; clear hown' hgrow hnil hloc HX)
        go_ret
        exact ⟨gg, cp, os ++ [(17, 0, 0, ⟨#[]⟩)], by rw [len_snocO]; rfl, by rw [len_snocO]; omega, HN.out⟩

set_option maxHeartbeats 1000000 in
theorem drawProgText_any (a : Option Addr) (len cap : Nat) (w : World) (hl : len ≤ 1048576) (hb : Bytes w a len) :
    Calls Tryz.prog 5 #[.slice a len cap] w fun e w' => ∃ (g c : Nat) (os : List OpD), e = .returned (.slice (some ⟨g, 0, none⟩) os.length c) ∧ os.length ≤ 6 ∧ ListAt w' g os ∧ (∀ o ∈ os, o.2.2.2.size ≤ 3) ∧ Below w.heap.size w w' := by
  go_enter Tryz.func5, Tryz.ntmps5
  go_wp2_with fail
  refine (open_any a len cap _ hb).mono ?_
  rintro e w1 ⟨rfl, hb1, hr1, -⟩
  have hl1 := hr1.lt
  go_wp2_with fail
  refine (prog_any _ a len cap w1 hl hr1).mono ?_
  rintro e w2 ⟨g, c, os, rfl, hn, hp⟩
  have HP : Hid (PgUp w.heap.size a len cap w1 w2 g c os ∧ Below w.heap.size w w2) := ⟨hp, hb1.trans (hp.but.below (Nat.le_refl _) (by omega))⟩
  clear hp hb1
  go_wp2
  go_ret
  exact ⟨g, c, os, rfl, hn, HP.out.1.form.2, HP.out.1.sz, HP.out.2⟩
theorem progText_size (os : List OpD) : (progText os.length (kOf os) (nOf os) (mOf os) (sOf os)).size ≤ 1040 := by
  unfold progText
  split
  · rename_i hf
    obtain ⟨h1, h2, h3⟩ := progB_out hf
    have := pT_size os.length h3
    omega
  · exact Nat.zero_le _
theorem specProg_list {w : World} {g c : Nat} {os : List OpD} (h : ListAt w g os) (hn : os.length ≤ 1048576) (hz : ∀ o ∈ os, o.2.2.2.size ≤ 1048576) :
    Calls Tryz.prog 8 #[.slice (some ⟨g, 0, none⟩) os.length c] w fun e w' => e = .returned (.string (progText os.length (kOf os) (nOf os) (mOf os) (sOf os))) ∧ Below w.heap.size w w' :=
  specProgText_any g os.length c _ _ _ _ w hn (fun i _ => sOf_size hz i) h
theorem three_le {os : List OpD} (h : ∀ o ∈ os, o.2.2.2.size ≤ 3) : ∀ o ∈ os, o.2.2.2.size ≤ 1048576 := fun o ho => Nat.le_trans (h o ho) (by omega)

set_option maxHeartbeats 1000000 in
theorem drawReadProg_any (a : Option Addr) (len cap : Nat) (w : World) (hl : len ≤ 1048576) (hb : Bytes w a len) :
    Calls Tryz.prog 11 #[.slice a len cap] w fun e w' => ∃ t : ByteArray, e = .returned (.string t) ∧ t.size ≤ 1048576 ∧ Below w.heap.size w w' := by
  go_enter Tryz.func11, Tryz.ntmps11
  go_wp2_with fail
  refine (open_any a len cap _ hb).mono ?_
  rintro e w1 ⟨rfl, hb1, hr1, -⟩
  have HB1 : Hid (Below w.heap.size w w1) := hb1
  have hl1 := hr1.lt
  clear hb1
  go_wp2_with fail
  refine (prog_any _ a len cap w1 hl hr1).mono ?_
  rintro e w2 ⟨g, c, os, rfl, hn, hp⟩
  have HP : Hid (PgUp w.heap.size a len cap w1 w2 g c os ∧ Below w.heap.size w w2) := ⟨hp, HB1.out.trans (hp.but.below (Nat.le_refl _) (by omega))⟩
  clear hp
  go_wp2_with fail
  refine (specProg_list HP.out.1.form.2 (by omega) (three_le HP.out.1.sz)).mono ?_
  rintro e w3 ⟨rfl, hb3⟩
  have HB3 : Hid (Below w.heap.size w w3 ∧ Rd w.heap.size a len cap w3) := ⟨HP.out.2.trans (hb3.mono HP.out.2.size), HP.out.1.rd.below hb3⟩
  have hts := progText_size os
  clear hb3 HP
  generalize progText os.length (kOf os) (nOf os) (mOf os) (sOf os) = tx at *
  go_wp2_with fail
  refine (hurt_any _ a len cap tx w3 hl (by omega) HB3.out.2).mono ?_
  rintro e w4 ⟨t, ht, rfl, hb4, hr4⟩
  have hz3 := HB3.out.1.size
  have HB4 : Hid (Below w.heap.size w w4) := HB3.out.1.trans (hb4.below (Nat.le_refl _) hz3)
  clear hb4
  go_wp2
  go_ret
  exact ⟨t, rfl, by omega, HB4.out⟩

set_option maxHeartbeats 2000000 in
theorem sameOps_any (a a' : Option Addr) (os : List OpD) (cap cap' : Nat) (w : World) (hl : os.length ≤ 1048576) (hr : LiesO w a os) (hr' : LiesO w a' os) :
    Calls Tryz.prog 10 #[.slice a os.length cap, .slice a' os.length cap'] w fun e w' => e = .returned (.bool true) ∧ Below w.heap.size w w' := by
  have HR : Hid (LiesO w a os ∧ LiesO w a' os) := ⟨hr, hr'⟩
  clear hr hr'
  go_enter Tryz.func10, Tryz.ntmps10
  go_wp2_with fail
  go_loopw [5] (fun i wr => ∃ k : Nat, k ≤ os.length ∧ i = .int .i64 k ∧ Below w.heap.size w wr) (fun i _ => os.length - (intOf i).toNat)
  case atStart => exact ⟨0, Nat.zero_le _, rfl, Below.refl _ _⟩
  case round =>
    obtain ⟨k, hk, rfl, hbel⟩ := hrel
    by_cases hlt : k < os.length
    · obtain ⟨g, rfl, hra⟩ := (HR.out.1.below hbel) (by omega)
      obtain ⟨g', rfl, hrb⟩ := (HR.out.2.below hbel) (by omega)
      have c0 := OpsAt.c0 hra hlt
      have c1 := OpsAt.c1 hra hlt
      have c2 := OpsAt.c2 hra hlt
      have c3 := OpsAt.c3 hra hlt
      have d0 := OpsAt.c0 hrb hlt
      have d1 := OpsAt.c1 hrb hlt
      have d2 := OpsAt.c2 hrb hlt
      have d3 := OpsAt.c3 hrb hlt
      clear hra hrb HR
      have i0 : (0 : Int) ≤ (k : Int) := by omega
      have i1 : (k : Int) < (os.length : Int) := by omega
      generalize kOf os k = K at *
      generalize nOf os k = N at *
      generalize mOf os k = M at *
      generalize sOf os k = S at *
      go_wp2_with fail
      go_quiet (fail)
      go_wp2
      go_roundw
      case rel => exact ⟨k + 1, by omega, by go_num, hbel.os, hbel.tape, hbel.output, hbel.size, hbel.block⟩
      case measure => simp [intOf]; omega
    · have i1 : ¬ (k : Int) < (os.length : Int) := by omega
      go_wp2
      go_ret
      exact ⟨rfl, hbel⟩

end Go.Proofs.YtlaeilcipibelaaGreatDoor
