/- What the proof leans on, part 23: Res2, StB, TdB, TdProc, AlSem, TdSem, AlEvent, TdEvent, AlBoard, TdBoard, AlBuffer. -/
import Derived.Laws.ResultCell
import Derived.Laws.Rows
import Derived.Test.YtkbcplnlehdjfaaGreatOwnR0
import Derived.Test.YtkbcplnlehdjfaaGreatOwnR2
import Derived.Test.YtkbcplnlehdjfaaGreatOwnR4
import Derived.Test.YtkbcplnlehdjfaaGreatOwnR5
import Derived.Test.YtkbcplnlehdjfaaGreatOwnR6
import Derived.Test.YtkbcplnlehdjfaaGreatOwnR16
import Derived.Test.YtkbcplnlehdjfaaGreatOwnR20
import Derived.Test.YtkbcplnlehdjfaaGreatOwnR21

namespace Go.Proofs.YtkbcplnlehdjfaaGreat
open Go
theorem results_row_tmp {P : Program} {fn : Func} {p u : Tmp} {ty : TypeId} (h : fn.results = #[.cell p ty, .tmp u]) (tmps : Array Value) (w : World) (g : Nat) (t : TypeId) (cs : Array Value) (fr : Nat × Nat) (d : TypeDesc)
  (hp : tmps.getD p undef = .pointer (some ⟨g, 0, none⟩)) (hg : w.heap[g]? = some (.cells cs t fr))
  (hu : P.underlying ty = some d) (hd : (match d with | .struct _ | .array _ _ => true | _ => false) = true) (hi : (P.info? ty).map (·.size) = some cs.size) :
  (results fn tmps).run P w = .ok (.tuple #[.agg cs, tmps.getD u undef]) w := by
 rw [results_cell_tmp h, hp]
 simp [asAddr, run_loadVar_row w g t ty cs fr d hg hu hd hi]
end Go.Proofs.YtkbcplnlehdjfaaGreat

/- One process of a partition is turned: what becomes of it, and of the memory. -/
namespace Go.Proofs.YtkbcplnlehdjfaaGreat
open Go.RowKit
/-- A partition, one of whose processes is turned, if it may be. -/
def turnP (id : Int) (f : ProcP → ProcP) (l : List ProcP) : List ProcP := l.map fun x => if x.id = id then f x else x
def turnedP (p : PartP) (id : Int) (ok : ProcP → Bool) (f : ProcP → ProcP) (nx : Int) : Option PartP :=
 if partB p then match p.procs.find? (fun x => decide (x.id = id)) with
  | some y => if ok y then some { p with next := nx, procs := turnP id f p.procs } else none
  | none => none
 else none
def zeroPart : PartP := ⟨0, 0, [], [], [], [], [], []⟩
/-- What such a call ends in. -/
def TurnRes (w : World) (r : Option PartP) (e : Ending) (w' : World) : Prop := ∃ q : PartD, e = .returned (.tuple #[.agg q.cells, .bool r.isSome]) ∧ PartOwn w' w.heap.size q ∧ q.pure = r.getD zeroPart ∧ Below w.heap.size w w'
theorem own_zero (w : World) (base : Nat) : PartOwn w base ⟨0, 0, [], none, 0, [], none, 0, [], none, 0, [], none, 0, [], none, 0, [], none, 0⟩ :=
 ⟨World.ownsRow_nil _ _ _ _, World.ownsRow_nil _ _ _ _, World.ownsRow_nil _ _ _ _, World.ownsRow_nil _ _ _ _, World.ownsRow_nil _ _ _ _, World.ownsRow_nil _ _ _ _, (fun x hx => by cases hx), (fun x hx => by cases hx), (fun x hx => by cases hx), by simp [PartD.blocks, blk]⟩
theorem turnRes_no {w w' : World} {r : Option PartP} (h : r = none) (hb : Below w.heap.size w w') : TurnRes w r (.returned (.tuple #[.agg #[.int .i64 0, .int .i64 0, .slice none 0 0, .slice none 0 0, .slice none 0 0, .slice none 0 0, .slice none 0 0, .slice none 0 0], .bool false])) w' := by
 subst h
 exact ⟨_, rfl, own_zero _ _, rfl, hb⟩
theorem turned_not {p : PartP} {id nx : Int} {ok : ProcP → Bool} {f : ProcP → ProcP} (h : partB p = false) : turnedP p id ok f nx = none := by simp [turnedP, h]
theorem turned_none {p : PartP} {id nx : Int} {ok : ProcP → Bool} {f : ProcP → ProcP} (h : p.procs.find? (fun x => decide (x.id = id)) = none) : turnedP p id ok f nx = none := by
 unfold turnedP
 split
 ·rw [h]
 ·rfl
theorem turned_no {p : PartP} {id nx : Int} {ok : ProcP → Bool} {f : ProcP → ProcP} {y : ProcP} (h : p.procs.find? (fun x => decide (x.id = id)) = some y) (ho : ok y = false) : turnedP p id ok f nx = none := by
 unfold turnedP
 split
 ·rw [h]; simp [ho]
 ·rfl
theorem turned_yes {p : PartP} {id nx : Int} {ok : ProcP → Bool} {f : ProcP → ProcP} {y : ProcP} (hp : partB p = true) (h : p.procs.find? (fun x => decide (x.id = id)) = some y) (ho : ok y = true) : turnedP p id ok f nx = some { p with next := nx, procs := turnP id f p.procs } := by
 unfold turnedP
 rw [if_pos hp, h]
 simp [ho]
/-- Numbers that rise are each there once. -/
theorem things_rise {α : Type} {num : α → Int} {ok : α → Bool} : ∀ {l : List α} {last : Int}, thingsB num ok last l = true → (∀ x ∈ l, last < num x) ∧ l.Pairwise (fun x y => num x < num y)
 | [], _, _ => ⟨(fun x hx => by cases hx), List.Pairwise.nil⟩
 | x :: r, last, h => by
  simp only [thingsB, Bool.and_eq_true, decide_eq_true_eq] at h
  obtain ⟨h1, h2⟩ := things_rise h.2
  refine ⟨fun y hy => ?_, List.Pairwise.cons (fun y hy => h1 y hy) h2⟩
  rcases List.mem_cons.1 hy with rfl | hy
  ·exact h.1.1.2
  ·have := h1 y hy; have := h.1.1.2; omega
/-- At its place it is the one of that number. -/
theorem turn_set {l : List ProcP} {f : ProcP → ProcP} {id : Int} {n : Nat} {y : ProcP} (hr : l.Pairwise (fun x y => x.id < y.id)) (hn : l[n]? = some y) (hy : y.id = id) : turnP id f l = l.set n (f y) := by
 induction l generalizing n with
 | nil => simp at hn
 | cons x r ih =>
  obtain ⟨h1, h2⟩ := List.pairwise_cons.1 hr
  cases n with
  | zero =>
   simp only [List.getElem?_cons_zero, Option.some.injEq] at hn
   subst hn
   have e : turnP id f r = r := by
    unfold turnP
    conv => rhs; rw [← List.map_id r]
    refine List.map_congr_left fun z hz => ?_
    rw [if_neg (by have := h1 z hz; omega)]
    rfl
   simp only [List.set_cons_zero]
   show (if x.id = id then f x else x) :: turnP id f r = _
   rw [if_pos hy, e]
  | succ n =>
   simp only [List.getElem?_cons_succ] at hn
   have hlt := h1 y (List.mem_of_getElem? hn)
   simp only [List.set_cons_succ]
   show (if x.id = id then f x else x) :: turnP id f r = _
   rw [if_neg (by omega), ih h2 hn]
theorem part_rise {p : PartP} (h : partB p = true) : p.procs.Pairwise (fun x y => x.id < y.id) := (things_rise ((partB_iff _).1 h).procs).2
/-- A process is short, and its numbers fit. -/
def SmallP (x : ProcP) : Prop := (x.prog.length ≤ 1048576 ∧ (∀ o ∈ x.prog, o.2.2.2.size ≤ 1048576) ∧ x.held.size ≤ 1048576 ∧ x.got.size ≤ 1048576) ∧ (Lit.int .i64 x.id).wf = true ∧ (Lit.int .i64 x.on).wf = true ∧ (Lit.int .i64 x.since).wf = true
theorem wf_next {p : PartP} (h : partB p = true) : (Lit.int .i64 p.next).wf = true := by
 have h2 := inB_iff.1 ((partB_iff _).1 h).next
 have e1 : IntKind.min .i64 ≤ 0 := by decide
 have e2 : 2000000000 ≤ IntKind.max .i64 := by decide
 simp only [Lit.wf, Bool.and_eq_true, decide_eq_true_eq]
 omega
theorem zero_small : zeroPart.Small := ⟨Nat.zero_le _, Nat.zero_le _, Nat.zero_le _, Nat.zero_le _, Nat.zero_le _, Nat.zero_le _, (fun x hx => by cases hx), (fun x hx => by cases hx), (fun x hx => by cases hx), (fun x hx => by cases hx), (fun x hx => by cases hx), (fun x hx => by cases hx)⟩
theorem turned_cases {p : PartP} {id nx : Int} {ok : ProcP → Bool} {f : ProcP → ProcP} : (turnedP p id ok f nx).getD zeroPart = zeroPart ∨ partB p = true ∧ (turnedP p id ok f nx).getD zeroPart = { p with next := nx, procs := turnP id f p.procs } := by
 unfold turnedP
 split
 ·rename_i hp
  split
  ·split
   ·exact .inr ⟨hp, rfl⟩
   ·exact .inl rfl
  ·exact .inl rfl
 ·exact .inl rfl
theorem turned_small {p : PartP} {id nx : Int} {ok : ProcP → Bool} {f : ProcP → ProcP} (h : p.Small) (hf : partB p = true → ∀ y ∈ p.procs, SmallP y → SmallP (f y)) : ((turnedP p id ok f nx).getD zeroPart).Small := by
 rcases turned_cases (p := p) (id := id) (nx := nx) (ok := ok) (f := f) with e | ⟨hp, e⟩
 ·rw [e]; exact zero_small
 ·rw [e]
  refine ⟨by simpa [turnP] using h.nProc, h.nSem, h.nEvent, h.nBoard, h.nBuffer, h.nPort, fun x hx => ?_, h.sems, h.events, h.boards, h.buffers, h.ports⟩
  obtain ⟨y, hy, rfl⟩ := List.mem_map.1 hx
  split
  ·exact hf hp y hy (h.procs y hy)
  ·exact h.procs y hy
theorem turned_total {p : PartP} {id nx : Int} {ok : ProcP → Bool} {f : ProcP → ProcP} (hf : ∀ y, (f y).prog = y.prog) : ((turnedP p id ok f nx).getD zeroPart).total ≤ p.total := by
 rcases turned_cases (p := p) (id := id) (nx := nx) (ok := ok) (f := f) with e | ⟨_, e⟩
 ·rw [e]; simp [PartP.total, zeroPart, sumL]
 ·rw [e]
  have h1 : (turnP id f p.procs).map (fun x : ProcP => x.prog.length) = p.procs.map (fun x : ProcP => x.prog.length) := by
   unfold turnP
   rw [List.map_map]
   refine List.map_congr_left fun x _ => ?_
   simp only [Function.comp_def]
   split
   ·rw [hf]
   ·rfl
  have h2 : (turnP id f p.procs).length = p.procs.length := by simp [turnP]
  simp only [PartP.total, sumL, h1, h2]
  exact Nat.le_refl _
/-- Some cells of one process are stored anew. -/
theorem PartOwn.setProc {w : World} {base n j gs : Nat} {q : PartD} {x y : ProcD} {vs : List Value} (h : PartOwn w base q) (hx : q.procs[n]? = some x) (ha : q.procA = some ⟨gs, 0, none⟩) (hy : y.prog = x.prog ∧ y.progA = x.progA ∧ y.progC = x.progC)
  (hj : j + vs.length ≤ 12) (h1 : ∀ r, r < vs.length → (procK.vals y)[j + r]? = vs[r]?) (h2 : ∀ r, r < 12 → ¬ (j ≤ r ∧ r < j + vs.length) → (procK.vals y)[r]? = (procK.vals x)[r]?) :
  PartOwn (setAllW w gs (n * 12 + j) vs) base ({ q with procs := q.procs.set n y } : PartD) ∧ KeptBut w (setAllW w gs (n * 12 + j) vs) [gs] ∧ ({ q with procs := q.procs.set n y } : PartD).blocks = q.blocks := by
 have hn : n < q.procs.length := (List.getElem?_eq_some_iff.1 hx).1
 have hsp := split_at hx
 have hset : q.procs.set n y = q.procs.take n ++ y :: q.procs.drop (n + 1) := by rw [List.set_eq_take_append_cons_drop, if_pos hn]
 have hl : (q.procs.take n).length = n := by rw [List.length_take]; omega
 have hkb : KeptBut w (setAllW w gs (n * 12 + j) vs) [gs] := KeptBut.set _ (by simp)
 have ho := h.procs
 rw [ha] at ho
 obtain ⟨g, hg, hrow⟩ := RowAt.of_owns (K := procK) ho (by omega)
 cases hg
 rw [hsp] at hrow
 have h5 := RowAt.part (K := procK) (x := x) (y := y) (j := j) (vs := vs) hrow hj h1 h2
 rw [hl, show procK.n = 12 from rfl, ← hset] at h5
 have h6 := h5.owns
 have hki : (q.procs.set n y).filterMap procN.kid = q.procs.filterMap procN.kid := by
  rw [hset]
  conv => rhs; rw [hsp]
  have e : procN.kid y = procN.kid x := by show y.progA.map (·.block) = x.progA.map (·.block); rw [hy.2.1]
  simp only [List.filterMap_append, List.filterMap_cons, e]
 have hmx : procN.Mine w base y := by
  have h7 := h.mineP x (List.mem_of_getElem? hx)
  show w.ownsRow base _ 4 (.slice y.progA y.prog.length y.progC) y.prog.length (opK.flat y.prog)
  rw [hy.1, hy.2.1, hy.2.2]
  exact h7
 have hgk : ∀ z ∈ q.procs, ∀ b, procN.kid z = some b → b ≠ gs := fun z hz b hb e => by
  have h8 := h.nodup
  rw [PartD.blocks, ha] at h8
  have h9 := (List.nodup_append.1 h8).2.2 gs (by simp [blk]) b (List.mem_append_left _ (List.mem_filterMap.2 ⟨z, hz, hb⟩))
  exact h9 e.symm
 have hsame : ∀ b, b ≠ gs → (setAllW w gs (n * 12 + j) vs).heap[b]? = w.heap[b]? := fun b hb => setAllW_other _ hb
 have hm : ∀ z ∈ q.procs.set n y, procN.Mine (setAllW w gs (n * 12 + j) vs) base z := fun z hz => by
  rcases List.mem_or_eq_of_mem_set hz with hz | rfl
  ·exact (h.mineP z hz).same fun b hb => hsame b (hgk z hz b hb)
  ·refine hmx.same fun b hb => hsame b (hgk x (List.mem_of_getElem? hx) b ?_)
   rw [← hb]
   show x.progA.map (·.block) = z.progA.map (·.block)
   rw [hy.2.1]
 have ht := h.turnProc (w' := setAllW w gs (n * 12 + j) vs) (l := q.procs.set n y) (by rw [ha]; rw [List.length_set] at h6; exact h6) (by simp) hm hki (hkb.mono (by simp [ha, blk]))
 exact ⟨ht.1, hkb, ht.2⟩
end Go.Proofs.YtkbcplnlehdjfaaGreat

/- What telling the things of a shelf ends in. -/
namespace Go.Proofs.YtkbcplnlehdjfaaGreat
open Go.RowKit
/-- A list of its own, in a new block, or nothing. -/
def ToldEnds {α : Type} (K : Kind α) (T : TypeId) (w : World) (l : List α) (e : Ending) (w' : World) : Prop := ∃ a cap, e = .returned (.slice a l.length cap) ∧ w'.ownsRow w.heap.size T K.n (.slice a l.length cap) l.length (K.flat l) ∧ Below w.heap.size w w'
end Go.Proofs.YtkbcplnlehdjfaaGreat

/- The things of a shelf of the kind Proc, told as a list. (Made by mktold.py.) -/
namespace Go.Proofs.YtkbcplnlehdjfaaGreat
open Go.RowKit Go.Maps
set_option maxRecDepth 100000 in
set_option maxHeartbeats 4000000 in
theorem toldProc_any (most : Int) (base b : Nat) (l : List (ProcD × Nat)) (w : World) (h : Shelf procVs (fun x : ProcD => x.id) 43 w base b l) (hl : l.length ≤ 1048576) (hwf : ∀ p ∈ (keysOf (fun x : ProcD => x.id) l), (Lit.int .i64 p.1).wf = true) :
  Calls Tryz.prog 165 #[.agg #[.int .i64 most, .map (some b)]] w fun e w' => ToldEnds procK 43 w (l.map (·.1)) e w' := by
 obtain ⟨i0, hi, e0⟩ := Option.map_eq_some_iff.1 rinfProc
 simp only [Prod.mk.injEq] at e0
 have HI : Hid (Tryz.prog.info? 43 = some i0 ∧ i0.zero = some _ ∧ i0.size = 12 ∧ i0.bytes = 128) := ⟨hi, e0⟩
 have H : Hid (Shelf procVs (fun x : ProcD => x.id) 43 (w.alloc (.cells #[.int .i64 most, .map (some b)] 110)) base b l ∧ (∀ p ∈ (keysOf (fun x : ProcD => x.id) l), (Lit.int .i64 p.1).wf = true) ∧ Below w.heap.size w (w.alloc (.cells #[.int .i64 most, .map (some b)] 110))) := ⟨h.below ((Below.refl _ _).alloc (Nat.le_refl _) _), hwf, (Below.refl _ _).alloc (Nat.le_refl _) _⟩
 have HK : Hid ((keysOf (fun x : ProcD => x.id) l).length = l.length) := keysOf_length l
 clear h hwf hi e0
 go_enter Tryz.func165, Tryz.ntmps165
 go_wp2_with fail
 generalize w.alloc (.cells #[.int .i64 most, .map (some b)] 110) = W at *
 refine (allProc_any most b (keysOf (fun x : ProcD => x.id) l) W H.out.1.map (by rw [HK.out]; exact hl) H.out.2.1).mono ?_
 rintro e w2 ⟨a, cap, rfl, hown, hb2⟩
 obtain ⟨a', cap', hv, hrow⟩ := own_form hown
 cases hv
 have HR : Hid (Row w2 a ((keysOf (fun x : ProcD => x.id) l).map fun p => ptrV p.2)) := hrow
 have HO : Hid (Shelf procVs (fun x : ProcD => x.id) 43 w2 base b l ∧ Below w.heap.size w w2) := ⟨H.out.1.below hb2, H.out.2.2.trans (hb2.mono H.out.2.2.size)⟩
 rw [HK.out]
 clear hown hrow hb2
 go_wp2_with fail
 go_loopw [3, 9] (fun t i wr => ∃ k : Nat, k ≤ l.length ∧ i = .int .i64 k ∧ ∃ a' cap', t = .slice a' k cap' ∧ Hid (wr.ownsRow w2.heap.size 43 12 (.slice a' k cap') k (procK.flat ((l.take k).map (·.1))) ∧ Below w2.heap.size w2 wr)) (fun _ i _ => l.length - (intOf i).toNat)
 case atStart => exact ⟨0, Nat.zero_le _, rfl, none, 0, rfl, ⟨World.ownsRow_nil _ _ _ _, Below.refl _ _⟩⟩
 case round =>
  obtain ⟨k, hk, rfl, a', cap', rfl, HA⟩ := hrel
  by_cases hlt : k < l.length
  ·have i0' : (0 : Int) ≤ (k : Int) := by omega
   have i1 : (k : Int) < (l.length : Int) := by omega
   obtain ⟨p, hp⟩ : ∃ p, l[k]? = some p := ⟨_, List.getElem?_eq_getElem hlt⟩
   obtain ⟨g, ha, hc⟩ := (HR.out.below HA.out.2) k (ptrV p.2) (by simp [keysOf, hp])
   subst ha
   unfold ptrV at hc
   have HP : Hid (l[k]? = some p) := hp
   obtain ⟨s0, s1, s2, s3, s4, s5, s6, s7, s8, s9, s10, s11⟩ := proc_cells ((HO.out.1.below HA.out.2).box p (List.mem_of_getElem? hp))
   have hsz3 := HA.out.2.size
   clear hp
   go_wp2_with (at_builtin; refine wpList_append_own_at _ rfl _ _ 25 rfl w2.heap.size 43 i0 _ 12 128 Tryz.underlying25 HI.out.1 HI.out.2.1 HI.out.2.2.1 HI.out.2.2.2 rfl (by decide) (.slice a' k cap') k (procK.flat ((l.take k).map (·.1))) rfl (HA.out.1.alloc _) ⟨wr.heap.size, 0, none⟩ 1 1 (procK.vals p.1) (by rfl) rfl (World.news_of_block (cs := #[.int .i64 p.1.id, .int .i64 p.1.prio, .slice p.1.progA p.1.prog.length p.1.progC, .int .i64 p.1.state, .int .i64 p.1.pc, .int .i64 p.1.left, .int .i64 p.1.wake, .int .i64 p.1.on, .string p.1.held, .string p.1.got, .int .i64 p.1.code, .int .i64 p.1.since]) (t := 43) (fr := (0, 0)) (heap_alloc_new wr _)) (by simp [procK, procVals, Value.oneCell']) (by unfold maxLen; omega) (by omega) (by simp; omega) ?_; intro v' w5 hown' hgrow hnil hloc; obtain ⟨a5, cap5, rfl, -⟩ := own_form hown'; have HN : Hid (w5.ownsRow w2.heap.size 43 12 (.slice a5 (k + 1) cap5) (k + 1) (procK.flat ((l.take (k + 1)).map (·.1))) ∧ Below w2.heap.size w2 w5) := ⟨by rw [take_up HP.out, List.map_append, procK.flat_append]; exact hown', (HA.out.2.alloc hsz3 _).grown hgrow (by simp; omega) (fun q hq => (HA.out.1.lt q hq).1)⟩; clear hown' hgrow hnil hloc)
   go_roundw
   case rel => exact ⟨k + 1, by omega, by go_num, a5, cap5, rfl, HN⟩
   case measure => simp [intOf]; omega
  ·have i1 : ¬ (k : Int) < (l.length : Int) := by omega
   have ek : k = l.length := by omega
   subst ek
   go_wp2
   go_ret
   refine ⟨a', cap', by rw [List.length_map]; rfl, ?_, HO.out.2.trans (HA.out.2.mono HO.out.2.size)⟩
   have h5 := own_low HA.out.1 HO.out.2.size
   rw [List.take_length] at h5
   rw [List.length_map]
   exact h5
end Go.Proofs.YtkbcplnlehdjfaaGreat

/- The things of a shelf of the kind Sem, in order. (Made by mkall.py.) -/
namespace Go.Proofs.YtkbcplnlehdjfaaGreat
open Go.RowKit Go.Maps Go.Sort Go.Shelf
theorem keysSem_call (mb : Option Nat) (W : World) : Calls Tryz.prog 223 #[.map mb] W fun e w' => e = .returned (.func (.func 239) #[] #[.pointer (some ⟨W.heap.size, 0, none⟩)]) ∧ w' = W.alloc (.cells #[.map mb] 111) :=
 (callsIn_wide (n := 5)).1 (AnyZI.keys_in Tryz.keysSem Fence.wide 5 trivial rfl mb W)
theorem sortedKeysSem_any (Bm b : Nat) (m : MapL) (W : World) (hBm : Bm < W.heap.size) (hc : W.cell? ⟨Bm, 0, none⟩ = some (.map (some b))) (h : MapIs W b m) (hm : m.length ≤ 1048576) :
  Calls Tryz.prog 220 #[.func (.func 239) #[] #[.pointer (some ⟨Bm, 0, none⟩)]] W fun e w' => ∃ v : Value, e = .returned v ∧ w'.ownsRow W.heap.size 2 1 v m.length (m.map fun p => .int .i64 p.1) ∧ Below W.heap.size W w' := by
 have hsz : Maps.size (mapD m) = m.length := size_map m
 have hseq : SeqGives Fence.wide 2 Tryz.prog 239 #[.pointer (some ⟨Bm, 0, none⟩)] encZ (fun ss => ss.Perm (intKeys (mapD m))) (Maps.size (mapD m)) W :=
  AnyZI.keys_gives (ρ := Tryz.keysSem_ren) { Tryz.keysSem with } Fence.wide _ trivial rfl (by omega) Bm b m.length (mapD m) W hBm hc h.1
 have cS := AnyZI.sorted_in Tryz.sortedA Fence.wide 5 trivial trivial trivial trivial rfl (by omega) (Tryz.sortsA _) (enters_of Tryz.func231 (by kernel_rfl) rfl) 239 #[.pointer (some ⟨Bm, 0, none⟩)] trivial (enters_of Tryz.func239 (by kernel_rfl) rfl) _ _ (by rw [hsz]; unfold maxLen; omega) (by rw [hsz]; omega) _ hseq
 change CallsIn _ _ Tryz.prog 220 _ _ _ at cS
 refine (callsIn_wide.1 cS).mono ?_
 rintro e w' ⟨v, ss, rfl, hS, hrow, hnil, hbel⟩
 refine ⟨v, rfl, ?_, hbel⟩
 rw [keys_sorted h.2 hS] at hrow
 have hl : ss.length = m.length := by
  rw [hS.length_eq, keys_int, List.length_map]
 rw [hl, List.map_map] at hrow
 exact hrow
theorem ptrInfoSem : (Tryz.prog.info? 221).map (fun i => (i.zero, i.size, i.bytes)) = some (some (.pointer none), 1, 8) := by kernel_rfl
set_option maxRecDepth 100000 in
set_option maxHeartbeats 2000000 in
theorem allSem_any (most : Int) (b : Nat) (m : MapL) (w : World) (h : MapIs w b m) (hm : m.length ≤ 1048576) (hwf : ∀ p ∈ m, (Lit.int .i64 p.1).wf = true) :
  Calls Tryz.prog 207 #[.agg #[.int .i64 most, .map (some b)]] w fun e w' => ∃ a cap, e = .returned (.slice a m.length cap) ∧ w'.ownsRow w.heap.size 221 1 (.slice a m.length cap) m.length (m.map fun p => ptrV p.2) ∧ Below w.heap.size w w' := by
 obtain ⟨i0, hi, e0⟩ := Option.map_eq_some_iff.1 ptrInfoSem
 simp only [Prod.mk.injEq] at e0
 have HI : Hid (Tryz.prog.info? 221 = some i0 ∧ i0.zero = some (.pointer none) ∧ i0.size = 1 ∧ i0.bytes = 8) := ⟨hi, e0⟩
 have HM : Hid (MapIs w b m ∧ ∀ p ∈ m, (Lit.int .i64 p.1).wf = true) := ⟨h, hwf⟩
 have hbl : b < w.heap.size := h.lt
 clear hi e0 h hwf
 go_enter Tryz.func207, Tryz.ntmps207
 go_wp2_with (go_at_call 223; refine (keysSem_call _ _).mono ?_; rintro e w' ⟨rfl, rfl⟩)
 refine (sortedKeysSem_any (w.heap.size + 1) b m _ (by simp) (by simp) (HM.out.1.below (((Below.refl _ w).alloc (Nat.le_refl _) _).alloc (by simp) _)) hm).mono ?_
 rintro e w2 ⟨v, rfl, hown, hb2⟩
 have HB2 : Hid (Below w.heap.size w w2) := (((Below.refl _ w).alloc (Nat.le_refl _) _).alloc (by simp) _).trans (hb2.mono (by simp; omega))
 have HS : Hid (w2.heap[w.heap.size]? = some (.cells #[.int .i64 most, .map (some b)] 113 (0, 0))) := (hb2.block _ (by simp; omega)).trans ((heap_alloc_old _ _ (by simp)).trans (heap_alloc_new _ _))
 obtain ⟨a, cap, hv, hrow⟩ := own_form hown
 have HR : Hid (Row w2 a (m.map fun p => .int .i64 p.1)) := hrow
 rw [hv]
 clear hv hown hrow hb2 v
 go_wp2_with fail
 go_loopw [3, 11] (fun l i wr => ∃ k : Nat, k ≤ m.length ∧ i = .int .i64 k ∧ ∃ a' cap', l = .slice a' k cap' ∧ Hid (wr.ownsRow w2.heap.size 221 1 (.slice a' k cap') k ((m.take k).map fun p => ptrV p.2) ∧ Below w2.heap.size w2 wr)) (fun _ i _ => m.length - (intOf i).toNat)
 case atStart => exact ⟨0, Nat.zero_le _, rfl, none, 0, rfl, ⟨World.ownsRow_nil _ _ _ _, Below.refl _ _⟩⟩
 case round =>
  obtain ⟨k, hk, rfl, a', cap', rfl, HO⟩ := hrel
  by_cases hlt : k < m.length
  ·have i0' : (0 : Int) ≤ (k : Int) := by omega
   have i1 : (k : Int) < (m.length : Int) := by omega
   obtain ⟨p, hp⟩ : ∃ p, m[k]? = some p := ⟨_, List.getElem?_eq_getElem hlt⟩
   have hpm := List.mem_of_getElem? hp
   obtain ⟨g, ha, hc⟩ := (HR.out.below HO.out.2) k (.int .i64 p.1) (by simp [hp])
   subst ha
   have hsz2 := HB2.out.size
   have hsz3 := HO.out.2.size
   have hmw : MapIs wr b m := HM.out.1.below (HB2.out.trans (HO.out.2.mono hsz2))
   have hlk := hmw.look Tryz.underlying111 (zeroPtrSem wr) (HM.out.2 p hpm) false
   rw [lookM_mem hmw.2 hpm] at hlk
   have hsw : wr.heap[w.heap.size]? = some (.cells #[.int .i64 most, .map (some b)] 113 (0, 0)) := (HO.out.2.block _ (Array.getElem?_eq_some_iff.1 HS.out).1).trans HS.out
   have s1 : wr.cell? ⟨w.heap.size, 1, none⟩ = some (.map (some b)) := by simp [World.cell?, hsw]
   have HP : Hid (m[k]? = some p) := hp
   simp only [ptrO, ptrV, Bool.false_eq_true, if_false] at hlk
   clear hp hpm hmw hsw
   go_wp2_with (at_builtin; refine wpList_append_own_at _ rfl _ _ 255 rfl w2.heap.size 221 i0 (.pointer none) 1 8 Tryz.underlying255 HI.out.1 HI.out.2.1 HI.out.2.2.1 HI.out.2.2.2 rfl (by decide) (.slice a' k cap') k ((m.take k).map fun p => ptrV p.2) rfl (HO.out.1.alloc _) ⟨wr.heap.size, 0, none⟩ 1 1 [.pointer (some ⟨p.2, 0, none⟩)] (by rfl) rfl (World.news_of_block (cs := #[.pointer (some ⟨p.2, 0, none⟩)]) (t := 221) (fr := (0, 0)) (heap_alloc_new wr _)) (by simp [Value.oneCell']) (by unfold maxLen; omega) (by omega) (by simp; omega) ?_; intro v' w5 hown' hgrow hnil hloc; obtain ⟨a5, cap5, rfl, -⟩ := own_form hown'; have HN : Hid (w5.ownsRow w2.heap.size 221 1 (.slice a5 (k + 1) cap5) (k + 1) ((m.take (k + 1)).map fun p => ptrV p.2) ∧ Below w2.heap.size w2 w5) := ⟨by rw [take_up HP.out, List.map_append]; exact hown', (HO.out.2.alloc hsz3 _).grown hgrow (by simp; omega) (fun q hq => (HO.out.1.lt q hq).1)⟩; clear hown' hgrow hnil hloc)
   go_roundw
   case rel => exact ⟨k + 1, by omega, by go_num, a5, cap5, rfl, HN⟩
   case measure => simp [intOf]; omega
  ·have i1 : ¬ (k : Int) < (m.length : Int) := by omega
   have e : k = m.length := by omega
   subst e
   go_wp2
   go_ret
   refine ⟨a', cap', rfl, ?_, HB2.out.trans (HO.out.2.mono HB2.out.size)⟩
   have := own_low HO.out.1 HB2.out.size
   rwa [List.take_length] at this
end Go.Proofs.YtkbcplnlehdjfaaGreat

/- The things of a shelf of the kind Sem, told as a list. (Made by mktold.py.) -/
namespace Go.Proofs.YtkbcplnlehdjfaaGreat
open Go.RowKit Go.Maps
set_option maxRecDepth 100000 in
set_option maxHeartbeats 4000000 in
theorem toldSem_any (most : Int) (base b : Nat) (l : List (SemD × Nat)) (w : World) (h : Shelf semVs (fun x : SemD => x.id) 49 w base b l) (hl : l.length ≤ 1048576) (hwf : ∀ p ∈ (keysOf (fun x : SemD => x.id) l), (Lit.int .i64 p.1).wf = true) :
  Calls Tryz.prog 166 #[.agg #[.int .i64 most, .map (some b)]] w fun e w' => ToldEnds semK 49 w (l.map (·.1)) e w' := by
 obtain ⟨i0, hi, e0⟩ := Option.map_eq_some_iff.1 rinfSem
 simp only [Prod.mk.injEq] at e0
 have HI : Hid (Tryz.prog.info? 49 = some i0 ∧ i0.zero = some _ ∧ i0.size = 3 ∧ i0.bytes = 24) := ⟨hi, e0⟩
 have H : Hid (Shelf semVs (fun x : SemD => x.id) 49 (w.alloc (.cells #[.int .i64 most, .map (some b)] 113)) base b l ∧ (∀ p ∈ (keysOf (fun x : SemD => x.id) l), (Lit.int .i64 p.1).wf = true) ∧ Below w.heap.size w (w.alloc (.cells #[.int .i64 most, .map (some b)] 113))) := ⟨h.below ((Below.refl _ _).alloc (Nat.le_refl _) _), hwf, (Below.refl _ _).alloc (Nat.le_refl _) _⟩
 have HK : Hid ((keysOf (fun x : SemD => x.id) l).length = l.length) := keysOf_length l
 clear h hwf hi e0
 go_enter Tryz.func166, Tryz.ntmps166
 go_wp2_with fail
 generalize w.alloc (.cells #[.int .i64 most, .map (some b)] 113) = W at *
 refine (allSem_any most b (keysOf (fun x : SemD => x.id) l) W H.out.1.map (by rw [HK.out]; exact hl) H.out.2.1).mono ?_
 rintro e w2 ⟨a, cap, rfl, hown, hb2⟩
 obtain ⟨a', cap', hv, hrow⟩ := own_form hown
 cases hv
 have HR : Hid (Row w2 a ((keysOf (fun x : SemD => x.id) l).map fun p => ptrV p.2)) := hrow
 have HO : Hid (Shelf semVs (fun x : SemD => x.id) 49 w2 base b l ∧ Below w.heap.size w w2) := ⟨H.out.1.below hb2, H.out.2.2.trans (hb2.mono H.out.2.2.size)⟩
 rw [HK.out]
 clear hown hrow hb2
 go_wp2_with fail
 go_loopw [3, 9] (fun t i wr => ∃ k : Nat, k ≤ l.length ∧ i = .int .i64 k ∧ ∃ a' cap', t = .slice a' k cap' ∧ Hid (wr.ownsRow w2.heap.size 49 3 (.slice a' k cap') k (semK.flat ((l.take k).map (·.1))) ∧ Below w2.heap.size w2 wr)) (fun _ i _ => l.length - (intOf i).toNat)
 case atStart => exact ⟨0, Nat.zero_le _, rfl, none, 0, rfl, ⟨World.ownsRow_nil _ _ _ _, Below.refl _ _⟩⟩
 case round =>
  obtain ⟨k, hk, rfl, a', cap', rfl, HA⟩ := hrel
  by_cases hlt : k < l.length
  ·have i0' : (0 : Int) ≤ (k : Int) := by omega
   have i1 : (k : Int) < (l.length : Int) := by omega
   obtain ⟨p, hp⟩ : ∃ p, l[k]? = some p := ⟨_, List.getElem?_eq_getElem hlt⟩
   obtain ⟨g, ha, hc⟩ := (HR.out.below HA.out.2) k (ptrV p.2) (by simp [keysOf, hp])
   subst ha
   unfold ptrV at hc
   have HP : Hid (l[k]? = some p) := hp
   obtain ⟨s0, s1, s2⟩ := sem_cells ((HO.out.1.below HA.out.2).box p (List.mem_of_getElem? hp))
   have hsz3 := HA.out.2.size
   clear hp
   go_wp2_with (at_builtin; refine wpList_append_own_at _ rfl _ _ 26 rfl w2.heap.size 49 i0 _ 3 24 Tryz.underlying26 HI.out.1 HI.out.2.1 HI.out.2.2.1 HI.out.2.2.2 rfl (by decide) (.slice a' k cap') k (semK.flat ((l.take k).map (·.1))) rfl (HA.out.1.alloc _) ⟨wr.heap.size, 0, none⟩ 1 1 (semK.vals p.1) (by rfl) rfl (World.news_of_block (cs := #[.int .i64 p.1.id, .int .i64 p.1.n, .int .i64 p.1.max]) (t := 49) (fr := (0, 0)) (heap_alloc_new wr _)) (by simp [semK, semVals, Value.oneCell']) (by unfold maxLen; omega) (by omega) (by simp; omega) ?_; intro v' w5 hown' hgrow hnil hloc; obtain ⟨a5, cap5, rfl, -⟩ := own_form hown'; have HN : Hid (w5.ownsRow w2.heap.size 49 3 (.slice a5 (k + 1) cap5) (k + 1) (semK.flat ((l.take (k + 1)).map (·.1))) ∧ Below w2.heap.size w2 w5) := ⟨by rw [take_up HP.out, List.map_append, semK.flat_append]; exact hown', (HA.out.2.alloc hsz3 _).grown hgrow (by simp; omega) (fun q hq => (HA.out.1.lt q hq).1)⟩; clear hown' hgrow hnil hloc)
   go_roundw
   case rel => exact ⟨k + 1, by omega, by go_num, a5, cap5, rfl, HN⟩
   case measure => simp [intOf]; omega
  ·have i1 : ¬ (k : Int) < (l.length : Int) := by omega
   have ek : k = l.length := by omega
   subst ek
   go_wp2
   go_ret
   refine ⟨a', cap', by rw [List.length_map]; rfl, ?_, HO.out.2.trans (HA.out.2.mono HO.out.2.size)⟩
   have h5 := own_low HA.out.1 HO.out.2.size
   rw [List.take_length] at h5
   rw [List.length_map]
   exact h5
end Go.Proofs.YtkbcplnlehdjfaaGreat

/- The things of a shelf of the kind Event, in order. (Made by mkall.py.) -/
namespace Go.Proofs.YtkbcplnlehdjfaaGreat
open Go.RowKit Go.Maps Go.Sort Go.Shelf
theorem keysEvent_call (mb : Option Nat) (W : World) : Calls Tryz.prog 224 #[.map mb] W fun e w' => e = .returned (.func (.func 240) #[] #[.pointer (some ⟨W.heap.size, 0, none⟩)]) ∧ w' = W.alloc (.cells #[.map mb] 114) :=
 (callsIn_wide (n := 5)).1 (AnyZI.keys_in Tryz.keysEvent Fence.wide 5 trivial rfl mb W)
theorem sortedKeysEvent_any (Bm b : Nat) (m : MapL) (W : World) (hBm : Bm < W.heap.size) (hc : W.cell? ⟨Bm, 0, none⟩ = some (.map (some b))) (h : MapIs W b m) (hm : m.length ≤ 1048576) :
  Calls Tryz.prog 220 #[.func (.func 240) #[] #[.pointer (some ⟨Bm, 0, none⟩)]] W fun e w' => ∃ v : Value, e = .returned v ∧ w'.ownsRow W.heap.size 2 1 v m.length (m.map fun p => .int .i64 p.1) ∧ Below W.heap.size W w' := by
 have hsz : Maps.size (mapD m) = m.length := size_map m
 have hseq : SeqGives Fence.wide 2 Tryz.prog 240 #[.pointer (some ⟨Bm, 0, none⟩)] encZ (fun ss => ss.Perm (intKeys (mapD m))) (Maps.size (mapD m)) W :=
  AnyZI.keys_gives (ρ := Tryz.keysEvent_ren) { Tryz.keysEvent with } Fence.wide _ trivial rfl (by omega) Bm b m.length (mapD m) W hBm hc h.1
 have cS := AnyZI.sorted_in Tryz.sortedA Fence.wide 5 trivial trivial trivial trivial rfl (by omega) (Tryz.sortsA _) (enters_of Tryz.func231 (by kernel_rfl) rfl) 240 #[.pointer (some ⟨Bm, 0, none⟩)] trivial (enters_of Tryz.func240 (by kernel_rfl) rfl) _ _ (by rw [hsz]; unfold maxLen; omega) (by rw [hsz]; omega) _ hseq
 change CallsIn _ _ Tryz.prog 220 _ _ _ at cS
 refine (callsIn_wide.1 cS).mono ?_
 rintro e w' ⟨v, ss, rfl, hS, hrow, hnil, hbel⟩
 refine ⟨v, rfl, ?_, hbel⟩
 rw [keys_sorted h.2 hS] at hrow
 have hl : ss.length = m.length := by
  rw [hS.length_eq, keys_int, List.length_map]
 rw [hl, List.map_map] at hrow
 exact hrow
theorem ptrInfoEvent : (Tryz.prog.info? 222).map (fun i => (i.zero, i.size, i.bytes)) = some (some (.pointer none), 1, 8) := by kernel_rfl
set_option maxRecDepth 100000 in
set_option maxHeartbeats 2000000 in
theorem allEvent_any (most : Int) (b : Nat) (m : MapL) (w : World) (h : MapIs w b m) (hm : m.length ≤ 1048576) (hwf : ∀ p ∈ m, (Lit.int .i64 p.1).wf = true) :
  Calls Tryz.prog 208 #[.agg #[.int .i64 most, .map (some b)]] w fun e w' => ∃ a cap, e = .returned (.slice a m.length cap) ∧ w'.ownsRow w.heap.size 222 1 (.slice a m.length cap) m.length (m.map fun p => ptrV p.2) ∧ Below w.heap.size w w' := by
 obtain ⟨i0, hi, e0⟩ := Option.map_eq_some_iff.1 ptrInfoEvent
 simp only [Prod.mk.injEq] at e0
 have HI : Hid (Tryz.prog.info? 222 = some i0 ∧ i0.zero = some (.pointer none) ∧ i0.size = 1 ∧ i0.bytes = 8) := ⟨hi, e0⟩
 have HM : Hid (MapIs w b m ∧ ∀ p ∈ m, (Lit.int .i64 p.1).wf = true) := ⟨h, hwf⟩
 have hbl : b < w.heap.size := h.lt
 clear hi e0 h hwf
 go_enter Tryz.func208, Tryz.ntmps208
 go_wp2_with (go_at_call 224; refine (keysEvent_call _ _).mono ?_; rintro e w' ⟨rfl, rfl⟩)
 refine (sortedKeysEvent_any (w.heap.size + 1) b m _ (by simp) (by simp) (HM.out.1.below (((Below.refl _ w).alloc (Nat.le_refl _) _).alloc (by simp) _)) hm).mono ?_
 rintro e w2 ⟨v, rfl, hown, hb2⟩
 have HB2 : Hid (Below w.heap.size w w2) := (((Below.refl _ w).alloc (Nat.le_refl _) _).alloc (by simp) _).trans (hb2.mono (by simp; omega))
 have HS : Hid (w2.heap[w.heap.size]? = some (.cells #[.int .i64 most, .map (some b)] 116 (0, 0))) := (hb2.block _ (by simp; omega)).trans ((heap_alloc_old _ _ (by simp)).trans (heap_alloc_new _ _))
 obtain ⟨a, cap, hv, hrow⟩ := own_form hown
 have HR : Hid (Row w2 a (m.map fun p => .int .i64 p.1)) := hrow
 rw [hv]
 clear hv hown hrow hb2 v
 go_wp2_with fail
 go_loopw [3, 11] (fun l i wr => ∃ k : Nat, k ≤ m.length ∧ i = .int .i64 k ∧ ∃ a' cap', l = .slice a' k cap' ∧ Hid (wr.ownsRow w2.heap.size 222 1 (.slice a' k cap') k ((m.take k).map fun p => ptrV p.2) ∧ Below w2.heap.size w2 wr)) (fun _ i _ => m.length - (intOf i).toNat)
 case atStart => exact ⟨0, Nat.zero_le _, rfl, none, 0, rfl, ⟨World.ownsRow_nil _ _ _ _, Below.refl _ _⟩⟩
 case round =>
  obtain ⟨k, hk, rfl, a', cap', rfl, HO⟩ := hrel
  by_cases hlt : k < m.length
  ·have i0' : (0 : Int) ≤ (k : Int) := by omega
   have i1 : (k : Int) < (m.length : Int) := by omega
   obtain ⟨p, hp⟩ : ∃ p, m[k]? = some p := ⟨_, List.getElem?_eq_getElem hlt⟩
   have hpm := List.mem_of_getElem? hp
   obtain ⟨g, ha, hc⟩ := (HR.out.below HO.out.2) k (.int .i64 p.1) (by simp [hp])
   subst ha
   have hsz2 := HB2.out.size
   have hsz3 := HO.out.2.size
   have hmw : MapIs wr b m := HM.out.1.below (HB2.out.trans (HO.out.2.mono hsz2))
   have hlk := hmw.look Tryz.underlying114 (zeroPtrEvent wr) (HM.out.2 p hpm) false
   rw [lookM_mem hmw.2 hpm] at hlk
   have hsw : wr.heap[w.heap.size]? = some (.cells #[.int .i64 most, .map (some b)] 116 (0, 0)) := (HO.out.2.block _ (Array.getElem?_eq_some_iff.1 HS.out).1).trans HS.out
   have s1 : wr.cell? ⟨w.heap.size, 1, none⟩ = some (.map (some b)) := by simp [World.cell?, hsw]
   have HP : Hid (m[k]? = some p) := hp
   simp only [ptrO, ptrV, Bool.false_eq_true, if_false] at hlk
   clear hp hpm hmw hsw
   go_wp2_with (at_builtin; refine wpList_append_own_at _ rfl _ _ 257 rfl w2.heap.size 222 i0 (.pointer none) 1 8 Tryz.underlying257 HI.out.1 HI.out.2.1 HI.out.2.2.1 HI.out.2.2.2 rfl (by decide) (.slice a' k cap') k ((m.take k).map fun p => ptrV p.2) rfl (HO.out.1.alloc _) ⟨wr.heap.size, 0, none⟩ 1 1 [.pointer (some ⟨p.2, 0, none⟩)] (by rfl) rfl (World.news_of_block (cs := #[.pointer (some ⟨p.2, 0, none⟩)]) (t := 222) (fr := (0, 0)) (heap_alloc_new wr _)) (by simp [Value.oneCell']) (by unfold maxLen; omega) (by omega) (by simp; omega) ?_; intro v' w5 hown' hgrow hnil hloc; obtain ⟨a5, cap5, rfl, -⟩ := own_form hown'; have HN : Hid (w5.ownsRow w2.heap.size 222 1 (.slice a5 (k + 1) cap5) (k + 1) ((m.take (k + 1)).map fun p => ptrV p.2) ∧ Below w2.heap.size w2 w5) := ⟨by rw [take_up HP.out, List.map_append]; exact hown', (HO.out.2.alloc hsz3 _).grown hgrow (by simp; omega) (fun q hq => (HO.out.1.lt q hq).1)⟩; clear hown' hgrow hnil hloc)
   go_roundw
   case rel => exact ⟨k + 1, by omega, by go_num, a5, cap5, rfl, HN⟩
   case measure => simp [intOf]; omega
  ·have i1 : ¬ (k : Int) < (m.length : Int) := by omega
   have e : k = m.length := by omega
   subst e
   go_wp2
   go_ret
   refine ⟨a', cap', rfl, ?_, HB2.out.trans (HO.out.2.mono HB2.out.size)⟩
   have := own_low HO.out.1 HB2.out.size
   rwa [List.take_length] at this
end Go.Proofs.YtkbcplnlehdjfaaGreat

/- The things of a shelf of the kind Event, told as a list. (Made by mktold.py.) -/
namespace Go.Proofs.YtkbcplnlehdjfaaGreat
open Go.RowKit Go.Maps
set_option maxRecDepth 100000 in
set_option maxHeartbeats 4000000 in
theorem toldEvent_any (most : Int) (base b : Nat) (l : List (EventD × Nat)) (w : World) (h : Shelf eventVs (fun x : EventD => x.id) 138 w base b l) (hl : l.length ≤ 1048576) (hwf : ∀ p ∈ (keysOf (fun x : EventD => x.id) l), (Lit.int .i64 p.1).wf = true) :
  Calls Tryz.prog 167 #[.agg #[.int .i64 most, .map (some b)]] w fun e w' => ToldEnds eventK 138 w (l.map (·.1)) e w' := by
 obtain ⟨i0, hi, e0⟩ := Option.map_eq_some_iff.1 rinfEvent
 simp only [Prod.mk.injEq] at e0
 have HI : Hid (Tryz.prog.info? 138 = some i0 ∧ i0.zero = some _ ∧ i0.size = 2 ∧ i0.bytes = 16) := ⟨hi, e0⟩
 have H : Hid (Shelf eventVs (fun x : EventD => x.id) 138 (w.alloc (.cells #[.int .i64 most, .map (some b)] 116)) base b l ∧ (∀ p ∈ (keysOf (fun x : EventD => x.id) l), (Lit.int .i64 p.1).wf = true) ∧ Below w.heap.size w (w.alloc (.cells #[.int .i64 most, .map (some b)] 116))) := ⟨h.below ((Below.refl _ _).alloc (Nat.le_refl _) _), hwf, (Below.refl _ _).alloc (Nat.le_refl _) _⟩
 have HK : Hid ((keysOf (fun x : EventD => x.id) l).length = l.length) := keysOf_length l
 clear h hwf hi e0
 go_enter Tryz.func167, Tryz.ntmps167
 go_wp2_with fail
 generalize w.alloc (.cells #[.int .i64 most, .map (some b)] 116) = W at *
 refine (allEvent_any most b (keysOf (fun x : EventD => x.id) l) W H.out.1.map (by rw [HK.out]; exact hl) H.out.2.1).mono ?_
 rintro e w2 ⟨a, cap, rfl, hown, hb2⟩
 obtain ⟨a', cap', hv, hrow⟩ := own_form hown
 cases hv
 have HR : Hid (Row w2 a ((keysOf (fun x : EventD => x.id) l).map fun p => ptrV p.2)) := hrow
 have HO : Hid (Shelf eventVs (fun x : EventD => x.id) 138 w2 base b l ∧ Below w.heap.size w w2) := ⟨H.out.1.below hb2, H.out.2.2.trans (hb2.mono H.out.2.2.size)⟩
 rw [HK.out]
 clear hown hrow hb2
 go_wp2_with fail
 go_loopw [3, 9] (fun t i wr => ∃ k : Nat, k ≤ l.length ∧ i = .int .i64 k ∧ ∃ a' cap', t = .slice a' k cap' ∧ Hid (wr.ownsRow w2.heap.size 138 2 (.slice a' k cap') k (eventK.flat ((l.take k).map (·.1))) ∧ Below w2.heap.size w2 wr)) (fun _ i _ => l.length - (intOf i).toNat)
 case atStart => exact ⟨0, Nat.zero_le _, rfl, none, 0, rfl, ⟨World.ownsRow_nil _ _ _ _, Below.refl _ _⟩⟩
 case round =>
  obtain ⟨k, hk, rfl, a', cap', rfl, HA⟩ := hrel
  by_cases hlt : k < l.length
  ·have i0' : (0 : Int) ≤ (k : Int) := by omega
   have i1 : (k : Int) < (l.length : Int) := by omega
   obtain ⟨p, hp⟩ : ∃ p, l[k]? = some p := ⟨_, List.getElem?_eq_getElem hlt⟩
   obtain ⟨g, ha, hc⟩ := (HR.out.below HA.out.2) k (ptrV p.2) (by simp [keysOf, hp])
   subst ha
   unfold ptrV at hc
   have HP : Hid (l[k]? = some p) := hp
   obtain ⟨s0, s1⟩ := event_cells ((HO.out.1.below HA.out.2).box p (List.mem_of_getElem? hp))
   have hsz3 := HA.out.2.size
   clear hp
   go_wp2_with (at_builtin; refine wpList_append_own_at _ rfl _ _ 27 rfl w2.heap.size 138 i0 _ 2 16 Tryz.underlying27 HI.out.1 HI.out.2.1 HI.out.2.2.1 HI.out.2.2.2 rfl (by decide) (.slice a' k cap') k (eventK.flat ((l.take k).map (·.1))) rfl (HA.out.1.alloc _) ⟨wr.heap.size, 0, none⟩ 1 1 (eventK.vals p.1) (by rfl) rfl (World.news_of_block (cs := #[.int .i64 p.1.id, .bool p.1.up]) (t := 138) (fr := (0, 0)) (heap_alloc_new wr _)) (by simp [eventK, eventVals, Value.oneCell']) (by unfold maxLen; omega) (by omega) (by simp; omega) ?_; intro v' w5 hown' hgrow hnil hloc; obtain ⟨a5, cap5, rfl, -⟩ := own_form hown'; have HN : Hid (w5.ownsRow w2.heap.size 138 2 (.slice a5 (k + 1) cap5) (k + 1) (eventK.flat ((l.take (k + 1)).map (·.1))) ∧ Below w2.heap.size w2 w5) := ⟨by rw [take_up HP.out, List.map_append, eventK.flat_append]; exact hown', (HA.out.2.alloc hsz3 _).grown hgrow (by simp; omega) (fun q hq => (HA.out.1.lt q hq).1)⟩; clear hown' hgrow hnil hloc)
   go_roundw
   case rel => exact ⟨k + 1, by omega, by go_num, a5, cap5, rfl, HN⟩
   case measure => simp [intOf]; omega
  ·have i1 : ¬ (k : Int) < (l.length : Int) := by omega
   have ek : k = l.length := by omega
   subst ek
   go_wp2
   go_ret
   refine ⟨a', cap', by rw [List.length_map]; rfl, ?_, HO.out.2.trans (HA.out.2.mono HO.out.2.size)⟩
   have h5 := own_low HA.out.1 HO.out.2.size
   rw [List.take_length] at h5
   rw [List.length_map]
   exact h5
end Go.Proofs.YtkbcplnlehdjfaaGreat

/- The things of a shelf of the kind Board, in order. (Made by mkall.py.) -/
namespace Go.Proofs.YtkbcplnlehdjfaaGreat
open Go.RowKit Go.Maps Go.Sort Go.Shelf
theorem keysBoard_call (mb : Option Nat) (W : World) : Calls Tryz.prog 225 #[.map mb] W fun e w' => e = .returned (.func (.func 241) #[] #[.pointer (some ⟨W.heap.size, 0, none⟩)]) ∧ w' = W.alloc (.cells #[.map mb] 117) :=
 (callsIn_wide (n := 5)).1 (AnyZI.keys_in Tryz.keysBoard Fence.wide 5 trivial rfl mb W)
theorem sortedKeysBoard_any (Bm b : Nat) (m : MapL) (W : World) (hBm : Bm < W.heap.size) (hc : W.cell? ⟨Bm, 0, none⟩ = some (.map (some b))) (h : MapIs W b m) (hm : m.length ≤ 1048576) :
  Calls Tryz.prog 220 #[.func (.func 241) #[] #[.pointer (some ⟨Bm, 0, none⟩)]] W fun e w' => ∃ v : Value, e = .returned v ∧ w'.ownsRow W.heap.size 2 1 v m.length (m.map fun p => .int .i64 p.1) ∧ Below W.heap.size W w' := by
 have hsz : Maps.size (mapD m) = m.length := size_map m
 have hseq : SeqGives Fence.wide 2 Tryz.prog 241 #[.pointer (some ⟨Bm, 0, none⟩)] encZ (fun ss => ss.Perm (intKeys (mapD m))) (Maps.size (mapD m)) W :=
  AnyZI.keys_gives (ρ := Tryz.keysBoard_ren) { Tryz.keysBoard with } Fence.wide _ trivial rfl (by omega) Bm b m.length (mapD m) W hBm hc h.1
 have cS := AnyZI.sorted_in Tryz.sortedA Fence.wide 5 trivial trivial trivial trivial rfl (by omega) (Tryz.sortsA _) (enters_of Tryz.func231 (by kernel_rfl) rfl) 241 #[.pointer (some ⟨Bm, 0, none⟩)] trivial (enters_of Tryz.func241 (by kernel_rfl) rfl) _ _ (by rw [hsz]; unfold maxLen; omega) (by rw [hsz]; omega) _ hseq
 change CallsIn _ _ Tryz.prog 220 _ _ _ at cS
 refine (callsIn_wide.1 cS).mono ?_
 rintro e w' ⟨v, ss, rfl, hS, hrow, hnil, hbel⟩
 refine ⟨v, rfl, ?_, hbel⟩
 rw [keys_sorted h.2 hS] at hrow
 have hl : ss.length = m.length := by
  rw [hS.length_eq, keys_int, List.length_map]
 rw [hl, List.map_map] at hrow
 exact hrow
theorem ptrInfoBoard : (Tryz.prog.info? 223).map (fun i => (i.zero, i.size, i.bytes)) = some (some (.pointer none), 1, 8) := by kernel_rfl
set_option maxRecDepth 100000 in
set_option maxHeartbeats 2000000 in
theorem allBoard_any (most : Int) (b : Nat) (m : MapL) (w : World) (h : MapIs w b m) (hm : m.length ≤ 1048576) (hwf : ∀ p ∈ m, (Lit.int .i64 p.1).wf = true) :
  Calls Tryz.prog 209 #[.agg #[.int .i64 most, .map (some b)]] w fun e w' => ∃ a cap, e = .returned (.slice a m.length cap) ∧ w'.ownsRow w.heap.size 223 1 (.slice a m.length cap) m.length (m.map fun p => ptrV p.2) ∧ Below w.heap.size w w' := by
 obtain ⟨i0, hi, e0⟩ := Option.map_eq_some_iff.1 ptrInfoBoard
 simp only [Prod.mk.injEq] at e0
 have HI : Hid (Tryz.prog.info? 223 = some i0 ∧ i0.zero = some (.pointer none) ∧ i0.size = 1 ∧ i0.bytes = 8) := ⟨hi, e0⟩
 have HM : Hid (MapIs w b m ∧ ∀ p ∈ m, (Lit.int .i64 p.1).wf = true) := ⟨h, hwf⟩
 have hbl : b < w.heap.size := h.lt
 clear hi e0 h hwf
 go_enter Tryz.func209, Tryz.ntmps209
 go_wp2_with (go_at_call 225; refine (keysBoard_call _ _).mono ?_; rintro e w' ⟨rfl, rfl⟩)
 refine (sortedKeysBoard_any (w.heap.size + 1) b m _ (by simp) (by simp) (HM.out.1.below (((Below.refl _ w).alloc (Nat.le_refl _) _).alloc (by simp) _)) hm).mono ?_
 rintro e w2 ⟨v, rfl, hown, hb2⟩
 have HB2 : Hid (Below w.heap.size w w2) := (((Below.refl _ w).alloc (Nat.le_refl _) _).alloc (by simp) _).trans (hb2.mono (by simp; omega))
 have HS : Hid (w2.heap[w.heap.size]? = some (.cells #[.int .i64 most, .map (some b)] 119 (0, 0))) := (hb2.block _ (by simp; omega)).trans ((heap_alloc_old _ _ (by simp)).trans (heap_alloc_new _ _))
 obtain ⟨a, cap, hv, hrow⟩ := own_form hown
 have HR : Hid (Row w2 a (m.map fun p => .int .i64 p.1)) := hrow
 rw [hv]
 clear hv hown hrow hb2 v
 go_wp2_with fail
 go_loopw [3, 11] (fun l i wr => ∃ k : Nat, k ≤ m.length ∧ i = .int .i64 k ∧ ∃ a' cap', l = .slice a' k cap' ∧ Hid (wr.ownsRow w2.heap.size 223 1 (.slice a' k cap') k ((m.take k).map fun p => ptrV p.2) ∧ Below w2.heap.size w2 wr)) (fun _ i _ => m.length - (intOf i).toNat)
 case atStart => exact ⟨0, Nat.zero_le _, rfl, none, 0, rfl, ⟨World.ownsRow_nil _ _ _ _, Below.refl _ _⟩⟩
 case round =>
  obtain ⟨k, hk, rfl, a', cap', rfl, HO⟩ := hrel
  by_cases hlt : k < m.length
  ·have i0' : (0 : Int) ≤ (k : Int) := by omega
   have i1 : (k : Int) < (m.length : Int) := by omega
   obtain ⟨p, hp⟩ : ∃ p, m[k]? = some p := ⟨_, List.getElem?_eq_getElem hlt⟩
   have hpm := List.mem_of_getElem? hp
   obtain ⟨g, ha, hc⟩ := (HR.out.below HO.out.2) k (.int .i64 p.1) (by simp [hp])
   subst ha
   have hsz2 := HB2.out.size
   have hsz3 := HO.out.2.size
   have hmw : MapIs wr b m := HM.out.1.below (HB2.out.trans (HO.out.2.mono hsz2))
   have hlk := hmw.look Tryz.underlying117 (zeroPtrBoard wr) (HM.out.2 p hpm) false
   rw [lookM_mem hmw.2 hpm] at hlk
   have hsw : wr.heap[w.heap.size]? = some (.cells #[.int .i64 most, .map (some b)] 119 (0, 0)) := (HO.out.2.block _ (Array.getElem?_eq_some_iff.1 HS.out).1).trans HS.out
   have s1 : wr.cell? ⟨w.heap.size, 1, none⟩ = some (.map (some b)) := by simp [World.cell?, hsw]
   have HP : Hid (m[k]? = some p) := hp
   simp only [ptrO, ptrV, Bool.false_eq_true, if_false] at hlk
   clear hp hpm hmw hsw
   go_wp2_with (at_builtin; refine wpList_append_own_at _ rfl _ _ 259 rfl w2.heap.size 223 i0 (.pointer none) 1 8 Tryz.underlying259 HI.out.1 HI.out.2.1 HI.out.2.2.1 HI.out.2.2.2 rfl (by decide) (.slice a' k cap') k ((m.take k).map fun p => ptrV p.2) rfl (HO.out.1.alloc _) ⟨wr.heap.size, 0, none⟩ 1 1 [.pointer (some ⟨p.2, 0, none⟩)] (by rfl) rfl (World.news_of_block (cs := #[.pointer (some ⟨p.2, 0, none⟩)]) (t := 223) (fr := (0, 0)) (heap_alloc_new wr _)) (by simp [Value.oneCell']) (by unfold maxLen; omega) (by omega) (by simp; omega) ?_; intro v' w5 hown' hgrow hnil hloc; obtain ⟨a5, cap5, rfl, -⟩ := own_form hown'; have HN : Hid (w5.ownsRow w2.heap.size 223 1 (.slice a5 (k + 1) cap5) (k + 1) ((m.take (k + 1)).map fun p => ptrV p.2) ∧ Below w2.heap.size w2 w5) := ⟨by rw [take_up HP.out, List.map_append]; exact hown', (HO.out.2.alloc hsz3 _).grown hgrow (by simp; omega) (fun q hq => (HO.out.1.lt q hq).1)⟩; clear hown' hgrow hnil hloc)
   go_roundw
   case rel => exact ⟨k + 1, by omega, by go_num, a5, cap5, rfl, HN⟩
   case measure => simp [intOf]; omega
  ·have i1 : ¬ (k : Int) < (m.length : Int) := by omega
   have e : k = m.length := by omega
   subst e
   go_wp2
   go_ret
   refine ⟨a', cap', rfl, ?_, HB2.out.trans (HO.out.2.mono HB2.out.size)⟩
   have := own_low HO.out.1 HB2.out.size
   rwa [List.take_length] at this
end Go.Proofs.YtkbcplnlehdjfaaGreat

/- The things of a shelf of the kind Board, told as a list. (Made by mktold.py.) -/
namespace Go.Proofs.YtkbcplnlehdjfaaGreat
open Go.RowKit Go.Maps
set_option maxRecDepth 100000 in
set_option maxHeartbeats 4000000 in
theorem toldBoard_any (most : Int) (base b : Nat) (l : List (BoardD × Nat)) (w : World) (h : Shelf boardVs (fun x : BoardD => x.id) 141 w base b l) (hl : l.length ≤ 1048576) (hwf : ∀ p ∈ (keysOf (fun x : BoardD => x.id) l), (Lit.int .i64 p.1).wf = true) :
  Calls Tryz.prog 168 #[.agg #[.int .i64 most, .map (some b)]] w fun e w' => ToldEnds boardK 141 w (l.map (·.1)) e w' := by
 obtain ⟨i0, hi, e0⟩ := Option.map_eq_some_iff.1 rinfBoard
 simp only [Prod.mk.injEq] at e0
 have HI : Hid (Tryz.prog.info? 141 = some i0 ∧ i0.zero = some _ ∧ i0.size = 3 ∧ i0.bytes = 32) := ⟨hi, e0⟩
 have H : Hid (Shelf boardVs (fun x : BoardD => x.id) 141 (w.alloc (.cells #[.int .i64 most, .map (some b)] 119)) base b l ∧ (∀ p ∈ (keysOf (fun x : BoardD => x.id) l), (Lit.int .i64 p.1).wf = true) ∧ Below w.heap.size w (w.alloc (.cells #[.int .i64 most, .map (some b)] 119))) := ⟨h.below ((Below.refl _ _).alloc (Nat.le_refl _) _), hwf, (Below.refl _ _).alloc (Nat.le_refl _) _⟩
 have HK : Hid ((keysOf (fun x : BoardD => x.id) l).length = l.length) := keysOf_length l
 clear h hwf hi e0
 go_enter Tryz.func168, Tryz.ntmps168
 go_wp2_with fail
 generalize w.alloc (.cells #[.int .i64 most, .map (some b)] 119) = W at *
 refine (allBoard_any most b (keysOf (fun x : BoardD => x.id) l) W H.out.1.map (by rw [HK.out]; exact hl) H.out.2.1).mono ?_
 rintro e w2 ⟨a, cap, rfl, hown, hb2⟩
 obtain ⟨a', cap', hv, hrow⟩ := own_form hown
 cases hv
 have HR : Hid (Row w2 a ((keysOf (fun x : BoardD => x.id) l).map fun p => ptrV p.2)) := hrow
 have HO : Hid (Shelf boardVs (fun x : BoardD => x.id) 141 w2 base b l ∧ Below w.heap.size w w2) := ⟨H.out.1.below hb2, H.out.2.2.trans (hb2.mono H.out.2.2.size)⟩
 rw [HK.out]
 clear hown hrow hb2
 go_wp2_with fail
 go_loopw [3, 9] (fun t i wr => ∃ k : Nat, k ≤ l.length ∧ i = .int .i64 k ∧ ∃ a' cap', t = .slice a' k cap' ∧ Hid (wr.ownsRow w2.heap.size 141 3 (.slice a' k cap') k (boardK.flat ((l.take k).map (·.1))) ∧ Below w2.heap.size w2 wr)) (fun _ i _ => l.length - (intOf i).toNat)
 case atStart => exact ⟨0, Nat.zero_le _, rfl, none, 0, rfl, ⟨World.ownsRow_nil _ _ _ _, Below.refl _ _⟩⟩
 case round =>
  obtain ⟨k, hk, rfl, a', cap', rfl, HA⟩ := hrel
  by_cases hlt : k < l.length
  ·have i0' : (0 : Int) ≤ (k : Int) := by omega
   have i1 : (k : Int) < (l.length : Int) := by omega
   obtain ⟨p, hp⟩ : ∃ p, l[k]? = some p := ⟨_, List.getElem?_eq_getElem hlt⟩
   obtain ⟨g, ha, hc⟩ := (HR.out.below HA.out.2) k (ptrV p.2) (by simp [keysOf, hp])
   subst ha
   unfold ptrV at hc
   have HP : Hid (l[k]? = some p) := hp
   obtain ⟨s0, s1, s2⟩ := board_cells ((HO.out.1.below HA.out.2).box p (List.mem_of_getElem? hp))
   have hsz3 := HA.out.2.size
   clear hp
   go_wp2_with (at_builtin; refine wpList_append_own_at _ rfl _ _ 28 rfl w2.heap.size 141 i0 _ 3 32 Tryz.underlying28 HI.out.1 HI.out.2.1 HI.out.2.2.1 HI.out.2.2.2 rfl (by decide) (.slice a' k cap') k (boardK.flat ((l.take k).map (·.1))) rfl (HA.out.1.alloc _) ⟨wr.heap.size, 0, none⟩ 1 1 (boardK.vals p.1) (by rfl) rfl (World.news_of_block (cs := #[.int .i64 p.1.id, .bool p.1.shown, .string p.1.text]) (t := 141) (fr := (0, 0)) (heap_alloc_new wr _)) (by simp [boardK, boardVals, Value.oneCell']) (by unfold maxLen; omega) (by omega) (by simp; omega) ?_; intro v' w5 hown' hgrow hnil hloc; obtain ⟨a5, cap5, rfl, -⟩ := own_form hown'; have HN : Hid (w5.ownsRow w2.heap.size 141 3 (.slice a5 (k + 1) cap5) (k + 1) (boardK.flat ((l.take (k + 1)).map (·.1))) ∧ Below w2.heap.size w2 w5) := ⟨by rw [take_up HP.out, List.map_append, boardK.flat_append]; exact hown', (HA.out.2.alloc hsz3 _).grown hgrow (by simp; omega) (fun q hq => (HA.out.1.lt q hq).1)⟩; clear hown' hgrow hnil hloc)
   go_roundw
   case rel => exact ⟨k + 1, by omega, by go_num, a5, cap5, rfl, HN⟩
   case measure => simp [intOf]; omega
  ·have i1 : ¬ (k : Int) < (l.length : Int) := by omega
   have ek : k = l.length := by omega
   subst ek
   go_wp2
   go_ret
   refine ⟨a', cap', by rw [List.length_map]; rfl, ?_, HO.out.2.trans (HA.out.2.mono HO.out.2.size)⟩
   have h5 := own_low HA.out.1 HO.out.2.size
   rw [List.take_length] at h5
   rw [List.length_map]
   exact h5
end Go.Proofs.YtkbcplnlehdjfaaGreat

/- The things of a shelf of the kind Buffer, in order. (Made by mkall.py.) -/
namespace Go.Proofs.YtkbcplnlehdjfaaGreat
open Go.RowKit Go.Maps Go.Sort Go.Shelf
theorem keysBuffer_call (mb : Option Nat) (W : World) : Calls Tryz.prog 226 #[.map mb] W fun e w' => e = .returned (.func (.func 242) #[] #[.pointer (some ⟨W.heap.size, 0, none⟩)]) ∧ w' = W.alloc (.cells #[.map mb] 120) :=
 (callsIn_wide (n := 5)).1 (AnyZI.keys_in Tryz.keysBuffer Fence.wide 5 trivial rfl mb W)
theorem sortedKeysBuffer_any (Bm b : Nat) (m : MapL) (W : World) (hBm : Bm < W.heap.size) (hc : W.cell? ⟨Bm, 0, none⟩ = some (.map (some b))) (h : MapIs W b m) (hm : m.length ≤ 1048576) :
  Calls Tryz.prog 220 #[.func (.func 242) #[] #[.pointer (some ⟨Bm, 0, none⟩)]] W fun e w' => ∃ v : Value, e = .returned v ∧ w'.ownsRow W.heap.size 2 1 v m.length (m.map fun p => .int .i64 p.1) ∧ Below W.heap.size W w' := by
 have hsz : Maps.size (mapD m) = m.length := size_map m
 have hseq : SeqGives Fence.wide 2 Tryz.prog 242 #[.pointer (some ⟨Bm, 0, none⟩)] encZ (fun ss => ss.Perm (intKeys (mapD m))) (Maps.size (mapD m)) W :=
  AnyZI.keys_gives (ρ := Tryz.keysBuffer_ren) { Tryz.keysBuffer with } Fence.wide _ trivial rfl (by omega) Bm b m.length (mapD m) W hBm hc h.1
 have cS := AnyZI.sorted_in Tryz.sortedA Fence.wide 5 trivial trivial trivial trivial rfl (by omega) (Tryz.sortsA _) (enters_of Tryz.func231 (by kernel_rfl) rfl) 242 #[.pointer (some ⟨Bm, 0, none⟩)] trivial (enters_of Tryz.func242 (by kernel_rfl) rfl) _ _ (by rw [hsz]; unfold maxLen; omega) (by rw [hsz]; omega) _ hseq
 change CallsIn _ _ Tryz.prog 220 _ _ _ at cS
 refine (callsIn_wide.1 cS).mono ?_
 rintro e w' ⟨v, ss, rfl, hS, hrow, hnil, hbel⟩
 refine ⟨v, rfl, ?_, hbel⟩
 rw [keys_sorted h.2 hS] at hrow
 have hl : ss.length = m.length := by
  rw [hS.length_eq, keys_int, List.length_map]
 rw [hl, List.map_map] at hrow
 exact hrow
theorem ptrInfoBuffer : (Tryz.prog.info? 224).map (fun i => (i.zero, i.size, i.bytes)) = some (some (.pointer none), 1, 8) := by kernel_rfl
set_option maxRecDepth 100000 in
set_option maxHeartbeats 2000000 in
theorem allBuffer_any (most : Int) (b : Nat) (m : MapL) (w : World) (h : MapIs w b m) (hm : m.length ≤ 1048576) (hwf : ∀ p ∈ m, (Lit.int .i64 p.1).wf = true) :
  Calls Tryz.prog 210 #[.agg #[.int .i64 most, .map (some b)]] w fun e w' => ∃ a cap, e = .returned (.slice a m.length cap) ∧ w'.ownsRow w.heap.size 224 1 (.slice a m.length cap) m.length (m.map fun p => ptrV p.2) ∧ Below w.heap.size w w' := by
 obtain ⟨i0, hi, e0⟩ := Option.map_eq_some_iff.1 ptrInfoBuffer
 simp only [Prod.mk.injEq] at e0
 have HI : Hid (Tryz.prog.info? 224 = some i0 ∧ i0.zero = some (.pointer none) ∧ i0.size = 1 ∧ i0.bytes = 8) := ⟨hi, e0⟩
 have HM : Hid (MapIs w b m ∧ ∀ p ∈ m, (Lit.int .i64 p.1).wf = true) := ⟨h, hwf⟩
 have hbl : b < w.heap.size := h.lt
 clear hi e0 h hwf
 go_enter Tryz.func210, Tryz.ntmps210
 go_wp2_with (go_at_call 226; refine (keysBuffer_call _ _).mono ?_; rintro e w' ⟨rfl, rfl⟩)
 refine (sortedKeysBuffer_any (w.heap.size + 1) b m _ (by simp) (by simp) (HM.out.1.below (((Below.refl _ w).alloc (Nat.le_refl _) _).alloc (by simp) _)) hm).mono ?_
 rintro e w2 ⟨v, rfl, hown, hb2⟩
 have HB2 : Hid (Below w.heap.size w w2) := (((Below.refl _ w).alloc (Nat.le_refl _) _).alloc (by simp) _).trans (hb2.mono (by simp; omega))
 have HS : Hid (w2.heap[w.heap.size]? = some (.cells #[.int .i64 most, .map (some b)] 122 (0, 0))) := (hb2.block _ (by simp; omega)).trans ((heap_alloc_old _ _ (by simp)).trans (heap_alloc_new _ _))
 obtain ⟨a, cap, hv, hrow⟩ := own_form hown
 have HR : Hid (Row w2 a (m.map fun p => .int .i64 p.1)) := hrow
 rw [hv]
 clear hv hown hrow hb2 v
 go_wp2_with fail
 go_loopw [3, 11] (fun l i wr => ∃ k : Nat, k ≤ m.length ∧ i = .int .i64 k ∧ ∃ a' cap', l = .slice a' k cap' ∧ Hid (wr.ownsRow w2.heap.size 224 1 (.slice a' k cap') k ((m.take k).map fun p => ptrV p.2) ∧ Below w2.heap.size w2 wr)) (fun _ i _ => m.length - (intOf i).toNat)
 case atStart => exact ⟨0, Nat.zero_le _, rfl, none, 0, rfl, ⟨World.ownsRow_nil _ _ _ _, Below.refl _ _⟩⟩
 case round =>
  obtain ⟨k, hk, rfl, a', cap', rfl, HO⟩ := hrel
  by_cases hlt : k < m.length
  ·have i0' : (0 : Int) ≤ (k : Int) := by omega
   have i1 : (k : Int) < (m.length : Int) := by omega
   obtain ⟨p, hp⟩ : ∃ p, m[k]? = some p := ⟨_, List.getElem?_eq_getElem hlt⟩
   have hpm := List.mem_of_getElem? hp
   obtain ⟨g, ha, hc⟩ := (HR.out.below HO.out.2) k (.int .i64 p.1) (by simp [hp])
   subst ha
   have hsz2 := HB2.out.size
   have hsz3 := HO.out.2.size
   have hmw : MapIs wr b m := HM.out.1.below (HB2.out.trans (HO.out.2.mono hsz2))
   have hlk := hmw.look Tryz.underlying120 (zeroPtrBuffer wr) (HM.out.2 p hpm) false
   rw [lookM_mem hmw.2 hpm] at hlk
   have hsw : wr.heap[w.heap.size]? = some (.cells #[.int .i64 most, .map (some b)] 122 (0, 0)) := (HO.out.2.block _ (Array.getElem?_eq_some_iff.1 HS.out).1).trans HS.out
   have s1 : wr.cell? ⟨w.heap.size, 1, none⟩ = some (.map (some b)) := by simp [World.cell?, hsw]
   have HP : Hid (m[k]? = some p) := hp
   simp only [ptrO, ptrV, Bool.false_eq_true, if_false] at hlk
   clear hp hpm hmw hsw
   go_wp2_with (at_builtin; refine wpList_append_own_at _ rfl _ _ 261 rfl w2.heap.size 224 i0 (.pointer none) 1 8 Tryz.underlying261 HI.out.1 HI.out.2.1 HI.out.2.2.1 HI.out.2.2.2 rfl (by decide) (.slice a' k cap') k ((m.take k).map fun p => ptrV p.2) rfl (HO.out.1.alloc _) ⟨wr.heap.size, 0, none⟩ 1 1 [.pointer (some ⟨p.2, 0, none⟩)] (by rfl) rfl (World.news_of_block (cs := #[.pointer (some ⟨p.2, 0, none⟩)]) (t := 224) (fr := (0, 0)) (heap_alloc_new wr _)) (by simp [Value.oneCell']) (by unfold maxLen; omega) (by omega) (by simp; omega) ?_; intro v' w5 hown' hgrow hnil hloc; obtain ⟨a5, cap5, rfl, -⟩ := own_form hown'; have HN : Hid (w5.ownsRow w2.heap.size 224 1 (.slice a5 (k + 1) cap5) (k + 1) ((m.take (k + 1)).map fun p => ptrV p.2) ∧ Below w2.heap.size w2 w5) := ⟨by rw [take_up HP.out, List.map_append]; exact hown', (HO.out.2.alloc hsz3 _).grown hgrow (by simp; omega) (fun q hq => (HO.out.1.lt q hq).1)⟩; clear hown' hgrow hnil hloc)
   go_roundw
   case rel => exact ⟨k + 1, by omega, by go_num, a5, cap5, rfl, HN⟩
   case measure => simp [intOf]; omega
  ·have i1 : ¬ (k : Int) < (m.length : Int) := by omega
   have e : k = m.length := by omega
   subst e
   go_wp2
   go_ret
   refine ⟨a', cap', rfl, ?_, HB2.out.trans (HO.out.2.mono HB2.out.size)⟩
   have := own_low HO.out.1 HB2.out.size
   rwa [List.take_length] at this
end Go.Proofs.YtkbcplnlehdjfaaGreat
