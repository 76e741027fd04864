/- What the proof leans on, part 1: LawZ, WithProcI, WithN. -/
import Derived.Test.YtkbcplnlehdjfaaGreatOwnR1
import Derived.Test.YtkbcplnlehdjfaaGreatOwnR35
import Derived.Test.YtkbcplnlehdjfaaGreatOwnWProc0

namespace Go.Proofs.YtkbcplnlehdjfaaGreat
open Go Go.RowKit
/-- What holds behind a piece of code, if it ends as usual; else what held. -/
def cutQ (Post : Act → World → Prop) (Q : Exit → Act → World → Prop) (e : Exit) (a : Act) (w : World) : Prop := match e with
 | .normal => Post a w
 | e => Q e a w
def puts (a : Act) : List (Nat × Value) → Act
 | [] => a
 | (d, v) :: r => puts (a.put (some d) v) r
/-- An operation that may be taken first: one that loads a block whole. -/
theorem tkr {P : Program} {md : Region.Mode} {ops : Array Oper} {Q : Exit → Act → World → Prop} {S : World → Prop} (i : Nat) {oi : Oper} {v : Value} {fuel : Nat} {listed : Array Bool} {a : Act} {w : World} {d : Tmp} (hi : ops[i]? = some oi) (hy : YieldsIf P ops S oi v a) (hS : S w)
  (h : wpAnyH P md ops Q S fuel (listed.setIfInBounds i true) (a.put (some d) v) w) (hd : oi.dst = some d := by rfl) (h1 : Region.noSelect ops = true := by kernel_rfl) (h2 : Region.free md ops listed i = true := by kernel_rfl) (h3 : (Region.ready md ops listed).contains i = true := by kernel_rfl)
  (hQ : ∀ c a w, Q (.panic c) (a.put (some d) v) w → Q (.panic c) a w := by exact fun _ _ _ h => h) : wpAnyH P md ops Q S (fuel + 1) listed a w := by
 rw [← hd] at h hQ
 exact wpAnyH_take (i := i) hi h1 h2 h3 hQ hy hS h
/-- A block. -/
def BoxAt (cs : Array Value) (T : TypeId) (X : Nat) (W : World) : Prop := W.heap[X]? = some (.cells cs T (0, 0))
section
variable {cs : Array Value} {T : TypeId} {X : Nat} {W W' : World} {bs : List Nat}
theorem BoxAt.lt (h : BoxAt cs T X W) : X < W.heap.size := (Array.getElem?_eq_some_iff.1 h).1
theorem BoxAt.below (h : BoxAt cs T X W) (hb : Below W.heap.size W W') : BoxAt cs T X W' := (hb.block _ h.lt).trans h
theorem BoxAt.kept (h : BoxAt cs T X W) (hk : KeptBut W W' bs) (hs : X ∉ bs) : BoxAt cs T X W' := (hk.same _ h.lt hs).trans h
end
theorem ga {α : Type} {l : List α} {i : Nat} (h : i < l.toArray.size) : l.toArray[i]'h = l[i]'(by simpa using h) := by simp
theorem gz {α : Type} {a : α} {l : List α} (h : 0 < (a :: l).length) : (a :: l)[0]'h = a := rfl
theorem gs {α : Type} {a : α} {l : List α} {i : Nat} (h : i + 1 < (a :: l).length) : (a :: l)[i + 1]'h = l[i]'(Nat.lt_of_succ_lt_succ h) := rfl
section
variable {p q : PartD} {w W U V : World} {B X b : Nat} {cs : Array Value} {T : TypeId} {Y : Prop}
theorem upP (h : Hid (PartOwn U B q ∧ Y)) (hb : Below U.heap.size U V) : Hid (PartOwn V B q ∧ Y) := ⟨h.out.1.below hb, h.out.2⟩
theorem upX (h : Hid (SrcS p w U)) (hb : Below U.heap.size U V) : Hid (SrcS p w V) := h.out.below hb
theorem upI (h : Hid (PartIn U X b q)) (hb : Below U.heap.size U V) : Hid (PartIn V X b q) := h.out.below hb
theorem upB (h : Hid (PartBox U X q)) (hb : Below U.heap.size U V) : Hid (PartBox V X q) := h.out.below hb
theorem upM (h : Hid (PartOwn U B q)) (hb : Below U.heap.size U V) : Hid (PartOwn V B q) := h.out.below hb
end
end Go.Proofs.YtkbcplnlehdjfaaGreat

/- A process laid in: the programme. (Made by mkwithproc.py.) -/
namespace Go.Proofs.YtkbcplnlehdjfaaGreat
open Go.RowKit Go.Maps
attribute [local go_sem ↓] Go.wp_at_zero Go.wp_at_succ
theorem OpenAt.lower {w : World} {base base' o : Nat} {S : OpenD} (h : OpenAt w base o S) (hb : base' ≤ base) : OpenAt w base' o S :=
 ⟨h.opn, h.procs.lower hb, h.sems.lower hb, h.events.lower hb, h.boards.lower hb, h.buffers.lower hb, h.ports.lower hb, fun p hp => (h.mineP p hp).low hb, fun p hp => (h.mineF p hp).low hb, fun p hp => (h.mineQ p hp).low hb, h.nodup, Nat.le_trans hb h.low⟩
theorem OpenAt.ge {w : World} {base o : Nat} {S : OpenD} (h : OpenAt w base o S) : ∀ c ∈ o :: (S.boxes ++ S.kids), base ≤ c := fun c hc => by
 simp only [OpenD.boxes, OpenD.kids, List.mem_cons, List.mem_append] at hc
 rcases hc with rfl | ((hc | hc | hc | hc | hc | hc) | hc | hc | hc)
 ·exact h.low
 ·exact h.procs.low c (List.mem_cons.2 hc)
 ·exact h.sems.low c (List.mem_cons.2 hc)
 ·exact h.events.low c (List.mem_cons.2 hc)
 ·exact h.boards.low c (List.mem_cons.2 hc)
 ·exact h.buffers.low c (List.mem_cons.2 hc)
 ·exact h.ports.low c (List.mem_cons.2 hc)
 ·obtain ⟨r, hr, hk⟩ := List.mem_filterMap.1 hc
  exact ((h.mineP r hr).lt hk).1
 ·obtain ⟨r, hr, hk⟩ := List.mem_filterMap.1 hc
  exact ((h.mineF r hr).lt hk).1
 ·obtain ⟨r, hr, hk⟩ := List.mem_filterMap.1 hc
  exact ((h.mineQ r hr).lt hk).1
set_option maxRecDepth 100000 in
set_option maxHeartbeats 8000000 in
theorem implWithProc_any (p : PartD) (id prio : Int) (a : Option Addr) (l : List OpD) (c : Nat) (w : World) (hid : (Lit.int .i64 id).wf = true) (hl : l.length ≤ 1048576 ∧ ∀ o ∈ l, o.2.2.2.size ≤ 1048576) (hr : Row w a (opK.flat l)) (hg : p.Good w) :
  Calls Tryz.prog 27 #[.agg p.cells, .int .i64 id, .int .i64 prio, .slice a l.length c] w fun e w' => TurnRes w (withR p.pure { p.pure with procs := insG (·.id) (newP id prio l) p.pure.procs }) e w' := by
 have b1 : Below w.heap.size w ((w.alloc (.cells p.cells 32)).alloc (.cells zero8 32)) := alloc2_below _ _ _
 obtain ⟨b, d, W, hap, ho, hgr⟩ := copy_ops ((w.alloc (.cells p.cells 32)).alloc (.cells zero8 32)) a l c (hr.below b1) hl.1
 have b2 : Below (w.heap.size + 1 + 1) ((w.alloc (.cells p.cells 32)).alloc (.cells zero8 32)) W := by have h5 := (Below.refl ((w.alloc (.cells p.cells 32)).alloc (.cells zero8 32)).heap.size ((w.alloc (.cells p.cells 32)).alloc (.cells zero8 32))).grown hgr (Nat.le_refl _) (fun c e => by cases e); simpa using h5
 have hs1 : ((w.alloc (.cells p.cells 32)).alloc (.cells zero8 32)).heap.size = w.heap.size + 1 + 1 := by simp
 have HB : Hid (p.Good W ∧ Below w.heap.size w W ∧ W.heap[w.heap.size + 1]? = some (.cells zero8 32 (0, 0)) ∧ PartBox W w.heap.size p ∧ (Lit.int .i64 id).wf = true ∧ procN.Mine W (w.heap.size + 1 + 1) (⟨newP id prio l, b, d⟩ : ProcD) ∧ (l.length ≤ 1048576 ∧ ∀ o ∈ l, o.2.2.2.size ≤ 1048576) ∧ w.heap.size + 1 + 1 ≤ W.heap.size) := by
  have h2 := alloc2_facts w (.cells p.cells 32) (.cells zero8 32)
  have b3 : Below w.heap.size w W := b1.trans (b2.mono (by omega))
  refine ⟨hg.below b3, b3, (b2.block _ (by omega)).trans h2.2, (b2.block _ (by omega)).trans h2.1, hid, ?_, hl, by have := b2.size; omega⟩
  rw [hs1] at ho
  exact ho
 clear hg hid hl hr b1 b2 ho hgr hs1
 obtain ⟨m0, m1, m2, m3, m4, m5, m6, m7⟩ := HB.out.2.2.2.1.cells
 unfold PartD.cells at *
 go_enter Tryz.func27, Tryz.ntmps27
 go_wp2_with (at_builtin; refine wpList_append_run _ rfl _ _ 37 rfl _ _ _ _ rfl rfl hap ?_; clear hap)
 clear m0 m1 m2 m3 m4 m5 m6 m7
 refine (opened_any p W HB.out.1).mono ?_
 rintro e w1 ⟨hb1, ⟨hno, rfl⟩ | ⟨hyes, o, S, rfl, hat, hpu⟩⟩
 ·have HZ : Hid (Below w.heap.size w w1 ∧ w1.heap[w.heap.size + 1]? = some (.cells zero8 32 (0, 0)) ∧ True) := ⟨HB.out.2.1.trans (hb1.mono HB.out.2.1.size), (hb1.block _ (Array.getElem?_eq_some_iff.1 HB.out.2.2.1).1).trans HB.out.2.2.1, trivial⟩
  have HN : Hid (withR p.pure { p.pure with procs := insG (·.id) (newP id prio l) p.pure.procs } = none) := withR_not (partB_false hno)
  clear hb1 hno
  go_wp2_with (refine wpList_store_row rfl 32 (Operand.tmp 8) (Operand.tmp 34) rfl (w.heap.size + 1) _ _ zero8 rfl rfl HZ.out.2.1 (by kernel_rfl) rfl (by kernel_rfl) ?_)
  refine bodyPost_ret (v := .tuple #[.agg zero8, .bool false]) (results_row_tmp Tryz.results27 _ _ (w.heap.size + 1) _ _ _ _ (by rfl) (setRow_heap _ _ _ _ _ _ HZ.out.2.1) Tryz.underlying32 rfl (by kernel_rfl)) rfl ?_
  exact turnRes_no HN.out (below_setRow HZ.out.1 (by omega) _)
 have HK : Hid (∀ g, procN.kid (⟨newP id prio l, b, d⟩ : ProcD) = some g → g ∉ o :: (S.boxes ++ S.kids)) := fun g hk hm => by have h5 := (HB.out.2.2.2.2.2.1.lt hk).2; have h6 := hat.ge g hm; omega
 have HZ : Hid (Below w.heap.size w w1 ∧ w1.heap[w.heap.size + 1]? = some (.cells zero8 32 (0, 0)) ∧ PartR S.pure ∧ OpenAt w1 (w.heap.size + 1 + 1) o S ∧ S.pure = p.pure ∧ procN.Mine w1 (w.heap.size + 1 + 1) (⟨newP id prio l, b, d⟩ : ProcD) ∧ (w.heap.size + 1 + 1) ≤ w1.heap.size) := ⟨HB.out.2.1.trans (hb1.mono HB.out.2.1.size), (hb1.block _ (Array.getElem?_eq_some_iff.1 HB.out.2.2.1).1).trans HB.out.2.2.1, by rw [hpu]; exact hyes, hat.lower HB.out.2.2.2.2.2.2.2, hpu, mine_below HB.out.2.2.2.2.2.1 hb1, by have := hb1.size; have := HB.out.2.2.2.2.2.2.2; omega⟩
 have c0 : w1.cell? ⟨o, 2, none⟩ = some (.int .i64 6) := hat.opn.cell 2
 have c1 : w1.cell? ⟨o, 3, none⟩ = some (.map (some S.q.bp)) := hat.opn.cell 3
 have HM : Hid (partB { p.pure with procs := insG (·.id) (newP id prio l) p.pure.procs } = layB 6 (keysOf (fun x : ProcD => x.id) S.lp) id (procB (newP id prio l))) := by
  have h5 := moreProc (id := id) (prio := prio) (l := l) HZ.out.2.2.1
  rw [hpu] at h5
  refine h5.trans ?_
  have h6 : p.pure.procs = S.lp.map (fun p => (fun y : ProcD => y.toProcP) p.1) := by rw [← hpu]; rfl
  rw [h6]
  exact (lay_more (num := (fun x : ProcD => x.id)) (num' := (·.id)) (fun y : ProcD => y.toProcP) (fun _ => rfl) procB (⟨newP id prio l, b, d⟩ : ProcD) 6 S.lp).symm
 have hcall := layProc_any 6 S.q.bp (keysOf (fun x : ProcD => x.id) S.lp) (⟨newP id prio l, b, d⟩ : ProcD) w1 hat.procs.map HB.out.2.2.2.2.1 (by have h5 := (open_fits HZ.out.2.2.1).nProc; rw [keysOf_length]; omega) ⟨⟨HB.out.2.2.2.2.2.2.1.1, HB.out.2.2.2.2.2.2.1.2, Nat.zero_le _, Nat.zero_le _⟩, HZ.out.2.2.2.2.2.1.row⟩
 have HLY : Hid (∀ e w', LayEnds w1 S.q.bp (keysOf (fun x : ProcD => x.id) S.lp) (layB 6 (keysOf (fun x : ProcD => x.id) S.lp) id (procB (newP id prio l))) id (procVs (⟨newP id prio l, b, d⟩ : ProcD)) 43 e w' → LayEnds w1 S.q.bp (keysOf (fun x : ProcD => x.id) S.lp) (partB { p.pure with procs := insG (·.id) (newP id prio l) p.pure.procs }) id (procVs (⟨newP id prio l, b, d⟩ : ProcD)) 43 e w') := fun e w' h5 => by rw [HM.out]; exact h5
 simp only [procVs] at hcall
 clear hb1 hyes hat hpu HM
 go_wp2_with fail
 refine hcall.mono ?_
 clear hcall c0 c1
 intro e w2 hE
 replace hE := HLY.out e w2 hE
 clear HLY
 cases hok : partB { p.pure with procs := insG (·.id) (newP id prio l) p.pure.procs }
 ·rw [hok] at hE
  obtain ⟨rfl, hb2, -⟩ := hE
  have HZ2 : Hid (Below w.heap.size w w2 ∧ w2.heap[w.heap.size + 1]? = some (.cells zero8 32 (0, 0)) ∧ True) := ⟨HZ.out.1.trans ((hb2 rfl).mono HZ.out.1.size), ((hb2 rfl).block _ (Array.getElem?_eq_some_iff.1 HZ.out.2.1).1).trans HZ.out.2.1, trivial⟩
  have HN : Hid (withR p.pure { p.pure with procs := insG (·.id) (newP id prio l) p.pure.procs } = none) := withR_no hok
  clear hok hb2
  go_wp2_with (refine wpList_store_row rfl 32 (Operand.tmp 8) (Operand.tmp 34) rfl (w.heap.size + 1) _ _ zero8 rfl rfl HZ2.out.2.1 (by kernel_rfl) rfl (by kernel_rfl) ?_)
  refine bodyPost_ret (v := .tuple #[.agg zero8, .bool false]) (results_row_tmp Tryz.results27 _ _ (w.heap.size + 1) _ _ _ _ (by rfl) (setRow_heap _ _ _ _ _ _ HZ2.out.2.1) Tryz.underlying32 rfl (by kernel_rfl)) rfl ?_
  exact turnRes_no HN.out (below_setRow HZ2.out.1 (by omega) _)
 rw [hok] at hE
 obtain ⟨g, hat2, hb2⟩ := HZ.out.2.2.2.1.layProc (x := (⟨newP id prio l, b, d⟩ : ProcD)) HZ.out.2.2.2.2.2.2 HZ.out.2.2.2.2.2.1 HK.out hE
 obtain ⟨rfl, -, -⟩ := hE
 have HN : Hid (withR p.pure { p.pure with procs := insG (·.id) (newP id prio l) p.pure.procs } = some { p.pure with procs := insG (·.id) (newP id prio l) p.pure.procs }) := withR_yes (by rw [← HZ.out.2.2.2.2.1]; exact partB_true HZ.out.2.2.1) hok
 have H2 : Hid (OpenAt w2 (w.heap.size + 1 + 1) o ({ S with lp := insT (fun x : ProcD => x.id) ((⟨newP id prio l, b, d⟩ : ProcD), g) S.lp } : OpenD) ∧ Below w.heap.size w w2 ∧ w2.heap[w.heap.size + 1]? = some (.cells zero8 32 (0, 0))) := ⟨hat2, HZ.out.1.trans (hb2.mono (by omega)), (hb2.block _ (by omega)).trans HZ.out.2.1⟩
 have HF : Hid (({ S with lp := insT (fun x : ProcD => x.id) ((⟨newP id prio l, b, d⟩ : ProcD), g) S.lp } : OpenD).pure = { p.pure with procs := insG (·.id) (newP id prio l) p.pure.procs } ∧ ({ S with lp := insT (fun x : ProcD => x.id) ((⟨newP id prio l, b, d⟩ : ProcD), g) S.lp } : OpenD).Fits) := by
  have e1 : ({ S with lp := insT (fun x : ProcD => x.id) ((⟨newP id prio l, b, d⟩ : ProcD), g) S.lp } : OpenD).pure = { p.pure with procs := insG (·.id) (newP id prio l) p.pure.procs } := by
   have h6 : p.pure.procs = S.lp.map (fun p => (fun y : ProcD => y.toProcP) p.1) := by rw [← HZ.out.2.2.2.2.1]; rfl
   have h7 : (insT (fun x : ProcD => x.id) ((⟨newP id prio l, b, d⟩ : ProcD), g) S.lp).map (fun p => (fun y : ProcD => y.toProcP) p.1) = insG (·.id) (newP id prio l) p.pure.procs := by
    rw [insT_fst (num := (fun x : ProcD => x.id)) (num' := (·.id)) (fun y : ProcD => y.toProcP) (fun _ => rfl), ← h6]
   rw [← HZ.out.2.2.2.2.1] at h7 ⊢
   unfold OpenD.pure at h7 ⊢
   simp only at h7 ⊢
   rw [← h7]
  exact ⟨e1, open_fits (by rw [e1]; exact (partB_iff _).1 hok)⟩
 clear hat2 hb2 hok
 go_wp2_with fail
 refine (toldPart_any o (w.heap.size + 1 + 1) _ w2 H2.out.1 HF.out.2).mono ?_
 rintro e w3 ⟨r, rfl, ho3, hp3, hb3⟩
 have H3 : Hid (PartOwn w3 (w.heap.size + 1 + 1) r ∧ Below w.heap.size w w3 ∧ w3.heap[w.heap.size + 1]? = some (.cells zero8 32 (0, 0)) ∧ r.pure = { p.pure with procs := insG (·.id) (newP id prio l) p.pure.procs }) := ⟨ho3, H2.out.2.1.trans (hb3.mono H2.out.2.1.size), (hb3.block _ (Array.getElem?_eq_some_iff.1 H2.out.2.2).1).trans H2.out.2.2, hp3.trans HF.out.1⟩
 clear ho3 hp3 hb3
 go_wp2_with (refine wpList_store_row rfl 32 (Operand.tmp 8) (Operand.tmp 36) rfl (w.heap.size + 1) _ _ (PartD.cells r) rfl rfl H3.out.2.2.1 (by kernel_rfl) rfl (by kernel_rfl) ?_)
 refine bodyPost_ret (v := .tuple #[.agg (PartD.cells r), .bool true]) (results_row_tmp Tryz.results27 _ _ (w.heap.size + 1) _ _ _ _ (by rfl) (setRow_heap _ _ _ _ _ _ H3.out.2.2.1) Tryz.underlying32 rfl (by kernel_rfl)) rfl ?_
 rw [HN.out]
 exact ⟨r, rfl, (H3.out.1.lower (by omega)).same fun b hb => setRow_other _ _ _ _ (by have := (H3.out.1.lt b hb).1; omega), H3.out.2.2.2, below_setRow H3.out.2.1 (by omega) _⟩
end Go.Proofs.YtkbcplnlehdjfaaGreat

/- A list that is made anew by appending, and a partition with it. (Made by mkwithnb.py.) -/
namespace Go.Proofs.YtkbcplnlehdjfaaGreat
open Go.RowKit Go.Maps
section
variable {α : Type} {num : α → Int}
theorem insG_map {β : Type} {num' : β → Int} (f : α → β) (hf : ∀ y, num' (f y) = num y) (x : α) : ∀ l : List α, (insG num x l).map f = insG num' (f x) (l.map f)
 | [] => rfl
 | y :: r => by
  simp only [insG, List.map_cons, hf]
  split
  ·simp
  ·simp [insG_map f hf x r]
theorem insG_all {x : α} : ∀ {l : List α}, (∀ y ∈ l, ¬ num x < num y) → insG num x l = l ++ [x]
 | [], _ => rfl
 | y :: r, h => by
  simp only [insG, if_neg (h y (by simp)), List.cons_append]
  rw [insG_all fun z hz => h z (by simp [hz])]
theorem insG_more {x : α} : ∀ {l r : List α}, (∃ y ∈ l, num x < num y) → insG num x (l ++ r) = insG num x l ++ r
 | [], _, h => by obtain ⟨y, hy, _⟩ := h; cases hy
 | y :: l, r, h => by
  simp only [List.cons_append, insG]
  split
  ·rfl
  ·rename_i hn
   rw [insG_more, List.cons_append]
   obtain ⟨z, hz, hlt⟩ := h
   rcases List.mem_cons.1 hz with rfl | hz
   ·exact absurd hlt hn
   ·exact ⟨z, hz, hlt⟩
theorem insG_first {x y : α} {l : List α} (h : ∀ z ∈ l, ¬ num x < num z) (hy : num x < num y) : insG num x (l ++ [y]) = l ++ [x] ++ [y] := by
 induction l with
 | nil => simp [insG, hy]
 | cons z r ih =>
  simp only [List.cons_append, insG, if_neg (h z (by simp))]
  rw [ih fun u hu => h u (by simp [hu])]
theorem insG_perm (x : α) : ∀ l : List α, (insG num x l).Perm (x :: l)
 | [] => List.Perm.refl _
 | y :: r => by
  simp only [insG]
  split
  ·exact List.Perm.refl _
  ·exact (List.Perm.cons y (insG_perm x r)).trans (List.Perm.swap x y r)
/-- What stands in the list behind k rounds. -/
def AccIs (num : α → Int) (x : α) (l : List α) (k : Nat) (dn : Bool) (acc : List α) : Prop :=
 (dn = false ∧ acc = l.take k ∧ ∀ y ∈ l.take k, ¬ num x < num y) ∨ (dn = true ∧ acc = insG num x (l.take k) ∧ ∃ y ∈ l.take k, num x < num y)
theorem AccIs.start (x : α) (l : List α) : AccIs num x l 0 false [] := .inl ⟨rfl, by simp, fun y hy => by simp at hy⟩
theorem AccIs.on {x y : α} {l : List α} {k : Nat} {acc : List α} (h : AccIs num x l k true acc) (hy : l[k]? = some y) : AccIs num x l (k + 1) true (acc ++ [y]) := by
 rcases h with ⟨h, -⟩ | ⟨-, rfl, z, hz, hlt⟩
 ·cases h
 ·rw [AccIs, take_up hy]
  exact .inr ⟨rfl, (insG_more ⟨z, hz, hlt⟩).symm, z, List.mem_append_left _ hz, hlt⟩
theorem AccIs.past {x y : α} {l : List α} {k : Nat} {acc : List α} (h : AccIs num x l k false acc) (hy : l[k]? = some y) (hn : ¬ num x < num y) : AccIs num x l (k + 1) false (acc ++ [y]) := by
 rcases h with ⟨-, rfl, h⟩ | ⟨h, -⟩
 ·rw [AccIs, take_up hy]
  refine .inl ⟨rfl, rfl, fun z hz => ?_⟩
  rcases List.mem_append.1 hz with hz | hz
  ·exact h z hz
  ·rw [List.mem_singleton.1 hz]; exact hn
 ·cases h
theorem AccIs.here {x y : α} {l : List α} {k : Nat} {acc : List α} (h : AccIs num x l k false acc) (hy : l[k]? = some y) (hn : num x < num y) : AccIs num x l (k + 1) true (acc ++ [x] ++ [y]) := by
 rcases h with ⟨-, rfl, h⟩ | ⟨h, -⟩
 ·rw [AccIs, take_up hy]
  exact .inr ⟨rfl, (insG_first h hn).symm, y, by simp, hn⟩
 ·cases h
theorem AccIs.done {x : α} {l : List α} {k : Nat} {acc : List α} (h : AccIs num x l k true acc) (hk : ¬ k < l.length) : acc = insG num x l := by
 rcases h with ⟨h, -⟩ | ⟨-, rfl, -⟩
 ·cases h
 ·rw [List.take_of_length_le (by omega)]
theorem AccIs.last {x : α} {l : List α} {k : Nat} {acc : List α} (h : AccIs num x l k false acc) (hk : ¬ k < l.length) : acc ++ [x] = insG num x l := by
 rcases h with ⟨-, rfl, h⟩ | ⟨h, -⟩
 ·rw [List.take_of_length_le (by omega)] at h ⊢
  exact (insG_all h).symm
 ·cases h
theorem AccIs.le {x : α} {l : List α} {k : Nat} {dn : Bool} {acc : List α} (h : AccIs num x l k dn acc) : acc.length ≤ l.length + 1 := by
 rcases h with ⟨-, rfl, -⟩ | ⟨-, rfl, -⟩
 ·rw [List.length_take]; omega
 ·rw [insG_length, List.length_take]; omega
end
/-- The list, and beside it the thing in its box. -/
structure ListIn {α : Type} (K : Kind α) (T : TypeId) (XV : Array Value) (W w : World) (acc : List α) (a : Option Addr) (c : Nat) : Prop where
 own : w.ownsRow W.heap.size T K.n (.slice a acc.length c) acc.length (K.flat acc)
 ne : ∀ g ∈ blk a, g ≠ W.heap.size + 1
 bel : Below W.heap.size W w
 box : w.heap[W.heap.size + 1]? = some (.cells XV T (0, 0))
theorem ListIn.start {α : Type} {K : Kind α} {T : TypeId} {XV : Array Value} {W : World} : ListIn K T XV W ((W.alloc (.cells #[] T)).alloc (.cells XV T)) [] (some ⟨W.heap.size, 0, none⟩) 0 := by
 have b1 : Below W.heap.size W (W.alloc (.cells #[] T)) := (Below.refl _ _).alloc (Nat.le_refl _) _
 refine ⟨own_empty ((heap_alloc_old _ _ (by simp)).trans (heap_alloc_new _ _)) (Nat.le_refl _), fun g hg => by simp [blk] at hg; omega, b1.alloc b1.size _, heap_alloc2_new _ _ _⟩
/-- One more, from a block that is made for it. -/
theorem ListIn.add {α : Type} {K : Kind α} {T : TypeId} {XV : Array Value} {W w : World} {acc : List α} {a : Option Addr} {c : Nat} (h : ListIn K T XV W w acc a c) (t : TypeId) (bytes : Nat) {z0 : Value} {P : Program} (ht : P.underlying t = some (.slice T))
  (hi : (P.info? T).map (fun i => (i.zero, i.size, i.bytes)) = some (some z0, K.n, bytes)) (hz : z0.cells.size = K.n) (hn : 0 < K.n) (hby : bytes ≤ 1000) (z : α) (zs : Array Value) (hzs : zs.toList = K.vals z) (h1 : ∀ u ∈ K.vals z, u.oneCell' = true) (hl : acc.length ≤ 2000000) :
  ∃ a' c' w', (Builtin.append_ #[t, t] t #[.slice a acc.length c, .slice (some ⟨w.heap.size, 0, none⟩) 1 1]).run P (w.alloc (.cells zs T)) = .ok (.slice a' (acc.length + 1) c') w' ∧ ListIn K T XV W w' (acc ++ [z]) a' c' := by
 obtain ⟨i, hi, e⟩ := Option.map_eq_some_iff.1 hi
 simp only [Prod.mk.injEq] at e
 have b1 : Below w.heap.size w (w.alloc (.cells zs T)) := (Below.refl _ _).alloc (Nat.le_refl _) _
 have b2 := h.bel.trans (b1.mono h.bel.size)
 have hlt := (Array.getElem?_eq_some_iff.1 h.box).1
 obtain ⟨a', c', w', hr, ho, hg, hq⟩ := append_more (P := P) (w.alloc (.cells zs T)) W.heap.size t t T i z0 K.n bytes ht hi e.1 e.2.1 e.2.2 hz hn a acc.length c _ (own_below h.own b1) (some ⟨w.heap.size, 0, none⟩) 1 1 (K.vals z) (by rw [← hzs]; exact src_block (heap_alloc_new _ _)) (by rw [K.len, Nat.one_mul]) h1 (by omega) hby b2.size
 refine ⟨a', c', w', hr, ⟨?_, fun g hg2 => ?_, b2.grown hg b2.size fun k e => (own_lt h.own (own_block e)).1, ?_⟩⟩
 ·have e1 : (acc ++ [z]).length = acc.length + 1 := by simp
  rw [e1, K.flat_append]
  have e2 : K.flat [z] = K.vals z := by simp [Kind.flat]
  rw [e2]
  exact ho
 ·rcases hq g hg2 with h5 | h5
  ·exact h.ne g h5
  ·rw [h5]; have := b1.size; omega
 ·refine (hg.block _ (by simp; omega) (fun e => ?_)).trans ((b1.block _ hlt).trans h.box)
  exact h.ne _ (own_block e.symm) rfl
theorem nodup_swap2 {Z A A' C C' R : List Nat} (h : (Z ++ (A ++ (C ++ R))).Nodup) (hA : A'.Nodup) (hC : C'.Nodup) (h1 : ∀ g ∈ A', g ∉ Z ++ (A ++ (C ++ R)) ∧ g ∉ C') (h2 : ∀ g ∈ C', g ∈ C ∨ g ∉ Z ++ (A ++ (C ++ R))) : (Z ++ (A' ++ (C' ++ R))).Nodup := by
 simp only [List.mem_append, not_or] at h1 h2
 simp only [List.nodup_append, List.mem_append] at h ⊢
 obtain ⟨hz, ⟨-, ⟨-, hR, hCR⟩, -⟩, hzz⟩ := h
 refine ⟨hz, ⟨hA, ⟨hC, hR, fun a ha b hb e => ?_⟩, fun a ha b hb e => ?_⟩, fun a ha b hb e => ?_⟩
 ·rcases h2 a ha with h5 | h5
  ·exact hCR a h5 b hb e
  ·exact h5.2.2.2 (e ▸ hb)
 ·rcases hb with hb | hb
  ·exact (h1 a ha).2 (e ▸ hb)
  ·exact (h1 a ha).1.2.2.2 (e ▸ hb)
 ·rcases hb with hb | hb | hb
  ·exact (h1 b hb).1.1 (e ▸ ha)
  ·rcases h2 b hb with h5 | h5
   ·exact hzz a ha b (.inr (.inl h5)) e
   ·exact h5.1 (e ▸ ha)
  ·exact hzz a ha b (.inr (.inr hb)) e
theorem one_proc {x : ProcD} : ∀ u ∈ procK.vals x, u.oneCell' = true := fun u hu => by
 simp only [procK, procVals, List.mem_cons, List.not_mem_nil, or_false] at hu
 rcases hu with rfl | rfl | rfl | rfl | rfl | rfl | rfl | rfl | rfl | rfl | rfl | rfl <;> rfl
theorem PartOwn.newProc {w w' : World} {base B : Nat} {q : PartD} {l : List ProcD} {a' : Option Addr} {c' : Nat} (h : PartOwn w base q) (hb : base ≤ B) (hB : ∀ g ∈ q.blocks, g < B) (hs : ∀ g ∈ q.blocks, w'.heap[g]? = w.heap[g]?)
  (ho : w'.ownsRow B 43 12 (.slice a' l.length c') l.length (procK.flat l)) (hm : ∀ x ∈ l, procN.Mine w' base x) (hn : (l.filterMap procN.kid).Nodup) (hk : ∀ g ∈ l.filterMap procN.kid, g ∈ q.procs.filterMap procN.kid ∨ g ∉ q.blocks) (hk2 : ∀ g ∈ l.filterMap procN.kid, g < B) : PartOwn w' base ({ q with procs := l, procA := a', procC := c' } : PartD) := by
 refine ⟨own_low ho hb, own_same h.sems fun g hg => hs g (by simp [PartD.blocks, hg]), own_same h.events fun g hg => hs g (by simp [PartD.blocks, hg]), own_same h.boards fun g hg => hs g (by simp [PartD.blocks, hg]), own_same h.buffers fun g hg => hs g (by simp [PartD.blocks, hg]), own_same h.ports fun g hg => hs g (by simp [PartD.blocks, hg]), hm, fun x hx => (h.mineF x hx).same fun g hg => hs g ?_, fun x hx => (h.mineQ x hx).same fun g hg => hs g ?_, ?_⟩
 ·simp only [PartD.blocks, List.mem_append, List.mem_filterMap]
  exact .inr (.inr (.inr (.inr (.inr (.inr (.inl ⟨x, hx, hg⟩))))))
 ·simp only [PartD.blocks, List.mem_append, List.mem_filterMap]
  exact .inr (.inr (.inr (.inr (.inr (.inr (.inr (.inr ⟨x, hx, hg⟩)))))))
 ·have h5 := h.nodup
  have h6 : ∀ g ∈ blk a', g ∉ q.blocks ∧ g ∉ l.filterMap procN.kid := fun g hg => ⟨fun hm => by have := (own_lt ho hg).1; have := hB g hm; omega, fun hm => by have := (own_lt ho hg).1; have := hk2 g hm; omega⟩
  have e1 : ({ q with procs := l, procA := a', procC := c' } : PartD).blocks = ([] : List Nat) ++ (blk a' ++ (l.filterMap procN.kid ++ (blk q.semA ++ (blk q.eventA ++ (blk q.boardA ++ (blk q.bufferA ++ (q.buffers.filterMap bufferN.kid ++ (blk q.portA ++ (q.ports.filterMap portN.kid))))))))) := by simp [PartD.blocks]
  have e3 : q.blocks = ([] : List Nat) ++ (blk q.procA ++ (q.procs.filterMap procN.kid ++ (blk q.semA ++ (blk q.eventA ++ (blk q.boardA ++ (blk q.bufferA ++ (q.buffers.filterMap bufferN.kid ++ (blk q.portA ++ (q.ports.filterMap portN.kid))))))))) := by simp [PartD.blocks]
  rw [e1]
  rw [e3] at h5 h6 hk
  exact nodup_swap2 h5 (blk_nodup _) hn h6 hk
end Go.Proofs.YtkbcplnlehdjfaaGreat
