/- What the proof leans on, part 1: LawZ, WithPortI, WithN. -/
import Derived.Test.YtkbcplnlehdjfaaGreatOwnR1
import Derived.Test.YtkbcplnlehdjfaaGreatOwnR35
import Derived.Test.YtkbcplnlehdjfaaGreatOwnWPort0

namespace Go.Proofs.YtkbcplnlehdjfaaGreat
open Go Go.RowKit
/-- What holds behind a piece of code, if it ends as usual; else what held. -/
def cutQ (Post : Act → World → Prop) (Q : Exit → Act → World → Prop) (e : Exit) (a : Act) (w : World) : Prop := match e with
 | .normal => Post a w
 | e => Q e a w
theorem cut_normal {Post : Act → World → Prop} {Q : Exit → Act → World → Prop} {a : Act} {w : World} (h : Post a w) : cutQ Post Q .normal a w := h
theorem wp_cut {P : Program} {c : Code} {Q : Exit → Act → World → Prop} {a : Act} {w : World} (Post : Act → Act → World → Prop) (h : c.wp P (cutQ (Post a) Q) a w) (hk : ∀ a' w', Post a a' w' → Q .normal a' w') : c.wp P Q a w :=
 Code.wp_mono (fun e a' w' h' => by
  cases e with
  | normal => exact hk a' w' h'
  | _ => exact h') h
theorem pn (a : Act) (v : Value) : a.put none v = a := rfl
def puts (a : Act) : List (Nat × Value) → Act
 | [] => a
 | (d, v) :: r => puts (a.put (some d) v) r
theorem puts_cons {a : Act} {d : Nat} {v : Value} {r : List (Nat × Value)} : puts a ((d, v) :: r) = puts (a.put (some d) v) r := rfl
theorem puts_nil {a : Act} : puts a [] = a := rfl
/-- An operation that may be taken first: one that loads a block whole. -/
theorem tkr {P : Program} {md : Region.Mode} {ops : Array Oper} {Q : Exit → Act → World → Prop} {S : World → Prop} (i : Nat) {oi : Oper} {v : Value} {fuel : Nat} {listed : Array Bool} {a : Act} {w : World} {d : Tmp} (hi : ops[i]? = some oi) (hy : YieldsIf P ops S oi v a) (hS : S w)
  (h : wpAnyH P md ops Q S fuel (listed.setIfInBounds i true) (a.put (some d) v) w) (hd : oi.dst = some d := by rfl) (h1 : Region.noSelect ops = true := by kernel_rfl) (h2 : Region.free md ops listed i = true := by kernel_rfl) (h3 : (Region.ready md ops listed).contains i = true := by kernel_rfl)
  (hQ : ∀ c a w, Q (.panic c) (a.put (some d) v) w → Q (.panic c) a w := by exact fun _ _ _ h => h) : wpAnyH P md ops Q S (fuel + 1) listed a w := by
 rw [← hd] at h hQ
 exact wpAnyH_take (i := i) hi h1 h2 h3 hQ hy hS h
/-- A block. -/
def BoxAt (cs : Array Value) (T : TypeId) (X : Nat) (W : World) : Prop := W.heap[X]? = some (.cells cs T (0, 0))
section
variable {cs : Array Value} {T : TypeId} {X : Nat} {W W' : World} {bs : List Nat}
theorem BoxAt.lt (h : BoxAt cs T X W) : X < W.heap.size := (Array.getElem?_eq_some_iff.1 h).1
theorem BoxAt.below (h : BoxAt cs T X W) (hb : Below W.heap.size W W') : BoxAt cs T X W' := (hb.block _ h.lt).trans h
theorem BoxAt.kept (h : BoxAt cs T X W) (hk : KeptBut W W' bs) (hs : X ∉ bs) : BoxAt cs T X W' := (hk.same _ h.lt hs).trans h
end
theorem ga {α : Type} {l : List α} {i : Nat} (h : i < l.toArray.size) : l.toArray[i]'h = l[i]'(by simpa using h) := by simp
theorem gz {α : Type} {a : α} {l : List α} (h : 0 < (a :: l).length) : (a :: l)[0]'h = a := rfl
theorem gs {α : Type} {a : α} {l : List α} {i : Nat} (h : i + 1 < (a :: l).length) : (a :: l)[i + 1]'h = l[i]'(Nat.lt_of_succ_lt_succ h) := rfl
section
variable {p q : PartD} {w W U V : World} {B X b : Nat} {cs : Array Value} {T : TypeId} {Y : Prop}
theorem upU (h : Hid (Below W.heap.size W U)) (hb : Below U.heap.size U V) : Hid (Below W.heap.size W V) := h.out.trans (hb.mono h.out.size)
theorem upP (h : Hid (PartOwn U B q ∧ Y)) (hb : Below U.heap.size U V) : Hid (PartOwn V B q ∧ Y) := ⟨h.out.1.below hb, h.out.2⟩
theorem upA (h : Hid (BoxAt cs T X U ∧ Y)) (hb : Below U.heap.size U V) : Hid (BoxAt cs T X V ∧ Y) := ⟨h.out.1.below hb, h.out.2⟩
theorem upX (h : Hid (SrcS p w U)) (hb : Below U.heap.size U V) : Hid (SrcS p w V) := h.out.below hb
theorem upZ (h : Hid (BoxAt cs T X U)) (hb : Below U.heap.size U V) : Hid (BoxAt cs T X V) := h.out.below hb
theorem upI (h : Hid (PartIn U X b q)) (hb : Below U.heap.size U V) : Hid (PartIn V X b q) := h.out.below hb
theorem upB (h : Hid (PartBox U X q)) (hb : Below U.heap.size U V) : Hid (PartBox V X q) := h.out.below hb
theorem upM (h : Hid (PartOwn U B q)) (hb : Below U.heap.size U V) : Hid (PartOwn V B q) := h.out.below hb
end
end Go.Proofs.YtkbcplnlehdjfaaGreat

/- A thing of the kind Port laid in: the programme. (Made by mkwithi.py.) -/
namespace Go.Proofs.YtkbcplnlehdjfaaGreat
open Go.RowKit Go.Maps
attribute [local go_sem ↓] Go.wp_at_zero Go.wp_at_succ
set_option maxRecDepth 100000 in
set_option maxHeartbeats 8000000 in
theorem implWithPort_any (p : PartD) (z : PortD) (w : World) (hid : (Lit.int .i64 z.id).wf = true) (hg : p.Good w) :
  Calls Tryz.prog 45 #[.agg p.cells, .agg #[.int .i64 z.id, .bool z.out, .bool z.queue, .int .i64 z.max, .slice z.itemsA z.items.length z.itemsC]] w fun e w' => TurnRes w (withR p.pure { p.pure with ports := insG (·.id) (⟨z.id, z.out, z.queue, z.max, []⟩ : PortP) p.pure.ports }) e w' := by
 have HB : Hid (p.Good (((w.alloc (.cells p.cells 32)).alloc (.cells #[.int .i64 z.id, .bool z.out, .bool z.queue, .int .i64 z.max, .slice none 0 0] 61)).alloc (.cells zero8 32)) ∧ Below w.heap.size w (((w.alloc (.cells p.cells 32)).alloc (.cells #[.int .i64 z.id, .bool z.out, .bool z.queue, .int .i64 z.max, .slice none 0 0] 61)).alloc (.cells zero8 32)) ∧ (((w.alloc (.cells p.cells 32)).alloc (.cells #[.int .i64 z.id, .bool z.out, .bool z.queue, .int .i64 z.max, .slice none 0 0] 61)).alloc (.cells zero8 32)).heap[w.heap.size + 1 + 1]? = some (.cells zero8 32 (0, 0)) ∧ PartBox (((w.alloc (.cells p.cells 32)).alloc (.cells #[.int .i64 z.id, .bool z.out, .bool z.queue, .int .i64 z.max, .slice none 0 0] 61)).alloc (.cells zero8 32)) w.heap.size p ∧ (Lit.int .i64 z.id).wf = true ∧ (((w.alloc (.cells p.cells 32)).alloc (.cells #[.int .i64 z.id, .bool z.out, .bool z.queue, .int .i64 z.max, .slice none 0 0] 61)).alloc (.cells zero8 32)).heap[w.heap.size + 1]? = some (.cells #[.int .i64 z.id, .bool z.out, .bool z.queue, .int .i64 z.max, .slice none 0 0] 61 (0, 0))) := by
  have b1 : Below w.heap.size w (((w.alloc (.cells p.cells 32)).alloc (.cells #[.int .i64 z.id, .bool z.out, .bool z.queue, .int .i64 z.max, .slice none 0 0] 61)).alloc (.cells zero8 32)) := alloc3_below _ _ _ _
  have h3 := alloc3_facts w (.cells p.cells 32) (.cells #[.int .i64 z.id, .bool z.out, .bool z.queue, .int .i64 z.max, .slice none 0 0] 61) (.cells zero8 32)
  exact ⟨hg.below b1, b1, h3.2.2.1, h3.1, hid, h3.2.1⟩
 clear hg hid
 obtain ⟨m0, m1, m2, m3, m4, m5, m6, m7⟩ := HB.out.2.2.2.1.cells
 unfold PartD.cells at *
 go_enter Tryz.func45, Tryz.ntmps45
 go_wp2_with fail
 generalize ((w.alloc (.cells #[.int .i64 p.id, .int .i64 p.next, .slice p.procA p.procs.length p.procC, .slice p.semA p.sems.length p.semC, .slice p.eventA p.events.length p.eventC, .slice p.boardA p.boards.length p.boardC, .slice p.bufferA p.buffers.length p.bufferC, .slice p.portA p.ports.length p.portC] 32)).alloc (.cells #[.int .i64 z.id, .bool z.out, .bool z.queue, .int .i64 z.max, .slice none 0 0] 61)).alloc (.cells #[.int .i64 0, .int .i64 0, .slice none 0 0, .slice none 0 0, .slice none 0 0, .slice none 0 0, .slice none 0 0, .slice none 0 0] 32) = W at *
 clear m0 m1 m2 m3 m4 m5 m6 m7
 refine (opened_any p W HB.out.1).mono ?_
 rintro e w1 ⟨hb1, ⟨hno, rfl⟩ | ⟨hyes, o, S, rfl, hat, hpu⟩⟩
 all_goals replace hb1 := hb1.drew
 ·have HZ : Hid (Below w.heap.size w w1.drew ∧ w1.drew.heap[w.heap.size + 1 + 1]? = some (.cells zero8 32 (0, 0)) ∧ True) := ⟨HB.out.2.1.trans (hb1.mono HB.out.2.1.size), (hb1.block _ (Array.getElem?_eq_some_iff.1 HB.out.2.2.1).1).trans HB.out.2.2.1, trivial⟩
  have HN : Hid (withR p.pure { p.pure with ports := insG (·.id) (⟨z.id, z.out, z.queue, z.max, []⟩ : PortP) p.pure.ports } = none) := withR_not (partB_false hno)
  clear hb1 hno
  go_wp2_with fail
  refine tame_region (fun w' => w' = w1.drew) (by kernel_rfl) rfl ?_
  iterate 3 (refine yl (v := ?_) ?_ ?_; rotate_left; (intro w0 hS0; subst hS0; go_simp; try with_reducible rfl); simp only [pt, sb, s0, s1])
  iterate 7 (refine nl ?_; simp only [pt, sb, s0, s1])
  (refine yl (v := ?_) ?_ ?_; rotate_left; (intro w0 hS0; subst hS0; go_simp; try with_reducible rfl); simp only [pt, sb, s0, s1])
  refine tame_done (by kernel_rfl) ?_ _
  intro w1 hS1
  subst hS1
  go_wp2_with (refine wpList_store_row rfl 32 (Operand.tmp 4) (Operand.tmp 25) rfl (w.heap.size + 1 + 1) _ _ zero8 rfl rfl HZ.out.2.1 (by kernel_rfl) rfl (by kernel_rfl) ?_)
  refine bodyPost_ret (v := .tuple #[.agg zero8, .bool false]) (results_row_tmp Tryz.results45 _ _ (w.heap.size + 1 + 1) _ _ _ _ (by rfl) (setRow_heap _ _ _ _ _ _ HZ.out.2.1) Tryz.underlying32 rfl (by kernel_rfl)) rfl ?_
  exact turnRes_no HN.out (below_setRow HZ.out.1 (by omega) _)
 replace hat := hat.drew
 have HZ : Hid (Below w.heap.size w w1.drew ∧ w1.drew.heap[w.heap.size + 1 + 1]? = some (.cells zero8 32 (0, 0)) ∧ PartR S.pure ∧ OpenAt w1.drew W.heap.size o S ∧ S.pure = p.pure ∧ w.heap.size + 1 + 1 < W.heap.size ∧ W.heap.size ≤ w1.drew.heap.size) := ⟨HB.out.2.1.trans (hb1.mono HB.out.2.1.size), (hb1.block _ (Array.getElem?_eq_some_iff.1 HB.out.2.2.1).1).trans HB.out.2.2.1, by rw [hpu]; exact hyes, hat, hpu, (Array.getElem?_eq_some_iff.1 HB.out.2.2.1).1, hb1.size⟩
 obtain ⟨z0, z1, z2, z3, z4⟩ := port_cells (x := (⟨⟨z.id, z.out, z.queue, z.max, []⟩, none, 0⟩ : PortD)) ((hb1.block _ (by have := (Array.getElem?_eq_some_iff.1 HB.out.2.2.1).1; omega)).trans HB.out.2.2.2.2.2)
 simp only [List.length_nil] at z0 z1 z2 z3 z4
 have c0 : w1.drew.cell? ⟨o, 12, none⟩ = some (.int .i64 5) := hat.opn.cell 12
 have c1 : w1.drew.cell? ⟨o, 13, none⟩ = some (.map (some S.q.bq)) := hat.opn.cell 13
 have HM : Hid (partB { p.pure with ports := insG (·.id) (⟨z.id, z.out, z.queue, z.max, []⟩ : PortP) p.pure.ports } = layB 5 (keysOf (fun x : PortD => x.id) S.lq) z.id (portB (⟨z.id, z.out, z.queue, z.max, []⟩ : PortP))) := by
  have h5 := morePort (x := (⟨z.id, z.out, z.queue, z.max, []⟩ : PortP)) HZ.out.2.2.1
  rw [hpu] at h5
  refine h5.trans ?_
  have h6 : p.pure.ports = S.lq.map (fun p => (fun y : PortD => y.toPortP) p.1) := by rw [← hpu]; rfl
  rw [h6]
  exact (lay_more (num := (fun x : PortD => x.id)) (num' := (·.id)) (fun y : PortD => y.toPortP) (fun _ => rfl) portB (⟨⟨z.id, z.out, z.queue, z.max, []⟩, none, 0⟩ : PortD) 5 S.lq).symm
 have hcall := layPort_any 5 S.q.bq (keysOf (fun x : PortD => x.id) S.lq) (⟨⟨z.id, z.out, z.queue, z.max, []⟩, none, 0⟩ : PortD) w1.drew hat.ports.map HB.out.2.2.2.2.1 (by have h5 := (open_fits HZ.out.2.2.1).nPort; rw [keysOf_length]; omega) ⟨Nat.zero_le _, (fun s hs => by cases hs), (fun j u hu => by cases hu)⟩
 have HLY : Hid (∀ e w', LayEnds w1.drew S.q.bq (keysOf (fun x : PortD => x.id) S.lq) (layB 5 (keysOf (fun x : PortD => x.id) S.lq) z.id (portB (⟨z.id, z.out, z.queue, z.max, []⟩ : PortP))) z.id (portVs (⟨⟨z.id, z.out, z.queue, z.max, []⟩, none, 0⟩ : PortD)) 61 e w' → LayEnds w1.drew S.q.bq (keysOf (fun x : PortD => x.id) S.lq) (partB { p.pure with ports := insG (·.id) (⟨z.id, z.out, z.queue, z.max, []⟩ : PortP) p.pure.ports }) z.id (portVs (⟨⟨z.id, z.out, z.queue, z.max, []⟩, none, 0⟩ : PortD)) 61 e w') := fun e w' h5 => by rw [HM.out]; exact h5
 simp only [portVs, List.length_nil] at hcall
 have HC : Hid (∀ w' : World, w'.heap[o]? = w1.drew.heap[o]? → w'.heap[w.heap.size + 1]? = w1.drew.heap[w.heap.size + 1]? → w'.cell? ⟨o, 12, none⟩ = some (.int .i64 5) ∧ w'.cell? ⟨o, 13, none⟩ = some (.map (some S.q.bq)) ∧ w'.cell? ⟨w.heap.size + 1, 0, none⟩ = some (.int .i64 z.id) ∧ w'.cell? ⟨w.heap.size + 1, 1, none⟩ = some (.bool z.out) ∧ w'.cell? ⟨w.heap.size + 1, 2, none⟩ = some (.bool z.queue) ∧ w'.cell? ⟨w.heap.size + 1, 3, none⟩ = some (.int .i64 z.max) ∧ w'.cell? ⟨w.heap.size + 1, 4, none⟩ = some (.slice none 0 0)) := fun w' e1 e2 => ⟨(World.cell?_of_block e1).trans c0, (World.cell?_of_block e1).trans c1, (World.cell?_of_block e2).trans z0, (World.cell?_of_block e2).trans z1, (World.cell?_of_block e2).trans z2, (World.cell?_of_block e2).trans z3, (World.cell?_of_block e2).trans z4⟩
 clear hb1 hyes hat hpu HM
 go_wp2_with fail
 refine wp_region_held_drew (S := fun w' => w'.cell? ⟨o, 12, none⟩ = some (.int .i64 5) ∧ w'.cell? ⟨o, 13, none⟩ = some (.map (some S.q.bq)) ∧ w'.cell? ⟨w.heap.size + 1, 0, none⟩ = some (.int .i64 z.id) ∧ w'.cell? ⟨w.heap.size + 1, 1, none⟩ = some (.bool z.out) ∧ w'.cell? ⟨w.heap.size + 1, 2, none⟩ = some (.bool z.queue) ∧ w'.cell? ⟨w.heap.size + 1, 3, none⟩ = some (.int .i64 z.max) ∧ w'.cell? ⟨w.heap.size + 1, 4, none⟩ = some (.slice none 0 0)) (by kernel_rfl) (HC.out _ rfl rfl) (fun hHeld => ?_)
 refine tk 0 (v := ?_) ?_ hHeld ?_; rotate_left; (intro w0 hS0; obtain ⟨q0, q1, q2, q3, q4, q5, q6⟩ := hS0; go_simp; try with_reducible rfl); simp only [pt, sb, s0, s1]
 refine tk 1 (v := ?_) ?_ hHeld ?_; rotate_left; (intro w0 hS0; obtain ⟨q0, q1, q2, q3, q4, q5, q6⟩ := hS0; go_simp; try with_reducible rfl); simp only [pt, sb, s0, s1]
 refine tk 2 (v := ?_) ?_ hHeld ?_; rotate_left; (intro w0 hS0; obtain ⟨q0, q1, q2, q3, q4, q5, q6⟩ := hS0; go_simp; try with_reducible rfl); simp only [pt, sb, s0, s1]
 refine tk 3 (v := ?_) ?_ hHeld ?_; rotate_left; (intro w0 hS0; obtain ⟨q0, q1, q2, q3, q4, q5, q6⟩ := hS0; go_simp; try with_reducible rfl); simp only [pt, sb, s0, s1]
 refine tk 4 (v := ?_) ?_ hHeld ?_; rotate_left; (intro w0 hS0; obtain ⟨q0, q1, q2, q3, q4, q5, q6⟩ := hS0; go_simp; try with_reducible rfl); simp only [pt, sb, s0, s1]
 refine tk 5 (v := ?_) ?_ hHeld ?_; rotate_left; (intro w0 hS0; obtain ⟨q0, q1, q2, q3, q4, q5, q6⟩ := hS0; go_simp; try with_reducible rfl); simp only [pt, sb, s0, s1]
 refine tk 6 (v := ?_) ?_ hHeld ?_; rotate_left; (intro w0 hS0; obtain ⟨q0, q1, q2, q3, q4, q5, q6⟩ := hS0; go_simp; try with_reducible rfl); simp only [pt, sb, s0, s1]
 refine tk 7 (v := ?_) ?_ hHeld ?_; rotate_left; (intro w0 hS0; obtain ⟨q0, q1, q2, q3, q4, q5, q6⟩ := hS0; go_simp; try with_reducible rfl); simp only [pt, sb, s0, s1]
 refine wpAnyH_ready (rs := [8]) (by kernel_rfl) (by simp) ?_
 refine AllReadyH.cons rfl (fun K hK => ?_) AllReadyH.nil
 simp only [List.getElem_toArray, List.getElem_cons_zero, List.getElem_cons_succ]
 rw [if_pos (by rfl)]
 go_wp2_with fail
 refine hcall.mono ?_
 clear hcall c0 c1 hHeld z0 z1 z2 z3 z4
 intro e w2 hE
 replace hE := HLY.out e w2 hE
 clear HLY
 cases hok : partB { p.pure with ports := insG (·.id) (⟨z.id, z.out, z.queue, z.max, []⟩ : PortP) p.pure.ports }
 ·rw [hok] at hE
  obtain ⟨rfl, hb2, -⟩ := hE
  have HZ2 : Hid (Below w.heap.size w w2 ∧ w2.heap[w.heap.size + 1 + 1]? = some (.cells zero8 32 (0, 0)) ∧ True) := ⟨HZ.out.1.trans ((hb2 rfl).mono HZ.out.1.size), ((hb2 rfl).block _ (Array.getElem?_eq_some_iff.1 HZ.out.2.1).1).trans HZ.out.2.1, trivial⟩
  have HN : Hid (withR p.pure { p.pure with ports := insG (·.id) (⟨z.id, z.out, z.queue, z.max, []⟩ : PortP) p.pure.ports } = none) := withR_no hok
  refine hK.out _ _ (HC.out w2 ((hb2 rfl).block _ (Array.getElem?_eq_some_iff.1 HZ.out.2.2.2.1.opn).1) ((hb2 rfl).block _ (by have := HZ.out.2.2.2.2.2; omega))) (fun hHeld => ?_)
  clear hK K
  try simp only [pt, sb, s0, s1]
  refine tk 9 (v := ?_) ?_ hHeld ?_; rotate_left; (intro w0 hS0; obtain ⟨q0, q1, q2, q3, q4, q5, q6⟩ := hS0; go_simp; try with_reducible rfl); simp only [pt, sb, s0, s1]
  refine tk 10 (v := ?_) ?_ hHeld ?_; rotate_left; (intro w0 hS0; obtain ⟨q0, q1, q2, q3, q4, q5, q6⟩ := hS0; go_simp; try with_reducible rfl); simp only [pt, sb, s0, s1]
  refine wpAnyH_done (by kernel_rfl) ?_ _
  clear hHeld HC
  clear hok hb2
  go_wp2_with (refine wpList_store_row rfl 32 (Operand.tmp 4) (Operand.tmp 25) rfl (w.heap.size + 1 + 1) _ _ zero8 rfl rfl HZ2.out.2.1 (by kernel_rfl) rfl (by kernel_rfl) ?_)
  refine bodyPost_ret (v := .tuple #[.agg zero8, .bool false]) (results_row_tmp Tryz.results45 _ _ (w.heap.size + 1 + 1) _ _ _ _ (by rfl) (setRow_heap _ _ _ _ _ _ HZ2.out.2.1) Tryz.underlying32 rfl (by kernel_rfl)) rfl ?_
  exact turnRes_no HN.out (below_setRow HZ2.out.1 (by omega) _)
 rw [hok] at hE
 obtain ⟨g, hat2, hb2⟩ := HZ.out.2.2.2.1.layPort (x := (⟨⟨z.id, z.out, z.queue, z.max, []⟩, none, 0⟩ : PortD)) HZ.out.2.2.2.2.2.2 (World.ownsRow_nil _ _ _ _) (fun c hc => by cases hc) hE
 obtain ⟨rfl, -, -⟩ := hE
 have hlt := HZ.out.2.2.2.2.2.1
 have HN : Hid (withR p.pure { p.pure with ports := insG (·.id) (⟨z.id, z.out, z.queue, z.max, []⟩ : PortP) p.pure.ports } = some { p.pure with ports := insG (·.id) (⟨z.id, z.out, z.queue, z.max, []⟩ : PortP) p.pure.ports }) := withR_yes (by rw [← HZ.out.2.2.2.2.1]; exact partB_true HZ.out.2.2.1) hok
 have H2 : Hid (OpenAt w2 W.heap.size o ({ S with lq := insT (fun x : PortD => x.id) ((⟨⟨z.id, z.out, z.queue, z.max, []⟩, none, 0⟩ : PortD), g) S.lq } : OpenD) ∧ Below w.heap.size w w2 ∧ w2.heap[w.heap.size + 1 + 1]? = some (.cells zero8 32 (0, 0)) ∧ W.heap.size ≤ w2.heap.size) := ⟨hat2, HZ.out.1.trans (hb2.mono (by omega)), (hb2.block _ hlt).trans HZ.out.2.1, by have := hb2.size; have := HZ.out.2.2.2.2.2.2; omega⟩
 have HF : Hid (({ S with lq := insT (fun x : PortD => x.id) ((⟨⟨z.id, z.out, z.queue, z.max, []⟩, none, 0⟩ : PortD), g) S.lq } : OpenD).pure = { p.pure with ports := insG (·.id) (⟨z.id, z.out, z.queue, z.max, []⟩ : PortP) p.pure.ports } ∧ ({ S with lq := insT (fun x : PortD => x.id) ((⟨⟨z.id, z.out, z.queue, z.max, []⟩, none, 0⟩ : PortD), g) S.lq } : OpenD).Fits) := by
  have h5 := morePort (x := (⟨z.id, z.out, z.queue, z.max, []⟩ : PortP)) HZ.out.2.2.1
  rw [HZ.out.2.2.2.2.1, hok] at h5
  have e1 : ({ S with lq := insT (fun x : PortD => x.id) ((⟨⟨z.id, z.out, z.queue, z.max, []⟩, none, 0⟩ : PortD), g) S.lq } : OpenD).pure = { p.pure with ports := insG (·.id) (⟨z.id, z.out, z.queue, z.max, []⟩ : PortP) p.pure.ports } := by
   have h6 : p.pure.ports = S.lq.map (fun p => (fun y : PortD => y.toPortP) p.1) := by rw [← HZ.out.2.2.2.2.1]; rfl
   have h7 : (insT (fun x : PortD => x.id) ((⟨⟨z.id, z.out, z.queue, z.max, []⟩, none, 0⟩ : PortD), g) S.lq).map (fun p => (fun y : PortD => y.toPortP) p.1) = insG (·.id) (⟨z.id, z.out, z.queue, z.max, []⟩ : PortP) p.pure.ports := by
    rw [insT_fst (num := (fun x : PortD => x.id)) (num' := (·.id)) (fun y : PortD => y.toPortP) (fun _ => rfl), ← h6]
   rw [← HZ.out.2.2.2.2.1] at h7 ⊢
   unfold OpenD.pure at h7 ⊢
   simp only at h7 ⊢
   rw [← h7]
  exact ⟨e1, open_fits (by rw [e1]; exact (partB_iff _).1 hok)⟩
 refine hK.out _ _ (HC.out w2 (H2.out.1.opn.trans HZ.out.2.2.2.1.opn.symm) (hb2.block _ (by omega))) (fun hHeld => ?_)
 clear hK K
 try simp only [pt, sb, s0, s1]
 refine tk 9 (v := ?_) ?_ hHeld ?_; rotate_left; (intro w0 hS0; obtain ⟨q0, q1, q2, q3, q4, q5, q6⟩ := hS0; go_simp; try with_reducible rfl); simp only [pt, sb, s0, s1]
 refine tk 10 (v := ?_) ?_ hHeld ?_; rotate_left; (intro w0 hS0; obtain ⟨q0, q1, q2, q3, q4, q5, q6⟩ := hS0; go_simp; try with_reducible rfl); simp only [pt, sb, s0, s1]
 refine wpAnyH_done (by kernel_rfl) ?_ _
 clear hHeld HC
 clear hat2 hb2 hok
 go_wp2_with fail
 refine (toldPart_any o W.heap.size _ w2 H2.out.1 HF.out.2).mono ?_
 rintro e w3 ⟨r, rfl, ho3, hp3, hb3⟩
 have H3 : Hid (PartOwn w3 W.heap.size r ∧ Below w.heap.size w w3 ∧ w3.heap[w.heap.size + 1 + 1]? = some (.cells zero8 32 (0, 0)) ∧ r.pure = { p.pure with ports := insG (·.id) (⟨z.id, z.out, z.queue, z.max, []⟩ : PortP) p.pure.ports }) := ⟨ho3, H2.out.2.1.trans (hb3.mono H2.out.2.1.size), (hb3.block _ (Array.getElem?_eq_some_iff.1 H2.out.2.2.1).1).trans H2.out.2.2.1, hp3.trans HF.out.1⟩
 clear ho3 hp3 hb3
 go_wp2_with (refine wpList_store_row rfl 32 (Operand.tmp 4) (Operand.tmp 27) rfl (w.heap.size + 1 + 1) _ _ (PartD.cells r) rfl rfl H3.out.2.2.1 (by kernel_rfl) rfl (by kernel_rfl) ?_)
 refine bodyPost_ret (v := .tuple #[.agg (PartD.cells r), .bool true]) (results_row_tmp Tryz.results45 _ _ (w.heap.size + 1 + 1) _ _ _ _ (by rfl) (setRow_heap _ _ _ _ _ _ H3.out.2.2.1) Tryz.underlying32 rfl (by kernel_rfl)) rfl ?_
 rw [HN.out]
 exact ⟨r, rfl, (H3.out.1.lower (by omega)).same fun b hb => setRow_other _ _ _ _ (by have := (H3.out.1.lt b hb).1; omega), H3.out.2.2.2, below_setRow H3.out.2.1 (by omega) _⟩
end Go.Proofs.YtkbcplnlehdjfaaGreat

/- A list that is made anew by appending, and a partition with it. (Made by mkwithnb.py.) -/
namespace Go.Proofs.YtkbcplnlehdjfaaGreat
open Go.RowKit Go.Maps
section
variable {α : Type} {num : α → Int}
theorem insG_map {β : Type} {num' : β → Int} (f : α → β) (hf : ∀ y, num' (f y) = num y) (x : α) : ∀ l : List α, (insG num x l).map f = insG num' (f x) (l.map f)
 | [] => rfl
 | y :: r => by
  simp only [insG, List.map_cons, hf]
  split
  ·simp
  ·simp [insG_map f hf x r]
theorem insG_all {x : α} : ∀ {l : List α}, (∀ y ∈ l, ¬ num x < num y) → insG num x l = l ++ [x]
 | [], _ => rfl
 | y :: r, h => by
  simp only [insG, if_neg (h y (by simp)), List.cons_append]
  rw [insG_all fun z hz => h z (by simp [hz])]
theorem insG_more {x : α} : ∀ {l r : List α}, (∃ y ∈ l, num x < num y) → insG num x (l ++ r) = insG num x l ++ r
 | [], _, h => by obtain ⟨y, hy, _⟩ := h; cases hy
 | y :: l, r, h => by
  simp only [List.cons_append, insG]
  split
  ·rfl
  ·rename_i hn
   rw [insG_more, List.cons_append]
   obtain ⟨z, hz, hlt⟩ := h
   rcases List.mem_cons.1 hz with rfl | hz
   ·exact absurd hlt hn
   ·exact ⟨z, hz, hlt⟩
theorem insG_first {x y : α} {l : List α} (h : ∀ z ∈ l, ¬ num x < num z) (hy : num x < num y) : insG num x (l ++ [y]) = l ++ [x] ++ [y] := by
 induction l with
 | nil => simp [insG, hy]
 | cons z r ih =>
  simp only [List.cons_append, insG, if_neg (h z (by simp))]
  rw [ih fun u hu => h u (by simp [hu])]
theorem insG_perm (x : α) : ∀ l : List α, (insG num x l).Perm (x :: l)
 | [] => List.Perm.refl _
 | y :: r => by
  simp only [insG]
  split
  ·exact List.Perm.refl _
  ·exact (List.Perm.cons y (insG_perm x r)).trans (List.Perm.swap x y r)
/-- What stands in the list behind k rounds. -/
def AccIs (num : α → Int) (x : α) (l : List α) (k : Nat) (dn : Bool) (acc : List α) : Prop :=
 (dn = false ∧ acc = l.take k ∧ ∀ y ∈ l.take k, ¬ num x < num y) ∨ (dn = true ∧ acc = insG num x (l.take k) ∧ ∃ y ∈ l.take k, num x < num y)
theorem AccIs.start (x : α) (l : List α) : AccIs num x l 0 false [] := .inl ⟨rfl, by simp, fun y hy => by simp at hy⟩
theorem AccIs.on {x y : α} {l : List α} {k : Nat} {acc : List α} (h : AccIs num x l k true acc) (hy : l[k]? = some y) : AccIs num x l (k + 1) true (acc ++ [y]) := by
 rcases h with ⟨h, -⟩ | ⟨-, rfl, z, hz, hlt⟩
 ·cases h
 ·rw [AccIs, take_up hy]
  exact .inr ⟨rfl, (insG_more ⟨z, hz, hlt⟩).symm, z, List.mem_append_left _ hz, hlt⟩
theorem AccIs.past {x y : α} {l : List α} {k : Nat} {acc : List α} (h : AccIs num x l k false acc) (hy : l[k]? = some y) (hn : ¬ num x < num y) : AccIs num x l (k + 1) false (acc ++ [y]) := by
 rcases h with ⟨-, rfl, h⟩ | ⟨h, -⟩
 ·rw [AccIs, take_up hy]
  refine .inl ⟨rfl, rfl, fun z hz => ?_⟩
  rcases List.mem_append.1 hz with hz | hz
  ·exact h z hz
  ·rw [List.mem_singleton.1 hz]; exact hn
 ·cases h
theorem AccIs.here {x y : α} {l : List α} {k : Nat} {acc : List α} (h : AccIs num x l k false acc) (hy : l[k]? = some y) (hn : num x < num y) : AccIs num x l (k + 1) true (acc ++ [x] ++ [y]) := by
 rcases h with ⟨-, rfl, h⟩ | ⟨h, -⟩
 ·rw [AccIs, take_up hy]
  exact .inr ⟨rfl, (insG_first h hn).symm, y, by simp, hn⟩
 ·cases h
theorem AccIs.done {x : α} {l : List α} {k : Nat} {acc : List α} (h : AccIs num x l k true acc) (hk : ¬ k < l.length) : acc = insG num x l := by
 rcases h with ⟨h, -⟩ | ⟨-, rfl, -⟩
 ·cases h
 ·rw [List.take_of_length_le (by omega)]
theorem AccIs.last {x : α} {l : List α} {k : Nat} {acc : List α} (h : AccIs num x l k false acc) (hk : ¬ k < l.length) : acc ++ [x] = insG num x l := by
 rcases h with ⟨-, rfl, h⟩ | ⟨h, -⟩
 ·rw [List.take_of_length_le (by omega)] at h ⊢
  exact (insG_all h).symm
 ·cases h
theorem AccIs.le {x : α} {l : List α} {k : Nat} {dn : Bool} {acc : List α} (h : AccIs num x l k dn acc) : acc.length ≤ l.length + 1 := by
 rcases h with ⟨-, rfl, -⟩ | ⟨-, rfl, -⟩
 ·rw [List.length_take]; omega
 ·rw [insG_length, List.length_take]; omega
end
/-- The list, and beside it the thing in its box. -/
structure ListIn {α : Type} (K : Kind α) (T : TypeId) (XV : Array Value) (W w : World) (acc : List α) (a : Option Addr) (c : Nat) : Prop where
 own : w.ownsRow W.heap.size T K.n (.slice a acc.length c) acc.length (K.flat acc)
 ne : ∀ g ∈ blk a, g ≠ W.heap.size + 1
 bel : Below W.heap.size W w
 box : w.heap[W.heap.size + 1]? = some (.cells XV T (0, 0))
theorem ListIn.start {α : Type} {K : Kind α} {T : TypeId} {XV : Array Value} {W : World} : ListIn K T XV W ((W.alloc (.cells #[] T)).alloc (.cells XV T)) [] (some ⟨W.heap.size, 0, none⟩) 0 := by
 have b1 : Below W.heap.size W (W.alloc (.cells #[] T)) := (Below.refl _ _).alloc (Nat.le_refl _) _
 refine ⟨own_empty ((heap_alloc_old _ _ (by simp)).trans (heap_alloc_new _ _)) (Nat.le_refl _), fun g hg => by simp [blk] at hg; omega, b1.alloc b1.size _, heap_alloc2_new _ _ _⟩
/-- One more, from a block that is made for it. -/
theorem ListIn.add {α : Type} {K : Kind α} {T : TypeId} {XV : Array Value} {W w : World} {acc : List α} {a : Option Addr} {c : Nat} (h : ListIn K T XV W w acc a c) (t : TypeId) (bytes : Nat) {z0 : Value} {P : Program} (ht : P.underlying t = some (.slice T))
  (hi : (P.info? T).map (fun i => (i.zero, i.size, i.bytes)) = some (some z0, K.n, bytes)) (hz : z0.cells.size = K.n) (hn : 0 < K.n) (hby : bytes ≤ 1000) (z : α) (zs : Array Value) (hzs : zs.toList = K.vals z) (h1 : ∀ u ∈ K.vals z, u.oneCell' = true) (hl : acc.length ≤ 2000000) :
  ∃ a' c' w', (Builtin.append_ #[t, t] t #[.slice a acc.length c, .slice (some ⟨w.heap.size, 0, none⟩) 1 1]).run P (w.alloc (.cells zs T)) = .ok (.slice a' (acc.length + 1) c') w' ∧ ListIn K T XV W w' (acc ++ [z]) a' c' := by
 obtain ⟨i, hi, e⟩ := Option.map_eq_some_iff.1 hi
 simp only [Prod.mk.injEq] at e
 have b1 : Below w.heap.size w (w.alloc (.cells zs T)) := (Below.refl _ _).alloc (Nat.le_refl _) _
 have b2 := h.bel.trans (b1.mono h.bel.size)
 have hlt := (Array.getElem?_eq_some_iff.1 h.box).1
 obtain ⟨a', c', w', hr, ho, hg, hq⟩ := append_more (P := P) (w.alloc (.cells zs T)) W.heap.size t t T i z0 K.n bytes ht hi e.1 e.2.1 e.2.2 hz hn a acc.length c _ (own_below h.own b1) (some ⟨w.heap.size, 0, none⟩) 1 1 (K.vals z) (by rw [← hzs]; exact src_block (heap_alloc_new _ _)) (by rw [K.len, Nat.one_mul]) h1 (by omega) hby b2.size
 refine ⟨a', c', w', hr, ⟨?_, fun g hg2 => ?_, b2.grown hg b2.size fun k e => (own_lt h.own (own_block e)).1, ?_⟩⟩
 ·have e1 : (acc ++ [z]).length = acc.length + 1 := by simp
  rw [e1, K.flat_append]
  have e2 : K.flat [z] = K.vals z := by simp [Kind.flat]
  rw [e2]
  exact ho
 ·rcases hq g hg2 with h5 | h5
  ·exact h.ne g h5
  ·rw [h5]; have := b1.size; omega
 ·refine (hg.block _ (by simp; omega) (fun e => ?_)).trans ((b1.block _ hlt).trans h.box)
  exact h.ne _ (own_block e.symm) rfl
theorem nodup_swap2 {Z A A' C C' R : List Nat} (h : (Z ++ (A ++ (C ++ R))).Nodup) (hA : A'.Nodup) (hC : C'.Nodup) (h1 : ∀ g ∈ A', g ∉ Z ++ (A ++ (C ++ R)) ∧ g ∉ C') (h2 : ∀ g ∈ C', g ∈ C ∨ g ∉ Z ++ (A ++ (C ++ R))) : (Z ++ (A' ++ (C' ++ R))).Nodup := by
 simp only [List.mem_append, not_or] at h1 h2
 simp only [List.nodup_append, List.mem_append] at h ⊢
 obtain ⟨hz, ⟨-, ⟨-, hR, hCR⟩, -⟩, hzz⟩ := h
 refine ⟨hz, ⟨hA, ⟨hC, hR, fun a ha b hb e => ?_⟩, fun a ha b hb e => ?_⟩, fun a ha b hb e => ?_⟩
 ·rcases h2 a ha with h5 | h5
  ·exact hCR a h5 b hb e
  ·exact h5.2.2.2 (e ▸ hb)
 ·rcases hb with hb | hb
  ·exact (h1 a ha).2 (e ▸ hb)
  ·exact (h1 a ha).1.2.2.2 (e ▸ hb)
 ·rcases hb with hb | hb | hb
  ·exact (h1 b hb).1.1 (e ▸ ha)
  ·rcases h2 b hb with h5 | h5
   ·exact hzz a ha b (.inr (.inl h5)) e
   ·exact h5.1 (e ▸ ha)
  ·exact hzz a ha b (.inr (.inr hb)) e
theorem one_port {x : PortD} : ∀ u ∈ portK.vals x, u.oneCell' = true := fun u hu => by
 simp only [portK, portVals, List.mem_cons, List.not_mem_nil, or_false] at hu
 rcases hu with rfl | rfl | rfl | rfl | rfl <;> rfl
theorem PartOwn.newPort {w w' : World} {base B : Nat} {q : PartD} {l : List PortD} {a' : Option Addr} {c' : Nat} (h : PartOwn w base q) (hb : base ≤ B) (hB : ∀ g ∈ q.blocks, g < B) (hs : ∀ g ∈ q.blocks, w'.heap[g]? = w.heap[g]?)
  (ho : w'.ownsRow B 61 5 (.slice a' l.length c') l.length (portK.flat l)) (hm : ∀ x ∈ l, portN.Mine w' base x) (hn : (l.filterMap portN.kid).Nodup) (hk : ∀ g ∈ l.filterMap portN.kid, g ∈ q.ports.filterMap portN.kid ∨ g ∉ q.blocks) (hk2 : ∀ g ∈ l.filterMap portN.kid, g < B) : PartOwn w' base ({ q with ports := l, portA := a', portC := c' } : PartD) := by
 refine ⟨own_same h.procs fun g hg => hs g (by simp [PartD.blocks, hg]), own_same h.sems fun g hg => hs g (by simp [PartD.blocks, hg]), own_same h.events fun g hg => hs g (by simp [PartD.blocks, hg]), own_same h.boards fun g hg => hs g (by simp [PartD.blocks, hg]), own_same h.buffers fun g hg => hs g (by simp [PartD.blocks, hg]), own_low ho hb, fun x hx => (h.mineP x hx).same fun g hg => hs g ?_, fun x hx => (h.mineF x hx).same fun g hg => hs g ?_, hm, ?_⟩
 ·simp only [PartD.blocks, List.mem_append, List.mem_filterMap]
  exact .inr (.inl ⟨x, hx, hg⟩)
 ·simp only [PartD.blocks, List.mem_append, List.mem_filterMap]
  exact .inr (.inr (.inr (.inr (.inr (.inr (.inl ⟨x, hx, hg⟩))))))
 ·have h5 := h.nodup
  have h6 : ∀ g ∈ blk a', g ∉ q.blocks ∧ g ∉ l.filterMap portN.kid := fun g hg => ⟨fun hm => by have := (own_lt ho hg).1; have := hB g hm; omega, fun hm => by have := (own_lt ho hg).1; have := hk2 g hm; omega⟩
  have e1 : ({ q with ports := l, portA := a', portC := c' } : PartD).blocks = (blk q.procA ++ (q.procs.filterMap procN.kid ++ (blk q.semA ++ (blk q.eventA ++ (blk q.boardA ++ (blk q.bufferA ++ (q.buffers.filterMap bufferN.kid))))))) ++ (blk a' ++ (l.filterMap portN.kid ++ ([] : List Nat))) := by simp [PartD.blocks]
  have e3 : q.blocks = (blk q.procA ++ (q.procs.filterMap procN.kid ++ (blk q.semA ++ (blk q.eventA ++ (blk q.boardA ++ (blk q.bufferA ++ (q.buffers.filterMap bufferN.kid))))))) ++ (blk q.portA ++ (q.ports.filterMap portN.kid ++ ([] : List Nat))) := by simp [PartD.blocks]
  rw [e1]
  rw [e3] at h5 h6 hk
  exact nodup_swap2 h5 (blk_nodup _) hn h6 hk
end Go.Proofs.YtkbcplnlehdjfaaGreat
