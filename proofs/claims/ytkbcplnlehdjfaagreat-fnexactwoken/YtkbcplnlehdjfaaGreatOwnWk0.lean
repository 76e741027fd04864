/- What the proof leans on, part 0: LawX, StB, ProcOfI, OpenT, StoppedS, OpenF, WkPure. -/
import Derived.Test.YtkbcplnlehdjfaaGreatOwnR1
import Derived.Test.YtkbcplnlehdjfaaGreatOwnR4
import Derived.Test.YtkbcplnlehdjfaaGreatOwnR26
import Derived.Test.YtkbcplnlehdjfaaGreatOwnR29
import Derived.Test.YtkbcplnlehdjfaaGreatOwnR31
import Derived.Test.YtkbcplnlehdjfaaGreatOwnR33
import Derived.Test.YtkbcplnlehdjfaaGreatOwnR34
import Derived.Deep.MidRow

namespace Go.Proofs.YtkbcplnlehdjfaaGreat
open Go.RowKit
theorem cnt_op (l : List OpD) : cntL (fun _ : OpD => 4) l = l.length * 4 := cntL_const (fun _ => rfl) l
theorem cnt_str (l : List ByteArray) : cntL (fun _ : ByteArray => 1) l = l.length * 1 := cntL_const (fun _ => rfl) l
theorem cnt_proc : ∀ l : List ProcD, cntL cProc l ≤ 11 * (l.length + sumL (fun x : ProcD => x.prog.length) l)
 | [] => by simp [cntL]
 | x :: r => by
  have h1 := cnt_proc r
  have h2 : cProc x = 2 + cntL (fun _ : OpD => 4) x.prog + 9 := rfl
  have h3 := cnt_op x.prog
  simp only [cntL, List.length_cons, sumL, List.map_cons, List.sum_cons] at h1 ⊢
  omega
theorem cnt_buffer : ∀ l : List BufferD, cntL cBuffer l ≤ 11 * (l.length + sumL (fun x : BufferD => x.items.length) l)
 | [] => by simp [cntL]
 | x :: r => by
  have h1 := cnt_buffer r
  have h2 : cBuffer x = 2 + cntL (fun _ : ByteArray => 1) x.items := rfl
  have h3 := cnt_str x.items
  simp only [cntL, List.length_cons, sumL, List.map_cons, List.sum_cons] at h1 ⊢
  omega
theorem cnt_port : ∀ l : List PortD, cntL cPort l ≤ 11 * (l.length + sumL (fun x : PortD => x.items.length) l)
 | [] => by simp [cntL]
 | x :: r => by
  have h1 := cnt_port r
  have h2 : cPort x = 4 + cntL (fun _ : ByteArray => 1) x.items := rfl
  have h3 := cnt_str x.items
  simp only [cntL, List.length_cons, sumL, List.map_cons, List.sum_cons] at h1 ⊢
  omega
theorem cnt_part (p : PartD) : cntPart p ≤ 11 * p.pure.total := by
 rw [PartD.total_is]
 unfold cntPart
 have h1 := cnt_proc p.procs
 have h2 := cnt_buffer p.buffers
 have h3 := cnt_port p.ports
 have h4 : cntL (fun _ : SemD => 3) p.sems = p.sems.length * 3 := cntL_const (fun _ => rfl) _
 have h5 : cntL (fun _ : EventD => 2) p.events = p.events.length * 2 := cntL_const (fun _ => rfl) _
 have h6 : cntL (fun _ : BoardD => 3) p.boards = p.boards.length * 3 := cntL_const (fun _ => rfl) _
 omega
theorem small_cnt {p : PartD} (h : p.pure.Small) : p.Cnt := by
 refine ⟨by simpa [PartD.pure] using h.nProc, h.nSem, h.nEvent, h.nBoard, by simpa [PartD.pure] using h.nBuffer, by simpa [PartD.pure] using h.nPort, fun x hx => ?_, fun x hx => ?_, fun x hx => ?_⟩
 ·exact (h.procs x.toProcP (List.mem_map.2 ⟨x, hx, rfl⟩)).1.1
 ·exact (h.buffers x.toBufferP (List.mem_map.2 ⟨x, hx, rfl⟩)).2.1
 ·exact (h.ports x.toPortP (List.mem_map.2 ⟨x, hx, rfl⟩)).2.1
theorem mine_below {α : Type} {N : Nest α} {w w' : World} {base : Nat} {x : α} (h : N.Mine w base x) (hb : Below w.heap.size w w') : N.Mine w' base x := h.same fun g hk => hb.block g (h.lt hk).2
def SrcS (p : PartD) (w W : World) : Prop := W.heap[w.heap.size]? = some (.cells p.cells 73 (0, 0)) ∧ Below w.heap.size w W
def PartIn (W : World) (X b : Nat) (q : PartD) : Prop := PartBox W X q ∧ PartOwn W b q
def ProcIs (W : World) (X b : Nat) (x : ProcD) : Prop := ProcBox W X x ∧ procN.Mine W b x
section
variable {p q : PartD} {x : ProcD} {w W W' : World} {X b : Nat} {bs : List Nat}
theorem SrcS.below (h : SrcS p w W) (hb : Below W.heap.size W W') : SrcS p w W' := ⟨(hb.block _ (Array.getElem?_eq_some_iff.1 h.1).1).trans h.1, h.2.trans (hb.mono h.2.size)⟩
theorem SrcS.kept (h : SrcS p w W) (hk : KeptBut W W' bs) (hs : ∀ g ∈ bs, w.heap.size < g) : SrcS p w W' := ⟨(hk.same _ (Array.getElem?_eq_some_iff.1 h.1).1 fun hm => by have := hs _ hm; omega).trans h.1, h.2.trans (hk.below h.2.size fun g hg => by have := hs g hg; omega)⟩
theorem PartIn.below (h : PartIn W X b q) (hb : Below W.heap.size W W') : PartIn W' X b q := ⟨h.1.below hb, h.2.below hb⟩
theorem PartIn.kept (h : PartIn W X b q) (hk : KeptBut W W' bs) (hs : X ∉ bs) (ho : ∀ g ∈ q.blocks, g ∉ bs) : PartIn W' X b q := ⟨(hk.same _ (Array.getElem?_eq_some_iff.1 h.1).1 hs).trans h.1, h.2.same fun g hg => hk.same g (h.2.lt g hg).2 (ho g hg)⟩
theorem ProcIs.below (h : ProcIs W X b x) (hb : Below W.heap.size W W') : ProcIs W' X b x := ⟨h.1.below hb, mine_below h.2 hb⟩
theorem ProcIs.kept (h : ProcIs W X b x) (hk : KeptBut W W' bs) (hs : X ∉ bs) (ho : ∀ g ∈ blk x.progA, g ∉ bs) : ProcIs W' X b x := ⟨(hk.same _ (Array.getElem?_eq_some_iff.1 h.1).1 hs).trans h.1, h.2.same fun g hg => hk.same g (h.2.lt hg).2 (ho g (mem_blk.2 hg))⟩
theorem PartBox.lt {W : World} {X : Nat} {q : PartD} (h : PartBox W X q) : X < W.heap.size := (Array.getElem?_eq_some_iff.1 h).1
theorem ProcBox.lt {W : World} {X : Nat} {x : ProcD} (h : ProcBox W X x) : X < W.heap.size := (Array.getElem?_eq_some_iff.1 h).1
end
end Go.Proofs.YtkbcplnlehdjfaaGreat

/- One process of a partition is turned: what becomes of it, and of the memory. -/
namespace Go.Proofs.YtkbcplnlehdjfaaGreat
open Go.RowKit
def turnP (id : Int) (f : ProcP → ProcP) (l : List ProcP) : List ProcP := l.map fun x => if x.id = id then f x else x
def zeroPart : PartP := ⟨0, 0, [], [], [], [], [], []⟩
def TurnRes (w : World) (r : Option PartP) (e : Ending) (w' : World) : Prop := ∃ q : PartD, e = .returned (.tuple #[.agg q.cells, .bool r.isSome]) ∧ PartOwn w' w.heap.size q ∧ q.pure = r.getD zeroPart ∧ Below w.heap.size w w'
theorem own_zero (w : World) (base : Nat) : PartOwn w base ⟨0, 0, [], none, 0, [], none, 0, [], none, 0, [], none, 0, [], none, 0, [], none, 0⟩ :=
 ⟨World.ownsRow_nil _ _ _ _, World.ownsRow_nil _ _ _ _, World.ownsRow_nil _ _ _ _, World.ownsRow_nil _ _ _ _, World.ownsRow_nil _ _ _ _, World.ownsRow_nil _ _ _ _, (fun x hx => by cases hx), (fun x hx => by cases hx), (fun x hx => by cases hx), by simp [PartD.blocks, blk]⟩
theorem turnRes_no {w w' : World} {r : Option PartP} (h : r = none) (hb : Below w.heap.size w w') : TurnRes w r (.returned (.tuple #[.agg #[.int .i64 0, .int .i64 0, .slice none 0 0, .slice none 0 0, .slice none 0 0, .slice none 0 0, .slice none 0 0, .slice none 0 0], .bool false])) w' := by
 subst h
 exact ⟨_, rfl, own_zero _ _, rfl, hb⟩
theorem things_rise {α : Type} {num : α → Int} {ok : α → Bool} : ∀ {l : List α} {last : Int}, thingsB num ok last l = true → (∀ x ∈ l, last < num x) ∧ l.Pairwise (fun x y => num x < num y)
 | [], _, _ => ⟨(fun x hx => by cases hx), List.Pairwise.nil⟩
 | x :: r, last, h => by
  simp only [thingsB, Bool.and_eq_true, decide_eq_true_eq] at h
  obtain ⟨h1, h2⟩ := things_rise h.2
  refine ⟨fun y hy => ?_, List.Pairwise.cons (fun y hy => h1 y hy) h2⟩
  rcases List.mem_cons.1 hy with rfl | hy
  ·exact h.1.1.2
  ·have := h1 y hy; have := h.1.1.2; omega
theorem turn_set {l : List ProcP} {f : ProcP → ProcP} {id : Int} {n : Nat} {y : ProcP} (hr : l.Pairwise (fun x y => x.id < y.id)) (hn : l[n]? = some y) (hy : y.id = id) : turnP id f l = l.set n (f y) := by
 induction l generalizing n with
 | nil => simp at hn
 | cons x r ih =>
  obtain ⟨h1, h2⟩ := List.pairwise_cons.1 hr
  cases n with
  | zero =>
   simp only [List.getElem?_cons_zero, Option.some.injEq] at hn
   subst hn
   have e : turnP id f r = r := by
    unfold turnP
    conv => rhs; rw [← List.map_id r]
    refine List.map_congr_left fun z hz => ?_
    rw [if_neg (by have := h1 z hz; omega)]
    rfl
   simp only [List.set_cons_zero]
   show (if x.id = id then f x else x) :: turnP id f r = _
   rw [if_pos hy, e]
  | succ n =>
   simp only [List.getElem?_cons_succ] at hn
   have hlt := h1 y (List.mem_of_getElem? hn)
   simp only [List.set_cons_succ]
   show (if x.id = id then f x else x) :: turnP id f r = _
   rw [if_neg (by omega), ih h2 hn]
def SmallP (x : ProcP) : Prop := (x.prog.length ≤ 1048576 ∧ (∀ o ∈ x.prog, o.2.2.2.size ≤ 1048576) ∧ x.held.size ≤ 1048576 ∧ x.got.size ≤ 1048576) ∧ (Lit.int .i64 x.id).wf = true ∧ (Lit.int .i64 x.on).wf = true ∧ (Lit.int .i64 x.since).wf = true
theorem zero_small : zeroPart.Small := ⟨Nat.zero_le _, Nat.zero_le _, Nat.zero_le _, Nat.zero_le _, Nat.zero_le _, Nat.zero_le _, (fun x hx => by cases hx), (fun x hx => by cases hx), (fun x hx => by cases hx), (fun x hx => by cases hx), (fun x hx => by cases hx), (fun x hx => by cases hx)⟩
theorem PartOwn.setProc {w : World} {base n j gs : Nat} {q : PartD} {x y : ProcD} {vs : List Value} (h : PartOwn w base q) (hx : q.procs[n]? = some x) (ha : q.procA = some ⟨gs, 0, none⟩) (hy : y.prog = x.prog ∧ y.progA = x.progA ∧ y.progC = x.progC)
  (hj : j + vs.length ≤ 12) (h1 : ∀ r, r < vs.length → (procK.vals y)[j + r]? = vs[r]?) (h2 : ∀ r, r < 12 → ¬ (j ≤ r ∧ r < j + vs.length) → (procK.vals y)[r]? = (procK.vals x)[r]?) :
  PartOwn (setAllW w gs (n * 12 + j) vs) base ({ q with procs := q.procs.set n y } : PartD) ∧ KeptBut w (setAllW w gs (n * 12 + j) vs) [gs] ∧ ({ q with procs := q.procs.set n y } : PartD).blocks = q.blocks := by
 have hn : n < q.procs.length := (List.getElem?_eq_some_iff.1 hx).1
 have hsp := split_at hx
 have hset : q.procs.set n y = q.procs.take n ++ y :: q.procs.drop (n + 1) := by rw [List.set_eq_take_append_cons_drop, if_pos hn]
 have hl : (q.procs.take n).length = n := by rw [List.length_take]; omega
 have hkb : KeptBut w (setAllW w gs (n * 12 + j) vs) [gs] := KeptBut.set _ (by simp)
 have ho := h.procs
 rw [ha] at ho
 obtain ⟨g, hg, hrow⟩ := RowAt.of_owns (K := procK) ho (by omega)
 cases hg
 rw [hsp] at hrow
 have h5 := RowAt.part (K := procK) (x := x) (y := y) (j := j) (vs := vs) hrow hj h1 h2
 rw [hl, show procK.n = 12 from rfl, ← hset] at h5
 have h6 := h5.owns
 have hki : (q.procs.set n y).filterMap procN.kid = q.procs.filterMap procN.kid := by
  rw [hset]
  conv => rhs; rw [hsp]
  have e : procN.kid y = procN.kid x := by show y.progA.map (·.block) = x.progA.map (·.block); rw [hy.2.1]
  simp only [List.filterMap_append, List.filterMap_cons, e]
 have hmx : procN.Mine w base y := by
  have h7 := h.mineP x (List.mem_of_getElem? hx)
  show w.ownsRow base _ 4 (.slice y.progA y.prog.length y.progC) y.prog.length (opK.flat y.prog)
  rw [hy.1, hy.2.1, hy.2.2]
  exact h7
 have hgk : ∀ z ∈ q.procs, ∀ b, procN.kid z = some b → b ≠ gs := fun z hz b hb e => by
  have h8 := h.nodup
  rw [PartD.blocks, ha] at h8
  have h9 := (List.nodup_append.1 h8).2.2 gs (by simp [blk]) b (List.mem_append_left _ (List.mem_filterMap.2 ⟨z, hz, hb⟩))
  exact h9 e.symm
 have hsame : ∀ b, b ≠ gs → (setAllW w gs (n * 12 + j) vs).heap[b]? = w.heap[b]? := fun b hb => setAllW_other _ hb
 have hm : ∀ z ∈ q.procs.set n y, procN.Mine (setAllW w gs (n * 12 + j) vs) base z := fun z hz => by
  rcases List.mem_or_eq_of_mem_set hz with hz | rfl
  ·exact (h.mineP z hz).same fun b hb => hsame b (hgk z hz b hb)
  ·refine hmx.same fun b hb => hsame b (hgk x (List.mem_of_getElem? hx) b ?_)
   rw [← hb]
   show x.progA.map (·.block) = z.progA.map (·.block)
   rw [hy.2.1]
 have ht := h.turnProc (w' := setAllW w gs (n * 12 + j) vs) (l := q.procs.set n y) (by rw [ha]; rw [List.length_set] at h6; exact h6) (by simp) hm hki (hkb.mono (by simp [ha, blk]))
 exact ⟨ht.1, hkb, ht.2⟩
end Go.Proofs.YtkbcplnlehdjfaaGreat

/- A process by its number: the specification and the programme. (Made by mkprocof.py.) -/
namespace Go.Proofs.YtkbcplnlehdjfaaGreat
open Go.RowKit Go.Maps
attribute [local go_sem ↓] Go.wp_at_zero Go.wp_at_succ
end Go.Proofs.YtkbcplnlehdjfaaGreat

/- One process of an open partition is turned where it lies. -/
namespace Go.Proofs.YtkbcplnlehdjfaaGreat
open Go.RowKit Go.Maps
def OpenD.turn (S : OpenD) (g : Nat) (f : ProcD → ProcD) (nx : Int) : OpenD := { S with q := { S.q with next := nx }, lp := upd g f S.lp }
theorem upd_kids {g : Nat} {f : ProcD → ProcD} (hf : ∀ x, procN.kid (f x) = procN.kid x) (l : List (ProcD × Nat)) : kids procN (upd g f l) = kids procN l := by
 induction l with
 | nil => rfl
 | cons p r ih =>
  have e : (upd g f (p :: r)) = (if p.2 = g then (f p.1, p.2) else p) :: upd g f r := rfl
  simp only [kids, List.filterMap_cons] at ih ⊢
  rw [e]
  simp only [List.filterMap_cons]
  by_cases h : p.2 = g
  ·simp only [h, if_true, hf]
   rw [ih]
  ·simp only [h, if_false]
   rw [ih]
theorem OpenAt.turn {w w' : World} {base o g : Nat} {S : OpenD} {f : ProcD → ProcD} {nx : Int} (h : OpenAt w base o S) (hf : ∀ x, (f x).id = x.id ∧ (f x).prog = x.prog ∧ (f x).progA = x.progA ∧ (f x).progC = x.progC)
  (hc : ∀ p ∈ S.lp, p.2 = g → w'.heap[g]? = some (.cells (procVs (f p.1)) 43 (0, 0))) (hg : g ∈ S.lp.map (·.2)) (ho : OpenBox w' o { S.q with next := nx }) (hs : ∀ b, b ≠ g → b ≠ o → w'.heap[b]? = w.heap[b]?) : OpenAt w' base o (S.turn g f nx) := by
 have hkid : ∀ x, procN.kid (f x) = procN.kid x := fun x => by show (f x).progA.map (·.block) = x.progA.map (·.block); rw [(hf x).2.2.1]
 have hn := h.nodup
 have hno := (List.nodup_cons.1 hn).1
 have hbk := (List.nodup_append.1 (List.nodup_cons.1 hn).2)
 have hb6 := hbk.1
 unfold OpenD.boxes at hb6
 have hin : ∀ b, b ∈ S.boxes ∨ b ∈ S.kids → b ≠ o := fun b hb e => hno (by rw [← e]; exact List.mem_append.2 hb)
 have hp := List.nodup_append.1 hb6
 have hgp : g ∈ S.q.bp :: S.lp.map (·.2) := List.mem_cons_of_mem _ hg
 have hgr : ∀ b, b ∈ ((S.q.bs :: S.ls.map (·.2)) ++ ((S.q.be :: S.le.map (·.2)) ++ ((S.q.bb :: S.lb.map (·.2)) ++ ((S.q.bf :: S.lf.map (·.2)) ++ (S.q.bq :: S.lq.map (·.2)))))) → b ≠ g := fun b hb e => hp.2.2 g hgp b hb e.symm
 have hgk : ∀ b ∈ S.kids, b ≠ g := fun b hb e => hbk.2.2 g (by unfold OpenD.boxes; exact List.mem_append_left _ hgp) b hb e.symm
 have hbp : S.q.bp ≠ g := fun e => by
  have := (List.nodup_cons.1 hp.1).1
  rw [e] at this
  exact this hg
 have hbx : ∀ b, b ∈ (S.q.bp :: S.lp.map (·.2)) → b ≠ o := fun b hb => hin b (.inl (by unfold OpenD.boxes; exact List.mem_append_left _ hb))
 have hbr : ∀ b, b ∈ ((S.q.bs :: S.ls.map (·.2)) ++ ((S.q.be :: S.le.map (·.2)) ++ ((S.q.bb :: S.lb.map (·.2)) ++ ((S.q.bf :: S.lf.map (·.2)) ++ (S.q.bq :: S.lq.map (·.2)))))) → w'.heap[b]? = w.heap[b]? := fun b hb => hs b (hgr b hb) (hin b (.inl (by unfold OpenD.boxes; exact List.mem_append_right _ hb)))
 have hkk : ∀ b ∈ S.kids, w'.heap[b]? = w.heap[b]? := fun b hb => hs b (hgk b hb) (hin b (.inr hb))
 have hmem : ∀ (b : Nat), (b ∈ kids procN S.lp ∨ b ∈ kids bufferN S.lf ∨ b ∈ kids portN S.lq) → b ∈ S.kids := fun b hb => by simp only [OpenD.kids, List.mem_append]; exact hb
 refine ⟨ho, h.procs.upd (fun p _ _ => (hf p.1).1) hc (hs _ hbp (hbx _ (by simp))) (fun b hb hne => hs b hne (hbx b (List.mem_cons_of_mem _ hb))), h.sems.same fun b hb => hbr b (List.mem_append_left _ hb), h.events.same fun b hb => hbr b (List.mem_append_right _ (List.mem_append_left _ hb)), h.boards.same fun b hb => hbr b (List.mem_append_right _ (List.mem_append_right _ (List.mem_append_left _ hb))), h.buffers.same fun b hb => hbr b (List.mem_append_right _ (List.mem_append_right _ (List.mem_append_right _ (List.mem_append_left _ hb)))), h.ports.same fun b hb => hbr b (List.mem_append_right _ (List.mem_append_right _ (List.mem_append_right _ (List.mem_append_right _ hb)))), fun p hp' => ?_, fun p hp' => (h.mineF p hp').same fun b hb => hkk b (hmem b (.inr (.inl (List.mem_filterMap.2 ⟨p, hp', hb⟩)))), fun p hp' => (h.mineQ p hp').same fun b hb => hkk b (hmem b (.inr (.inr (List.mem_filterMap.2 ⟨p, hp', hb⟩)))), ?_, h.low⟩
 ·obtain ⟨r, hr, rfl⟩ := mem_upd.1 hp'
  have hm : procN.Mine w' base r.1 := (h.mineP r hr).same fun b hb => hkk b (hmem b (.inl (List.mem_filterMap.2 ⟨r, hr, hb⟩)))
  split
  ·show w'.ownsRow base _ 4 (.slice (f r.1).progA (f r.1).prog.length (f r.1).progC) (f r.1).prog.length (opK.flat (f r.1).prog)
   rw [(hf r.1).2.1, (hf r.1).2.2.1, (hf r.1).2.2.2]
   exact hm
  ·exact hm
 ·have e1 : (S.turn g f nx).boxes = S.boxes := by simp only [OpenD.boxes, OpenD.turn, upd_blocks]
  have e2 : (S.turn g f nx).kids = S.kids := by simp only [OpenD.kids, OpenD.turn, upd_kids hkid]
  rw [e1, e2]
  exact hn
end Go.Proofs.YtkbcplnlehdjfaaGreat

/- A process that is stopped: the specification. (Made by mkstopped.py.) -/
namespace Go.Proofs.YtkbcplnlehdjfaaGreat
open Go.RowKit Go.Maps
attribute [local go_sem ↓] Go.wp_at_zero Go.wp_at_succ
def restP (y : ProcP) : ProcP := ⟨y.id, y.prio, y.prog, 0, 0, 0, 0, 0, noT, y.got, y.code, 0⟩
set_option maxRecDepth 100000 in
set_option maxHeartbeats 4000000 in
theorem l4Dormant_any (x : ProcD) (w : World) : Calls Tryz.prog 100 #[.agg #[.int .i64 x.id, .int .i64 x.prio, .slice x.progA x.prog.length x.progC, .int .i64 x.state, .int .i64 x.pc, .int .i64 x.left, .int .i64 x.wake, .int .i64 x.on, .string x.held, .string x.got, .int .i64 x.code, .int .i64 x.since]] w fun e w' => e = .returned (.agg #[.int .i64 x.id, .int .i64 x.prio, .slice x.progA x.prog.length x.progC, .int .i64 0, .int .i64 0, .int .i64 0, .int .i64 0, .int .i64 0, .string ⟨#[]⟩, .string x.got, .int .i64 x.code, .int .i64 0]) ∧ Below w.heap.size w w' := by
 have HB : Hid (Below w.heap.size w ((w.alloc (.cells #[.int .i64 x.id, .int .i64 x.prio, .slice x.progA x.prog.length x.progC, .int .i64 x.state, .int .i64 x.pc, .int .i64 x.left, .int .i64 x.wake, .int .i64 x.on, .string x.held, .string x.got, .int .i64 x.code, .int .i64 x.since] 43)).alloc (.cells #[.int .i64 0, .int .i64 0, .slice none 0 0, .int .i64 0, .int .i64 0, .int .i64 0, .int .i64 0, .int .i64 0, .string ⟨#[]⟩, .string ⟨#[]⟩, .int .i64 0, .int .i64 0] 43)) ∧ ((w.alloc (.cells #[.int .i64 x.id, .int .i64 x.prio, .slice x.progA x.prog.length x.progC, .int .i64 x.state, .int .i64 x.pc, .int .i64 x.left, .int .i64 x.wake, .int .i64 x.on, .string x.held, .string x.got, .int .i64 x.code, .int .i64 x.since] 43)).alloc (.cells #[.int .i64 0, .int .i64 0, .slice none 0 0, .int .i64 0, .int .i64 0, .int .i64 0, .int .i64 0, .int .i64 0, .string ⟨#[]⟩, .string ⟨#[]⟩, .int .i64 0, .int .i64 0] 43)).heap[w.heap.size + 1]? = some (.cells #[.int .i64 0, .int .i64 0, .slice none 0 0, .int .i64 0, .int .i64 0, .int .i64 0, .int .i64 0, .int .i64 0, .string ⟨#[]⟩, .string ⟨#[]⟩, .int .i64 0, .int .i64 0] 43 (0, 0))) := ⟨((Below.refl _ _).alloc (Nat.le_refl _) _).alloc (by simp) _, heap_alloc2_new _ _ _⟩
 go_enter Tryz.func100, Tryz.ntmps100
 go_wp2_with (refine wpList_store_row rfl 43 (Operand.tmp 2) (Operand.tmp 13) rfl (w.heap.size + 1) _ _ #[.int .i64 x.id, .int .i64 x.prio, .slice x.progA x.prog.length x.progC, .int .i64 0, .int .i64 0, .int .i64 0, .int .i64 0, .int .i64 0, .string ⟨#[]⟩, .string x.got, .int .i64 x.code, .int .i64 0] rfl rfl HB.out.2 (by kernel_rfl) rfl (by kernel_rfl) ?_)
 refine bodyPost_ret (v := .agg #[.int .i64 x.id, .int .i64 x.prio, .slice x.progA x.prog.length x.progC, .int .i64 0, .int .i64 0, .int .i64 0, .int .i64 0, .int .i64 0, .string ⟨#[]⟩, .string x.got, .int .i64 x.code, .int .i64 0]) (results_cell_row Tryz.results100 _ _ (w.heap.size + 1) _ _ (0, 0) _ rfl (setRow_heap _ _ _ _ _ _ HB.out.2) Tryz.underlying43 rfl (by kernel_rfl)) rfl ?_
 exact ⟨rfl, below_setRow HB.out.1 (by omega) _⟩
end Go.Proofs.YtkbcplnlehdjfaaGreat

/- An open partition that is right fits a machine; a process of it that comes last, that is started. (Made by mkstartedi.py.) -/
namespace Go.Proofs.YtkbcplnlehdjfaaGreat
open Go.RowKit Go.Maps
attribute [local go_sem ↓] Go.wp_at_zero Go.wp_at_succ
theorem wf_in {z : Int} (h : inB z 1 1000 = true) : (Lit.int .i64 z).wf = true := by
 have h2 := inB_iff.1 h
 have e1 : IntKind.min .i64 ≤ 0 := by decide
 have e2 : 100000 ≤ IntKind.max .i64 := by decide
 simp only [Lit.wf, Bool.and_eq_true, decide_eq_true_eq]
 omega
theorem open_fits {S : OpenD} (h : PartR S.pure) : S.Fits := by
 refine ⟨?_, ?_, ?_, ?_, ?_, ?_, ?_, ?_, ?_, ?_, ?_, ?_⟩
 ·have h5 := h.nProc
  have h6 : S.pure.procs.length = S.lp.length := by simp [OpenD.pure]
  omega
 ·intro p hp
  obtain ⟨r, hr, rfl⟩ := List.mem_map.1 hp
  exact wf_in (things_all h.procs (r.1.toProcP) (List.mem_map.2 ⟨r, hr, rfl⟩)).1
 ·have h5 := h.nSem
  have h6 : S.pure.sems.length = S.ls.length := by simp [OpenD.pure]
  omega
 ·intro p hp
  obtain ⟨r, hr, rfl⟩ := List.mem_map.1 hp
  exact wf_in (things_all h.sems (r.1) (List.mem_map.2 ⟨r, hr, rfl⟩)).1
 ·have h5 := h.nEvent
  have h6 : S.pure.events.length = S.le.length := by simp [OpenD.pure]
  omega
 ·intro p hp
  obtain ⟨r, hr, rfl⟩ := List.mem_map.1 hp
  exact wf_in (things_all h.events (r.1) (List.mem_map.2 ⟨r, hr, rfl⟩)).1
 ·have h5 := h.nBoard
  have h6 : S.pure.boards.length = S.lb.length := by simp [OpenD.pure]
  omega
 ·intro p hp
  obtain ⟨r, hr, rfl⟩ := List.mem_map.1 hp
  exact wf_in (things_all h.boards (r.1) (List.mem_map.2 ⟨r, hr, rfl⟩)).1
 ·have h5 := h.nBuffer
  have h6 : S.pure.buffers.length = S.lf.length := by simp [OpenD.pure]
  omega
 ·intro p hp
  obtain ⟨r, hr, rfl⟩ := List.mem_map.1 hp
  exact wf_in (things_all h.buffers (r.1.toBufferP) (List.mem_map.2 ⟨r, hr, rfl⟩)).1
 ·have h5 := h.nPort
  have h6 : S.pure.ports.length = S.lq.length := by simp [OpenD.pure]
  omega
 ·intro p hp
  obtain ⟨r, hr, rfl⟩ := List.mem_map.1 hp
  exact wf_in (things_all h.ports (r.1.toPortP) (List.mem_map.2 ⟨r, hr, rfl⟩)).1
theorem fits_turn {S : OpenD} {g : Nat} {f : ProcD → ProcD} {nx : Int} (h : S.Fits) (hf : ∀ x, (f x).id = x.id) : (S.turn g f nx).Fits := by
 have e : keysOf (fun x : ProcD => x.id) (upd g f S.lp) = keysOf (fun x : ProcD => x.id) S.lp := upd_keys fun p _ _ => hf p.1
 refine ⟨?_, ?_, h.nSem, h.wSem, h.nEvent, h.wEvent, h.nBoard, h.wBoard, h.nBuffer, h.wBuffer, h.nPort, h.wPort⟩
 ·show (upd g f S.lp).length ≤ _
  unfold upd
  rw [List.length_map]
  exact h.nProc
 ·show ∀ p ∈ keysOf (fun x : ProcD => x.id) (upd g f S.lp), _
  rw [e]
  exact h.wProc
set_option maxHeartbeats 2000000 in
theorem comesLast_any (o g : Nat) (nx : Int) (w : World) (h1 : w.cell? ⟨o, 1, none⟩ = some (.int .i64 nx)) (f1 : w.frozen? ⟨o, 1, none⟩ = false) (h2 : ∃ u, w.cell? ⟨g, 11, none⟩ = some u) (f2 : w.frozen? ⟨g, 11, none⟩ = false) (hne : ¬ o = g) (n0 : 0 ≤ nx) (n1 : nx ≤ 1000000000) :
  Calls Tryz.prog 180 #[.pointer (some ⟨o, 0, none⟩), .pointer (some ⟨g, 0, none⟩)] w fun e w' => e = .returned (.tuple #[]) ∧ w' = (w.setCell ⟨g, 11, none⟩ (.int .i64 nx)).setCell ⟨o, 1, none⟩ (.int .i64 (nx + 1)) := by
 obtain ⟨u, h2⟩ := h2
 have k1 : (w.setCell ⟨g, 11, none⟩ (.int .i64 nx)).cell? ⟨o, 1, none⟩ = some (.int .i64 nx) := (World.cell?_of_block (setCell_other hne)).trans h1
 have k2 : (w.setCell ⟨g, 11, none⟩ (.int .i64 nx)).frozen? ⟨o, 1, none⟩ = false := (World.frozen?_of_block (setCell_other hne)).trans f1
 go_enter Tryz.func180, Tryz.ntmps180
 go_wp2
 go_end0
 exact ⟨rfl, rfl⟩
end Go.Proofs.YtkbcplnlehdjfaaGreat

/- Those whose time has come: which is woken first, what becomes of it, and what all of them leave. -/
namespace Go.Proofs.YtkbcplnlehdjfaaGreat
section
variable {α : Type} (ah : α → α → Bool)
def stepA (r : Option α) (x : α) : Option α := match r with
 | none => some x
 | some b => if ah x b then some x else some b
def bestA (l : List α) : Option α := l.foldl (stepA ah) none
theorem bestA_snoc (l : List α) (x : α) : bestA ah (l ++ [x]) = stepA ah (bestA ah l) x := by simp [bestA]
theorem stepA_mem {r : Option α} {x y : α} (h : stepA ah r x = some y) : y = x ∨ r = some y := by
 unfold stepA at h
 split at h
 ·exact .inl (Option.some.inj h).symm
 ·split at h
  ·exact .inl (Option.some.inj h).symm
  ·exact .inr h
theorem fold_mem : ∀ (l : List α) (r : Option α) {y : α}, l.foldl (stepA ah) r = some y → y ∈ l ∨ r = some y
 | [], _, _, h => .inr h
 | x :: l, r, y, h => by
  rcases fold_mem l (stepA ah r x) h with h1 | h1
  ·exact .inl (by simp [h1])
  ·rcases stepA_mem ah h1 with h2 | h2
   ·exact .inl (by simp [h2])
   ·exact .inr h2
theorem bestA_mem {l : List α} {y : α} (h : bestA ah l = some y) : y ∈ l := (fold_mem ah l none h).elim id (fun e => by cases e)
theorem stepA_some (r : Option α) (x : α) : ∃ y, stepA ah r x = some y := by
 unfold stepA
 split
 ·exact ⟨_, rfl⟩
 ·split <;> exact ⟨_, rfl⟩
theorem bestA_none {l : List α} (h : bestA ah l = none) : l = [] := by
 rcases List.eq_nil_or_concat l with e | ⟨l', x, e⟩
 ·exact e
 ·subst e
  rw [List.concat_eq_append, bestA_snoc] at h
  obtain ⟨y, hy⟩ := stepA_some ah (bestA ah l') x
  rw [hy] at h
  cases h
def BestAt (f : α → Bool) (l : List α) (k : Nat) (i : Int) : Prop := match bestA ah ((l.take k).filter f) with
 | none => i = -1
 | some x => ∃ n : Nat, i = n ∧ n < k ∧ l[n]? = some x
variable {f : α → Bool} {l : List α} {k : Nat} {i : Int} {x : α}
theorem BestAt.start (f : α → Bool) (l : List α) : BestAt ah f l 0 (-1) := by simp [BestAt, bestA]
theorem filterA_up (hx : l[k]? = some x) : (l.take (k + 1)).filter f = (l.take k).filter f ++ (if f x then [x] else []) := by
 have h : l.take (k + 1) = l.take k ++ [x] := by rw [List.take_add_one, hx]; rfl
 rw [h, List.filter_append]
 by_cases h : f x = true <;> simp [h]
variable {ah}
theorem BestAt.skip (h : BestAt ah f l k i) (hx : l[k]? = some x) (hf : f x = false) : BestAt ah f l (k + 1) i := by
 unfold BestAt at h ⊢
 rw [filterA_up hx, hf]
 simp only [Bool.false_eq_true, if_false, List.append_nil]
 split at h
 ·exact h
 ·obtain ⟨n, h1, h2, h3⟩ := h
  exact ⟨n, h1, by omega, h3⟩
theorem BestAt.first (h : BestAt ah f l k i) (hi : i < 0) (hx : l[k]? = some x) (hf : f x = true) : BestAt ah f l (k + 1) k := by
 unfold BestAt at h ⊢
 rw [filterA_up hx, hf]
 simp only [if_true]
 rw [bestA_snoc]
 split at h
 ·rename_i e
  rw [e]
  exact ⟨k, rfl, by omega, hx⟩
 ·obtain ⟨n, h1, _⟩ := h
  omega
theorem BestAt.got (h : BestAt ah f l k i) (hi : ¬ i < 0) : ∃ (n : Nat) (y : α), i = n ∧ n < k ∧ l[n]? = some y ∧ bestA ah ((l.take k).filter f) = some y := by
 unfold BestAt at h
 split at h
 ·omega
 ·rename_i y e
  obtain ⟨n, h1, h2, h3⟩ := h
  exact ⟨n, y, h1, h2, h3, e⟩
theorem BestAt.none' (h : BestAt ah f l k i) (hi : i < 0) : bestA ah ((l.take k).filter f) = none := by
 unfold BestAt at h
 split at h
 ·assumption
 ·obtain ⟨n, h1, _⟩ := h
  omega
theorem BestAt.next {n : Nat} {y : α} (hn : n < k) (hy : l[n]? = some y) (he : bestA ah ((l.take k).filter f) = some y) (hx : l[k]? = some x) (hf : f x = true) : BestAt ah f l (k + 1) (if ah x y then (k : Int) else (n : Int)) := by
 unfold BestAt
 rw [filterA_up hx, hf]
 simp only [if_true]
 rw [bestA_snoc, he]
 simp only [stepA]
 by_cases ha : ah x y = true
 ·simp only [ha, if_true]
  exact ⟨k, rfl, by omega, hx⟩
 ·simp only [ha, Bool.false_eq_true, if_false]
  exact ⟨n, rfl, by omega, hy⟩
end
def dueB (now : Int) (x : ProcP) : Bool := decide (2 ≤ x.state) && inB x.wake 1 now
def soonB (a b : ProcP) : Bool := decide (a.wake < b.wake)
def dueL (now : Int) (l : List ProcP) : List ProcP := l.filter (dueB now)
def nextDue (now : Int) (l : List ProcP) : Option ProcP := bestA soonB (dueL now l)
def goneP (code : Int) (x : ProcP) : ProcP := { x with code := code, state := 1, pc := x.pc + 1, left := 0, wake := 0, on := 0, held := noT }
def pastP (code : Int) (x : ProcP) : ProcP := if x.pc + 1 = x.prog.length then restP (goneP code x) else goneP code x
def wakeF (nx code : Int) (x : ProcP) : ProcP := if x.pc + 1 = x.prog.length then restP (goneP code x) else { goneP code x with since := nx }
def wakeN (nx : Int) (x : ProcP) : Int := if x.pc + 1 = x.prog.length then nx else nx + 1
def codeOf (x : ProcP) : Int := if x.state = 2 then 0 else 2
def wakeStep (p : PartP) (x : ProcP) : PartP := { p with next := wakeN p.next x, procs := turnP x.id (wakeF p.next (codeOf x)) p.procs }
def wokenN (now : Int) : Nat → PartP → PartP
 | 0, p => p
 | n + 1, p => match nextDue now p.procs with
  | none => p
  | some x => wokenN now n (wakeStep p x)
def wokenL (now : Int) (p : PartP) : PartP := wokenN now (dueL now p.procs).length p
def wokenP (p : PartP) (now : Int) : Option PartP := if partB p && inB now 0 1000000000 && decide (p.next ≤ 999999980) then some (wokenL now p) else none
theorem wakeF_id (nx code : Int) (x : ProcP) : (wakeF nx code x).id = x.id ∧ (wakeF nx code x).prog = x.prog := by
 unfold wakeF
 split <;> exact ⟨rfl, rfl⟩
theorem wakeF_not (now nx code : Int) (x : ProcP) : dueB now (wakeF nx code x) = false := by
 unfold wakeF dueB
 split <;> simp [restP, goneP]
theorem turn_other {f : ProcP → ProcP} {id : Int} : ∀ {l : List ProcP}, (∀ y ∈ l, y.id ≠ id) → turnP id f l = l
 | [], _ => rfl
 | y :: r, h => by
  have h1 : turnP id f r = r := turn_other fun z hz => h z (List.mem_cons_of_mem _ hz)
  simp only [turnP, List.map_cons] at h1 ⊢
  rw [if_neg (h y (by simp)), h1]
theorem due_less {now : Int} {f : ProcP → ProcP} {x : ProcP} (hf : dueB now (f x) = false) (hx : dueB now x = true) : ∀ {l : List ProcP}, l.Pairwise (fun x y => x.id < y.id) → x ∈ l → (dueL now (turnP x.id f l)).length + 1 = (dueL now l).length
 | [], _, h => by cases h
 | y :: r, hr, h => by
  rw [List.pairwise_cons] at hr
  by_cases e : y = x
  ·subst e
   have h2 : turnP y.id f (y :: r) = f y :: r := by
    have h3 : turnP y.id f r = r := turn_other fun z hz e => by have := hr.1 z hz; omega
    simp only [turnP, List.map_cons, if_true] at h3 ⊢
    rw [h3]
   rw [h2]
   simp [dueL, hf, hx]
  ·have hm : x ∈ r := by
    rcases List.mem_cons.1 h with h1 | h1
    ·exact absurd h1.symm e
    ·exact h1
   have h4 := due_less hf hx hr.2 hm
   have h5 : ¬ y.id = x.id := by have := hr.1 x hm; omega
   have h6 : turnP x.id f (y :: r) = y :: turnP x.id f r := by simp [turnP, h5]
   rw [h6]
   unfold dueL at h4 ⊢
   by_cases hy : dueB now y = true
   ·simp only [List.filter_cons, hy, if_true, List.length_cons]; omega
   ·simp only [List.filter_cons, hy, Bool.false_eq_true, if_false]; exact h4
theorem turn_rise {f : ProcP → ProcP} {id : Int} (hf : ∀ x, (f x).id = x.id) {l : List ProcP} (h : l.Pairwise (fun x y => x.id < y.id)) : (turnP id f l).Pairwise (fun x y => x.id < y.id) := by
 unfold turnP
 rw [List.pairwise_map]
 refine h.imp fun {a b} hab => ?_
 have e : ∀ z : ProcP, (if z.id = id then f z else z).id = z.id := fun z => by split <;> simp [hf]
 rw [e, e]
 exact hab
theorem turn_mem {f : ProcP → ProcP} {id : Int} {l : List ProcP} {y : ProcP} (h : y ∈ turnP id f l) : y ∈ l ∨ ∃ x ∈ l, y = f x := by
 obtain ⟨z, hz, e⟩ := List.mem_map.1 h
 by_cases h1 : z.id = id
 ·exact .inr ⟨z, hz, by rw [← e, if_pos h1]⟩
 ·exact .inl (by rw [if_neg h1] at e; exact e ▸ hz)
structure Wk (now : Int) (p : PartP) : Prop where
 rise : p.procs.Pairwise (fun x y => x.id < y.id)
 op : ∀ x ∈ p.procs, 2 ≤ x.state → 0 ≤ x.pc ∧ x.pc < x.prog.length
 room : 1 ≤ p.next ∧ p.next + (dueL now p.procs).length ≤ 1000000000
 low : p.procs.length ≤ 6
theorem Wk.mem {now : Int} {p : PartP} {x : ProcP} (h : nextDue now p.procs = some x) : x ∈ p.procs ∧ dueB now x = true := by
 have h1 := bestA_mem soonB h
 exact List.mem_filter.1 h1
theorem Wk.step {now : Int} {p : PartP} {x : ProcP} (h : Wk now p) (hx : nextDue now p.procs = some x) : Wk now (wakeStep p x) ∧ (dueL now (wakeStep p x).procs).length + 1 = (dueL now p.procs).length := by
 obtain ⟨hm, hd⟩ := Wk.mem hx
 have h1 := due_less (wakeF_not now p.next (codeOf x) x) hd h.rise hm
 refine ⟨⟨turn_rise (fun y => (wakeF_id _ _ y).1) h.rise, fun y hy hs => ?_, ?_, ?_⟩, h1⟩
 ·rcases turn_mem hy with h2 | ⟨z, _, rfl⟩
  ·exact h.op y h2 hs
  ·unfold wakeF at hs
   split at hs <;> simp [restP, goneP] at hs
 ·have h2 := h.room
  have h3 : (wakeStep p x).next ≤ p.next + 1 ∧ p.next ≤ (wakeStep p x).next := by
   show wakeN p.next x ≤ _ ∧ _ ≤ wakeN p.next x
   unfold wakeN
   split <;> omega
  have h4 : (dueL now (wakeStep p x).procs).length + 1 = (dueL now p.procs).length := h1
  omega
 ·show (turnP _ _ p.procs).length ≤ 6
  simpa [turnP] using h.low
theorem woken_none {now : Int} {p : PartP} (h : nextDue now p.procs = none) : wokenL now p = p := by
 unfold wokenL
 rw [bestA_none soonB h]
 rfl
theorem woken_some {now : Int} {p : PartP} {x : ProcP} (h : Wk now p) (hx : nextDue now p.procs = some x) : wokenL now p = wokenL now (wakeStep p x) := by
 have h1 := (h.step hx).2
 unfold wokenL
 rw [← h1]
 simp only [wokenN, hx]
theorem Wk.of {now : Int} {p : PartP} (h : PartR p) (hn : p.next ≤ 999999980) : Wk now p := by
 have h1 := (things_rise h.procs).2
 refine ⟨h1, fun x hx hs => ?_, ?_, h.nProc⟩
 ·have h2 := (things_all h.procs x hx).2
  simp only [procB, Bool.and_eq_true] at h2
  have h3 := h2.1.1.2
  unfold stateB at h3
  have h4 : hasOpB x = true := by
   split at h3
   ·omega
   ·split at h3
    ·omega
    ·split at h3
     ·simp only [Bool.and_eq_true] at h3; exact h3.1.1.1.1
     ·split at h3
      ·simp only [Bool.and_eq_true] at h3; exact h3.1.1
      ·split at h3
       ·simp only [Bool.and_eq_true] at h3; exact h3.1.1.1
       ·cases h3
  have h5 := inB_iff.1 h4
  omega
 ·have h2 := inB_iff.1 h.next
  have h3 : (dueL now p.procs).length ≤ p.procs.length := List.length_filter_le _ _
  have h4 := h.nProc
  omega
end Go.Proofs.YtkbcplnlehdjfaaGreat
