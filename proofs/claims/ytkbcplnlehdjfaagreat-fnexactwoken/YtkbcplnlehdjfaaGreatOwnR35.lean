/- What the proof leans on, part 35: LawX, StB, OpenT, OpenF. -/
import Derived.Test.YtkbcplnlehdjfaaGreatOwnR4
import Derived.Test.YtkbcplnlehdjfaaGreatOwnR26
import Derived.Test.YtkbcplnlehdjfaaGreatOwnR29
import Derived.Test.YtkbcplnlehdjfaaGreatOwnR31
import Derived.Test.YtkbcplnlehdjfaaGreatOwnR33
import Derived.Test.YtkbcplnlehdjfaaGreatOwnR34

namespace Go.Proofs.YtkbcplnlehdjfaaGreat
open Go.RowKit
theorem cnt_op (l : List OpD) : cntL (fun _ : OpD => 4) l = l.length * 4 := cntL_const (fun _ => rfl) l
theorem cnt_str (l : List ByteArray) : cntL (fun _ : ByteArray => 1) l = l.length * 1 := cntL_const (fun _ => rfl) l
theorem cnt_proc : ∀ l : List ProcD, cntL cProc l ≤ 11 * (l.length + sumL (fun x : ProcD => x.prog.length) l)
 | [] => by simp [cntL]
 | x :: r => by
  have h1 := cnt_proc r
  have h2 : cProc x = 2 + cntL (fun _ : OpD => 4) x.prog + 9 := rfl
  have h3 := cnt_op x.prog
  simp only [cntL, List.length_cons, sumL, List.map_cons, List.sum_cons] at h1 ⊢
  omega
theorem cnt_buffer : ∀ l : List BufferD, cntL cBuffer l ≤ 11 * (l.length + sumL (fun x : BufferD => x.items.length) l)
 | [] => by simp [cntL]
 | x :: r => by
  have h1 := cnt_buffer r
  have h2 : cBuffer x = 2 + cntL (fun _ : ByteArray => 1) x.items := rfl
  have h3 := cnt_str x.items
  simp only [cntL, List.length_cons, sumL, List.map_cons, List.sum_cons] at h1 ⊢
  omega
theorem cnt_port : ∀ l : List PortD, cntL cPort l ≤ 11 * (l.length + sumL (fun x : PortD => x.items.length) l)
 | [] => by simp [cntL]
 | x :: r => by
  have h1 := cnt_port r
  have h2 : cPort x = 4 + cntL (fun _ : ByteArray => 1) x.items := rfl
  have h3 := cnt_str x.items
  simp only [cntL, List.length_cons, sumL, List.map_cons, List.sum_cons] at h1 ⊢
  omega
theorem cnt_part (p : PartD) : cntPart p ≤ 11 * p.pure.total := by
 rw [PartD.total_is]
 unfold cntPart
 have h1 := cnt_proc p.procs
 have h2 := cnt_buffer p.buffers
 have h3 := cnt_port p.ports
 have h4 : cntL (fun _ : SemD => 3) p.sems = p.sems.length * 3 := cntL_const (fun _ => rfl) _
 have h5 : cntL (fun _ : EventD => 2) p.events = p.events.length * 2 := cntL_const (fun _ => rfl) _
 have h6 : cntL (fun _ : BoardD => 3) p.boards = p.boards.length * 3 := cntL_const (fun _ => rfl) _
 omega
theorem small_cnt {p : PartD} (h : p.pure.Small) : p.Cnt := by
 refine ⟨by simpa [PartD.pure] using h.nProc, h.nSem, h.nEvent, h.nBoard, by simpa [PartD.pure] using h.nBuffer, by simpa [PartD.pure] using h.nPort, fun x hx => ?_, fun x hx => ?_, fun x hx => ?_⟩
 ·exact (h.procs x.toProcP (List.mem_map.2 ⟨x, hx, rfl⟩)).1.1
 ·exact (h.buffers x.toBufferP (List.mem_map.2 ⟨x, hx, rfl⟩)).2.1
 ·exact (h.ports x.toPortP (List.mem_map.2 ⟨x, hx, rfl⟩)).2.1
theorem mine_below {α : Type} {N : Nest α} {w w' : World} {base : Nat} {x : α} (h : N.Mine w base x) (hb : Below w.heap.size w w') : N.Mine w' base x := h.same fun g hk => hb.block g (h.lt hk).2
/-- The argument's block, and that nothing that was there is changed. -/
def SrcS (p : PartD) (w W : World) : Prop := W.heap[w.heap.size]? = some (.cells p.cells 73 (0, 0)) ∧ Below w.heap.size w W
/-- A partition, a process in its block, in memory of its own. -/
def PartIn (W : World) (X b : Nat) (q : PartD) : Prop := PartBox W X q ∧ PartOwn W b q
def ProcIs (W : World) (X b : Nat) (x : ProcD) : Prop := ProcBox W X x ∧ procN.Mine W b x
section
variable {p q : PartD} {x : ProcD} {w W W' : World} {X b : Nat} {bs : List Nat}
theorem SrcS.below (h : SrcS p w W) (hb : Below W.heap.size W W') : SrcS p w W' := ⟨(hb.block _ (Array.getElem?_eq_some_iff.1 h.1).1).trans h.1, h.2.trans (hb.mono h.2.size)⟩
theorem SrcS.kept (h : SrcS p w W) (hk : KeptBut W W' bs) (hs : ∀ g ∈ bs, w.heap.size < g) : SrcS p w W' := ⟨(hk.same _ (Array.getElem?_eq_some_iff.1 h.1).1 fun hm => by have := hs _ hm; omega).trans h.1, h.2.trans (hk.below h.2.size fun g hg => by have := hs g hg; omega)⟩
theorem PartIn.below (h : PartIn W X b q) (hb : Below W.heap.size W W') : PartIn W' X b q := ⟨h.1.below hb, h.2.below hb⟩
theorem PartIn.kept (h : PartIn W X b q) (hk : KeptBut W W' bs) (hs : X ∉ bs) (ho : ∀ g ∈ q.blocks, g ∉ bs) : PartIn W' X b q := ⟨(hk.same _ (Array.getElem?_eq_some_iff.1 h.1).1 hs).trans h.1, h.2.same fun g hg => hk.same g (h.2.lt g hg).2 (ho g hg)⟩
theorem ProcIs.below (h : ProcIs W X b x) (hb : Below W.heap.size W W') : ProcIs W' X b x := ⟨h.1.below hb, mine_below h.2 hb⟩
theorem ProcIs.kept (h : ProcIs W X b x) (hk : KeptBut W W' bs) (hs : X ∉ bs) (ho : ∀ g ∈ blk x.progA, g ∉ bs) : ProcIs W' X b x := ⟨(hk.same _ (Array.getElem?_eq_some_iff.1 h.1).1 hs).trans h.1, h.2.same fun g hg => hk.same g (h.2.lt hg).2 (ho g (mem_blk.2 hg))⟩
theorem PartBox.lt {W : World} {X : Nat} {q : PartD} (h : PartBox W X q) : X < W.heap.size := (Array.getElem?_eq_some_iff.1 h).1
theorem ProcBox.lt {W : World} {X : Nat} {x : ProcD} (h : ProcBox W X x) : X < W.heap.size := (Array.getElem?_eq_some_iff.1 h).1
end
end Go.Proofs.YtkbcplnlehdjfaaGreat

/- One process of a partition is turned: what becomes of it, and of the memory. -/
namespace Go.Proofs.YtkbcplnlehdjfaaGreat
open Go.RowKit
/-- A partition, one of whose processes is turned, if it may be. -/
def turnP (id : Int) (f : ProcP → ProcP) (l : List ProcP) : List ProcP := l.map fun x => if x.id = id then f x else x
def turnedP (p : PartP) (id : Int) (ok : ProcP → Bool) (f : ProcP → ProcP) (nx : Int) : Option PartP :=
 if partB p then match p.procs.find? (fun x => decide (x.id = id)) with
  | some y => if ok y then some { p with next := nx, procs := turnP id f p.procs } else none
  | none => none
 else none
def zeroPart : PartP := ⟨0, 0, [], [], [], [], [], []⟩
/-- What such a call ends in. -/
def TurnRes (w : World) (r : Option PartP) (e : Ending) (w' : World) : Prop := ∃ q : PartD, e = .returned (.tuple #[.agg q.cells, .bool r.isSome]) ∧ PartOwn w' w.heap.size q ∧ q.pure = r.getD zeroPart ∧ Below w.heap.size w w'
theorem own_zero (w : World) (base : Nat) : PartOwn w base ⟨0, 0, [], none, 0, [], none, 0, [], none, 0, [], none, 0, [], none, 0, [], none, 0⟩ :=
 ⟨World.ownsRow_nil _ _ _ _, World.ownsRow_nil _ _ _ _, World.ownsRow_nil _ _ _ _, World.ownsRow_nil _ _ _ _, World.ownsRow_nil _ _ _ _, World.ownsRow_nil _ _ _ _, (fun x hx => by cases hx), (fun x hx => by cases hx), (fun x hx => by cases hx), by simp [PartD.blocks, blk]⟩
theorem turnRes_no {w w' : World} {r : Option PartP} (h : r = none) (hb : Below w.heap.size w w') : TurnRes w r (.returned (.tuple #[.agg #[.int .i64 0, .int .i64 0, .slice none 0 0, .slice none 0 0, .slice none 0 0, .slice none 0 0, .slice none 0 0, .slice none 0 0], .bool false])) w' := by
 subst h
 exact ⟨_, rfl, own_zero _ _, rfl, hb⟩
theorem turned_not {p : PartP} {id nx : Int} {ok : ProcP → Bool} {f : ProcP → ProcP} (h : partB p = false) : turnedP p id ok f nx = none := by simp [turnedP, h]
theorem turned_none {p : PartP} {id nx : Int} {ok : ProcP → Bool} {f : ProcP → ProcP} (h : p.procs.find? (fun x => decide (x.id = id)) = none) : turnedP p id ok f nx = none := by
 unfold turnedP
 split
 ·rw [h]
 ·rfl
theorem turned_no {p : PartP} {id nx : Int} {ok : ProcP → Bool} {f : ProcP → ProcP} {y : ProcP} (h : p.procs.find? (fun x => decide (x.id = id)) = some y) (ho : ok y = false) : turnedP p id ok f nx = none := by
 unfold turnedP
 split
 ·rw [h]; simp [ho]
 ·rfl
theorem turned_yes {p : PartP} {id nx : Int} {ok : ProcP → Bool} {f : ProcP → ProcP} {y : ProcP} (hp : partB p = true) (h : p.procs.find? (fun x => decide (x.id = id)) = some y) (ho : ok y = true) : turnedP p id ok f nx = some { p with next := nx, procs := turnP id f p.procs } := by
 unfold turnedP
 rw [if_pos hp, h]
 simp [ho]
/-- Numbers that rise are each there once. -/
theorem things_rise {α : Type} {num : α → Int} {ok : α → Bool} : ∀ {l : List α} {last : Int}, thingsB num ok last l = true → (∀ x ∈ l, last < num x) ∧ l.Pairwise (fun x y => num x < num y)
 | [], _, _ => ⟨(fun x hx => by cases hx), List.Pairwise.nil⟩
 | x :: r, last, h => by
  simp only [thingsB, Bool.and_eq_true, decide_eq_true_eq] at h
  obtain ⟨h1, h2⟩ := things_rise h.2
  refine ⟨fun y hy => ?_, List.Pairwise.cons (fun y hy => h1 y hy) h2⟩
  rcases List.mem_cons.1 hy with rfl | hy
  ·exact h.1.1.2
  ·have := h1 y hy; have := h.1.1.2; omega
/-- At its place it is the one of that number. -/
theorem turn_set {l : List ProcP} {f : ProcP → ProcP} {id : Int} {n : Nat} {y : ProcP} (hr : l.Pairwise (fun x y => x.id < y.id)) (hn : l[n]? = some y) (hy : y.id = id) : turnP id f l = l.set n (f y) := by
 induction l generalizing n with
 | nil => simp at hn
 | cons x r ih =>
  obtain ⟨h1, h2⟩ := List.pairwise_cons.1 hr
  cases n with
  | zero =>
   simp only [List.getElem?_cons_zero, Option.some.injEq] at hn
   subst hn
   have e : turnP id f r = r := by
    unfold turnP
    conv => rhs; rw [← List.map_id r]
    refine List.map_congr_left fun z hz => ?_
    rw [if_neg (by have := h1 z hz; omega)]
    rfl
   simp only [List.set_cons_zero]
   show (if x.id = id then f x else x) :: turnP id f r = _
   rw [if_pos hy, e]
  | succ n =>
   simp only [List.getElem?_cons_succ] at hn
   have hlt := h1 y (List.mem_of_getElem? hn)
   simp only [List.set_cons_succ]
   show (if x.id = id then f x else x) :: turnP id f r = _
   rw [if_neg (by omega), ih h2 hn]
theorem part_rise {p : PartP} (h : partB p = true) : p.procs.Pairwise (fun x y => x.id < y.id) := (things_rise ((partB_iff _).1 h).procs).2
/-- A process is short, and its numbers fit. -/
def SmallP (x : ProcP) : Prop := (x.prog.length ≤ 1048576 ∧ (∀ o ∈ x.prog, o.2.2.2.size ≤ 1048576) ∧ x.held.size ≤ 1048576 ∧ x.got.size ≤ 1048576) ∧ (Lit.int .i64 x.id).wf = true ∧ (Lit.int .i64 x.on).wf = true ∧ (Lit.int .i64 x.since).wf = true
theorem wf_next {p : PartP} (h : partB p = true) : (Lit.int .i64 p.next).wf = true := by
 have h2 := inB_iff.1 ((partB_iff _).1 h).next
 have e1 : IntKind.min .i64 ≤ 0 := by decide
 have e2 : 2000000000 ≤ IntKind.max .i64 := by decide
 simp only [Lit.wf, Bool.and_eq_true, decide_eq_true_eq]
 omega
theorem zero_small : zeroPart.Small := ⟨Nat.zero_le _, Nat.zero_le _, Nat.zero_le _, Nat.zero_le _, Nat.zero_le _, Nat.zero_le _, (fun x hx => by cases hx), (fun x hx => by cases hx), (fun x hx => by cases hx), (fun x hx => by cases hx), (fun x hx => by cases hx), (fun x hx => by cases hx)⟩
theorem turned_cases {p : PartP} {id nx : Int} {ok : ProcP → Bool} {f : ProcP → ProcP} : (turnedP p id ok f nx).getD zeroPart = zeroPart ∨ partB p = true ∧ (turnedP p id ok f nx).getD zeroPart = { p with next := nx, procs := turnP id f p.procs } := by
 unfold turnedP
 split
 ·rename_i hp
  split
  ·split
   ·exact .inr ⟨hp, rfl⟩
   ·exact .inl rfl
  ·exact .inl rfl
 ·exact .inl rfl
theorem turned_small {p : PartP} {id nx : Int} {ok : ProcP → Bool} {f : ProcP → ProcP} (h : p.Small) (hf : partB p = true → ∀ y ∈ p.procs, SmallP y → SmallP (f y)) : ((turnedP p id ok f nx).getD zeroPart).Small := by
 rcases turned_cases (p := p) (id := id) (nx := nx) (ok := ok) (f := f) with e | ⟨hp, e⟩
 ·rw [e]; exact zero_small
 ·rw [e]
  refine ⟨by simpa [turnP] using h.nProc, h.nSem, h.nEvent, h.nBoard, h.nBuffer, h.nPort, fun x hx => ?_, h.sems, h.events, h.boards, h.buffers, h.ports⟩
  obtain ⟨y, hy, rfl⟩ := List.mem_map.1 hx
  split
  ·exact hf hp y hy (h.procs y hy)
  ·exact h.procs y hy
theorem turned_total {p : PartP} {id nx : Int} {ok : ProcP → Bool} {f : ProcP → ProcP} (hf : ∀ y, (f y).prog = y.prog) : ((turnedP p id ok f nx).getD zeroPart).total ≤ p.total := by
 rcases turned_cases (p := p) (id := id) (nx := nx) (ok := ok) (f := f) with e | ⟨_, e⟩
 ·rw [e]; simp [PartP.total, zeroPart, sumL]
 ·rw [e]
  have h1 : (turnP id f p.procs).map (fun x : ProcP => x.prog.length) = p.procs.map (fun x : ProcP => x.prog.length) := by
   unfold turnP
   rw [List.map_map]
   refine List.map_congr_left fun x _ => ?_
   simp only [Function.comp_def]
   split
   ·rw [hf]
   ·rfl
  have h2 : (turnP id f p.procs).length = p.procs.length := by simp [turnP]
  simp only [PartP.total, sumL, h1, h2]
  exact Nat.le_refl _
/-- Some cells of one process are stored anew. -/
theorem PartOwn.setProc {w : World} {base n j gs : Nat} {q : PartD} {x y : ProcD} {vs : List Value} (h : PartOwn w base q) (hx : q.procs[n]? = some x) (ha : q.procA = some ⟨gs, 0, none⟩) (hy : y.prog = x.prog ∧ y.progA = x.progA ∧ y.progC = x.progC)
  (hj : j + vs.length ≤ 12) (h1 : ∀ r, r < vs.length → (procK.vals y)[j + r]? = vs[r]?) (h2 : ∀ r, r < 12 → ¬ (j ≤ r ∧ r < j + vs.length) → (procK.vals y)[r]? = (procK.vals x)[r]?) :
  PartOwn (setAllW w gs (n * 12 + j) vs) base ({ q with procs := q.procs.set n y } : PartD) ∧ KeptBut w (setAllW w gs (n * 12 + j) vs) [gs] ∧ ({ q with procs := q.procs.set n y } : PartD).blocks = q.blocks := by
 have hn : n < q.procs.length := (List.getElem?_eq_some_iff.1 hx).1
 have hsp := split_at hx
 have hset : q.procs.set n y = q.procs.take n ++ y :: q.procs.drop (n + 1) := by rw [List.set_eq_take_append_cons_drop, if_pos hn]
 have hl : (q.procs.take n).length = n := by rw [List.length_take]; omega
 have hkb : KeptBut w (setAllW w gs (n * 12 + j) vs) [gs] := KeptBut.set _ (by simp)
 have ho := h.procs
 rw [ha] at ho
 obtain ⟨g, hg, hrow⟩ := RowAt.of_owns (K := procK) ho (by omega)
 cases hg
 rw [hsp] at hrow
 have h5 := RowAt.part (K := procK) (x := x) (y := y) (j := j) (vs := vs) hrow hj h1 h2
 rw [hl, show procK.n = 12 from rfl, ← hset] at h5
 have h6 := h5.owns
 have hki : (q.procs.set n y).filterMap procN.kid = q.procs.filterMap procN.kid := by
  rw [hset]
  conv => rhs; rw [hsp]
  have e : procN.kid y = procN.kid x := by show y.progA.map (·.block) = x.progA.map (·.block); rw [hy.2.1]
  simp only [List.filterMap_append, List.filterMap_cons, e]
 have hmx : procN.Mine w base y := by
  have h7 := h.mineP x (List.mem_of_getElem? hx)
  show w.ownsRow base _ 4 (.slice y.progA y.prog.length y.progC) y.prog.length (opK.flat y.prog)
  rw [hy.1, hy.2.1, hy.2.2]
  exact h7
 have hgk : ∀ z ∈ q.procs, ∀ b, procN.kid z = some b → b ≠ gs := fun z hz b hb e => by
  have h8 := h.nodup
  rw [PartD.blocks, ha] at h8
  have h9 := (List.nodup_append.1 h8).2.2 gs (by simp [blk]) b (List.mem_append_left _ (List.mem_filterMap.2 ⟨z, hz, hb⟩))
  exact h9 e.symm
 have hsame : ∀ b, b ≠ gs → (setAllW w gs (n * 12 + j) vs).heap[b]? = w.heap[b]? := fun b hb => setAllW_other _ hb
 have hm : ∀ z ∈ q.procs.set n y, procN.Mine (setAllW w gs (n * 12 + j) vs) base z := fun z hz => by
  rcases List.mem_or_eq_of_mem_set hz with hz | rfl
  ·exact (h.mineP z hz).same fun b hb => hsame b (hgk z hz b hb)
  ·refine hmx.same fun b hb => hsame b (hgk x (List.mem_of_getElem? hx) b ?_)
   rw [← hb]
   show x.progA.map (·.block) = z.progA.map (·.block)
   rw [hy.2.1]
 have ht := h.turnProc (w' := setAllW w gs (n * 12 + j) vs) (l := q.procs.set n y) (by rw [ha]; rw [List.length_set] at h6; exact h6) (by simp) hm hki (hkb.mono (by simp [ha, blk]))
 exact ⟨ht.1, hkb, ht.2⟩
end Go.Proofs.YtkbcplnlehdjfaaGreat

/- One process of an open partition is turned where it lies. -/
namespace Go.Proofs.YtkbcplnlehdjfaaGreat
open Go.RowKit Go.Maps
/-- The open partition behind it: one process turned, the next turn's number another one. -/
def OpenD.turn (S : OpenD) (g : Nat) (f : ProcD → ProcD) (nx : Int) : OpenD := { S with q := { S.q with next := nx }, lp := upd g f S.lp }
theorem upd_kids {g : Nat} {f : ProcD → ProcD} (hf : ∀ x, procN.kid (f x) = procN.kid x) (l : List (ProcD × Nat)) : kids procN (upd g f l) = kids procN l := by
 induction l with
 | nil => rfl
 | cons p r ih =>
  have e : (upd g f (p :: r)) = (if p.2 = g then (f p.1, p.2) else p) :: upd g f r := rfl
  simp only [kids, List.filterMap_cons] at ih ⊢
  rw [e]
  simp only [List.filterMap_cons]
  by_cases h : p.2 = g
  ·simp only [h, if_true, hf]
   rw [ih]
  ·simp only [h, if_false]
   rw [ih]
theorem OpenAt.turn {w w' : World} {base o g : Nat} {S : OpenD} {f : ProcD → ProcD} {nx : Int} (h : OpenAt w base o S) (hf : ∀ x, (f x).id = x.id ∧ (f x).prog = x.prog ∧ (f x).progA = x.progA ∧ (f x).progC = x.progC)
  (hc : ∀ p ∈ S.lp, p.2 = g → w'.heap[g]? = some (.cells (procVs (f p.1)) 43 (0, 0))) (hg : g ∈ S.lp.map (·.2)) (ho : OpenBox w' o { S.q with next := nx }) (hs : ∀ b, b ≠ g → b ≠ o → w'.heap[b]? = w.heap[b]?) : OpenAt w' base o (S.turn g f nx) := by
 have hkid : ∀ x, procN.kid (f x) = procN.kid x := fun x => by show (f x).progA.map (·.block) = x.progA.map (·.block); rw [(hf x).2.2.1]
 have hn := h.nodup
 have hno := (List.nodup_cons.1 hn).1
 have hbk := (List.nodup_append.1 (List.nodup_cons.1 hn).2)
 have hb6 := hbk.1
 unfold OpenD.boxes at hb6
 have hin : ∀ b, b ∈ S.boxes ∨ b ∈ S.kids → b ≠ o := fun b hb e => hno (by rw [← e]; exact List.mem_append.2 hb)
 have hp := List.nodup_append.1 hb6
 have hgp : g ∈ S.q.bp :: S.lp.map (·.2) := List.mem_cons_of_mem _ hg
 have hgr : ∀ b, b ∈ ((S.q.bs :: S.ls.map (·.2)) ++ ((S.q.be :: S.le.map (·.2)) ++ ((S.q.bb :: S.lb.map (·.2)) ++ ((S.q.bf :: S.lf.map (·.2)) ++ (S.q.bq :: S.lq.map (·.2)))))) → b ≠ g := fun b hb e => hp.2.2 g hgp b hb e.symm
 have hgk : ∀ b ∈ S.kids, b ≠ g := fun b hb e => hbk.2.2 g (by unfold OpenD.boxes; exact List.mem_append_left _ hgp) b hb e.symm
 have hbp : S.q.bp ≠ g := fun e => by
  have := (List.nodup_cons.1 hp.1).1
  rw [e] at this
  exact this hg
 have hbx : ∀ b, b ∈ (S.q.bp :: S.lp.map (·.2)) → b ≠ o := fun b hb => hin b (.inl (by unfold OpenD.boxes; exact List.mem_append_left _ hb))
 have hbr : ∀ b, b ∈ ((S.q.bs :: S.ls.map (·.2)) ++ ((S.q.be :: S.le.map (·.2)) ++ ((S.q.bb :: S.lb.map (·.2)) ++ ((S.q.bf :: S.lf.map (·.2)) ++ (S.q.bq :: S.lq.map (·.2)))))) → w'.heap[b]? = w.heap[b]? := fun b hb => hs b (hgr b hb) (hin b (.inl (by unfold OpenD.boxes; exact List.mem_append_right _ hb)))
 have hkk : ∀ b ∈ S.kids, w'.heap[b]? = w.heap[b]? := fun b hb => hs b (hgk b hb) (hin b (.inr hb))
 have hmem : ∀ (b : Nat), (b ∈ kids procN S.lp ∨ b ∈ kids bufferN S.lf ∨ b ∈ kids portN S.lq) → b ∈ S.kids := fun b hb => by simp only [OpenD.kids, List.mem_append]; exact hb
 refine ⟨ho, h.procs.upd (fun p _ _ => (hf p.1).1) hc (hs _ hbp (hbx _ (by simp))) (fun b hb hne => hs b hne (hbx b (List.mem_cons_of_mem _ hb))), h.sems.same fun b hb => hbr b (List.mem_append_left _ hb), h.events.same fun b hb => hbr b (List.mem_append_right _ (List.mem_append_left _ hb)), h.boards.same fun b hb => hbr b (List.mem_append_right _ (List.mem_append_right _ (List.mem_append_left _ hb))), h.buffers.same fun b hb => hbr b (List.mem_append_right _ (List.mem_append_right _ (List.mem_append_right _ (List.mem_append_left _ hb)))), h.ports.same fun b hb => hbr b (List.mem_append_right _ (List.mem_append_right _ (List.mem_append_right _ (List.mem_append_right _ hb)))), fun p hp' => ?_, fun p hp' => (h.mineF p hp').same fun b hb => hkk b (hmem b (.inr (.inl (List.mem_filterMap.2 ⟨p, hp', hb⟩)))), fun p hp' => (h.mineQ p hp').same fun b hb => hkk b (hmem b (.inr (.inr (List.mem_filterMap.2 ⟨p, hp', hb⟩)))), ?_, h.low⟩
 ·obtain ⟨r, hr, rfl⟩ := mem_upd.1 hp'
  have hm : procN.Mine w' base r.1 := (h.mineP r hr).same fun b hb => hkk b (hmem b (.inl (List.mem_filterMap.2 ⟨r, hr, hb⟩)))
  split
  ·show w'.ownsRow base _ 4 (.slice (f r.1).progA (f r.1).prog.length (f r.1).progC) (f r.1).prog.length (opK.flat (f r.1).prog)
   rw [(hf r.1).2.1, (hf r.1).2.2.1, (hf r.1).2.2.2]
   exact hm
  ·exact hm
 ·have e1 : (S.turn g f nx).boxes = S.boxes := by simp only [OpenD.boxes, OpenD.turn, upd_blocks]
  have e2 : (S.turn g f nx).kids = S.kids := by simp only [OpenD.kids, OpenD.turn, upd_kids hkid]
  rw [e1, e2]
  exact hn
/-- The same, as data. -/
theorem OpenD.turn_pure {S : OpenD} {g : Nat} {x : ProcD} {f : ProcD → ProcD} {f' : ProcP → ProcP} {nx : Int} (hr : PartR S.pure) (hn : ∀ p ∈ S.lp, p.2 = g → p = (x, g)) (hx : (x, g) ∈ S.lp) (hf : ∀ y, (f y).toProcP = f' y.toProcP) :
  (S.turn g f nx).pure = { S.pure with next := nx, procs := turnP x.id f' S.pure.procs } := by
 have hrise := part_rise (partB_true hr)
 have key : (upd g f S.lp).map (·.1.toProcP) = turnP x.id f' (S.lp.map (·.1.toProcP)) := by
  unfold upd turnP
  rw [List.map_map, List.map_map]
  refine List.map_congr_left fun p hp => ?_
  simp only [Function.comp_def]
  by_cases hg : p.2 = g
  ·have hpx := hn p hp hg
   subst hpx
   rw [if_pos rfl, if_pos rfl]
   exact hf x
  ·rw [if_neg hg]
   have hne : ¬ p.1.toProcP.id = x.id := fun e => by
    have h5 : S.pure.procs.Pairwise (fun a b => a.id < b.id) := hrise
    have h6 : (S.lp.map (·.1.toProcP)).Pairwise (fun a b => a.id < b.id) := h5
    rw [List.pairwise_map] at h6
    obtain ⟨i, hi⟩ := List.mem_iff_getElem?.1 hp
    obtain ⟨j, hj⟩ := List.mem_iff_getElem?.1 hx
    obtain ⟨hi1, rfl⟩ := List.getElem?_eq_some_iff.1 hi
    obtain ⟨hj1, hj2⟩ := List.getElem?_eq_some_iff.1 hj
    rw [List.pairwise_iff_getElem] at h6
    have hxid : (S.lp[j]).1.id = x.id := by rw [hj2]
    rcases Nat.lt_trichotomy i j with hlt | heq | hgt
    ·have h7 : (S.lp[i]).1.id < (S.lp[j]).1.id := h6 i j hi1 hj1 hlt
     have h8 : (S.lp[i]).1.id = x.id := e
     omega
    ·subst heq; exact hg (by rw [hj2])
    ·have h7 : (S.lp[j]).1.id < (S.lp[i]).1.id := h6 j i hj1 hi1 hgt
     have h8 : (S.lp[i]).1.id = x.id := e
     omega
   rw [if_neg hne]
 show ({ S.pure with next := nx, procs := (upd g f S.lp).map (·.1.toProcP) } : PartP) = _
 rw [key]
 rfl
end Go.Proofs.YtkbcplnlehdjfaaGreat

/- An open partition that is right fits a machine; a process of it that comes last, that is started. (Made by mkstartedi.py.) -/
namespace Go.Proofs.YtkbcplnlehdjfaaGreat
open Go.RowKit Go.Maps
attribute [local go_sem ↓] Go.wp_at_zero Go.wp_at_succ
theorem wf_in {z : Int} (h : inB z 1 1000 = true) : (Lit.int .i64 z).wf = true := by
 have h2 := inB_iff.1 h
 have e1 : IntKind.min .i64 ≤ 0 := by decide
 have e2 : 100000 ≤ IntKind.max .i64 := by decide
 simp only [Lit.wf, Bool.and_eq_true, decide_eq_true_eq]
 omega
/-- An open partition that is right is short. -/
theorem open_fits {S : OpenD} (h : PartR S.pure) : S.Fits := by
 refine ⟨?_, ?_, ?_, ?_, ?_, ?_, ?_, ?_, ?_, ?_, ?_, ?_⟩
 ·have h5 := h.nProc
  have h6 : S.pure.procs.length = S.lp.length := by simp [OpenD.pure]
  omega
 ·intro p hp
  obtain ⟨r, hr, rfl⟩ := List.mem_map.1 hp
  exact wf_in (things_all h.procs (r.1.toProcP) (List.mem_map.2 ⟨r, hr, rfl⟩)).1
 ·have h5 := h.nSem
  have h6 : S.pure.sems.length = S.ls.length := by simp [OpenD.pure]
  omega
 ·intro p hp
  obtain ⟨r, hr, rfl⟩ := List.mem_map.1 hp
  exact wf_in (things_all h.sems (r.1) (List.mem_map.2 ⟨r, hr, rfl⟩)).1
 ·have h5 := h.nEvent
  have h6 : S.pure.events.length = S.le.length := by simp [OpenD.pure]
  omega
 ·intro p hp
  obtain ⟨r, hr, rfl⟩ := List.mem_map.1 hp
  exact wf_in (things_all h.events (r.1) (List.mem_map.2 ⟨r, hr, rfl⟩)).1
 ·have h5 := h.nBoard
  have h6 : S.pure.boards.length = S.lb.length := by simp [OpenD.pure]
  omega
 ·intro p hp
  obtain ⟨r, hr, rfl⟩ := List.mem_map.1 hp
  exact wf_in (things_all h.boards (r.1) (List.mem_map.2 ⟨r, hr, rfl⟩)).1
 ·have h5 := h.nBuffer
  have h6 : S.pure.buffers.length = S.lf.length := by simp [OpenD.pure]
  omega
 ·intro p hp
  obtain ⟨r, hr, rfl⟩ := List.mem_map.1 hp
  exact wf_in (things_all h.buffers (r.1.toBufferP) (List.mem_map.2 ⟨r, hr, rfl⟩)).1
 ·have h5 := h.nPort
  have h6 : S.pure.ports.length = S.lq.length := by simp [OpenD.pure]
  omega
 ·intro p hp
  obtain ⟨r, hr, rfl⟩ := List.mem_map.1 hp
  exact wf_in (things_all h.ports (r.1.toPortP) (List.mem_map.2 ⟨r, hr, rfl⟩)).1
theorem fits_turn {S : OpenD} {g : Nat} {f : ProcD → ProcD} {nx : Int} (h : S.Fits) (hf : ∀ x, (f x).id = x.id) : (S.turn g f nx).Fits := by
 have e : keysOf (fun x : ProcD => x.id) (upd g f S.lp) = keysOf (fun x : ProcD => x.id) S.lp := upd_keys fun p _ _ => hf p.1
 refine ⟨?_, ?_, h.nSem, h.wSem, h.nEvent, h.wEvent, h.nBoard, h.wBoard, h.nBuffer, h.wBuffer, h.nPort, h.wPort⟩
 ·show (upd g f S.lp).length ≤ _
  unfold upd
  rw [List.length_map]
  exact h.nProc
 ·show ∀ p ∈ keysOf (fun x : ProcD => x.id) (upd g f S.lp), _
  rw [e]
  exact h.wProc
set_option maxHeartbeats 2000000 in
theorem comesLast_any (o g : Nat) (nx : Int) (w : World) (h1 : w.cell? ⟨o, 1, none⟩ = some (.int .i64 nx)) (f1 : w.frozen? ⟨o, 1, none⟩ = false) (h2 : ∃ u, w.cell? ⟨g, 11, none⟩ = some u) (f2 : w.frozen? ⟨g, 11, none⟩ = false) (hne : ¬ o = g) (n0 : 0 ≤ nx) (n1 : nx ≤ 1000000000) :
  Calls Tryz.prog 180 #[.pointer (some ⟨o, 0, none⟩), .pointer (some ⟨g, 0, none⟩)] w fun e w' => e = .returned (.tuple #[]) ∧ w' = (w.setCell ⟨g, 11, none⟩ (.int .i64 nx)).setCell ⟨o, 1, none⟩ (.int .i64 (nx + 1)) := by
 obtain ⟨u, h2⟩ := h2
 have k1 : (w.setCell ⟨g, 11, none⟩ (.int .i64 nx)).cell? ⟨o, 1, none⟩ = some (.int .i64 nx) := (World.cell?_of_block (setCell_other hne)).trans h1
 have k2 : (w.setCell ⟨g, 11, none⟩ (.int .i64 nx)).frozen? ⟨o, 1, none⟩ = false := (World.frozen?_of_block (setCell_other hne)).trans f1
 go_enter Tryz.func180, Tryz.ntmps180
 go_wp2
 go_end0
 exact ⟨rfl, rfl⟩
def startF (nx : Int) (y : ProcD) : ProcD := { y with state := 1, since := nx }
set_option maxHeartbeats 2000000 in
theorem start_any (o g base : Nat) (S : OpenD) (x : ProcD) (w : World) (h : OpenAt w base o S) (hx : (x, g) ∈ S.lp) (n0 : 0 ≤ S.q.next) (n1 : S.q.next ≤ 1000000000) :
  Calls Tryz.prog 96 #[.pointer (some ⟨o, 0, none⟩), .pointer (some ⟨g, 0, none⟩)] w fun e w' => e = .returned (.tuple #[]) ∧ OpenAt w' base o (S.turn g (startF S.q.next) (S.q.next + 1)) ∧ Below base w w' := by
 have hgb : w.heap[g]? = some (.cells (procVs x) 43 (0, 0)) := h.procs.box (x, g) hx
 have hgm : g ∈ S.lp.map (·.2) := List.mem_map.2 ⟨(x, g), hx, rfl⟩
 have hno : ¬ o = g := fun e => by
  have h5 := (List.nodup_cons.1 h.nodup).1
  exact h5 (by rw [e]; simp only [OpenD.boxes, List.mem_append, List.mem_cons]; exact .inl (.inl (.inr hgm)))
 have hgl : base ≤ g := h.procs.low g (List.mem_cons_of_mem _ hgm)
 have hg1 := setCell_block (i := 3) (v := .int .i64 1) hgb
 have c3 : w.cell? ⟨g, 3, none⟩ = some (.int .i64 x.state) := (proc_cells hgb).2.2.2.1
 have z3 : w.frozen? ⟨g, 3, none⟩ = false := frozen_of_row _ _ _ _ _ hgb
 have HC : Hid ((w.setCell ⟨g, 3, none⟩ (.int .i64 1)).cell? ⟨o, 1, none⟩ = some (.int .i64 S.q.next) ∧ (w.setCell ⟨g, 3, none⟩ (.int .i64 1)).frozen? ⟨o, 1, none⟩ = false ∧ (∃ u, (w.setCell ⟨g, 3, none⟩ (.int .i64 1)).cell? ⟨g, 11, none⟩ = some u) ∧ (w.setCell ⟨g, 3, none⟩ (.int .i64 1)).frozen? ⟨g, 11, none⟩ = false) := ⟨(World.cell?_of_block (setCell_other hno)).trans (h.opn.cell 1), (World.frozen?_of_block (setCell_other hno)).trans (frozen_of_row _ _ _ _ _ h.opn), ⟨.int .i64 x.since, by simp [World.cell?, hg1, procVs]⟩, frozen_of_row _ _ _ _ _ hg1⟩
 have HE : Hid (OpenAt (((w.setCell ⟨g, 3, none⟩ (.int .i64 1)).setCell ⟨g, 11, none⟩ (.int .i64 S.q.next)).setCell ⟨o, 1, none⟩ (.int .i64 (S.q.next + 1))) base o (S.turn g (startF S.q.next) (S.q.next + 1)) ∧ Below base w (((w.setCell ⟨g, 3, none⟩ (.int .i64 1)).setCell ⟨g, 11, none⟩ (.int .i64 S.q.next)).setCell ⟨o, 1, none⟩ (.int .i64 (S.q.next + 1)))) := by
  refine ⟨h.turn (fun y => ⟨rfl, rfl, rfl, rfl⟩) (fun p hp hpg => ?_) hgm ?_ fun b hb hb2 => (setCell_other hb2).trans ((setCell_other hb).trans (setCell_other hb)), below_setCell (below_setCell (below_setCell (Below.refl _ _) hgl) hgl) h.low⟩
  ·have e := h.procs.one hp hx hpg
   subst e
   have h5 := (setCell_other (i := 1) (v := .int .i64 (S.q.next + 1)) (fun e => hno e.symm : g ≠ o)).trans (setCell_block (i := 11) (v := .int .i64 S.q.next) hg1)
   exact h5
  ·have h5 : ((w.setCell ⟨g, 3, none⟩ (.int .i64 1)).setCell ⟨g, 11, none⟩ (.int .i64 S.q.next)).heap[o]? = _ := ((setCell_other hno).trans (setCell_other hno)).trans h.opn
   exact setCell_block (i := 1) (v := .int .i64 (S.q.next + 1)) h5
 clear hgb hgm hg1 hgl h hx
 go_enter Tryz.func96, Tryz.ntmps96
 go_wp2_with fail
 refine (comesLast_any o g S.q.next _ HC.out.1 HC.out.2.1 HC.out.2.2.1 HC.out.2.2.2 hno n0 n1).mono ?_
 rintro e w2 ⟨rfl, rfl⟩
 go_wp2
 go_end0
 exact ⟨rfl, HE.out.1, HE.out.2⟩
end Go.Proofs.YtkbcplnlehdjfaaGreat
