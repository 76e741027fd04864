/- What the proof leans on, part 21: LwBase, SrcCells, LawX, Wild, CopyS, L3Copy1. -/
import Derived.Deep.RegionHeld
import Derived.Deep.AppendSrc
import Derived.Laws.CopyOwn
import Derived.Test.YtkbcplnlehdjfaaGreatOwnR0
import Derived.Test.YtkbcplnlehdjfaaGreatOwnR2
import Derived.Test.YtkbcplnlehdjfaaGreatOwnR12
import Derived.Test.YtkbcplnlehdjfaaGreatOwnR16
import Derived.Test.YtkbcplnlehdjfaaGreatOwnR20

namespace Go.Proofs.YtkbcplnlehdjfaaGreat
open Go.RowKit
theorem yieldsIf_row {P : Program} {ops : Array Oper} {S : World → Prop} {o : Oper} {a : Act} (hw : Region.wanted o (yielded ops a.tmps) = true) (ty : TypeId) (x : Operand) (ho : o.op = .load ty x)
  (g : Nat) (hx : a.eval x = .pointer (some ⟨g, 0, none⟩)) (t : TypeId) (cs : Array Value) (d : TypeDesc) (hS : ∀ w, S w → w.heap[g]? = some (.cells cs t (0, 0)))
  (hu : P.underlying ty = some d) (hd : (match d with | .struct _ | .array _ _ => true | _ => false) = true) (hi : (P.info? ty).map (·.size) = some cs.size) : YieldsIf P ops S o (.agg cs) a :=
 .inl ⟨hw, fun w hw' => by
  unfold execOp
  simp only [ho, hx, Instr.loadAt, Instr.sureAddr, Sem.run_bind, Sem.run_pure, Result.andThen_ok, run_loadVar_row w g t ty cs (0, 0) d (hS w hw') hu hd hi]⟩
/-- The numbers of a partition fit their kind. -/
structure PartD.Ints (p : PartD) : Prop where
 procs : ∀ x ∈ p.procs, x.Wf
 sems : ∀ x ∈ p.sems, (Lit.int .i64 x.id).wf = true
 events : ∀ x ∈ p.events, (Lit.int .i64 x.id).wf = true
 boards : ∀ x ∈ p.boards, (Lit.int .i64 x.id).wf = true
 buffers : ∀ x ∈ p.buffers, (Lit.int .i64 x.id).wf = true
 ports : ∀ x ∈ p.ports, (Lit.int .i64 x.id).wf = true
theorem small_of {p : PartD} (h : p.Shorts) (hi : p.Ints) : p.pure.Small := by
 refine ⟨by simpa [PartD.pure] using h.nProc, h.nSem, h.nEvent, h.nBoard, by simpa [PartD.pure] using h.nBuffer, by simpa [PartD.pure] using h.nPort, fun x hx => ?_, hi.sems, hi.events, fun x hx => ⟨hi.boards x hx, h.boards x hx⟩, fun x hx => ?_, fun x hx => ?_⟩
 ·obtain ⟨y, hy, rfl⟩ := List.mem_map.1 hx
  have h1 := h.procs y hy
  have h2 := hi.procs y hy
  exact ⟨⟨h1.prog, h1.ops, h1.held, h1.got⟩, h2.id, h2.on, h2.since⟩
 ·obtain ⟨y, hy, rfl⟩ := List.mem_map.1 hx
  exact ⟨hi.buffers y hy, h.buffers y hy⟩
 ·obtain ⟨y, hy, rfl⟩ := List.mem_map.1 hx
  exact ⟨hi.ports y hy, h.ports y hy⟩
end Go.Proofs.YtkbcplnlehdjfaaGreat

/- The cells of a partition that lies in a block. (Made by mkchosenlaw.py.) -/
namespace Go.Proofs.YtkbcplnlehdjfaaGreat
open Go.RowKit
theorem srcCells {W : World} {B : Nat} {p : PartD} {T : TypeId} (h : W.heap[B]? = some (.cells #[.int .i64 p.id, .int .i64 p.next, .slice p.procA p.procs.length p.procC, .slice p.semA p.sems.length p.semC, .slice p.eventA p.events.length p.eventC, .slice p.boardA p.boards.length p.boardC, .slice p.bufferA p.buffers.length p.bufferC, .slice p.portA p.ports.length p.portC] T (0, 0))) : W.cell? ⟨B, 0, none⟩ = some (.int .i64 p.id) ∧ W.cell? ⟨B, 1, none⟩ = some (.int .i64 p.next) ∧ W.cell? ⟨B, 2, none⟩ = some (.slice p.procA p.procs.length p.procC) ∧ W.cell? ⟨B, 3, none⟩ = some (.slice p.semA p.sems.length p.semC) ∧ W.cell? ⟨B, 4, none⟩ = some (.slice p.eventA p.events.length p.eventC) ∧ W.cell? ⟨B, 5, none⟩ = some (.slice p.boardA p.boards.length p.boardC) ∧ W.cell? ⟨B, 6, none⟩ = some (.slice p.bufferA p.buffers.length p.bufferC) ∧ W.cell? ⟨B, 7, none⟩ = some (.slice p.portA p.ports.length p.portC) := by
 simp [World.cell?, h]
end Go.Proofs.YtkbcplnlehdjfaaGreat

/- What the exact laws of functions that hand out memory have in common: how many marks there are; what a mark leaves as it was. -/
namespace Go.Proofs.YtkbcplnlehdjfaaGreat
open Go.RowKit
theorem cnt_op (l : List OpD) : cntL (fun _ : OpD => 4) l = l.length * 4 := cntL_const (fun _ => rfl) l
theorem cnt_str (l : List ByteArray) : cntL (fun _ : ByteArray => 1) l = l.length * 1 := cntL_const (fun _ => rfl) l
theorem cnt_proc : ∀ l : List ProcD, cntL cProc l ≤ 11 * (l.length + sumL (fun x : ProcD => x.prog.length) l)
 | [] => by simp [cntL]
 | x :: r => by
  have h1 := cnt_proc r
  have h2 : cProc x = 2 + cntL (fun _ : OpD => 4) x.prog + 9 := rfl
  have h3 := cnt_op x.prog
  simp only [cntL, List.length_cons, sumL, List.map_cons, List.sum_cons] at h1 ⊢
  omega
theorem cnt_buffer : ∀ l : List BufferD, cntL cBuffer l ≤ 11 * (l.length + sumL (fun x : BufferD => x.items.length) l)
 | [] => by simp [cntL]
 | x :: r => by
  have h1 := cnt_buffer r
  have h2 : cBuffer x = 2 + cntL (fun _ : ByteArray => 1) x.items := rfl
  have h3 := cnt_str x.items
  simp only [cntL, List.length_cons, sumL, List.map_cons, List.sum_cons] at h1 ⊢
  omega
theorem cnt_port : ∀ l : List PortD, cntL cPort l ≤ 11 * (l.length + sumL (fun x : PortD => x.items.length) l)
 | [] => by simp [cntL]
 | x :: r => by
  have h1 := cnt_port r
  have h2 : cPort x = 4 + cntL (fun _ : ByteArray => 1) x.items := rfl
  have h3 := cnt_str x.items
  simp only [cntL, List.length_cons, sumL, List.map_cons, List.sum_cons] at h1 ⊢
  omega
theorem cnt_part (p : PartD) : cntPart p ≤ 11 * p.pure.total := by
 rw [PartD.total_is]
 unfold cntPart
 have h1 := cnt_proc p.procs
 have h2 := cnt_buffer p.buffers
 have h3 := cnt_port p.ports
 have h4 : cntL (fun _ : SemD => 3) p.sems = p.sems.length * 3 := cntL_const (fun _ => rfl) _
 have h5 : cntL (fun _ : EventD => 2) p.events = p.events.length * 2 := cntL_const (fun _ => rfl) _
 have h6 : cntL (fun _ : BoardD => 3) p.boards = p.boards.length * 3 := cntL_const (fun _ => rfl) _
 omega
theorem small_cnt {p : PartD} (h : p.pure.Small) : p.Cnt := by
 refine ⟨by simpa [PartD.pure] using h.nProc, h.nSem, h.nEvent, h.nBoard, by simpa [PartD.pure] using h.nBuffer, by simpa [PartD.pure] using h.nPort, fun x hx => ?_, fun x hx => ?_, fun x hx => ?_⟩
 ·exact (h.procs x.toProcP (List.mem_map.2 ⟨x, hx, rfl⟩)).1.1
 ·exact (h.buffers x.toBufferP (List.mem_map.2 ⟨x, hx, rfl⟩)).2.1
 ·exact (h.ports x.toPortP (List.mem_map.2 ⟨x, hx, rfl⟩)).2.1
theorem mine_below {α : Type} {N : Nest α} {w w' : World} {base : Nat} {x : α} (h : N.Mine w base x) (hb : Below w.heap.size w w') : N.Mine w' base x := h.same fun g hk => hb.block g (h.lt hk).2
/-- The argument's block, and that nothing that was there is changed. -/
def SrcS (p : PartD) (w W : World) : Prop := W.heap[w.heap.size]? = some (.cells p.cells 73 (0, 0)) ∧ Below w.heap.size w W
/-- A partition, a process in its block, in memory of its own. -/
def PartIn (W : World) (X b : Nat) (q : PartD) : Prop := PartBox W X q ∧ PartOwn W b q
def ProcIs (W : World) (X b : Nat) (x : ProcD) : Prop := ProcBox W X x ∧ procN.Mine W b x
section
variable {p q : PartD} {x : ProcD} {w W W' : World} {X b : Nat} {bs : List Nat}
theorem SrcS.below (h : SrcS p w W) (hb : Below W.heap.size W W') : SrcS p w W' := ⟨(hb.block _ (Array.getElem?_eq_some_iff.1 h.1).1).trans h.1, h.2.trans (hb.mono h.2.size)⟩
theorem SrcS.kept (h : SrcS p w W) (hk : KeptBut W W' bs) (hs : ∀ g ∈ bs, w.heap.size < g) : SrcS p w W' := ⟨(hk.same _ (Array.getElem?_eq_some_iff.1 h.1).1 fun hm => by have := hs _ hm; omega).trans h.1, h.2.trans (hk.below h.2.size fun g hg => by have := hs g hg; omega)⟩
theorem PartIn.below (h : PartIn W X b q) (hb : Below W.heap.size W W') : PartIn W' X b q := ⟨h.1.below hb, h.2.below hb⟩
theorem PartIn.kept (h : PartIn W X b q) (hk : KeptBut W W' bs) (hs : X ∉ bs) (ho : ∀ g ∈ q.blocks, g ∉ bs) : PartIn W' X b q := ⟨(hk.same _ (Array.getElem?_eq_some_iff.1 h.1).1 hs).trans h.1, h.2.same fun g hg => hk.same g (h.2.lt g hg).2 (ho g hg)⟩
theorem ProcIs.below (h : ProcIs W X b x) (hb : Below W.heap.size W W') : ProcIs W' X b x := ⟨h.1.below hb, mine_below h.2 hb⟩
theorem ProcIs.kept (h : ProcIs W X b x) (hk : KeptBut W W' bs) (hs : X ∉ bs) (ho : ∀ g ∈ blk x.progA, g ∉ bs) : ProcIs W' X b x := ⟨(hk.same _ (Array.getElem?_eq_some_iff.1 h.1).1 hs).trans h.1, h.2.same fun g hg => hk.same g (h.2.lt hg).2 (ho g (mem_blk.2 hg))⟩
theorem PartBox.lt {W : World} {X : Nat} {q : PartD} (h : PartBox W X q) : X < W.heap.size := (Array.getElem?_eq_some_iff.1 h).1
theorem ProcBox.lt {W : World} {X : Nat} {x : ProcD} (h : ProcBox W X x) : X < W.heap.size := (Array.getElem?_eq_some_iff.1 h).1
end
end Go.Proofs.YtkbcplnlehdjfaaGreat

/- A region that draws its order and makes memory: what is done so far, and what it left, is kept as an invariant; each operation is looked at once, whatever has come ahead of it. -/
namespace Go.Proofs.YtkbcplnlehdjfaaGreat
open Go
section
variable {P : Program} {ops : Array Oper} {Q : Exit → Act → World → Prop} {md : Region.Mode} {S : World → Prop}
def undone (l : Array Bool) : Nat := l.toList.count false
theorem ready_free {l : Array Bool} {i : Nat} (h : i ∈ Region.ready md ops l) : l[i]? = some false := by
 simp only [Region.ready, List.mem_filter, Bool.and_eq_true, Bool.not_eq_true'] at h
 have h1 := h.2.1
 rw [Array.getD_eq_getD_getElem?] at h1
 cases h2 : l[i]? with
 | none => rw [h2] at h1; simp at h1
 | some b => rw [h2] at h1; simp at h1; rw [h1]
/-- What an operation waits for. -/
def needs (md : Region.Mode) (ops : Array Oper) (i : Nat) : List Nat := ((ops[i]?).map fun o => (o.after.toList.filter fun e => Region.binds md e).map fun e => e.on).getD []
theorem ready_needs {l : Array Bool} {i : Nat} (ns : List Nat) (h : i ∈ Region.ready md ops l) (hn : needs md ops i = ns) : ∀ j ∈ ns, l[j]? = some true := fun j hj => by
 simp only [Region.ready, List.mem_filter, Bool.and_eq_true] at h
 have h1 := h.2.2
 subst hn
 unfold needs at hj
 cases ho : ops[i]? with
 | none => rw [ho] at hj; simp at hj
 | some o =>
  rw [ho] at hj h1
  simp only [Option.map_some, Option.getD_some, List.mem_map, List.mem_filter] at hj h1
  obtain ⟨e, ⟨he, hb⟩, rfl⟩ := hj
  rw [Array.all_eq_true_iff_forall_mem] at h1
  have h2 := h1 e (by simpa using he)
  simp only [hb, Bool.not_true, Bool.false_or, Array.getD_eq_getD_getElem?] at h2
  cases h3 : l[e.on]? with
  | none => rw [h3] at h2; simp at h2
  | some b => rw [h3] at h2; simp at h2; rw [h2]
theorem ready_of {l : Array Bool} {i : Nat} (ns : List Nat) (hi : decide (i < ops.size) = true) (hn : needs md ops i = ns) (hf : l[i]? = some false) (hd : ∀ j ∈ ns, l[j]? = some true) : i ∈ Region.ready md ops l := by
 have hi' := of_decide_eq_true hi
 simp only [Region.ready, List.mem_filter, List.mem_range, Bool.and_eq_true, Bool.not_eq_true', Array.getD_eq_getD_getElem?, hf, Option.getD_some, true_and]
 refine ⟨hi', ?_⟩
 subst hn
 rw [Array.getElem?_eq_getElem hi'] at *
 simp only [needs, Array.getElem?_eq_getElem hi', Option.map_some, Option.getD_some] at hd ⊢
 rw [Array.all_eq_true_iff_forall_mem]
 intro e he
 cases hb : Region.binds md e with
 | false => simp
 | true =>
  have := hd e.on (List.mem_map.2 ⟨e, List.mem_filter.2 ⟨by simpa using he, hb⟩, rfl⟩)
  simp [this]
theorem count_set : ∀ {q : List Bool} {i : Nat}, q[i]? = some false → (q.set i true).count false + 1 = q.count false
 | [], _, h => by simp at h
 | b :: r, 0, h => by
  simp only [List.getElem?_cons_zero, Option.some.injEq] at h
  subst h
  simp
 | b :: r, i + 1, h => by
  simp only [List.getElem?_cons_succ] at h
  have := count_set h
  simp only [List.set_cons_succ, List.count_cons]
  omega
theorem undone_set {l : Array Bool} {i : Nat} (h : l[i]? = some false) : undone (l.setIfInBounds i true) + 1 = undone l := by
 unfold undone
 rw [Array.toList_setIfInBounds]
 exact count_set (by rw [Array.getElem?_toList]; exact h)
/-- An operation that may be taken first, its checks left to the kernel. -/
theorem tk (i : Nat) {oi : Oper} {v : Value} {fuel : Nat} {listed : Array Bool} {a : Act} {w : World} {d : Tmp} (hy : ∀ w, S w → (execOp a.eval oi).run P w = .ok (.value v) w) (hS : S w)
  (h : wpAnyH P md ops Q S fuel (listed.setIfInBounds i true) (a.put (some d) v) w) (hi : ops[i]? = some oi := by rfl) (hd : oi.dst = some d := by rfl) (h1 : Region.noSelect ops = true := by kernel_rfl) (h2 : Region.free md ops listed i = true := by kernel_rfl) (h3 : (Region.ready md ops listed).contains i = true := by kernel_rfl)
  (hQ : ∀ c a w, Q (.panic c) (a.put (some d) v) w → Q (.panic c) a w := by exact fun _ _ _ h => h) (hw : Region.wanted oi (yielded ops a.tmps) = true := by kernel_rfl) : wpAnyH P md ops Q S (fuel + 1) listed a w := by
 rw [← hd] at h hQ
 exact wpAnyH_take (i := i) hi h1 h2 h3 hQ (.inl ⟨hw, hy⟩) hS h
theorem wpOp_do {i : Nat} {o : Oper} {K : Act → World → Prop} {a : Act} {w : World} (ho : ops[i]? = some o) (hw : Region.wanted o (yielded ops a.tmps) = true)
  (h : ∀ K' : Act → World → Prop, Shut (∀ a w, K a w → K' a w) → Oper.wp P o a w K' Q) : wpOp P ops Q i K a w :=
 wpOp_step ho fun K' hK => by
  rw [if_pos hw]
  exact h K' hK
theorem wild (Inv : Array Bool → Act → World → Prop) (hS : ∀ l a w, Inv l a w → S w) (hstep : ∀ l a w, Inv l a w → ∀ i ∈ Region.ready md ops l, wpOp P ops Q i (Inv (l.setIfInBounds i true)) a w)
  (hend : ∀ l a w, Inv l a w → Region.ready md ops l = [] → Q .normal a w) : ∀ (fuel : Nat) (l : Array Bool) (a : Act) (w : World), Inv l a w → undone l ≤ fuel → wpAnyH P md ops Q S fuel l a w
 | 0, l, a, w, h, hu => by
  have h0 : Region.ready md ops l = [] := List.eq_nil_iff_forall_not_mem.2 fun i hi => by
   have := undone_set (ready_free hi)
   omega
  exact ⟨h0, hend _ _ _ h h0⟩
 | fuel + 1, l, a, w, h, hu => ⟨fun h0 => hend _ _ _ h h0, fun i hi => wpOp_mono (fun a' w' h' => ⟨hS _ _ _ h', wild Inv hS hstep hend fuel _ a' w' h' (by have := undone_set (ready_free hi); omega)⟩) (hstep _ _ _ h i hi)⟩
end
end Go.Proofs.YtkbcplnlehdjfaaGreat

/- A list copied onto an empty slice of one's own: 'append([]T{}, list...)'; operations that make memory, one by one. (Made by mkcopys.py.) -/
namespace Go.Proofs.YtkbcplnlehdjfaaGreat
open Go.RowKit
theorem rinfSem : (Tryz.prog.info? 49).map (fun i => (i.zero, i.size, i.bytes)) = some (some (.agg #[.int .i64 0, .int .i64 0, .int .i64 0]), 3, 24) := by kernel_rfl
theorem rinfEvent : (Tryz.prog.info? 138).map (fun i => (i.zero, i.size, i.bytes)) = some (some (.agg #[.int .i64 0, .bool false]), 2, 16) := by kernel_rfl
theorem rinfBoard : (Tryz.prog.info? 141).map (fun i => (i.zero, i.size, i.bytes)) = some (some (.agg #[.int .i64 0, .bool false, .string ⟨#[]⟩]), 3, 32) := by kernel_rfl
theorem rinfBuffer : (Tryz.prog.info? 144).map (fun i => (i.zero, i.size, i.bytes)) = some (some (.agg #[.int .i64 0, .int .i64 0, .slice none 0 0]), 3, 40) := by kernel_rfl
theorem rinfPort : (Tryz.prog.info? 61).map (fun i => (i.zero, i.size, i.bytes)) = some (some (.agg #[.int .i64 0, .bool false, .bool false, .int .i64 0, .slice none 0 0]), 5, 48) := by kernel_rfl
theorem rinfProc : (Tryz.prog.info? 43).map (fun i => (i.zero, i.size, i.bytes)) = some (some (.agg #[.int .i64 0, .int .i64 0, .slice none 0 0, .int .i64 0, .int .i64 0, .int .i64 0, .int .i64 0, .int .i64 0, .string ⟨#[]⟩, .string ⟨#[]⟩, .int .i64 0, .int .i64 0]), 12, 128) := by kernel_rfl
theorem own_empty {w : World} {base g : Nat} {e : TypeId} {size : Nat} (hg : w.heap[g]? = some (.cells #[] e (0, 0))) (hb : base ≤ g) : w.ownsRow base e size (.slice (some ⟨g, 0, none⟩) 0 0) 0 [] :=
 ⟨by simp, .inr ⟨g, 0, #[], rfl, hb, hg, Nat.le_refl _, Nat.zero_le _, by simp, by simp⟩⟩
/-- The copy is the call's own: in the block that was made for it, or in a new one. -/
theorem append_onto {P : Program} (w : World) (base : Nat) (t ty e : TypeId) (i : TypeInfo) (z : Value) (size bytes : Nat) (ht : P.underlying t = some (.slice e)) (hi : P.info? e = some i) (hz : i.zero = some z)
  (hsize : i.size = size) (hby : i.bytes = bytes) (hzs : z.cells.size = size) (hsz : 0 < size) (g : Nat) (hg : w.heap[g]? = some (.cells #[] e (0, 0))) (hbg : base ≤ g) (a : Option Addr) (n cap : Nat) (xs : List Value) (h : Row w a xs) (hl : xs.length = n * size) (h1 : ∀ u ∈ xs, u.oneCell' = true)
  (h63 : n ≤ 1048576) (hb : bytes ≤ 1000) (hbw : base ≤ w.heap.size) :
  ∃ a' cap' w', (Builtin.append_ #[t, t] ty #[.slice (some ⟨g, 0, none⟩) 0 0, .slice a n cap]).run P w = .ok (.slice a' n cap') w' ∧ w'.ownsRow base e size (.slice a' n cap') n xs ∧ w.grownBy w' (some g) ∧ ∀ q ∈ blk a', q = g ∨ q = w.heap.size := by
 cases a with
 | none =>
  have hx : xs = [] := by
   cases xs with
   | nil => rfl
   | cons u r =>
    obtain ⟨g, e', _⟩ := h 0 u rfl
    cases e'
  subst hx
  have hn : n = 0 := by
   cases n with
   | zero => rfl
   | succ n => simp only [List.length_nil, Nat.succ_mul] at hl; omega
  subst hn
  refine ⟨some ⟨g, 0, none⟩, 0, w, ?_, own_empty hg hbg, ⟨rfl, rfl, rfl, Nat.le_refl _, fun _ _ _ => rfl⟩, fun q hq => by simp [blk] at hq; exact .inl hq⟩
  simp [Builtin.append_, run_underlying ht, sizeOf, typeInfo, hi, Builtin.lenOf, Builtin.firstCells, storeCells]
 | some ad =>
  have hnews : ∀ j u, xs[j]? = some u → w.cell? (ad.add j) = some u := fun j u hu => by
   obtain ⟨g, e', hc⟩ := h j u hu
   cases e'
   rw [add_off]
   exact hc
  obtain ⟨v', w', hr, ho, hgr, -, hbl⟩ := run_append_own_at (P := P) w base t ty e i z size bytes ht hi hz hsize hby hzs hsz (.slice (some ⟨g, 0, none⟩) 0 0) 0 [] (own_empty hg hbg) ad n cap xs hl hnews h1 (by unfold maxLen; omega) (by rw [Nat.zero_add]; have := Nat.mul_le_mul h63 hb; omega) hbw
  simp only [Nat.zero_add, List.nil_append] at ho
  obtain ⟨a', cap', rfl, -⟩ := own_form ho
  refine ⟨a', cap', w', hr, ho, hgr, fun q hq => ?_⟩
  rw [mem_blk] at hq
  cases a' with
  | none => simp at hq
  | some ad' =>
   simp only [Option.map_some, Option.some.injEq] at hq
   subst hq
   rcases hbl with hbl | hbl
   ·exact .inl (by simpa [Value.ownBlock] using hbl)
   ·exact .inr (by simpa [Value.ownBlock] using hbl)
theorem one_sem {l : List SemD} : ∀ u ∈ semK.flat l, u.oneCell' = true := fun u hu => by
 obtain ⟨x, _, hx⟩ := List.mem_flatMap.1 hu
 simp only [semK, semVals, List.mem_cons, List.not_mem_nil, or_false] at hx
 rcases hx with rfl | rfl | rfl <;> rfl
theorem one_event {l : List EventD} : ∀ u ∈ eventK.flat l, u.oneCell' = true := fun u hu => by
 obtain ⟨x, _, hx⟩ := List.mem_flatMap.1 hu
 simp only [eventK, eventVals, List.mem_cons, List.not_mem_nil, or_false] at hx
 rcases hx with rfl | rfl <;> rfl
theorem one_board {l : List BoardD} : ∀ u ∈ boardK.flat l, u.oneCell' = true := fun u hu => by
 obtain ⟨x, _, hx⟩ := List.mem_flatMap.1 hu
 simp only [boardK, boardVals, List.mem_cons, List.not_mem_nil, or_false] at hx
 rcases hx with rfl | rfl | rfl <;> rfl
theorem ontoSem (w : World) (base g : Nat) (hg : w.heap[g]? = some (.cells #[] 49 (0, 0))) (hbg : base ≤ g) (a : Option Addr) (l : List SemD) (cap : Nat) (h : Row w a (semK.flat l)) (hl : l.length ≤ 1048576) (hbw : base ≤ w.heap.size) :
  ∃ a' cap' w', (Builtin.append_ #[26, 26] 26 #[.slice (some ⟨g, 0, none⟩) 0 0, .slice a l.length cap]).run Tryz.prog w = .ok (.slice a' l.length cap') w' ∧ w'.ownsRow base 49 3 (.slice a' l.length cap') l.length (semK.flat l) ∧ w.grownBy w' (some g) ∧ ∀ q ∈ blk a', q = g ∨ q = w.heap.size := by
 obtain ⟨i, hi, e⟩ := Option.map_eq_some_iff.1 rinfSem
 simp only [Prod.mk.injEq] at e
 exact append_onto w base _ _ 49 i _ 3 24 Tryz.underlying26 hi e.1 e.2.1 e.2.2 rfl (by decide) g hg hbg a l.length cap _ h (semK.flat_length l) one_sem hl (by decide) hbw
theorem ontoEvent (w : World) (base g : Nat) (hg : w.heap[g]? = some (.cells #[] 138 (0, 0))) (hbg : base ≤ g) (a : Option Addr) (l : List EventD) (cap : Nat) (h : Row w a (eventK.flat l)) (hl : l.length ≤ 1048576) (hbw : base ≤ w.heap.size) :
  ∃ a' cap' w', (Builtin.append_ #[27, 27] 27 #[.slice (some ⟨g, 0, none⟩) 0 0, .slice a l.length cap]).run Tryz.prog w = .ok (.slice a' l.length cap') w' ∧ w'.ownsRow base 138 2 (.slice a' l.length cap') l.length (eventK.flat l) ∧ w.grownBy w' (some g) ∧ ∀ q ∈ blk a', q = g ∨ q = w.heap.size := by
 obtain ⟨i, hi, e⟩ := Option.map_eq_some_iff.1 rinfEvent
 simp only [Prod.mk.injEq] at e
 exact append_onto w base _ _ 138 i _ 2 16 Tryz.underlying27 hi e.1 e.2.1 e.2.2 rfl (by decide) g hg hbg a l.length cap _ h (eventK.flat_length l) one_event hl (by decide) hbw
theorem ontoBoard (w : World) (base g : Nat) (hg : w.heap[g]? = some (.cells #[] 141 (0, 0))) (hbg : base ≤ g) (a : Option Addr) (l : List BoardD) (cap : Nat) (h : Row w a (boardK.flat l)) (hl : l.length ≤ 1048576) (hbw : base ≤ w.heap.size) :
  ∃ a' cap' w', (Builtin.append_ #[28, 28] 28 #[.slice (some ⟨g, 0, none⟩) 0 0, .slice a l.length cap]).run Tryz.prog w = .ok (.slice a' l.length cap') w' ∧ w'.ownsRow base 141 3 (.slice a' l.length cap') l.length (boardK.flat l) ∧ w.grownBy w' (some g) ∧ ∀ q ∈ blk a', q = g ∨ q = w.heap.size := by
 obtain ⟨i, hi, e⟩ := Option.map_eq_some_iff.1 rinfBoard
 simp only [Prod.mk.injEq] at e
 exact append_onto w base _ _ 141 i _ 3 32 Tryz.underlying28 hi e.1 e.2.1 e.2.2 rfl (by decide) g hg hbg a l.length cap _ h (boardK.flat_length l) one_board hl (by decide) hbw
theorem ontoOp (w : World) (base g : Nat) (hg : w.heap[g]? = some (.cells #[] 134 (0, 0))) (hbg : base ≤ g) (a : Option Addr) (l : List OpD) (cap : Nat) (h : Row w a (opK.flat l)) (hl : l.length ≤ 1048576) (hbw : base ≤ w.heap.size) :
  ∃ a' cap' w', (Builtin.append_ #[37, 37] 37 #[.slice (some ⟨g, 0, none⟩) 0 0, .slice a l.length cap]).run Tryz.prog w = .ok (.slice a' l.length cap') w' ∧ w'.ownsRow base 134 4 (.slice a' l.length cap') l.length (opK.flat l) ∧ w.grownBy w' (some g) ∧ ∀ q ∈ blk a', q = g ∨ q = w.heap.size := by
 obtain ⟨i, hi, e⟩ := Option.map_eq_some_iff.1 opInfoL
 simp only [Prod.mk.injEq] at e
 exact append_onto w base _ _ 134 i _ 4 40 Tryz.underlying37 hi e.1 e.2.1 e.2.2 rfl (by decide) g hg hbg a l.length cap _ h (opK.flat_length l) one_op hl (by decide) hbw
theorem ontoStr (w : World) (base g : Nat) (hg : w.heap[g]? = some (.cells #[] 9 (0, 0))) (hbg : base ≤ g) (a : Option Addr) (l : List ByteArray) (cap : Nat) (h : Row w a (strK.flat l)) (hl : l.length ≤ 1048576) (hbw : base ≤ w.heap.size) :
  ∃ a' cap' w', (Builtin.append_ #[59, 59] 59 #[.slice (some ⟨g, 0, none⟩) 0 0, .slice a l.length cap]).run Tryz.prog w = .ok (.slice a' l.length cap') w' ∧ w'.ownsRow base 9 1 (.slice a' l.length cap') l.length (strK.flat l) ∧ w.grownBy w' (some g) ∧ ∀ q ∈ blk a', q = g ∨ q = w.heap.size := by
 obtain ⟨i, hi, e⟩ := Option.map_eq_some_iff.1 strInfo
 simp only [Prod.mk.injEq] at e
 exact append_onto w base _ _ 9 i _ 1 16 Tryz.underlying59 hi e.1 e.2.1 e.2.2 rfl (by decide) g hg hbg a l.length cap _ h (strK.flat_length l) one_str hl (by decide) hbw
section
variable {P : Program} {Q : Exit → Act → World → Prop} {K : Act → World → Prop} {o : Oper} {a : Act} {w : World}
theorem oper_append (s x : Operand) (t : TypeId) (ho : o.op = .call { callee := .builtin .append, args := #[s, x], argTypes := #[t, t] }) (v u r : Value) (w' : World) (hs : a.eval s = v) (hx : a.eval x = u) (hr : (Builtin.append_ #[t, t] o.type #[v, u]).run P w = .ok r w')
  (h : K (a.put o.dst r) w') : Oper.wp P o a w K Q := by
 unfold Oper.wp execOp
 simp only [ho, resolve, invoke, builtin, Sem.run_bind, Sem.run_pure, Result.andThen_ok, List.map_toArray, List.map_cons, List.map_nil, hs, hx, hr]
 exact h
theorem oper_store (ty : TypeId) (x y : Operand) (ho : o.op = .store ty x y) (g : Nat) (t : TypeId) (old cells : Array Value) (hx : a.eval x = .pointer (some ⟨g, 0, none⟩)) (hy : a.eval y = .agg cells) (hg : w.heap[g]? = some (.cells old t (0, 0))) (hi : (P.info? ty).map (·.size) = some cells.size)
  (hs : old.size = cells.size) (h1 : cells.all (·.oneCell') = true) (h : K (a.put o.dst undef) (w.setRow g cells)) : Oper.wp P o a w K Q := by
 unfold Oper.wp execOp
 simp only [ho, hx, hy, Instr.storeAt, Instr.sureAddr, Sem.run_bind, Sem.run_pure, Result.andThen_ok, run_storeVar_row w g t ty old cells hg hi hs h1]
 exact h
theorem wpList_store_row {ops : Array Oper} {rest : List Oper} (hgd : o.guard = none) (ty : TypeId) (x y : Operand) (ho : o.op = .store ty x y) (g : Nat) (t : TypeId) (old cells : Array Value) (hx : a.eval x = .pointer (some ⟨g, 0, none⟩)) (hy : a.eval y = .agg cells) (hg : w.heap[g]? = some (.cells old t (0, 0))) (hi : (P.info? ty).map (·.size) = some cells.size)
  (hs : old.size = cells.size) (h1 : cells.all (·.oneCell') = true) (h : wpList P ops Q rest (a.put o.dst undef) (w.setRow g cells)) : wpList P ops Q (o :: rest) a w :=
 wpList_plain hgd fun _ hK => oper_store ty x y ho g t old cells hx hy hg hi hs h1 (hK _ _ h)
end
/-- A list on its way to be copied: an empty slice is made for it (b), it is copied (c). -/
structure SlotIs (w : World) (base : Nat) (T : TypeId) (size len : Nat) (xs : List Value) (b c : Bool) (g : Nat) (a : Option Addr) (cap : Nat) : Prop where
 made : b = true → c = false → w.heap[g]? = some (.cells #[] T (0, 0)) ∧ base ≤ g
 done : c = true → w.ownsRow base T size (.slice a len cap) len xs
def slotB (b c : Bool) (g : Nat) (a : Option Addr) : List Nat := bif c then blk a else bif b then [g] else []
theorem SlotIs.same {w w' : World} {base : Nat} {T : TypeId} {size len : Nat} {xs : List Value} {b c : Bool} {g : Nat} {a : Option Addr} {cap : Nat} (h : SlotIs w base T size len xs b c g a cap) (hs : ∀ q ∈ slotB b c g a, w'.heap[q]? = w.heap[q]?) : SlotIs w' base T size len xs b c g a cap := by
 refine ⟨fun hb hc => ?_, fun hc => ?_⟩
 ·subst hb hc
  exact ⟨(hs g (by simp [slotB])).trans (h.made rfl rfl).1, (h.made rfl rfl).2⟩
 ·subst hc
  exact own_same (h.done rfl) fun q hq => hs q (by simpa [slotB] using hq)
end Go.Proofs.YtkbcplnlehdjfaaGreat

/- The plain lists of a partition copied by the specification, in whatever order: what stands between. (Made by mkl3copy.py.) -/
namespace Go.Proofs.YtkbcplnlehdjfaaGreat
open Go.RowKit
/-- Four lists of blocks, none of which has one in common with another. -/
def four (a b c d : List Nat) : Nat → List Nat
 | 0 => a
 | 1 => b
 | 2 => c
 | 3 => d
 | _ => []
structure Apart4 (n0 n : Nat) (X : Nat → List Nat) : Prop where
 apart : ∀ i j, i ≠ j → ∀ q ∈ X i, q ∉ X j
 lts : ∀ i, ∀ q ∈ X i, n0 ≤ q ∧ q < n
theorem Apart4.up {n0 n n' : Nat} {X X' : Nat → List Nat} (h : Apart4 n0 n X) (k : Nat) (hk : ∀ j, j ≠ k → X' j = X j) (hx : ∀ q ∈ X' k, q ∈ X k ∨ q = n) (hn : n < n') (h0 : n0 ≤ n) : Apart4 n0 n' X' := by
 refine ⟨fun i j hij q hi hj => ?_, fun i q hi => ?_⟩
 ·by_cases ei : i = k
  ·subst ei
   rw [hk j (Ne.symm hij)] at hj
   rcases hx q hi with h1 | rfl
   ·exact h.apart i j hij q h1 hj
   ·have := (h.lts j q hj).2; omega
  ·rw [hk i ei] at hi
   by_cases ej : j = k
   ·subst ej
    rcases hx q hj with h1 | rfl
    ·exact h.apart i j hij q hi h1
    ·have := (h.lts i q hi).2; omega
   ·rw [hk j ej] at hj
    exact h.apart i j hij q hi hj
 ·by_cases ei : i = k
  ·subst ei
   rcases hx q hi with h1 | rfl
   ·have := h.lts i q h1; omega
   ·omega
  ·rw [hk i ei] at hi
   have := h.lts i q hi
   omega
theorem Apart4.mono {n0 n n' : Nat} {X : Nat → List Nat} (h : Apart4 n0 n X) (hn : n ≤ n') : Apart4 n0 n' X := ⟨h.apart, fun i q hq => by have := h.lts i q hq; omega⟩
/-- What stands while the plain lists are copied, whatever has come first. -/
structure CopyF (p : PartD) (We w : World) (b0 d0 b1 d1 b2 d2 b3 d3 e : Bool) (g0 g1 g2 o : Nat) (a0 a1 a2 : Option Addr) (c0 c1 c2 : Nat) : Prop where
 bel : Below We.heap.size We w
 part : PartBox w We.heap.size p
 ret : w.heap[We.heap.size + 1]? = some (.cells #[.int .i64 0, .int .i64 0, .slice none 0 0, .slice none 0 0, .slice none 0 0, .slice none 0 0, .slice none 0 0, .slice none 0 0] 32 (0, 0))
 s0 : SlotIs w (We.heap.size + 2) 49 3 p.sems.length (semK.flat p.sems) b0 d0 g0 a0 c0
 s1 : SlotIs w (We.heap.size + 2) 138 2 p.events.length (eventK.flat p.events) b1 d1 g1 a1 c1
 s2 : SlotIs w (We.heap.size + 2) 141 3 p.boards.length (boardK.flat p.boards) b2 d2 g2 a2 c2
 out : b3 = true → w.heap[o]? = some (.cells (bif d3 then #[.int .i64 p.id, .int .i64 p.next, .slice none 0 0, .slice a0 p.sems.length c0, .slice a1 p.events.length c1, .slice a2 p.boards.length c2, .slice none 0 0, .slice none 0 0] else #[.int .i64 0, .int .i64 0, .slice none 0 0, .slice none 0 0, .slice none 0 0, .slice none 0 0, .slice none 0 0, .slice none 0 0]) 32 (0, 0))
 cl : (e = true → d0 = true ∧ d1 = true ∧ d2 = true) ∧ (d3 = true → e = true ∧ b3 = true)
 size : We.heap.size + 2 ≤ w.heap.size
 apt : Apart4 (We.heap.size + 2) w.heap.size (four (slotB b0 d0 g0 a0) (slotB b1 d1 g1 a1) (slotB b2 d2 g2 a2) (bif b3 then [o] else []))
section
variable {p : PartD} {We w : World} {b0 d0 b1 d1 b2 d2 b3 d3 e : Bool} {g0 g1 g2 o : Nat} {a0 a1 a2 : Option Addr} {c0 c1 c2 : Nat}
theorem CopyF.make0 (h : CopyF p We w false d0 b1 d1 b2 d2 b3 d3 e g0 g1 g2 o a0 a1 a2 c0 c1 c2) : CopyF p We (w.alloc (.cells #[] 49)) true d0 b1 d1 b2 d2 b3 d3 e w.heap.size g1 g2 o a0 a1 a2 c0 c1 c2 := by
 have hb : Below w.heap.size w (w.alloc (.cells #[] 49)) := (Below.refl _ _).alloc (Nat.le_refl _) _
 have hlt : ∀ i, ∀ q ∈ four (slotB false d0 g0 a0) (slotB b1 d1 g1 a1) (slotB b2 d2 g2 a2) (bif b3 then [o] else []) i, q < w.heap.size := fun i q hq => (h.apt.lts i q hq).2
 exact ⟨h.bel.trans (hb.mono h.bel.size), h.part.below hb, (hb.block _ (by have := h.size; omega)).trans h.ret, ⟨fun _ hd => ⟨heap_alloc_new _ _, h.size⟩, fun hd => own_same (h.s0.done hd) fun q hq => hb.block q (hlt 0 q (by subst hd; simpa [four, slotB] using hq))⟩, h.s1.same fun q hq => hb.block q (hlt 1 q hq), h.s2.same fun q hq => hb.block q (hlt 2 q hq), fun e => (hb.block _ (hlt 3 o (by simp [four, e]))).trans (h.out e), h.cl, by have := h.size; simp; omega, h.apt.up 0 (fun j hj => by rcases j with _ | _ | _ | _ | _ <;> first | rfl | exact absurd rfl hj) (fun q hq => by cases d0 with | true => exact .inl (by simpa [four, slotB] using hq) | false => exact .inr (by simpa [four, slotB] using hq)) (by simp) h.size⟩
theorem CopyF.make1 (h : CopyF p We w b0 d0 false d1 b2 d2 b3 d3 e g0 g1 g2 o a0 a1 a2 c0 c1 c2) : CopyF p We (w.alloc (.cells #[] 138)) b0 d0 true d1 b2 d2 b3 d3 e g0 w.heap.size g2 o a0 a1 a2 c0 c1 c2 := by
 have hb : Below w.heap.size w (w.alloc (.cells #[] 138)) := (Below.refl _ _).alloc (Nat.le_refl _) _
 have hlt : ∀ i, ∀ q ∈ four (slotB b0 d0 g0 a0) (slotB false d1 g1 a1) (slotB b2 d2 g2 a2) (bif b3 then [o] else []) i, q < w.heap.size := fun i q hq => (h.apt.lts i q hq).2
 exact ⟨h.bel.trans (hb.mono h.bel.size), h.part.below hb, (hb.block _ (by have := h.size; omega)).trans h.ret, h.s0.same fun q hq => hb.block q (hlt 0 q hq), ⟨fun _ hd => ⟨heap_alloc_new _ _, h.size⟩, fun hd => own_same (h.s1.done hd) fun q hq => hb.block q (hlt 1 q (by subst hd; simpa [four, slotB] using hq))⟩, h.s2.same fun q hq => hb.block q (hlt 2 q hq), fun e => (hb.block _ (hlt 3 o (by simp [four, e]))).trans (h.out e), h.cl, by have := h.size; simp; omega, h.apt.up 1 (fun j hj => by rcases j with _ | _ | _ | _ | _ <;> first | rfl | exact absurd rfl hj) (fun q hq => by cases d1 with | true => exact .inl (by simpa [four, slotB] using hq) | false => exact .inr (by simpa [four, slotB] using hq)) (by simp) h.size⟩
theorem CopyF.make2 (h : CopyF p We w b0 d0 b1 d1 false d2 b3 d3 e g0 g1 g2 o a0 a1 a2 c0 c1 c2) : CopyF p We (w.alloc (.cells #[] 141)) b0 d0 b1 d1 true d2 b3 d3 e g0 g1 w.heap.size o a0 a1 a2 c0 c1 c2 := by
 have hb : Below w.heap.size w (w.alloc (.cells #[] 141)) := (Below.refl _ _).alloc (Nat.le_refl _) _
 have hlt : ∀ i, ∀ q ∈ four (slotB b0 d0 g0 a0) (slotB b1 d1 g1 a1) (slotB false d2 g2 a2) (bif b3 then [o] else []) i, q < w.heap.size := fun i q hq => (h.apt.lts i q hq).2
 exact ⟨h.bel.trans (hb.mono h.bel.size), h.part.below hb, (hb.block _ (by have := h.size; omega)).trans h.ret, h.s0.same fun q hq => hb.block q (hlt 0 q hq), h.s1.same fun q hq => hb.block q (hlt 1 q hq), ⟨fun _ hd => ⟨heap_alloc_new _ _, h.size⟩, fun hd => own_same (h.s2.done hd) fun q hq => hb.block q (hlt 2 q (by subst hd; simpa [four, slotB] using hq))⟩, fun e => (hb.block _ (hlt 3 o (by simp [four, e]))).trans (h.out e), h.cl, by have := h.size; simp; omega, h.apt.up 2 (fun j hj => by rcases j with _ | _ | _ | _ | _ <;> first | rfl | exact absurd rfl hj) (fun q hq => by cases d2 with | true => exact .inl (by simpa [four, slotB] using hq) | false => exact .inr (by simpa [four, slotB] using hq)) (by simp) h.size⟩
theorem CopyF.copy0 {w2 : World} {a : Option Addr} {c : Nat} (h : CopyF p We w true false b1 d1 b2 d2 b3 d3 e g0 g1 g2 o a0 a1 a2 c0 c1 c2) (ho : w2.ownsRow (We.heap.size + 2) 49 3 (.slice a p.sems.length c) p.sems.length (semK.flat p.sems)) (hg : w.grownBy w2 (some g0)) (hq : ∀ q ∈ blk a, q = g0 ∨ q = w.heap.size) : CopyF p We w2 true true b1 d1 b2 d2 b3 d3 e g0 g1 g2 o a a1 a2 c c1 c2 := by
 have hlt : ∀ i, ∀ q ∈ four (slotB true false g0 a0) (slotB b1 d1 g1 a1) (slotB b2 d2 g2 a2) (bif b3 then [o] else []) i, q < w.heap.size := fun i q hq => (h.apt.lts i q hq).2
 have hgl : We.heap.size + 2 ≤ g0 ∧ g0 < w.heap.size := h.apt.lts 0 g0 (by simp [four, slotB])
 have hne : ∀ i, i ≠ 0 → ∀ q ∈ four (slotB true false g0 a0) (slotB b1 d1 g1 a1) (slotB b2 d2 g2 a2) (bif b3 then [o] else []) i, w2.heap[q]? = w.heap[q]? := fun i hi q hq => hg.block q (hlt i q hq) fun e => h.apt.apart i 0 hi q hq (by rw [Option.some.inj e]; simp [four, slotB])
 have hbe : Below We.heap.size We w2 := h.bel.grown hg (by have := h.size; omega) (fun k hk => by cases hk; omega)
 have he : e = false := by cases e with | false => rfl | true => have := h.cl.1 rfl; simp at this
 have hd : d3 = false := by cases hx : d3 with | false => rfl | true => rw [(h.cl.2 hx).1] at he; cases he
 subst he hd
 have hz := hg.size
 have hsz := h.size
 refine ⟨hbe, (hg.block _ (by omega) (fun e => by have := Option.some.inj e; omega)).trans h.part, (hg.block _ (by omega) (fun e => by have := Option.some.inj e; omega)).trans h.ret, ⟨(fun _ hd => by cases hd), fun _ => ho⟩, h.s1.same fun q hq => hne 1 (by decide) q hq, h.s2.same fun q hq => hne 2 (by decide) q hq, fun e => (hne 3 (by decide) o (by simp [four, e])).trans (h.out e), ⟨(fun e => by cases e), fun e => by cases e⟩, by omega, ?_⟩
 by_cases hnew : ∃ q ∈ blk a, q = w.heap.size
 ·obtain ⟨q0, hq0, hqe⟩ := hnew
  have hw2 := (own_lt ho hq0).2
  refine h.apt.up 0 (fun j hj => by rcases j with _ | _ | _ | _ | _ <;> first | rfl | exact absurd rfl hj) (fun q hq' => ?_) (by omega) hsz
  have h5 : q ∈ blk a := by simpa [four, slotB] using hq'
  rcases hq q h5 with h6 | h6
  ·exact .inl (by rw [h6]; simp [four, slotB])
  ·exact .inr h6
 ·have hall : ∀ q ∈ blk a, q = g0 := fun q hq' => (hq q hq').resolve_right fun e => hnew ⟨q, hq', e⟩
  refine Apart4.mono (n := w.heap.size) ⟨fun i i2 hij q hi hi2 => ?_, fun i q hi => ?_⟩ hz
  ·have e1 : ∀ i, ∀ q ∈ four (slotB true true g0 a) (slotB b1 d1 g1 a1) (slotB b2 d2 g2 a2) (bif b3 then [o] else []) i, q ∈ four (slotB true false g0 a0) (slotB b1 d1 g1 a1) (slotB b2 d2 g2 a2) (bif b3 then [o] else []) i := fun i q hq' => by
    by_cases ei : i = 0
    ·subst ei
     have h5 : q ∈ blk a := by simpa [four, slotB] using hq'
     rw [hall q h5]
     simp [four, slotB]
    ·rcases i with _ | _ | _ | _ | _ <;> first | exact hq' | exact absurd rfl ei
   exact h.apt.apart i i2 hij q (e1 i q hi) (e1 i2 q hi2)
  ·by_cases ei : i = 0
   ·subst ei
    have h5 : q ∈ blk a := by simpa [four, slotB] using hi
    rw [hall q h5]
    exact hgl
   ·exact h.apt.lts i q (by rcases i with _ | _ | _ | _ | _ <;> first | exact hi | exact absurd rfl ei)
theorem CopyF.copy1 {w2 : World} {a : Option Addr} {c : Nat} (h : CopyF p We w b0 d0 true false b2 d2 b3 d3 e g0 g1 g2 o a0 a1 a2 c0 c1 c2) (ho : w2.ownsRow (We.heap.size + 2) 138 2 (.slice a p.events.length c) p.events.length (eventK.flat p.events)) (hg : w.grownBy w2 (some g1)) (hq : ∀ q ∈ blk a, q = g1 ∨ q = w.heap.size) : CopyF p We w2 b0 d0 true true b2 d2 b3 d3 e g0 g1 g2 o a0 a a2 c0 c c2 := by
 have hlt : ∀ i, ∀ q ∈ four (slotB b0 d0 g0 a0) (slotB true false g1 a1) (slotB b2 d2 g2 a2) (bif b3 then [o] else []) i, q < w.heap.size := fun i q hq => (h.apt.lts i q hq).2
 have hgl : We.heap.size + 2 ≤ g1 ∧ g1 < w.heap.size := h.apt.lts 1 g1 (by simp [four, slotB])
 have hne : ∀ i, i ≠ 1 → ∀ q ∈ four (slotB b0 d0 g0 a0) (slotB true false g1 a1) (slotB b2 d2 g2 a2) (bif b3 then [o] else []) i, w2.heap[q]? = w.heap[q]? := fun i hi q hq => hg.block q (hlt i q hq) fun e => h.apt.apart i 1 hi q hq (by rw [Option.some.inj e]; simp [four, slotB])
 have hbe : Below We.heap.size We w2 := h.bel.grown hg (by have := h.size; omega) (fun k hk => by cases hk; omega)
 have he : e = false := by cases e with | false => rfl | true => have := h.cl.1 rfl; simp at this
 have hd : d3 = false := by cases hx : d3 with | false => rfl | true => rw [(h.cl.2 hx).1] at he; cases he
 subst he hd
 have hz := hg.size
 have hsz := h.size
 refine ⟨hbe, (hg.block _ (by omega) (fun e => by have := Option.some.inj e; omega)).trans h.part, (hg.block _ (by omega) (fun e => by have := Option.some.inj e; omega)).trans h.ret, h.s0.same fun q hq => hne 0 (by decide) q hq, ⟨(fun _ hd => by cases hd), fun _ => ho⟩, h.s2.same fun q hq => hne 2 (by decide) q hq, fun e => (hne 3 (by decide) o (by simp [four, e])).trans (h.out e), ⟨(fun e => by cases e), fun e => by cases e⟩, by omega, ?_⟩
 by_cases hnew : ∃ q ∈ blk a, q = w.heap.size
 ·obtain ⟨q0, hq0, hqe⟩ := hnew
  have hw2 := (own_lt ho hq0).2
  refine h.apt.up 1 (fun j hj => by rcases j with _ | _ | _ | _ | _ <;> first | rfl | exact absurd rfl hj) (fun q hq' => ?_) (by omega) hsz
  have h5 : q ∈ blk a := by simpa [four, slotB] using hq'
  rcases hq q h5 with h6 | h6
  ·exact .inl (by rw [h6]; simp [four, slotB])
  ·exact .inr h6
 ·have hall : ∀ q ∈ blk a, q = g1 := fun q hq' => (hq q hq').resolve_right fun e => hnew ⟨q, hq', e⟩
  refine Apart4.mono (n := w.heap.size) ⟨fun i i2 hij q hi hi2 => ?_, fun i q hi => ?_⟩ hz
  ·have e1 : ∀ i, ∀ q ∈ four (slotB b0 d0 g0 a0) (slotB true true g1 a) (slotB b2 d2 g2 a2) (bif b3 then [o] else []) i, q ∈ four (slotB b0 d0 g0 a0) (slotB true false g1 a1) (slotB b2 d2 g2 a2) (bif b3 then [o] else []) i := fun i q hq' => by
    by_cases ei : i = 1
    ·subst ei
     have h5 : q ∈ blk a := by simpa [four, slotB] using hq'
     rw [hall q h5]
     simp [four, slotB]
    ·rcases i with _ | _ | _ | _ | _ <;> first | exact hq' | exact absurd rfl ei
   exact h.apt.apart i i2 hij q (e1 i q hi) (e1 i2 q hi2)
  ·by_cases ei : i = 1
   ·subst ei
    have h5 : q ∈ blk a := by simpa [four, slotB] using hi
    rw [hall q h5]
    exact hgl
   ·exact h.apt.lts i q (by rcases i with _ | _ | _ | _ | _ <;> first | exact hi | exact absurd rfl ei)
theorem CopyF.copy2 {w2 : World} {a : Option Addr} {c : Nat} (h : CopyF p We w b0 d0 b1 d1 true false b3 d3 e g0 g1 g2 o a0 a1 a2 c0 c1 c2) (ho : w2.ownsRow (We.heap.size + 2) 141 3 (.slice a p.boards.length c) p.boards.length (boardK.flat p.boards)) (hg : w.grownBy w2 (some g2)) (hq : ∀ q ∈ blk a, q = g2 ∨ q = w.heap.size) : CopyF p We w2 b0 d0 b1 d1 true true b3 d3 e g0 g1 g2 o a0 a1 a c0 c1 c := by
 have hlt : ∀ i, ∀ q ∈ four (slotB b0 d0 g0 a0) (slotB b1 d1 g1 a1) (slotB true false g2 a2) (bif b3 then [o] else []) i, q < w.heap.size := fun i q hq => (h.apt.lts i q hq).2
 have hgl : We.heap.size + 2 ≤ g2 ∧ g2 < w.heap.size := h.apt.lts 2 g2 (by simp [four, slotB])
 have hne : ∀ i, i ≠ 2 → ∀ q ∈ four (slotB b0 d0 g0 a0) (slotB b1 d1 g1 a1) (slotB true false g2 a2) (bif b3 then [o] else []) i, w2.heap[q]? = w.heap[q]? := fun i hi q hq => hg.block q (hlt i q hq) fun e => h.apt.apart i 2 hi q hq (by rw [Option.some.inj e]; simp [four, slotB])
 have hbe : Below We.heap.size We w2 := h.bel.grown hg (by have := h.size; omega) (fun k hk => by cases hk; omega)
 have he : e = false := by cases e with | false => rfl | true => have := h.cl.1 rfl; simp at this
 have hd : d3 = false := by cases hx : d3 with | false => rfl | true => rw [(h.cl.2 hx).1] at he; cases he
 subst he hd
 have hz := hg.size
 have hsz := h.size
 refine ⟨hbe, (hg.block _ (by omega) (fun e => by have := Option.some.inj e; omega)).trans h.part, (hg.block _ (by omega) (fun e => by have := Option.some.inj e; omega)).trans h.ret, h.s0.same fun q hq => hne 0 (by decide) q hq, h.s1.same fun q hq => hne 1 (by decide) q hq, ⟨(fun _ hd => by cases hd), fun _ => ho⟩, fun e => (hne 3 (by decide) o (by simp [four, e])).trans (h.out e), ⟨(fun e => by cases e), fun e => by cases e⟩, by omega, ?_⟩
 by_cases hnew : ∃ q ∈ blk a, q = w.heap.size
 ·obtain ⟨q0, hq0, hqe⟩ := hnew
  have hw2 := (own_lt ho hq0).2
  refine h.apt.up 2 (fun j hj => by rcases j with _ | _ | _ | _ | _ <;> first | rfl | exact absurd rfl hj) (fun q hq' => ?_) (by omega) hsz
  have h5 : q ∈ blk a := by simpa [four, slotB] using hq'
  rcases hq q h5 with h6 | h6
  ·exact .inl (by rw [h6]; simp [four, slotB])
  ·exact .inr h6
 ·have hall : ∀ q ∈ blk a, q = g2 := fun q hq' => (hq q hq').resolve_right fun e => hnew ⟨q, hq', e⟩
  refine Apart4.mono (n := w.heap.size) ⟨fun i i2 hij q hi hi2 => ?_, fun i q hi => ?_⟩ hz
  ·have e1 : ∀ i, ∀ q ∈ four (slotB b0 d0 g0 a0) (slotB b1 d1 g1 a1) (slotB true true g2 a) (bif b3 then [o] else []) i, q ∈ four (slotB b0 d0 g0 a0) (slotB b1 d1 g1 a1) (slotB true false g2 a2) (bif b3 then [o] else []) i := fun i q hq' => by
    by_cases ei : i = 2
    ·subst ei
     have h5 : q ∈ blk a := by simpa [four, slotB] using hq'
     rw [hall q h5]
     simp [four, slotB]
    ·rcases i with _ | _ | _ | _ | _ <;> first | exact hq' | exact absurd rfl ei
   exact h.apt.apart i i2 hij q (e1 i q hi) (e1 i2 q hi2)
  ·by_cases ei : i = 2
   ·subst ei
    have h5 : q ∈ blk a := by simpa [four, slotB] using hi
    rw [hall q h5]
    exact hgl
   ·exact h.apt.lts i q (by rcases i with _ | _ | _ | _ | _ <;> first | exact hi | exact absurd rfl ei)
theorem CopyF.make3 (h : CopyF p We w b0 d0 b1 d1 b2 d2 false false e g0 g1 g2 o a0 a1 a2 c0 c1 c2) : CopyF p We (w.alloc (.cells #[.int .i64 0, .int .i64 0, .slice none 0 0, .slice none 0 0, .slice none 0 0, .slice none 0 0, .slice none 0 0, .slice none 0 0] 32)) b0 d0 b1 d1 b2 d2 true false e g0 g1 g2 w.heap.size a0 a1 a2 c0 c1 c2 := by
 have hb : Below w.heap.size w (w.alloc (.cells #[.int .i64 0, .int .i64 0, .slice none 0 0, .slice none 0 0, .slice none 0 0, .slice none 0 0, .slice none 0 0, .slice none 0 0] 32)) := (Below.refl _ _).alloc (Nat.le_refl _) _
 have hlt : ∀ i, ∀ q ∈ four (slotB b0 d0 g0 a0) (slotB b1 d1 g1 a1) (slotB b2 d2 g2 a2) (bif false then [o] else []) i, q < w.heap.size := fun i q hq => (h.apt.lts i q hq).2
 exact ⟨h.bel.trans (hb.mono h.bel.size), h.part.below hb, (hb.block _ (by have := h.size; omega)).trans h.ret, h.s0.same fun q hq => hb.block q (hlt 0 q hq), h.s1.same fun q hq => hb.block q (hlt 1 q hq), h.s2.same fun q hq => hb.block q (hlt 2 q hq), fun _ => heap_alloc_new _ _, ⟨h.cl.1, fun e => by cases e⟩, by have := h.size; simp; omega, h.apt.up 3 (fun j hj => by rcases j with _ | _ | _ | _ | _ <;> first | rfl | exact absurd rfl hj) (fun q hq => .inr (by simpa [four] using hq)) (by simp) h.size⟩
theorem CopyF.build (h : CopyF p We w b0 d0 b1 d1 b2 d2 b3 d3 false g0 g1 g2 o a0 a1 a2 c0 c1 c2) (h0 : d0 = true) (h1 : d1 = true) (h2 : d2 = true) : CopyF p We w b0 d0 b1 d1 b2 d2 b3 d3 true g0 g1 g2 o a0 a1 a2 c0 c1 c2 := ⟨h.bel, h.part, h.ret, h.s0, h.s1, h.s2, h.out, ⟨fun _ => ⟨h0, h1, h2⟩, fun hd => ⟨rfl, (h.cl.2 hd).2⟩⟩, h.size, h.apt⟩
theorem CopyF.store (h : CopyF p We w b0 d0 b1 d1 b2 d2 true false true g0 g1 g2 o a0 a1 a2 c0 c1 c2) : CopyF p We (w.setRow o #[.int .i64 p.id, .int .i64 p.next, .slice none 0 0, .slice a0 p.sems.length c0, .slice a1 p.events.length c1, .slice a2 p.boards.length c2, .slice none 0 0, .slice none 0 0]) b0 d0 b1 d1 b2 d2 true true true g0 g1 g2 o a0 a1 a2 c0 c1 c2 := by
 have ho := h.apt.lts 3 o (by simp [four])
 have hne : ∀ q, q ≠ o → (w.setRow o #[.int .i64 p.id, .int .i64 p.next, .slice none 0 0, .slice a0 p.sems.length c0, .slice a1 p.events.length c1, .slice a2 p.boards.length c2, .slice none 0 0, .slice none 0 0]).heap[q]? = w.heap[q]? := fun q hq => setRow_other _ _ _ _ hq
 have hap : ∀ i, i ≠ 3 → ∀ q ∈ four (slotB b0 d0 g0 a0) (slotB b1 d1 g1 a1) (slotB b2 d2 g2 a2) [o] i, q ≠ o := fun i hi q hq e => h.apt.apart i 3 hi q hq (by subst e; simp [four])
 have hsz := h.size
 exact ⟨below_setRow h.bel (by omega) _, (hne _ (by omega)).trans h.part, (hne _ (by omega)).trans h.ret, h.s0.same fun q hq => hne q (hap 0 (by decide) q hq), h.s1.same fun q hq => hne q (hap 1 (by decide) q hq), h.s2.same fun q hq => hne q (hap 2 (by decide) q hq), fun _ => setRow_heap _ _ _ _ _ _ (h.out rfl), ⟨h.cl.1, fun _ => ⟨rfl, rfl⟩⟩, by rw [size_setRow]; exact h.size, by rw [size_setRow]; exact h.apt⟩
end
end Go.Proofs.YtkbcplnlehdjfaaGreat
