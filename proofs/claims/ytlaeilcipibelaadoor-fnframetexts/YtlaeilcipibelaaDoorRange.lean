/- A range over a method value: what the loop's body owes, round by round, and what stands behind the loop. -/
import Derived.RangeFuncCalls
import Derived.RangeFuncKeeps
import Derived.Below
namespace Go.Proofs.YtlaeilcipibelaaDoor
open Go.RowKit

/-- What a piece of the loop's own code keeps: whatever lay at B or beyond. -/
def Kept (B : Nat) (W W' : World) : Prop := W.heap.size ≤ W'.heap.size ∧ ∀ b, B ≤ b → b < W.heap.size → W'.heap[b]? = W.heap[b]?
/-- .. and what of it the iterator sees: its own cells. -/
def KeptC (B : Nat) (W W' : World) : Prop := W.heap.size ≤ W'.heap.size ∧ ∀ b c t fr, B ≤ b → W.heap[b]? = some (.cells c t fr) → W'.heap[b]? = some (.cells c t fr)

theorem Kept.refl (B : Nat) (W : World) : Kept B W W := ⟨Nat.le_refl _, fun _ _ _ => rfl⟩
theorem Kept.trans {B : Nat} {X Y Z : World} (h : Kept B X Y) (k : Kept B Y Z) : Kept B X Z :=
  ⟨Nat.le_trans h.1 k.1, fun b hb hl => (k.2 b hb (Nat.lt_of_lt_of_le hl h.1)).trans (h.2 b hb hl)⟩
theorem Kept.alloc (B : Nat) (W : World) (o : Obj) : Kept B W (W.alloc o) := ⟨by simp, fun b _ hl => Below.heap_alloc W o b hl⟩
theorem Kept.setCell {B : Nat} (W : World) {p : Addr} (hp : p.block < B) (v : Value) : Kept B W (W.setCell p v) := ⟨by simp, fun b hb _ => Below.heap_setCell W p v b (by omega)⟩
theorem Kept.drew (B : Nat) (W : World) : Kept B W W.drew := ⟨Nat.le_refl _, fun _ _ _ => rfl⟩
theorem Kept.of_below {B : Nat} {W W' : World} (h : Below W.heap.size W W') : Kept B W W' := ⟨h.size, fun b _ hl => h.block b hl⟩
theorem Kept.cells {B : Nat} {W W' : World} (h : Kept B W W') : KeptC B W W' :=
  ⟨h.1, fun b _ _ _ hb hc => (h.2 b hb (Array.getElem?_eq_some_iff.1 hc).1).trans hc⟩
theorem KeptC.trans {B : Nat} {X Y Z : World} (h : KeptC B X Y) (k : KeptC B Y Z) : KeptC B X Z :=
  ⟨Nat.le_trans h.1 k.1, fun b c t fr hb hc => k.2 b c t fr hb (h.2 b c t fr hb hc)⟩
theorem keptC_putLoop {B : Nat} {W : World} {l : Nat} {r : Loop} (h : W.heap[l]? = some (.loop r)) (o : Obj) : KeptC B W (W.putObj l o) :=
  ⟨by simp, fun b c t fr _ hc => (World.putObj_heap_other (fun e => by subst e; rw [h] at hc; cases hc)).trans hc⟩
theorem below_putObj {B l : Nat} {W : World} (h : B ≤ l) (o : Obj) : Below B W (W.putObj l o) :=
  ⟨rfl, rfl, rfl, by simp, fun _ hk => World.putObj_heap_other (by omega)⟩

/-- The contract of an iterator that is called with 'fa' and then with yield: round k is handed 'encs k'; N rounds, or as many as were wanted. -/
def Iter (P : Program) (gf : Nat) (fa : Array Value) (encs : Nat → Array Value) (N B : Nat) : Prop :=
  ∀ (l : Nat) (M : Nat → World → Prop) (Mx : World → Prop) (W : World), B ≤ W.heap.size → (∀ k X o, M k X → M k (X.alloc o)) →
    (∀ k X, k < N → M k X → YieldAt Fence.wide 4 P l (encs k) X fun e X' => (e = .returned (.bool true) ∧ M (k + 1) X' ∧ KeptC B X X') ∨ (e = .returned (.bool false) ∧ Mx X')) →
    M 0 W → CallsIn Fence.wide 5 P gf (fa ++ #[.func (.yield l) #[] #[]]) W fun e X' => (∃ v, e = .returned v) ∧ (M N X' ∨ Mx X')

/-- How a round's body may be left: off its end, or by a return. -/
def roundEnd (B : Nat) (J : Nat → World → Prop) (Jx : World → Prop) (k : Nat) (W : World) : Exit → Act → World → Prop
  | .normal, _, W' => Kept B W W' ∧ J (k + 1) W'
  | .ret, _, W' => Kept B W W' ∧ Jx W'
  | _, _, _ => False

theorem wp_rangeBound {P : Program} {g : Operand} {ps : Array Tmp} {assign body : Code} {Q : Exit → Act → World → Prop} {a : Act} {w : World} {gf : Nat} {fa : Array Value}
    (hg : a.eval g = .func (.func gf) fa #[]) (eg : ∀ args w, (callFunc gf args).run P w = .ok (.enter gf args) w) {encs : Nat → Array Value} {N : Nat} (hit : Iter P gf fa encs N w.heap.size) (hps : ∀ k, (encs k).size = ps.size)
    (J : Nat → World → Prop) (Jx : World → Prop) (hJ : ∀ k X Y, Below w.heap.size X Y → J k X → J k Y) (hJx : ∀ X Y, Below w.heap.size X Y → Jx X → Jx Y) (h0 : J 0 w)
    (Ax : Nat → Act → World → Prop) (hAx : ∀ k a X l r o, X.heap[l]? = some (.loop r) → Ax k a X → Ax k a (X.putObj l o))
    (hassign : ∀ (l k : Nat) (W : World) (K : Act → World → Prop), k < N → J k W → w.heap.size ≤ W.heap.size → (∀ a' W', Kept w.heap.size W W' → J k W' → Ax k a' W' → K a' W') →
      assign.wpIn (Fence.wide.inRound l) 4 P (Exit.then K (fun _ _ _ => False)) { tmps := (ps.zip (encs k)).foldl (fun t (p, v) => t.setIfInBounds p v) a.tmps, defers := [] } W)
    (hbody : ∀ (l k : Nat) (a' : Act) (W : World), k < N → J k W → Ax k a' W → w.heap.size ≤ W.heap.size → body.wpIn (Fence.wide.inRound l) 4 P (roundEnd w.heap.size J Jx k W) a' W)
    (hdone : ∀ W, J N W → W.heap[w.heap.size]? = some (.deferred (some [])) → Q .normal { a with defers := { target := .collected w.heap.size, args := #[] } :: a.defers } W)
    (hstop : ∀ W, Jx W → W.heap[w.heap.size]? = some (.deferred (some [])) → Q .ret { a with defers := { target := .collected w.heap.size, args := #[] } :: a.defers } W) :
    (Code.rangeFunc g ps assign body).wpIn Fence.wide 6 P Q a w := by
  refine wpIn_rangeFunc fun fn _ => ?_
  -- the record of the loop, in each of its states
  let rec' : LoopState → Option Code → Loop := fun st pe => { state := st, pending := pe, fn, tmps := a.tmps, params := ps, assign, body, defers := w.heap.size }
  let B := w.heap.size
  let W1 := (w.alloc (.deferred (some []))).alloc (.loop (rec' .ready none))
  have s1 : W1.heap.size = B + 1 + 1 := by simp [W1, B]
  have hl1 : W1.heap[B + 1]? = some (.loop (rec' .ready none)) := by
    have := World.alloc_heap_new (w.alloc (.deferred (some []))) (.loop (rec' .ready none))
    rwa [World.size_alloc] at this
  have hd1 : W1.heap[B]? = some (.deferred (some [])) := (Below.heap_alloc _ _ _ (by simp [B])).trans (World.alloc_heap_new w _)
  have b1 : Below B w W1 := ((Below.refl _ _).alloc (Nat.le_refl _) _).alloc (by simp) _
  refine ⟨B + 1, [{ target := .collected B, args := #[] }], W1, { target := .fn (.func gf) #[], args := fa ++ #[.func (.yield (B + 1)) #[] #[]] }, W1, gf, fa ++ #[.func (.yield (B + 1)) #[] #[]], W1,
    run_enterLoop_outer _ _ _ _ _, ?_, fun _ _ => trivial, ?_, fun h => by simp [Fence.wide] at h, ?_⟩
  · simp only [resolve, hg]
    simp [go_sem]
  · simp [invoke, go_sem, eg]
  let M : Nat → World → Prop := fun k X => J k X ∧ X.heap[B + 1]? = some (.loop (rec' .ready none)) ∧ X.heap[B]? = some (.deferred (some []))
  let Mx : World → Prop := fun X => Jx X ∧ X.heap[B + 1]? = some (.loop (rec' .done (some .ret))) ∧ X.heap[B]? = some (.deferred (some []))
  refine (hit (B + 1) M Mx W1 (by omega) ?_ ?_ ⟨hJ 0 _ _ b1 h0, hl1, hd1⟩).mono ?_
  · rintro k X o ⟨hj, hl, hd⟩
    have z := (Array.getElem?_eq_some_iff.1 hl).1
    exact ⟨hJ k _ _ ((Below.refl _ _).alloc (by omega) o) hj, (Below.heap_alloc X o _ z).trans hl, (Below.heap_alloc X o _ (by omega)).trans hd⟩
  · rintro k X hk ⟨hj, hl, hd⟩
    have z := (Array.getElem?_eq_some_iff.1 hl).1
    refine ⟨fn, _, assign, body, run_yield (r := rec' .ready none) hl (hps k), roundIn_of_wpIn trivial (hassign (B + 1) k X _ hk hj (by omega) ?_)⟩
    intro a' Y kY jY aY
    have lY : Y.heap[B + 1]? = some (.loop (rec' .ready none)) := (kY.2 _ (by omega) z).trans hl
    have dY : Y.heap[B]? = some (.deferred (some [])) := (kY.2 _ (Nat.le_refl _) (by omega)).trans hd
    have zY := (Array.getElem?_eq_some_iff.1 lY).1
    refine ⟨_, run_beginRound lY rfl, ?_⟩
    have lV : (Y.putObj (B + 1) (.loop (rec' .busy none))).heap[B + 1]? = some (.loop (rec' .busy none)) := World.putObj_heap_same zY
    have dV : (Y.putObj (B + 1) (.loop (rec' .busy none))).heap[B]? = some (.deferred (some [])) := (World.putObj_heap_other (by omega)).trans dY
    refine wpIn_mono (hbody (B + 1) k a' _ hk (hJ k _ _ (below_putObj (by omega) _) jY) (hAx k a' Y _ _ _ lY aY) (by simp only [World.putObj_size]; omega)) ?_
    rintro e a3 V hp
    have fin : Kept B (Y.putObj (B + 1) (.loop (rec' .busy none))) V → V.heap[B + 1]? = some (.loop (rec' .busy none)) ∧ V.heap[B]? = some (.deferred (some [])) := fun kV =>
      ⟨(kV.2 _ (by omega) (by simp only [World.putObj_size]; exact zY)).trans lV, (kV.2 _ (Nat.le_refl _) (by simp only [World.putObj_size]; omega)).trans dV⟩
    cases e with
    | normal =>
      obtain ⟨kV, jV⟩ := hp
      obtain ⟨l3, d3⟩ := fin kV
      have z3 := (Array.getElem?_eq_some_iff.1 l3).1
      exact ⟨_, _, run_endRound none l3, .inl ⟨rfl, ⟨hJ _ _ _ (below_putObj (by omega) _) jV, World.putObj_heap_same z3, (World.putObj_heap_other (by omega)).trans d3⟩,
        (kY.cells.trans (keptC_putLoop lY _)).trans (kV.cells.trans (keptC_putLoop l3 _))⟩⟩
    | ret =>
      obtain ⟨kV, jV⟩ := hp
      obtain ⟨l3, d3⟩ := fin kV
      have z3 := (Array.getElem?_eq_some_iff.1 l3).1
      exact ⟨_, _, run_endRound (some .ret) l3, .inr ⟨rfl, ⟨hJx _ _ (below_putObj (by omega) _) jV, World.putObj_heap_same z3, (World.putObj_heap_other (by omega)).trans d3⟩⟩⟩
    | exit _ => exact hp.elim
    | goto _ => exact hp.elim
    | panic _ => exact hp.elim
    | outgrown => exact hp.elim
  · rintro e X ⟨⟨v, rfl⟩, ⟨hj, hl, hd⟩ | ⟨hj, hl, hd⟩⟩
    · have z := (Array.getElem?_eq_some_iff.1 hl).1
      exact ⟨none, _, run_endLoop hl (by simp [rec']), hdone _ (hJ _ _ _ (below_putObj (by omega) _) hj) ((World.putObj_heap_other (by omega)).trans hd)⟩
    · have z := (Array.getElem?_eq_some_iff.1 hl).1
      exact ⟨some .ret, _, run_endLoop hl (by simp [rec']), wpIn_ret (hstop _ (hJx _ _ (below_putObj (by omega) _) hj) ((World.putObj_heap_other (by omega)).trans hd))⟩

end Go.Proofs.YtlaeilcipibelaaDoor
