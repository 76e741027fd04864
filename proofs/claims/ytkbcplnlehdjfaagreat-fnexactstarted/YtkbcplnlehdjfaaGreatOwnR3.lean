/- What the proof leans on, part 3: OwnB, OpForms. -/
import Derived.Maps.RangeWalk
import Derived.Deep.RegionHeld3
import Derived.Deep.DrawnRows
import Derived.Test.YtkbcplnlehdjfaaGreatOwnR1
import Derived.Test.YtkbcplnlehdjfaaGreatOwnR2

namespace Go.Proofs.YtkbcplnlehdjfaaGreat
open Go.RowKit Go.Maps
/-- The thing of that block, turned. -/
def upd {α : Type} (c : Nat) (f : α → α) (l : List (α × Nat)) : List (α × Nat) := l.map fun p => if p.2 = c then (f p.1, p.2) else p
section
variable {α : Type} {vs : α → Array Value} {num : α → Int} {T : TypeId}
theorem upd_blocks (c : Nat) (f : α → α) (l : List (α × Nat)) : (upd c f l).map (·.2) = l.map (·.2) := by
 simp only [upd, List.map_map]
 refine List.map_congr_left fun p _ => ?_
 simp only [Function.comp]
 split <;> rfl
theorem upd_keys {c : Nat} {f : α → α} {l : List (α × Nat)} (h : ∀ p ∈ l, p.2 = c → num (f p.1) = num p.1) : keysOf num (upd c f l) = keysOf num l := by
 simp only [keysOf, upd, List.map_map]
 refine List.map_congr_left fun p hp => ?_
 simp only [Function.comp]
 split
 ·rename_i e
  simp only [h p hp e]
 ·rfl
theorem mem_upd {c : Nat} {f : α → α} {l : List (α × Nat)} {p : α × Nat} : p ∈ upd c f l ↔ ∃ q ∈ l, (if q.2 = c then (f q.1, q.2) else q) = p := by simp only [upd, List.mem_map]
theorem mem_upd_ne {c : Nat} {f : α → α} {l : List (α × Nat)} {p : α × Nat} (h : ¬ p.2 = c) : p ∈ upd c f l ↔ p ∈ l := by
 rw [mem_upd]
 constructor
 ·rintro ⟨q, hq, rfl⟩
  split at h
  ·rename_i e; exact absurd e h
  ·rename_i e; rw [if_neg e]; exact hq
 ·intro hp
  exact ⟨p, hp, if_neg h⟩
theorem mem_upd_eq {c : Nat} {f : α → α} {l : List (α × Nat)} {p : α × Nat} (h : p.2 = c) : p ∈ upd c f l ↔ ∃ q ∈ l, q.2 = c ∧ p = (f q.1, q.2) := by
 rw [mem_upd]
 constructor
 ·rintro ⟨q, hq, rfl⟩
  by_cases e : q.2 = c
  ·exact ⟨q, hq, e, by rw [if_pos e]⟩
  ·rw [if_neg e] at h; exact absurd h e
 ·rintro ⟨q, hq, e, rfl⟩
  exact ⟨q, hq, if_pos e⟩
theorem Shelf.upd {w w' : World} {base b c : Nat} {l : List (α × Nat)} {f : α → α} (h : Shelf vs num T w base b l) (hn : ∀ p ∈ l, p.2 = c → num (f p.1) = num p.1) (hc : ∀ p ∈ l, p.2 = c → w'.heap[c]? = some (.cells (vs (f p.1)) T (0, 0)))
  (hb : w'.heap[b]? = w.heap[b]?) (hs : ∀ g ∈ l.map (·.2), ¬ g = c → w'.heap[g]? = w.heap[g]?) : Shelf vs num T w' base b (YtkbcplnlehdjfaaGreat.upd c f l) := by
 refine ⟨?_, fun p hp => ?_, ?_, ?_⟩
 ·rw [upd_keys hn]
  exact h.map.same hb
 ·by_cases e : p.2 = c
  ·obtain ⟨q, hq, hqc, rfl⟩ := (mem_upd_eq e).1 hp
   have := hc q hq hqc
   rw [← hqc] at this
   exact this
  ·have hp' := (mem_upd_ne e).1 hp
   exact (hs p.2 (List.mem_map.2 ⟨p, hp', rfl⟩) e).trans (h.box p hp')
 ·rw [upd_blocks]; exact h.nodup
 ·rw [upd_blocks]; exact h.low
theorem Shelf.one {w : World} {base b : Nat} {l : List (α × Nat)} (h : Shelf vs num T w base b l) {p p' : α × Nat} (hp : p ∈ l) (hp' : p' ∈ l) (e : p.2 = p'.2) : p = p' := by
 have hn := (List.nodup_cons.1 h.nodup).2
 clear h
 induction l with
 | nil => cases hp
 | cons y r ih =>
  rw [List.map_cons, List.nodup_cons] at hn
  rcases List.mem_cons.1 hp with rfl | h1
  ·rcases List.mem_cons.1 hp' with rfl | h2
   ·rfl
   ·exact absurd (List.mem_map.2 ⟨p', h2, e.symm⟩) hn.1
  ·rcases List.mem_cons.1 hp' with rfl | h2
   ·exact absurd (List.mem_map.2 ⟨p, h1, e⟩) hn.1
   ·exact ih h1 h2 hn.2
theorem Shelf.ne {w : World} {base b : Nat} {l : List (α × Nat)} (h : Shelf vs num T w base b l) {p : α × Nat} (hp : p ∈ l) : ¬ p.2 = b := fun e =>
 (List.nodup_cons.1 h.nodup).1 (List.mem_map.2 ⟨p, hp, e⟩)
end
/-- An append whose run is known. -/
theorem wpList_append_run {P : Program} (w : World) {ops : Array Oper} {rest : List Oper} {o : Oper} {a : Act} {Q : Exit → Act → World → Prop} (hgd : o.guard = none) (s x : Operand) (t : TypeId)
  (ho : o.op = .call { callee := .builtin .append, args := #[s, x], argTypes := #[t, t] }) (v u r : Value) (w' : World) (hs : a.eval s = v) (hx : a.eval x = u) (hr : (Builtin.append_ #[t, t] o.type #[v, u]).run P w = .ok r w')
  (h : wpList P ops Q rest (a.put o.dst r) w') : wpList P ops Q (o :: rest) a w := by
 refine wpList_plain hgd fun K hK => ?_
 unfold Oper.wp execOp
 simp only [ho, resolve, invoke, builtin, Sem.run_bind, Sem.run_pure, Result.andThen_ok, List.map_toArray, List.map_cons, List.map_nil, hs, hx, hr]
 exact hK _ _ h
/-- Things that have a list each, which may be laid elsewhere. -/
structure Nest (α : Type) where
 vs : α → Array Value
 num : α → Int
 T : TypeId
 e : TypeId
 size : Nat
 ad : α → Option Addr
 cap : α → Nat
 len : α → Nat
 flat : α → List Value
 set : α → Option Addr → Nat → α
 num_set : ∀ x a c, num (set x a c) = num x
 len_set : ∀ x a c, len (set x a c) = len x
 flat_set : ∀ x a c, flat (set x a c) = flat x
 ad_set : ∀ x a c, ad (set x a c) = a
 cap_set : ∀ x a c, cap (set x a c) = c
 set_set : ∀ x a c a' c', set (set x a c) a' c' = set x a' c'
section
variable {α : Type} (N : Nest α)
def Nest.kid (x : α) : Option Nat := (N.ad x).map (·.block)
/-- Its list is its own. -/
def Nest.Mine (w : World) (base : Nat) (x : α) : Prop := w.ownsRow base N.e N.size (.slice (N.ad x) (N.len x) (N.cap x)) (N.len x) (N.flat x)
variable {N}
theorem Nest.Mine.same {w w' : World} {base : Nat} {x : α} (h : N.Mine w base x) (hs : ∀ g, N.kid x = some g → w'.heap[g]? = w.heap[g]?) : N.Mine w' base x := by
 obtain ⟨hl, h2⟩ := h
 refine ⟨hl, ?_⟩
 rcases h2 with h2 | ⟨g, cap, cur, hv, hb, hg, r⟩
 ·exact .inl h2
 ·have hk : N.kid x = some g := by
   simp only [Value.slice.injEq] at hv
   simp [Nest.kid, hv.1]
  exact .inr ⟨g, cap, cur, hv, hb, (hs g hk).trans hg, r⟩
theorem Nest.Mine.lt {w : World} {base : Nat} {x : α} (h : N.Mine w base x) {g : Nat} (hk : N.kid x = some g) : base ≤ g ∧ g < w.heap.size := by
 rcases h.2 with ⟨hv, -⟩ | ⟨g', cap, cur, hv, hb, hg, r⟩
 ·simp only [Value.slice.injEq] at hv
  simp [Nest.kid, hv.1] at hk
 ·simp only [Value.slice.injEq] at hv
  simp only [Nest.kid, hv.1, Option.map_some, Option.some.injEq] at hk
  subst hk
  exact ⟨hb, (Array.getElem?_eq_some_iff.1 hg).1⟩
theorem Nest.Mine.low {w : World} {base base' : Nat} {x : α} (h : N.Mine w base x) (hb : base' ≤ base) : N.Mine w base' x := own_low h hb
theorem Nest.Mine.row {w : World} {base : Nat} {x : α} (h : N.Mine w base x) : Row w (N.ad x) (N.flat x) := by
 obtain ⟨a, cap, e, hr⟩ := own_form h
 simp only [Value.slice.injEq] at e
 rw [e.1]
 exact hr
theorem Nest.mine_set {w : World} {base : Nat} {x : α} {a : Option Addr} {c : Nat} (h : w.ownsRow base N.e N.size (.slice a (N.len x) c) (N.len x) (N.flat x)) : N.Mine w base (N.set x a c) := by
 unfold Nest.Mine
 rw [N.ad_set, N.len_set, N.cap_set, N.flat_set]
 exact h
variable (N) in
/-- While the lists are made their own: those whose number is no longer left have theirs. -/
structure OwnIn (w0 wr : World) (base b : Nat) (l l' : List (α × Nat)) (left : Lit → Bool) : Prop where
 shelf : Shelf N.vs N.num N.T wr base b l'
 alike : l'.map (fun p => (N.set p.1 none 0, p.2)) = l.map (fun p => (N.set p.1 none 0, p.2))
 own : ∀ p ∈ l', left (.int .i64 (N.num p.1)) = false → N.Mine wr w0.heap.size p.1
 old : ∀ p ∈ l', left (.int .i64 (N.num p.1)) = true → p ∈ l
 apart : ∀ p ∈ l', ∀ p' ∈ l', left (.int .i64 (N.num p.1)) = false → left (.int .i64 (N.num p'.1)) = false → ∀ g, N.kid p.1 = some g → N.kid p'.1 = some g → p.2 = p'.2
 os : wr.os = w0.os
 tape : wr.tape = w0.tape
 output : wr.output = w0.output
 size : w0.heap.size ≤ wr.heap.size
 same : ∀ g, g < w0.heap.size → g ∉ l.map (·.2) → wr.heap[g]? = w0.heap[g]?
theorem has_map (m : MapL) {p : Int × Nat} (hp : p ∈ m) : Maps.has (mapD m) (.int .i64 p.1) = true := by
 show (m.map encP).any (fun q => q.1.sameKey (.int .i64 p.1)) = true
 rw [List.any_eq_true]
 refine ⟨encP p, List.mem_map.2 ⟨p, hp, rfl⟩, ?_⟩
 have : (encP p).1.sameKey (.int .i64 p.1) = (p.1 == p.1) := sameKey_int _ _
 rw [this]
 simp
theorem OwnIn.start {w0 w1 : World} {base b : Nat} {l : List (α × Nat)} (h : Shelf N.vs N.num N.T w0 base b l) (hg : w0.grownBy w1 none) : OwnIn N w0 w1 base b l l (Maps.has (mapD (keysOf N.num l))) := by
 have hk : ∀ p ∈ l, Maps.has (mapD (keysOf N.num l)) (.int .i64 (N.num p.1)) = true := fun p hp => has_map (keysOf N.num l) (p := (N.num p.1, p.2)) (List.mem_map.2 ⟨p, hp, rfl⟩)
 refine ⟨h.same fun g hg' => hg.block g (h.lt g hg') (by simp), rfl, fun p hp e => ?_, fun p hp _ => hp, fun p hp p' _ e => ?_, hg.os, hg.tape, hg.output, hg.size, fun g hg' _ => hg.block g hg' (by simp)⟩
 ·rw [hk p hp] at e; cases e
 ·rw [hk p hp] at e; cases e
/-- The iterator goes on. -/
theorem OwnIn.next {w0 wr w2 : World} {base b r : Nat} {l l' : List (α × Nat)} {left : Lit → Bool} (h : OwnIn N w0 wr base b l l' left) (hg : wr.grownBy w2 (some r)) (hl : ∀ g ∈ b :: l.map (·.2), g < w0.heap.size) (hr : w0.heap.size ≤ r) (hkid : ∀ p ∈ l', left (.int .i64 (N.num p.1)) = false → ¬ N.kid p.1 = some r) : OwnIn N w0 w2 base b l l' left := by
 have hbl : l'.map (·.2) = l.map (·.2) := by
  have := congrArg (List.map (·.2)) h.alike
  simp only [List.map_map, Function.comp_def] at this
  exact this
 refine ⟨h.shelf.same fun g hg' => hg.block g (h.shelf.lt g hg') (fun e => ?_), h.alike, fun p hp e => (h.own p hp e).same fun g hk => hg.block g ((h.own p hp e).lt hk).2 (fun e' => hkid p hp e (by rw [hk]; exact e')), h.old, h.apart, hg.os.trans h.os, hg.tape.trans h.tape, hg.output.trans h.output, Nat.le_trans h.size hg.size, fun g hg' hn => (hg.block g (Nat.lt_of_lt_of_le hg' h.size) (fun e => ?_)).trans (h.same g hg' hn)⟩
 ·rw [hbl] at hg'
  have := hl g hg'
  have := Option.some.inj e
  omega
 ·have := Option.some.inj e
  omega
theorem OwnIn.blocks {w0 wr : World} {base b : Nat} {l l' : List (α × Nat)} {left : Lit → Bool} (h : OwnIn N w0 wr base b l l' left) : l'.map (·.2) = l.map (·.2) := by
 have := congrArg (List.map (·.2)) h.alike
 simp only [List.map_map, Function.comp_def] at this
 exact this
theorem OwnIn.keys {w0 wr : World} {base b : Nat} {l l' : List (α × Nat)} {left : Lit → Bool} (h : OwnIn N w0 wr base b l l' left) : keysOf N.num l' = keysOf N.num l := by
 have := congrArg (List.map (fun p => (N.num p.1, p.2))) h.alike
 simp only [List.map_map, Function.comp_def, N.num_set] at this
 exact this
/-- A thing's list is copied, and the copy put in its place. -/
theorem OwnIn.step {w0 wr w3 w4 : World} {base b : Nat} {l l' : List (α × Nat)} {left : Lit → Bool} {p : α × Nat} {a : Option Addr} {cap : Nat} (h : OwnIn N w0 wr base b l l' left) (hl : ∀ g ∈ b :: l.map (·.2), g < w0.heap.size) (hp : p ∈ l')
  (ho : w3.ownsRow wr.heap.size N.e N.size (.slice a (N.len p.1) cap) (N.len p.1) (N.flat p.1)) (hg : wr.grownBy w3 none) (hc : w4.heap[p.2]? = some (.cells (N.vs (N.set p.1 a cap)) N.T (0, 0))) (hs : ∀ g, ¬ g = p.2 → w4.heap[g]? = w3.heap[g]?)
  (h1 : w4.os = w3.os) (h2 : w4.tape = w3.tape) (h3 : w4.output = w3.output) (h4 : w4.heap.size = w3.heap.size) :
  OwnIn N w0 w4 base b l (upd p.2 (fun x => N.set x a cap) l') (fun z => left z && !z.sameKey (.int .i64 (N.num p.1))) := by
 have hpl : p.2 ∈ l.map (·.2) := by rw [← h.blocks]; exact List.mem_map.2 ⟨p, hp, rfl⟩
 have hlt : p.2 < w0.heap.size := hl p.2 (List.mem_cons_of_mem _ hpl)
 have hone : ∀ q ∈ l', q.2 = p.2 → q = p := fun q hq e => h.shelf.one hq hp e
 have hcell : ∀ q ∈ l', ¬ q.2 = p.2 → ¬ N.num q.1 = N.num p.1 := fun q hq hne e => hne (by
  have hr := h.shelf.map.2
  have a1 := lookM_mem hr (p := (N.num q.1, q.2)) (List.mem_map.2 ⟨q, hq, rfl⟩)
  have a2 := lookM_mem hr (p := (N.num p.1, p.2)) (List.mem_map.2 ⟨p, hp, rfl⟩)
  simp only [e] at a1
  rw [a1] at a2
  exact Option.some.inj a2)
 have hleft : ∀ q ∈ l', ¬ q.2 = p.2 → (left (.int .i64 (N.num q.1)) && !(Lit.int .i64 (N.num q.1)).sameKey (.int .i64 (N.num p.1))) = left (.int .i64 (N.num q.1)) := fun q hq hne => by
  rw [sameKey_int]
  simp [hcell q hq hne]
 have hmine : N.Mine w3 wr.heap.size (N.set p.1 a cap) := Nest.mine_set ho
 have hblk : ∀ g, g < wr.heap.size → ¬ g = p.2 → w4.heap[g]? = wr.heap[g]? := fun g hg' hne => (hs g hne).trans (hg.block g hg' (by simp))
 have hkp : ∀ q ∈ l', left (.int .i64 (N.num q.1)) = false → ∀ g, N.kid q.1 = some g → ¬ g = p.2 := fun q hq e g hk e' => by
  have := ((h.own q hq e).lt hk).1
  omega
 refine ⟨?_, ?_, fun q hq e => ?_, fun q hq e => ?_, fun q hq q' hq' e e' g hk hk' => ?_, h1.trans (hg.os.trans h.os), h2.trans (hg.tape.trans h.tape), h3.trans (hg.output.trans h.output), by rw [h4]; exact Nat.le_trans h.size hg.size, fun g hg' hn => ?_⟩
 ·refine h.shelf.upd (fun q _ _ => N.num_set _ _ _) (fun q hq e => ?_) ?_ fun g hg' hne => hblk g (h.shelf.lt g (List.mem_cons_of_mem _ hg')) hne
  ·rw [hone q hq e]; exact hc
  ·exact hblk b h.shelf.map.lt (fun e => h.shelf.ne hp e.symm)
 ·rw [← h.alike]
  simp only [upd, List.map_map]
  refine List.map_congr_left fun q _ => ?_
  simp only [Function.comp]
  split
  ·simp only [N.set_set]
  ·rfl
 ·by_cases e0 : q.2 = p.2
  ·obtain ⟨q0, hq0, hq1, rfl⟩ := (mem_upd_eq e0).1 hq
   rw [hone q0 hq0 hq1]
   refine (hmine.low h.size).same fun g hk => hs g (fun e' => ?_)
   have := (hmine.lt hk).1
   have := h.size
   omega
  ·have hq0 := (mem_upd_ne e0).1 hq
   rw [hleft q hq0 e0] at e
   exact (h.own q hq0 e).same fun g hk => hblk g ((h.own q hq0 e).lt hk).2 (hkp q hq0 e g hk)
 ·by_cases e0 : q.2 = p.2
  ·obtain ⟨q0, hq0, hq1, rfl⟩ := (mem_upd_eq e0).1 hq
   rw [hone q0 hq0 hq1] at e
   simp only [N.num_set] at e
   rw [sameKey_int] at e
   simp at e
  ·have hq0 := (mem_upd_ne e0).1 hq
   rw [hleft q hq0 e0] at e
   exact h.old q hq0 e
 ·by_cases e0 : q.2 = p.2
  ·by_cases e1 : q'.2 = p.2
   ·rw [e0, e1]
   ·obtain ⟨q0, hq0, hq1, rfl⟩ := (mem_upd_eq e0).1 hq
    have hq2 := (mem_upd_ne e1).1 hq'
    rw [hleft q' hq2 e1] at e'
    rw [hone q0 hq0 hq1] at hk
    have := ((h.own q' hq2 e').lt hk').2
    have := (hmine.lt hk).1
    omega
  ·have hq0 := (mem_upd_ne e0).1 hq
   rw [hleft q hq0 e0] at e
   by_cases e1 : q'.2 = p.2
   ·obtain ⟨q2, hq2, hq3, rfl⟩ := (mem_upd_eq e1).1 hq'
    rw [hone q2 hq2 hq3] at hk'
    have := ((h.own q hq0 e).lt hk).2
    have := (hmine.lt hk').1
    omega
   ·have hq2 := (mem_upd_ne e1).1 hq'
    rw [hleft q' hq2 e1] at e'
    exact h.apart q hq0 q' hq2 e e' g hk hk'
 ·have hne : ¬ g = p.2 := fun e => hn (by rw [e]; exact hpl)
  exact (hblk g (Nat.lt_of_lt_of_le hg' h.size) hne).trans (h.same g hg' hn)
theorem grown_setCell (w : World) (c i : Nat) (v : Value) : w.grownBy (w.setCell ⟨c, i, none⟩ v) (some c) :=
 ⟨rfl, rfl, rfl, by simp [World.setCell], fun k _ hne => Below.heap_setCell w _ v k (fun e => hne (by rw [e]))⟩
/-- One thing out of those that are left. -/
theorem OwnIn.pick {w0 wr : World} {base b c : Nat} {l l' : List (α × Nat)} {left : Lit → Bool} {x : Int} {kl : Lit} {y : DataW Unit × List MemPlace} (h : OwnIn N w0 wr base b l l' left) (hkey : keyOf Tryz.prog 2 (.int .i64 x) = some kl) (hv : ptrR (ptrV c) = some y)
  (hat : ∀ zd, (mapD (keysOf N.num l)).atKey kl zd = y.1) : ∃ p ∈ l', N.num p.1 = x ∧ p.2 = c ∧ kl = .int .i64 x := by
 obtain ⟨x', e, rfl, -⟩ := keyOf_int_inv Tryz.underlying2 hkey
 cases e
 obtain ⟨g, e, rfl⟩ := ptrR_inv hv
 have e : g = c := by
  simp only [ptrV, Value.pointer.injEq, Option.some.injEq, Addr.mk.injEq] at e
  exact e.1.symm
 subst e
 have h1 := hat .nil
 rw [atKey_map] at h1
 cases hl : lookM (keysOf N.num l) x with
 | none => rw [hl] at h1; cases h1
 | some g' =>
  rw [hl] at h1
  simp only [DataW.lit.injEq, Lit.int.injEq, Int.natCast_inj, true_and] at h1
  subst h1
  have hm := mem_of_lookM hl
  rw [← h.keys] at hm
  obtain ⟨p, hp, e⟩ := List.mem_map.1 hm
  simp only [Prod.mk.injEq] at e
  exact ⟨p, hp, e.1, e.2, rfl⟩
/-- A round: the iterator goes on, the thing's list is copied, the copy is put in its place. -/
theorem OwnIn.turn {w0 wr w2 w3 : World} {base b r n cnt cnt' i : Nat} {l l' : List (α × Nat)} {left : Lit → Bool} {D : DataW Unit} {p : α × Nat} {a : Option Addr} {cap : Nat} (h : OwnIn N w0 wr base b l l' left) (hrg : wr.ranges Tryz.prog 2 ptrR b r n D left cnt)
  (hgr : wr.grownBy w2 (some r)) (hrg2 : w2.ranges Tryz.prog 2 ptrR b r n D (fun z => left z && !z.sameKey (.int .i64 (N.num p.1))) cnt') (hl : ∀ g ∈ b :: l.map (·.2), g < w0.heap.size) (hr : w0.heap.size ≤ r) (hp : p ∈ l')
  (ho : w3.ownsRow w2.heap.size N.e N.size (.slice a (N.len p.1) cap) (N.len p.1) (N.flat p.1)) (hg : w2.grownBy w3 none) (hvs : (N.vs p.1).setIfInBounds i (.slice a (N.len p.1) cap) = N.vs (N.set p.1 a cap)) :
  OwnIn N w0 (w3.setCell ⟨p.2, i, none⟩ (.slice a (N.len p.1) cap)) base b l (upd p.2 (fun x => N.set x a cap) l') (fun z => left z && !z.sameKey (.int .i64 (N.num p.1))) ∧
   (w3.setCell ⟨p.2, i, none⟩ (.slice a (N.len p.1) cap)).ranges Tryz.prog 2 ptrR b r n D (fun z => left z && !z.sameKey (.int .i64 (N.num p.1))) cnt' := by
 have hpl : p.2 ∈ l.map (·.2) := by rw [← h.blocks]; exact List.mem_map.2 ⟨p, hp, rfl⟩
 have hlt : p.2 < w0.heap.size := hl p.2 (List.mem_cons_of_mem _ hpl)
 have h2 : OwnIn N w0 w2 base b l l' left := h.next hgr hl hr fun q hq e hk => by
  obtain ⟨es, clock, since, seen, c0, _, _, _, _, hit, _⟩ := hrg
  rcases (h.own q hq e).2 with ⟨hv, -⟩ | ⟨g', cap', cur, hv, hb, hg', -⟩
  ·simp only [Value.slice.injEq] at hv
   simp [Nest.kid, hv.1] at hk
  ·simp only [Value.slice.injEq] at hv
   simp only [Nest.kid, hv.1, Option.map_some, Option.some.injEq] at hk
   subst hk
   rw [hit] at hg'
   cases hg'
 have hbox := (hg.block p.2 (Nat.lt_of_lt_of_le hlt h2.size) (by simp)).trans (h2.shelf.box p hp)
 have hc := heap_setCell_same w3 p.2 i _ _ (.slice a (N.len p.1) cap) hbox
 rw [hvs] at hc
 refine ⟨h2.step hl hp ho hg hc (fun g hne => Below.heap_setCell w3 _ _ g hne) rfl rfl rfl (by simp [World.setCell]), ?_⟩
 refine (hrg2.kept hg (by simp) (by simp)).kept (grown_setCell w3 p.2 i _) (fun e => ?_) (fun e => ?_)
 ·exact h2.shelf.ne hp (Option.some.inj e).symm
 ·have := Option.some.inj e
  omega
/-- The blocks of the lists. -/
def kids (N : Nest α) (l : List (α × Nat)) : List Nat := l.filterMap fun p => N.kid p.1
theorem OwnIn.nodup {w0 wr : World} {base b : Nat} {l l' : List (α × Nat)} {left : Lit → Bool} (h : OwnIn N w0 wr base b l l' left) (hd : ∀ kl, left kl = false) : (kids N l').Nodup := by
 have hn := (List.nodup_cons.1 h.shelf.nodup).2
 have ha := h.apart
 clear h
 induction l' with
 | nil => exact List.nodup_nil
 | cons y r ih =>
  rw [List.map_cons, List.nodup_cons] at hn
  have ihr := ih hn.2 (fun p hp p' hp' => ha p (List.mem_cons_of_mem _ hp) p' (List.mem_cons_of_mem _ hp'))
  unfold kids at ihr ⊢
  rw [List.filterMap_cons]
  split
  ·exact ihr
  ·rename_i g hg
   refine List.nodup_cons.2 ⟨fun hm => ?_, ihr⟩
   obtain ⟨p, hp, hk⟩ := List.mem_filterMap.1 hm
   exact hn.1 (List.mem_map.2 ⟨p, hp, (ha y (by simp) p (by simp [hp]) (hd _) (hd _) g hg hk).symm⟩)
end
end Go.Proofs.YtkbcplnlehdjfaaGreat

/- The forms of ops: what form an op has, and what op a form is. -/
namespace Go.Proofs.YtkbcplnlehdjfaaGreat
open Go.RowKit
attribute [local go_sem ↓] Go.wp_at_zero Go.wp_at_succ
set_option maxHeartbeats 1000000 in
theorem asOp_bare (k : Int) (w : World) : Calls Tryz.prog 320 #[.agg #[.int .i64 k]] w fun e w' => e = .returned (.agg #[.int .i64 k, .int .i64 0, .int .i64 0, .string ByteArray.empty]) ∧ Below w.heap.size w w' := by
 go_enter Tryz.func320, Tryz.ntmps320
 go_wp2
 exact bodyPost_ret (v := .agg #[.int .i64 k, .int .i64 0, .int .i64 0, .string ByteArray.empty]) (by simp [results, Tryz.results320, go_sem]; try rfl) rfl ⟨rfl, by go_grown⟩
set_option maxHeartbeats 1000000 in
theorem asOp_number (k n : Int) (w : World) : Calls Tryz.prog 316 #[.agg #[.int .i64 k, .int .i64 n]] w fun e w' => e = .returned (.agg #[.int .i64 k, .int .i64 n, .int .i64 0, .string ByteArray.empty]) ∧ Below w.heap.size w w' := by
 go_enter Tryz.func316, Tryz.ntmps316
 go_wp2
 exact bodyPost_ret (v := .agg #[.int .i64 k, .int .i64 n, .int .i64 0, .string ByteArray.empty]) (by simp [results, Tryz.results316, go_sem]; try rfl) rfl ⟨rfl, by go_grown⟩
set_option maxHeartbeats 1000000 in
theorem asOp_wait (k n m : Int) (w : World) : Calls Tryz.prog 317 #[.agg #[.int .i64 k, .int .i64 n, .int .i64 m]] w fun e w' => e = .returned (.agg #[.int .i64 k, .int .i64 n, .int .i64 m, .string ByteArray.empty]) ∧ Below w.heap.size w w' := by
 go_enter Tryz.func317, Tryz.ntmps317
 go_wp2
 exact bodyPost_ret (v := .agg #[.int .i64 k, .int .i64 n, .int .i64 m, .string ByteArray.empty]) (by simp [results, Tryz.results317, go_sem]; try rfl) rfl ⟨rfl, by go_grown⟩
set_option maxHeartbeats 1000000 in
theorem asOp_send (k n m : Int) (s : ByteArray) (w : World) : Calls Tryz.prog 318 #[.agg #[.int .i64 k, .int .i64 n, .int .i64 m, .string s]] w fun e w' => e = .returned (.agg #[.int .i64 k, .int .i64 n, .int .i64 m, .string s]) ∧ Below w.heap.size w w' := by
 go_enter Tryz.func318, Tryz.ntmps318
 go_wp2
 exact bodyPost_ret (v := .agg #[.int .i64 k, .int .i64 n, .int .i64 m, .string s]) (by simp [results, Tryz.results318, go_sem]; try rfl) rfl ⟨rfl, by go_grown⟩
set_option maxHeartbeats 1000000 in
theorem asOp_text (k n : Int) (s : ByteArray) (w : World) : Calls Tryz.prog 319 #[.agg #[.int .i64 k, .int .i64 n, .string s]] w fun e w' => e = .returned (.agg #[.int .i64 k, .int .i64 n, .int .i64 0, .string s]) ∧ Below w.heap.size w w' := by
 go_enter Tryz.func319, Tryz.ntmps319
 go_wp2
 exact bodyPost_ret (v := .agg #[.int .i64 k, .int .i64 n, .int .i64 0, .string s]) (by simp [results, Tryz.results319, go_sem]; try rfl) rfl ⟨rfl, by go_grown⟩
set_option maxHeartbeats 4000000 in
theorem formOf_num (k n m : Int) (s : ByteArray) (w : World) (hk : isNum k) :
  Calls Tryz.prog 290 #[.agg #[.int .i64 k, .int .i64 n, .int .i64 m, .string s]] w fun e w' => e = .returned (.tuple #[.iface 330 (.agg #[.int .i64 k, .int .i64 n]), .bool true]) ∧ Below w.heap.size w w' := by
 rcases hk with rfl | rfl | rfl | rfl | rfl | rfl | rfl | rfl | rfl
 all_goals
  go_enter Tryz.func290, Tryz.ntmps290
  go_wp2
  go_ret2
  exact ⟨rfl, by go_grown⟩
set_option maxHeartbeats 4000000 in
theorem formOf_wait (k n m : Int) (s : ByteArray) (w : World) (hk : isWait k) :
  Calls Tryz.prog 290 #[.agg #[.int .i64 k, .int .i64 n, .int .i64 m, .string s]] w fun e w' => e = .returned (.tuple #[.iface 332 (.agg #[.int .i64 k, .int .i64 n, .int .i64 m]), .bool true]) ∧ Below w.heap.size w w' := by
 rcases hk with rfl | rfl | rfl | rfl
 all_goals
  go_enter Tryz.func290, Tryz.ntmps290
  go_wp2
  go_ret2
  exact ⟨rfl, by go_grown⟩
set_option maxHeartbeats 4000000 in
theorem formOf_send (k n m : Int) (s : ByteArray) (w : World) (hk : k = 8) :
  Calls Tryz.prog 290 #[.agg #[.int .i64 k, .int .i64 n, .int .i64 m, .string s]] w fun e w' => e = .returned (.tuple #[.iface 334 (.agg #[.int .i64 k, .int .i64 n, .int .i64 m, .string s]), .bool true]) ∧ Below w.heap.size w w' := by
 rcases hk with rfl
 all_goals
  go_enter Tryz.func290, Tryz.ntmps290
  go_wp2
  go_ret2
  exact ⟨rfl, by go_grown⟩
set_option maxHeartbeats 4000000 in
theorem formOf_text (k n m : Int) (s : ByteArray) (w : World) (hk : isText k) :
  Calls Tryz.prog 290 #[.agg #[.int .i64 k, .int .i64 n, .int .i64 m, .string s]] w fun e w' => e = .returned (.tuple #[.iface 336 (.agg #[.int .i64 k, .int .i64 n, .string s]), .bool true]) ∧ Below w.heap.size w w' := by
 rcases hk with rfl | rfl
 all_goals
  go_enter Tryz.func290, Tryz.ntmps290
  go_wp2
  go_ret2
  exact ⟨rfl, by go_grown⟩
set_option maxHeartbeats 4000000 in
theorem formOf_loop (k n m : Int) (s : ByteArray) (w : World) (hk : k = 17) :
  Calls Tryz.prog 290 #[.agg #[.int .i64 k, .int .i64 n, .int .i64 m, .string s]] w fun e w' => e = .returned (.tuple #[.iface 338 (.agg #[.int .i64 k]), .bool true]) ∧ Below w.heap.size w w' := by
 rcases hk with rfl
 all_goals
  go_enter Tryz.func290, Tryz.ntmps290
  go_wp2
  go_ret2
  exact ⟨rfl, by go_grown⟩
set_option maxHeartbeats 4000000 in
theorem formOf_none (k n m : Int) (s : ByteArray) (w : World) (hk : ¬ (1 ≤ k ∧ k ≤ 17)) :
  Calls Tryz.prog 290 #[.agg #[.int .i64 k, .int .i64 n, .int .i64 m, .string s]] w fun e w' => e = .returned (.tuple #[.iface 338 (.agg #[.int .i64 0]), .bool false]) ∧ Below w.heap.size w w' := by
 have e1 : (k == 1) = false := by simp; omega
 have e2 : (k == 2) = false := by simp; omega
 have e3 : (k == 3) = false := by simp; omega
 have e4 : (k == 4) = false := by simp; omega
 have e5 : (k == 5) = false := by simp; omega
 have e6 : (k == 6) = false := by simp; omega
 have e7 : (k == 7) = false := by simp; omega
 have e8 : (k == 8) = false := by simp; omega
 have e9 : (k == 9) = false := by simp; omega
 have e10 : (k == 10) = false := by simp; omega
 have e11 : (k == 11) = false := by simp; omega
 have e12 : (k == 12) = false := by simp; omega
 have e13 : (k == 13) = false := by simp; omega
 have e14 : (k == 14) = false := by simp; omega
 have e15 : (k == 15) = false := by simp; omega
 have e16 : (k == 16) = false := by simp; omega
 have e17 : (k == 17) = false := by simp; omega
 go_enter Tryz.func290, Tryz.ntmps290
 go_wp2
 go_ret2
 exact ⟨rfl, by go_grown⟩
end Go.Proofs.YtkbcplnlehdjfaaGreat
