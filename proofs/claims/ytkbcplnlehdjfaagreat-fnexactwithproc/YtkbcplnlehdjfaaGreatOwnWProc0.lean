/- What the proof leans on, part 0: WithP, WithO, WpProc, WithM, OpenX, LaProc, L3Chk. -/
import Derived.Test.YtkbcplnlehdjfaaGreatOwnR1
import Derived.Test.YtkbcplnlehdjfaaGreatOwnR35

namespace Go.Proofs.YtkbcplnlehdjfaaGreat
open Go.RowKit
section
variable {α : Type} {num : α → Int} {ok : α → Bool}
/-- A thing before the first one of a greater number; before the first one of no lesser number. -/
def insG (num : α → Int) (x : α) : List α → List α
 | [] => [x]
 | y :: r => if num x < num y then x :: y :: r else y :: insG num x r
def insF (num : α → Int) (x : α) : List α → List α
 | [] => [x]
 | y :: r => if num y < num x then y :: insF num x r else x :: y :: r
theorem insG_length (x : α) : ∀ l : List α, (insG num x l).length = l.length + 1
 | [] => rfl
 | y :: r => by
  simp only [insG]
  split
  ·rfl
  ·simp [insG_length x r]
theorem insG_mem {x z : α} : ∀ {l : List α}, z ∈ insG num x l ↔ z = x ∨ z ∈ l
 | [] => by simp [insG]
 | y :: r => by
  simp only [insG]
  split
  ·simp
  ·simp only [List.mem_cons, insG_mem (l := r)]
   constructor
   ·rintro (h | h | h)
    ·exact .inr (.inl h)
    ·exact .inl h
    ·exact .inr (.inr h)
   ·rintro (h | h | h)
    ·exact .inr (.inl h)
    ·exact .inl h
    ·exact .inr (.inr h)
/-- Whether things with one more are right. -/
def moreB (num : α → Int) (ok : α → Bool) (x : α) (l : List α) : Bool := !decide (num x ∈ l.map num) && inB (num x) 1 1000 && ok x
theorem insG_right {x : α} : ∀ {l : List α} {last : Int}, thingsB num ok last l = true → last < num x → thingsB num ok last (insG num x l) = moreB num ok x l
 | [], last, _, hl => by simp [insG, thingsB, moreB, hl]
 | y :: r, last, h, hl => by
  have h' := h
  simp only [thingsB, Bool.and_eq_true, decide_eq_true_eq] at h
  by_cases h1 : num x < num y
  ·have hr := things_rise h.2
   have hn : num x ∉ (y :: r).map num := fun hm => by
    rcases List.mem_cons.1 hm with e | hm
    ·omega
    ·obtain ⟨z, hz, e⟩ := List.mem_map.1 hm
     have := hr.1 z hz
     omega
   rw [moreB, decide_eq_false hn]
   simp [insG, h1, thingsB, hl, h.1.1.1, h.1.2, h.2]
  ·simp only [insG, if_neg h1, thingsB]
   by_cases h2 : num y = num x
   ·have hm : num x ∈ (y :: r).map num := by simp [h2]
    have h3 : thingsB num ok (num y) (insG num x r) = false := by
     cases h4 : thingsB num ok (num y) (insG num x r) with
     | false => rfl
     | true =>
      have := (things_rise h4).1 x (insG_mem.2 (.inl rfl))
      omega
    rw [moreB, decide_eq_true hm, h3]
    simp
   ·rw [insG_right h.2 (by omega)]
    have h5 : (num x ∈ (y :: r).map num) ↔ num x ∈ r.map num := by
     simp only [List.map_cons, List.mem_cons]
     constructor
     ·rintro (e | e)
      ·exact absurd e.symm h2
      ·exact e
     ·exact .inr
    simp only [moreB, h5, h.1.1.1, h.1.1.2, h.1.2, decide_true, Bool.true_and]
theorem insG_right0 {x : α} {l : List α} (h : thingsB num ok 0 l = true) : thingsB num ok 0 (insG num x l) = moreB num ok x l := by
 by_cases h0 : 0 < num x
 ·exact insG_right h h0
 ·have h1 : inB (num x) 1 1000 = false := by
   cases h2 : inB (num x) 1 1000 with
   | false => rfl
   | true => have := inB_iff.1 h2; omega
  cases h4 : thingsB num ok 0 (insG num x l) with
  | false => simp [moreB, h1]
  | true =>
   have := (things_rise h4).1 x (insG_mem.2 (.inl rfl))
   omega
end
/-- A partition with more, if it and what it becomes are right. -/
def withR (p p' : PartP) : Option PartP := if partB p && partB p' then some p' else none
theorem withR_not {p p' : PartP} (h : partB p = false) : withR p p' = none := by simp [withR, h]
theorem withR_no {p p' : PartP} (h : partB p' = false) : withR p p' = none := by simp [withR, h]
theorem withR_yes {p p' : PartP} (h : partB p = true) (h' : partB p' = true) : withR p p' = some p' := by simp [withR, h, h']
theorem withR_cases {p p' : PartP} : (withR p p').getD zeroPart = zeroPart ∨ partB p = true ∧ partB p' = true ∧ (withR p p').getD zeroPart = p' := by
 unfold withR
 split
 ·rename_i h
  rw [Bool.and_eq_true] at h
  exact .inr ⟨h.1, h.2, rfl⟩
 ·exact .inl rfl
theorem sum_ins {α : Type} {num : α → Int} {c : α → Nat} (x : α) : ∀ l : List α, sumL c (insG num x l) = sumL c l + c x
 | [] => by simp [insG, sumL]
 | y :: r => by
  have ih := sum_ins (num := num) (c := c) x r
  simp only [insG, sumL] at ih ⊢
  split
  ·simp only [List.map_cons, List.sum_cons]; omega
  ·simp only [List.map_cons, List.sum_cons, ih]; omega
end Go.Proofs.YtkbcplnlehdjfaaGreat

/- A thing laid into an open partition. (Made by mkwitho.py.) -/
namespace Go.Proofs.YtkbcplnlehdjfaaGreat
open Go.RowKit Go.Maps
theorem perm_step {A B B' : List Nat} {g : Nat} (h : B'.Perm (g :: B)) : (A ++ B').Perm (g :: (A ++ B)) := (List.Perm.append_left A h).trans List.perm_middle
theorem insT_boxes {α : Type} {num : α → Int} (x : α) (b g : Nat) (l : List (α × Nat)) : (b :: (insT num (x, g) l).map (·.2)).Perm (g :: (b :: l.map (·.2))) :=
 have h : ((insT num (x, g) l).map (·.2)).Perm (g :: l.map (·.2)) := (insT_perm (num := num) (x, g) l).map (·.2)
 (List.Perm.cons b h).trans (List.Perm.swap g b _)
theorem insT_fst {α β : Type} {num : α → Int} {num' : β → Int} (f : α → β) (hf : ∀ y, num' (f y) = num y) (x : α) (g : Nat) : ∀ l : List (α × Nat), (insT num (x, g) l).map (fun p => f p.1) = insG num' (f x) (l.map (fun p => f p.1))
 | [] => rfl
 | y :: r => by
  simp only [insT, insG, List.map_cons, hf]
  split
  ·simp
  ·simp [insT_fst f hf x g r]
theorem kids_ins {α : Type} {N : Nest α} {num : α → Int} (x : α) (g : Nat) (l : List (α × Nat)) : (kids N (insT num (x, g) l)).Perm (kids N ((x, g) :: l)) := (insT_perm (num := num) (x, g) l).filterMap _
theorem lay_more {α β : Type} {num : α → Int} {num' : β → Int} (f : α → β) (hf : ∀ y, num' (f y) = num y) (ok : β → Bool) (x : α) (n : Nat) (l : List (α × Nat)) : layB n (keysOf num l) (num x) (ok (f x)) = (moreB num' ok (f x) (l.map (fun p => f p.1)) && decide ((l.map (fun p => f p.1)).length < n)) := by
 have e1 : (keysOf num l).map (·.1) = (l.map (fun p => f p.1)).map num' := by
  simp only [keysOf, List.map_map]
  exact List.map_congr_left fun p _ => (hf p.1).symm
 have e2 : decide (((keysOf num l).length : Int) < (n : Int)) = decide ((l.map (fun p => f p.1)).length < n) := by
  rw [keysOf_length, List.length_map]
  exact decide_eq_decide.2 (by omega)
 unfold layB moreB
 rw [lookM_isSome, e1, e2, hf]
 cases decide ((l.map (fun p => f p.1)).length < n) <;> simp
theorem OpenAt.lt {w : World} {base o : Nat} {S : OpenD} (h : OpenAt w base o S) : ∀ c ∈ o :: (S.boxes ++ S.kids), c < w.heap.size := fun c hc => by
 simp only [OpenD.boxes, OpenD.kids, List.mem_cons, List.mem_append] at hc
 rcases hc with rfl | ((hc | hc | hc | hc | hc | hc) | hc | hc | hc)
 ·exact (Array.getElem?_eq_some_iff.1 h.opn).1
 ·exact h.procs.lt c (List.mem_cons.2 hc)
 ·exact h.sems.lt c (List.mem_cons.2 hc)
 ·exact h.events.lt c (List.mem_cons.2 hc)
 ·exact h.boards.lt c (List.mem_cons.2 hc)
 ·exact h.buffers.lt c (List.mem_cons.2 hc)
 ·exact h.ports.lt c (List.mem_cons.2 hc)
 ·obtain ⟨r, hr, hk⟩ := List.mem_filterMap.1 hc
  exact ((h.mineP r hr).lt hk).2
 ·obtain ⟨r, hr, hk⟩ := List.mem_filterMap.1 hc
  exact ((h.mineF r hr).lt hk).2
 ·obtain ⟨r, hr, hk⟩ := List.mem_filterMap.1 hc
  exact ((h.mineQ r hr).lt hk).2
end Go.Proofs.YtkbcplnlehdjfaaGreat

/- What becomes of a partition with a process more, one that did nothing yet. -/
namespace Go.Proofs.YtkbcplnlehdjfaaGreat
open Go.RowKit
/-- A new process. -/
abbrev newP (id prio : Int) (l : List OpD) : ProcP := ⟨id, prio, l, 0, 0, 0, 0, 0, ⟨#[]⟩, ⟨#[]⟩, 0, 0⟩
theorem insG_pair {α : Type} {num : α → Int} {R : α → α → Prop} {x : α} : ∀ {l : List α}, (∀ y ∈ l, R x y) → (∀ y ∈ l, R y x) → l.Pairwise R → (insG num x l).Pairwise R
 | [], _, _, _ => by simp [insG]
 | y :: r, h1, h2, h => by
  simp only [insG]
  split
  ·exact List.pairwise_cons.2 ⟨h1, h⟩
  ·rw [List.pairwise_cons] at h
   refine List.pairwise_cons.2 ⟨fun z hz => ?_, insG_pair (fun z hz => h1 z (by simp [hz])) (fun z hz => h2 z (by simp [hz])) h.2⟩
   rcases insG_mem.1 hz with rfl | hz
   ·exact h2 y (by simp)
   ·exact h.1 z hz
theorem apart_new {id prio : Int} {l : List OpD} {ps : List ProcP} (h : Apart ps) : Apart (insG (·.id) (newP id prio l) ps) := by
 unfold Apart at h ⊢
 rw [List.pairwise_map] at h ⊢
 exact insG_pair (fun y _ e => by have h1 : (0 : Int) = y.since := e.1; have h2 : 0 < y.since := e.2; omega) (fun y _ e => absurd (show (0 : Int) < 0 from e.2) (by decide)) h
theorem moreProc {p : PartP} {id prio : Int} {l : List OpD} (h : PartR p) : partB ({ p with procs := insG (·.id) (newP id prio l) p.procs } : PartP) = (moreB (·.id) procB (newP id prio l) p.procs && decide (p.procs.length < 6)) := by
 have e0 : moreB (·.id) (fun x => procB x && turnB p.next x && waitB p x) (newP id prio l) p.procs = moreB (·.id) procB (newP id prio l) p.procs := by
  have e1 : turnB p.next (newP id prio l) = true := by simp [turnB]
  have e2 : waitB p (newP id prio l) = true := by simp [waitB]
  simp only [moreB, e1, e2, Bool.and_true]
 rw [Bool.eq_iff_iff, partB_iff, Bool.and_eq_true, decide_eq_true_eq, ← e0, ← insG_right0 h.procs]
 constructor
 ·intro h2
  have h3 : (insG (·.id) (newP id prio l) p.procs).length ≤ 6 := h2.nProc
  rw [insG_length] at h3
  exact ⟨h2.procs, by omega⟩
 ·intro h2
  have h3 := h2.2
  exact ⟨h.id, h.next, (by show (insG (·.id) (newP id prio l) p.procs).length ≤ 6; rw [insG_length]; omega), h.nSem, h.nEvent, h.nBoard, h.nBuffer, h.nPort, h2.1, h.sems, h.events, h.boards, h.buffers, h.ports, apart_new h.apart⟩
section
variable {p : PartP} {id prio : Int} {l : List OpD}
theorem smallProc (h : p.Small) (hx : l.length ≤ 1048576 ∧ ∀ o ∈ l, o.2.2.2.size ≤ 1048576) (hw : (Lit.int .i64 id).wf = true) : ((withR p { p with procs := insG (·.id) (newP id prio l) p.procs }).getD zeroPart).Small := by
 rcases withR_cases (p := p) (p' := { p with procs := insG (·.id) (newP id prio l) p.procs }) with e | ⟨_, hp, e⟩
 ·rw [e]; exact zero_small
 ·rw [e]
  have h2 := (partB_iff _).1 hp
  exact ⟨by have h3 : (insG (·.id) (newP id prio l) p.procs).length ≤ 6 := h2.nProc; show (insG (·.id) (newP id prio l) p.procs).length ≤ _; omega, h.nSem, h.nEvent, h.nBoard, h.nBuffer, h.nPort, fun y hy => (insG_mem.1 hy).elim (fun e => e ▸ ⟨⟨hx.1, hx.2, Nat.zero_le _, Nat.zero_le _⟩, hw, by show (Lit.int .i64 0).wf = true; decide, by show (Lit.int .i64 0).wf = true; decide⟩) (h.procs y), h.sems, h.events, h.boards, h.buffers, h.ports⟩
theorem insProc_small (h : p.Small) (hr : partB p = true) (hx : l.length ≤ 1048576 ∧ ∀ o ∈ l, o.2.2.2.size ≤ 1048576) (hw : (Lit.int .i64 id).wf = true) : PartP.Small { p with procs := insG (·.id) (newP id prio l) p.procs } := by
 have h2 := ((partB_iff _).1 hr).nProc
 exact ⟨by show (insG (·.id) (newP id prio l) p.procs).length ≤ _; rw [insG_length]; omega, h.nSem, h.nEvent, h.nBoard, h.nBuffer, h.nPort, fun y hy => (insG_mem.1 hy).elim (fun e => e ▸ ⟨⟨hx.1, hx.2, Nat.zero_le _, Nat.zero_le _⟩, hw, by show (Lit.int .i64 0).wf = true; decide, by show (Lit.int .i64 0).wf = true; decide⟩) (h.procs y), h.sems, h.events, h.boards, h.buffers, h.ports⟩
theorem totalProc : ((withR p { p with procs := insG (·.id) (newP id prio l) p.procs }).getD zeroPart).total ≤ p.total + 1 + l.length := by
 rcases withR_cases (p := p) (p' := { p with procs := insG (·.id) (newP id prio l) p.procs }) with e | ⟨_, _, e⟩
 ·rw [e]; simp [PartP.total, zeroPart, sumL]
 ·rw [e]
  simp only [PartP.total, insG_length, sum_ins]
  omega
end
end Go.Proofs.YtkbcplnlehdjfaaGreat

/- What the specification's With.. do in memory: a list appended to one of the call's own; a list of a partition that is made anew. -/
namespace Go.Proofs.YtkbcplnlehdjfaaGreat
open Go.RowKit Go.Maps
/-- What is appended lies anywhere: at its address, or there is nothing. -/
def SrcAt (w : World) (a : Option Addr) (xs : List Value) : Prop := ∀ j u, xs[j]? = some u → ∃ ad, a = some ad ∧ w.cell? (ad.add j) = some u
theorem SrcAt.nil {w : World} {a : Option Addr} : SrcAt w a [] := fun j u hu => by cases hu
theorem SrcAt.none {w : World} {xs : List Value} (h : SrcAt w none xs) : xs = [] := by
 cases xs with
 | nil => rfl
 | cons u r =>
  obtain ⟨ad, e, _⟩ := h 0 u rfl
  cases e
theorem append_more {P : Program} (w : World) (base : Nat) (t ty e : TypeId) (i : TypeInfo) (z : Value) (size bytes : Nat) (ht : P.underlying t = some (.slice e)) (hi : P.info? e = some i) (hz : i.zero = some z)
  (hsize : i.size = size) (hby : i.bytes = bytes) (hzs : z.cells.size = size) (hsz : 0 < size) (a0 : Option Addr) (n0 c0 : Nat) (ys : List Value) (ho : w.ownsRow base e size (.slice a0 n0 c0) n0 ys)
  (a : Option Addr) (n cap : Nat) (xs : List Value) (h : SrcAt w a xs) (hl : xs.length = n * size) (h1 : ∀ u ∈ xs, u.oneCell' = true) (h63 : n0 + n ≤ 4000000) (hb : bytes ≤ 1000) (hbw : base ≤ w.heap.size) :
  ∃ a' cap' w', (Builtin.append_ #[t, t] ty #[.slice a0 n0 c0, .slice a n cap]).run P w = .ok (.slice a' (n0 + n) cap') w' ∧ w'.ownsRow base e size (.slice a' (n0 + n) cap') (n0 + n) (ys ++ xs) ∧ w.grownBy w' (Value.slice a0 n0 c0).ownBlock ∧ ∀ g ∈ blk a', g ∈ blk a0 ∨ g = w.heap.size := by
 cases a with
 | none =>
  have hx := h.none
  subst hx
  have hn : n = 0 := by
   cases n with
   | zero => rfl
   | succ n => simp only [List.length_nil, Nat.succ_mul] at hl; omega
  subst hn
  refine ⟨a0, c0, w, ?_, by simpa using ho, ⟨rfl, rfl, rfl, Nat.le_refl _, fun _ _ _ => rfl⟩, fun g hg => .inl hg⟩
  have hc : n0 ≤ c0 := by
   obtain ⟨-, ⟨e1, e2⟩ | ⟨g, c, cur, e1, -, -, h5, -⟩⟩ := ho
   ·cases e1; exact Nat.le_refl _
   ·cases e1; exact h5
  cases a0 <;> simp [Builtin.append_, run_underlying ht, sizeOf, typeInfo, hi, Builtin.lenOf, Builtin.firstCells, storeCells, hc]
 | some ad =>
  have hnews : ∀ j u, xs[j]? = some u → w.cell? (ad.add j) = some u := fun j u hu => by
   obtain ⟨ad', e', hc⟩ := h j u hu
   cases e'
   exact hc
  obtain ⟨v', w', hr, ho', hgr, -, hbl⟩ := run_append_own_at (P := P) w base t ty e i z size bytes ht hi hz hsize hby hzs hsz (.slice a0 n0 c0) n0 ys ho ad n cap xs hl hnews h1 (by unfold maxLen; omega) (by have := Nat.mul_le_mul h63 hb; omega) hbw
  obtain ⟨a', cap', rfl, -⟩ := own_form ho'
  refine ⟨a', cap', w', hr, ho', hgr, fun g hg => ?_⟩
  rw [mem_blk] at hg ⊢
  cases a' with
  | none => cases hg
  | some ad' =>
   simp only [Option.map_some, Option.some.injEq] at hg
   subst hg
   rcases hbl with hbl | hbl
   ·refine .inl ?_
    cases a0 with
    | none => cases hbl
    | some ad0 => simpa [Value.ownBlock] using hbl.symm
   ·exact .inr (by simpa [Value.ownBlock] using hbl)
theorem src_block {w : World} {g : Nat} {cs : Array Value} {t : TypeId} {fz : Nat × Nat} (h : w.heap[g]? = some (.cells cs t fz)) : SrcAt w (some ⟨g, 0, none⟩) cs.toList := fun j u hu => ⟨_, rfl, by rw [add_off]; simp only [World.cell?, h]; simpa using hu⟩
theorem withR_ok {p p' : PartP} (h : (partB p && partB p') = true) : withR p p' = some p' := if_pos h
theorem withR_bad {p p' : PartP} (h : (partB p && partB p') = false) : withR p p' = none := if_neg (by rw [h]; decide)
end Go.Proofs.YtkbcplnlehdjfaaGreat

/- An open partition in a world that has drawn. -/
namespace Go.Proofs.YtkbcplnlehdjfaaGreat
open Go.RowKit Go.Maps
abbrev zero8 : Array Value := #[.int .i64 0, .int .i64 0, .slice none 0 0, .slice none 0 0, .slice none 0 0, .slice none 0 0, .slice none 0 0, .slice none 0 0]
theorem OpenAt.drew {w : World} {base o : Nat} {S : OpenD} (h : OpenAt w base o S) : OpenAt w.drew base o S :=
 ⟨h.opn, h.procs.same fun _ _ => rfl, h.sems.same fun _ _ => rfl, h.events.same fun _ _ => rfl, h.boards.same fun _ _ => rfl, h.buffers.same fun _ _ => rfl, h.ports.same fun _ _ => rfl, fun p hp => (h.mineP p hp).same fun _ _ => rfl, fun p hp => (h.mineF p hp).same fun _ _ => rfl, fun p hp => (h.mineQ p hp).same fun _ _ => rfl, h.nodup, h.low⟩
end Go.Proofs.YtkbcplnlehdjfaaGreat

/- A thing of the kind Proc laid into an open partition. (Made by mkwitho.py.) -/
namespace Go.Proofs.YtkbcplnlehdjfaaGreat
open Go.RowKit Go.Maps
theorem OpenAt.layProc {w w' : World} {base o : Nat} {S : OpenD} {x : ProcD} {e : Ending} (h : OpenAt w base o S) (hb : base ≤ w.heap.size) (hm : procN.Mine w base x) (hk : ∀ c, procN.kid x = some c → c ∉ o :: (S.boxes ++ S.kids)) (hl : LayEnds w S.q.bp (keysOf (fun x : ProcD => x.id) S.lp) true x.id (procVs x) 43 e w') :
  ∃ g, OpenAt w' base o { S with lp := insT (fun x : ProcD => x.id) (x, g) S.lp } ∧ Below base w w' := by
 obtain ⟨g, hg, hsh, hgr⟩ := h.procs.lay hb hl
 have hn := h.nodup
 obtain ⟨hno, hn2⟩ := List.nodup_cons.1 hn
 obtain ⟨hnb, hnk, hbk⟩ := List.nodup_append.1 hn2
 have hnb0 := hnb
 unfold OpenD.boxes at hnb
 obtain ⟨-, r0, d0⟩ := List.nodup_append.1 hnb
 clear r0
 have hs : ∀ c ∈ o :: (S.boxes ++ S.kids), c ≠ S.q.bp → w'.heap[c]? = w.heap[c]? := fun c hc hne => hgr.block c (h.lt c hc) (fun e => hne (Option.some.inj e))
 have hbm : S.q.bp ∈ S.boxes := by unfold OpenD.boxes; exact (List.mem_append_left _ (List.mem_cons_self ..))
 have hkid : ∀ c ∈ S.kids, w'.heap[c]? = w.heap[c]? := fun c hc => hs c (List.mem_cons_of_mem _ (List.mem_append_right _ hc)) (fun e => hbk _ hbm c hc e.symm)
 refine ⟨g, ⟨(hs o (List.mem_cons_self ..) (fun e => hno (e ▸ List.mem_append_left _ hbm))).trans h.opn, hsh, h.sems.same (fun c hc => hs c (List.mem_cons_of_mem _ (List.mem_append_left _ (by unfold OpenD.boxes; exact (List.mem_append_right _ (List.mem_append_left _ hc))))) (fun e => d0 _ (List.mem_cons_self ..) c (List.mem_append_left _ hc) e.symm)), h.events.same (fun c hc => hs c (List.mem_cons_of_mem _ (List.mem_append_left _ (by unfold OpenD.boxes; exact (List.mem_append_right _ (List.mem_append_right _ (List.mem_append_left _ hc)))))) (fun e => d0 _ (List.mem_cons_self ..) c (List.mem_append_right _ (List.mem_append_left _ hc)) e.symm)), h.boards.same (fun c hc => hs c (List.mem_cons_of_mem _ (List.mem_append_left _ (by unfold OpenD.boxes; exact (List.mem_append_right _ (List.mem_append_right _ (List.mem_append_right _ (List.mem_append_left _ hc))))))) (fun e => d0 _ (List.mem_cons_self ..) c (List.mem_append_right _ (List.mem_append_right _ (List.mem_append_left _ hc))) e.symm)), h.buffers.same (fun c hc => hs c (List.mem_cons_of_mem _ (List.mem_append_left _ (by unfold OpenD.boxes; exact (List.mem_append_right _ (List.mem_append_right _ (List.mem_append_right _ (List.mem_append_right _ (List.mem_append_left _ hc)))))))) (fun e => d0 _ (List.mem_cons_self ..) c (List.mem_append_right _ (List.mem_append_right _ (List.mem_append_right _ (List.mem_append_left _ hc)))) e.symm)), h.ports.same (fun c hc => hs c (List.mem_cons_of_mem _ (List.mem_append_left _ (by unfold OpenD.boxes; exact (List.mem_append_right _ (List.mem_append_right _ (List.mem_append_right _ (List.mem_append_right _ (List.mem_append_right _ hc)))))))) (fun e => d0 _ (List.mem_cons_self ..) c (List.mem_append_right _ (List.mem_append_right _ (List.mem_append_right _ (List.mem_append_right _ hc)))) e.symm)), fun r hr => (List.mem_cons.1 ((insT_perm (num := (fun x : ProcD => x.id)) (x, g) S.lp).mem_iff.1 hr)).elim (fun e => e ▸ hm.same fun c hc => hgr.block c (hm.lt hc).2 (fun e2 => hk c hc (Option.some.inj e2 ▸ List.mem_cons_of_mem _ (List.mem_append_left _ hbm)))) (fun hr => (h.mineP r hr).same fun c hc => hkid c (by unfold OpenD.kids; exact (List.mem_append_left _ (List.mem_filterMap.2 ⟨r, hr, hc⟩)))), fun r hr => (h.mineF r hr).same fun c hc => hkid c (by unfold OpenD.kids; exact (List.mem_append_right _ (List.mem_append_left _ (List.mem_filterMap.2 ⟨r, hr, hc⟩)))), fun r hr => (h.mineQ r hr).same fun c hc => hkid c (by unfold OpenD.kids; exact (List.mem_append_right _ (List.mem_append_right _ (List.mem_filterMap.2 ⟨r, hr, hc⟩)))), ?_, h.low⟩, (Below.refl _ _).grown hgr hb fun c e => (Option.some.inj e) ▸ h.procs.low _ (List.mem_cons_self ..)⟩
 have hp1 : ({ S with lp := insT (fun x : ProcD => x.id) (x, g) S.lp } : OpenD).boxes.Perm (g :: S.boxes) := by unfold OpenD.boxes; exact ((insT_boxes (num := (fun x : ProcD => x.id)) x S.q.bp g S.lp).append_right _)
 have hlt := h.lt
 have hp2 : (o :: (({ S with lp := insT (fun x : ProcD => x.id) (x, g) S.lp } : OpenD).boxes ++ ({ S with lp := insT (fun x : ProcD => x.id) (x, g) S.lp } : OpenD).kids)).Perm (g :: (o :: (S.boxes ++ ({ S with lp := (x, g) :: S.lp } : OpenD).kids))) := (List.Perm.cons o (hp1.append (by unfold OpenD.kids; exact ((kids_ins (N := procN) (num := (fun x : ProcD => x.id)) x g S.lp).append_right _)))).trans (List.Perm.swap g o _)
 refine hp2.nodup_iff.2 ?_
 cases hkx : procN.kid x with
 | none =>
  have e1 : ({ S with lp := (x, g) :: S.lp } : OpenD).kids = S.kids := by simp [OpenD.kids, kids, hkx]
  rw [e1]
  exact List.nodup_cons.2 ⟨fun hm => by have := hlt g hm; omega, hn⟩
 | some c =>
  have hp3 : (({ S with lp := (x, g) :: S.lp } : OpenD).kids).Perm (c :: S.kids) := by
   have e1 : kids procN ((x, g) :: S.lp) = c :: kids procN S.lp := by simp [kids, hkx]
   unfold OpenD.kids
   show (kids procN ((x, g) :: S.lp) ++ (kids bufferN S.lf ++ kids portN S.lq)).Perm _
   rw [e1]
   exact List.Perm.refl _
  have hp4 : (o :: (S.boxes ++ ({ S with lp := (x, g) :: S.lp } : OpenD).kids)).Perm (c :: (o :: (S.boxes ++ S.kids))) := (List.Perm.cons o (perm_step hp3)).trans (List.Perm.swap c o _)
  have hc1 := hk c hkx
  have hc2 := (hm.lt hkx).2
  refine (List.Perm.cons g hp4).nodup_iff.2 (List.nodup_cons.2 ⟨fun hm2 => ?_, List.nodup_cons.2 ⟨hc1, hn⟩⟩)
  rcases List.mem_cons.1 hm2 with e2 | hm2
  ·omega
  ·have := hlt g hm2
   omega
end Go.Proofs.YtkbcplnlehdjfaaGreat

/- The specification's l3Checked. (Made by mkl3chk.py.) -/
namespace Go.Proofs.YtkbcplnlehdjfaaGreat
open Go.RowKit Go.Maps
attribute [local go_sem ↓] Go.wp_at_zero Go.wp_at_succ
set_option maxRecDepth 100000 in
set_option maxHeartbeats 4000000 in
theorem l3Checked_any (p q : PartD) (w : World) (hp : p.Fit ∧ (∀ x ∈ p.procs, x.Short) ∧ PartD.At w p) (hq : partB p.pure = true → q.Fit ∧ (∀ x ∈ q.procs, x.Short) ∧ PartD.At w q) :
  Calls Tryz.prog 87 #[.agg p.cells, .agg q.cells] w fun e w' => Below w.heap.size w w' ∧ (((partB p.pure && partB q.pure) = true ∧ e = .returned (.tuple #[.agg q.cells, .bool true])) ∨ ((partB p.pure && partB q.pure) = false ∧ e = .returned (.tuple #[.agg #[.int .i64 0, .int .i64 0, .slice none 0 0, .slice none 0 0, .slice none 0 0, .slice none 0 0, .slice none 0 0, .slice none 0 0], .bool false]))) := by
 have HB : Hid (Below w.heap.size w (((w.alloc (.cells #[.int .i64 p.id, .int .i64 p.next, .slice p.procA p.procs.length p.procC, .slice p.semA p.sems.length p.semC, .slice p.eventA p.events.length p.eventC, .slice p.boardA p.boards.length p.boardC, .slice p.bufferA p.buffers.length p.bufferC, .slice p.portA p.ports.length p.portC] 32)).alloc (.cells #[.int .i64 q.id, .int .i64 q.next, .slice q.procA q.procs.length q.procC, .slice q.semA q.sems.length q.semC, .slice q.eventA q.events.length q.eventC, .slice q.boardA q.boards.length q.boardC, .slice q.bufferA q.buffers.length q.bufferC, .slice q.portA q.ports.length q.portC] 32)).alloc (.cells #[.int .i64 0, .int .i64 0, .slice none 0 0, .slice none 0 0, .slice none 0 0, .slice none 0 0, .slice none 0 0, .slice none 0 0] 32)) ∧ PartBox (((w.alloc (.cells #[.int .i64 p.id, .int .i64 p.next, .slice p.procA p.procs.length p.procC, .slice p.semA p.sems.length p.semC, .slice p.eventA p.events.length p.eventC, .slice p.boardA p.boards.length p.boardC, .slice p.bufferA p.buffers.length p.bufferC, .slice p.portA p.ports.length p.portC] 32)).alloc (.cells #[.int .i64 q.id, .int .i64 q.next, .slice q.procA q.procs.length q.procC, .slice q.semA q.sems.length q.semC, .slice q.eventA q.events.length q.eventC, .slice q.boardA q.boards.length q.boardC, .slice q.bufferA q.buffers.length q.bufferC, .slice q.portA q.ports.length q.portC] 32)).alloc (.cells #[.int .i64 0, .int .i64 0, .slice none 0 0, .slice none 0 0, .slice none 0 0, .slice none 0 0, .slice none 0 0, .slice none 0 0] 32)) w.heap.size p ∧ PartBox (((w.alloc (.cells #[.int .i64 p.id, .int .i64 p.next, .slice p.procA p.procs.length p.procC, .slice p.semA p.sems.length p.semC, .slice p.eventA p.events.length p.eventC, .slice p.boardA p.boards.length p.boardC, .slice p.bufferA p.buffers.length p.bufferC, .slice p.portA p.ports.length p.portC] 32)).alloc (.cells #[.int .i64 q.id, .int .i64 q.next, .slice q.procA q.procs.length q.procC, .slice q.semA q.sems.length q.semC, .slice q.eventA q.events.length q.eventC, .slice q.boardA q.boards.length q.boardC, .slice q.bufferA q.buffers.length q.bufferC, .slice q.portA q.ports.length q.portC] 32)).alloc (.cells #[.int .i64 0, .int .i64 0, .slice none 0 0, .slice none 0 0, .slice none 0 0, .slice none 0 0, .slice none 0 0, .slice none 0 0] 32)) (w.heap.size + 1) q ∧ (((w.alloc (.cells #[.int .i64 p.id, .int .i64 p.next, .slice p.procA p.procs.length p.procC, .slice p.semA p.sems.length p.semC, .slice p.eventA p.events.length p.eventC, .slice p.boardA p.boards.length p.boardC, .slice p.bufferA p.buffers.length p.bufferC, .slice p.portA p.ports.length p.portC] 32)).alloc (.cells #[.int .i64 q.id, .int .i64 q.next, .slice q.procA q.procs.length q.procC, .slice q.semA q.sems.length q.semC, .slice q.eventA q.events.length q.eventC, .slice q.boardA q.boards.length q.boardC, .slice q.bufferA q.buffers.length q.bufferC, .slice q.portA q.ports.length q.portC] 32)).alloc (.cells #[.int .i64 0, .int .i64 0, .slice none 0 0, .slice none 0 0, .slice none 0 0, .slice none 0 0, .slice none 0 0, .slice none 0 0] 32)).heap[w.heap.size + 2]? = some (.cells #[.int .i64 0, .int .i64 0, .slice none 0 0, .slice none 0 0, .slice none 0 0, .slice none 0 0, .slice none 0 0, .slice none 0 0] 32 (0, 0))) := by
  refine ⟨(((Below.refl _ _).alloc (Nat.le_refl _) _).alloc (by simp) _).alloc (by simp; omega) _, ?_, ?_, ?_⟩
  ·exact (heap_alloc_old _ _ (by simp; omega)).trans ((heap_alloc_old _ _ (by simp)).trans (heap_alloc_new _ _))
  ·exact (heap_alloc_old _ _ (by simp)).trans (by simpa using heap_alloc_new (w.alloc (.cells #[.int .i64 p.id, .int .i64 p.next, .slice p.procA p.procs.length p.procC, .slice p.semA p.sems.length p.semC, .slice p.eventA p.events.length p.eventC, .slice p.boardA p.boards.length p.boardC, .slice p.bufferA p.buffers.length p.bufferC, .slice p.portA p.ports.length p.portC] 32)) _)
  ·simpa using heap_alloc_new ((w.alloc (.cells #[.int .i64 p.id, .int .i64 p.next, .slice p.procA p.procs.length p.procC, .slice p.semA p.sems.length p.semC, .slice p.eventA p.events.length p.eventC, .slice p.boardA p.boards.length p.boardC, .slice p.bufferA p.buffers.length p.bufferC, .slice p.portA p.ports.length p.portC] 32)).alloc (.cells #[.int .i64 q.id, .int .i64 q.next, .slice q.procA q.procs.length q.procC, .slice q.semA q.sems.length q.semC, .slice q.eventA q.events.length q.eventC, .slice q.boardA q.boards.length q.boardC, .slice q.bufferA q.buffers.length q.bufferC, .slice q.portA q.ports.length q.portC] 32)) _
 have HP : Hid (p.Fit ∧ (∀ x ∈ p.procs, x.Short) ∧ PartD.At w p) := hp
 have HQ : Hid (partB p.pure = true → q.Fit ∧ (∀ x ∈ q.procs, x.Short) ∧ PartD.At w q) := hq
 clear hp hq
 obtain ⟨m0, m1, m2, m3, m4, m5, m6, m7⟩ := HB.out.2.1.cells
 obtain ⟨k0, k1, k2, k3, k4, k5, k6, k7⟩ := HB.out.2.2.1.cells
 unfold PartD.cells
 go_enter Tryz.func87, Tryz.ntmps87
 go_wp2_with fail
 generalize ((w.alloc (.cells #[.int .i64 p.id, .int .i64 p.next, .slice p.procA p.procs.length p.procC, .slice p.semA p.sems.length p.semC, .slice p.eventA p.events.length p.eventC, .slice p.boardA p.boards.length p.boardC, .slice p.bufferA p.buffers.length p.bufferC, .slice p.portA p.ports.length p.portC] 32)).alloc (.cells #[.int .i64 q.id, .int .i64 q.next, .slice q.procA q.procs.length q.procC, .slice q.semA q.sems.length q.semC, .slice q.eventA q.events.length q.eventC, .slice q.boardA q.boards.length q.boardC, .slice q.bufferA q.buffers.length q.bufferC, .slice q.portA q.ports.length q.portC] 32)).alloc (.cells #[.int .i64 0, .int .i64 0, .slice none 0 0, .slice none 0 0, .slice none 0 0, .slice none 0 0, .slice none 0 0, .slice none 0 0] 32) = W at *
 clear m0 m1 m2 m3 m4 m5 m6 m7 k0 k1 k2 k3 k4 k5 k6 k7
 refine (specPartOk_any p W HP.out.1 HP.out.2.1 (HP.out.2.2.below HB.out.1)).mono ?_
 rintro e W1 ⟨rfl, hb⟩
 replace HB : Hid (Below w.heap.size w W1 ∧ PartBox W1 w.heap.size p ∧ PartBox W1 (w.heap.size + 1) q ∧ W1.heap[w.heap.size + 2]? = some (.cells #[.int .i64 0, .int .i64 0, .slice none 0 0, .slice none 0 0, .slice none 0 0, .slice none 0 0, .slice none 0 0, .slice none 0 0] 32 (0, 0))) := ⟨HB.out.1.trans (hb.mono HB.out.1.size), HB.out.2.1.below hb, HB.out.2.2.1.below hb, (hb.block _ (Array.getElem?_eq_some_iff.1 HB.out.2.2.2).1).trans HB.out.2.2.2⟩
 clear hb
 obtain ⟨k0, k1, k2, k3, k4, k5, k6, k7⟩ := HB.out.2.2.1.cells
 cases h4 : partB p.pure
 ·have H4 : Hid (partB p.pure = false) := h4
  clear h4
  go_wp2_with (refine wpList_store_row rfl 32 (Operand.tmp 4) (Operand.tmp 14) rfl (w.heap.size + 2) _ _ #[.int .i64 0, .int .i64 0, .slice none 0 0, .slice none 0 0, .slice none 0 0, .slice none 0 0, .slice none 0 0, .slice none 0 0] rfl rfl HB.out.2.2.2 (by kernel_rfl) rfl (by kernel_rfl) ?_)
  refine bodyPost_ret (v := .tuple #[.agg #[.int .i64 0, .int .i64 0, .slice none 0 0, .slice none 0 0, .slice none 0 0, .slice none 0 0, .slice none 0 0, .slice none 0 0], .bool false]) (results_row_tmp Tryz.results87 _ _ (w.heap.size + 2) _ _ _ _ (by rfl) (setRow_heap _ _ _ _ _ _ HB.out.2.2.2) Tryz.underlying32 rfl (by kernel_rfl)) rfl ?_
  exact ⟨below_setRow HB.out.1 (by omega) _, .inr ⟨by rw [H4.out]; rfl, rfl⟩⟩
 have H4 : Hid (partB p.pure = true) := h4
 clear h4
 go_wp2_with fail
 clear k0 k1 k2 k3 k4 k5 k6 k7
 refine (specPartOk_any q W1 (HQ.out H4.out).1 (HQ.out H4.out).2.1 ((HQ.out H4.out).2.2.below HB.out.1)).mono ?_
 rintro e W2 ⟨rfl, hb⟩
 replace HB : Hid (Below w.heap.size w W2 ∧ PartBox W2 w.heap.size p ∧ PartBox W2 (w.heap.size + 1) q ∧ W2.heap[w.heap.size + 2]? = some (.cells #[.int .i64 0, .int .i64 0, .slice none 0 0, .slice none 0 0, .slice none 0 0, .slice none 0 0, .slice none 0 0, .slice none 0 0] 32 (0, 0))) := ⟨HB.out.1.trans (hb.mono HB.out.1.size), HB.out.2.1.below hb, HB.out.2.2.1.below hb, (hb.block _ (Array.getElem?_eq_some_iff.1 HB.out.2.2.2).1).trans HB.out.2.2.2⟩
 clear hb
 obtain ⟨k0, k1, k2, k3, k4, k5, k6, k7⟩ := HB.out.2.2.1.cells
 cases h5 : partB q.pure
 ·have H5 : Hid (partB q.pure = false) := h5
  clear h5
  go_wp2_with (refine wpList_store_row rfl 32 (Operand.tmp 4) (Operand.tmp 14) rfl (w.heap.size + 2) _ _ #[.int .i64 0, .int .i64 0, .slice none 0 0, .slice none 0 0, .slice none 0 0, .slice none 0 0, .slice none 0 0, .slice none 0 0] rfl rfl HB.out.2.2.2 (by kernel_rfl) rfl (by kernel_rfl) ?_)
  refine bodyPost_ret (v := .tuple #[.agg #[.int .i64 0, .int .i64 0, .slice none 0 0, .slice none 0 0, .slice none 0 0, .slice none 0 0, .slice none 0 0, .slice none 0 0], .bool false]) (results_row_tmp Tryz.results87 _ _ (w.heap.size + 2) _ _ _ _ (by rfl) (setRow_heap _ _ _ _ _ _ HB.out.2.2.2) Tryz.underlying32 rfl (by kernel_rfl)) rfl ?_
  exact ⟨below_setRow HB.out.1 (by omega) _, .inr ⟨by rw [H4.out, H5.out]; rfl, rfl⟩⟩
 have H5 : Hid (partB q.pure = true) := h5
 clear h5
 go_wp2_with (refine wpList_store_row rfl 32 (Operand.tmp 4) (Operand.tmp 15) rfl (w.heap.size + 2) _ _ #[.int .i64 q.id, .int .i64 q.next, .slice q.procA q.procs.length q.procC, .slice q.semA q.sems.length q.semC, .slice q.eventA q.events.length q.eventC, .slice q.boardA q.boards.length q.boardC, .slice q.bufferA q.buffers.length q.bufferC, .slice q.portA q.ports.length q.portC] rfl rfl HB.out.2.2.2 (by kernel_rfl) rfl (by kernel_rfl) ?_)
 refine bodyPost_ret (v := .tuple #[.agg #[.int .i64 q.id, .int .i64 q.next, .slice q.procA q.procs.length q.procC, .slice q.semA q.sems.length q.semC, .slice q.eventA q.events.length q.eventC, .slice q.boardA q.boards.length q.boardC, .slice q.bufferA q.buffers.length q.bufferC, .slice q.portA q.ports.length q.portC], .bool true]) (results_row_tmp Tryz.results87 _ _ (w.heap.size + 2) _ _ _ _ (by rfl) (setRow_heap _ _ _ _ _ _ HB.out.2.2.2) Tryz.underlying32 rfl (by kernel_rfl)) rfl ?_
 exact ⟨below_setRow HB.out.1 (by omega) _, .inl ⟨by rw [H4.out, H5.out]; rfl, rfl⟩⟩
end Go.Proofs.YtkbcplnlehdjfaaGreat
