/- What the proof leans on, part 0: WithP, WithO, WpSem, WithM, OpenX, LaSem, L3Chk, WmSem. -/
import Derived.Test.YtkbcplnlehdjfaaGreatOwnR1
import Derived.Test.YtkbcplnlehdjfaaGreatOwnR35

namespace Go.Proofs.YtkbcplnlehdjfaaGreat
open Go.RowKit
section
variable {α : Type} {num : α → Int} {ok : α → Bool}
/-- A thing before the first one of a greater number; before the first one of no lesser number. -/
def insG (num : α → Int) (x : α) : List α → List α
 | [] => [x]
 | y :: r => if num x < num y then x :: y :: r else y :: insG num x r
def insF (num : α → Int) (x : α) : List α → List α
 | [] => [x]
 | y :: r => if num y < num x then y :: insF num x r else x :: y :: r
theorem insF_is (x : α) : ∀ l : List α, num x ∉ l.map num → insF num x l = insG num x l
 | [], _ => rfl
 | y :: r, h => by
  simp only [List.map_cons, List.mem_cons, not_or] at h
  simp only [insG, insF, insF_is x r h.2]
  by_cases h1 : num y < num x
  ·rw [if_pos h1, if_neg (by omega)]
  ·rw [if_neg h1, if_pos (by omega)]
theorem insG_mem {x z : α} : ∀ {l : List α}, z ∈ insG num x l ↔ z = x ∨ z ∈ l
 | [] => by simp [insG]
 | y :: r => by
  simp only [insG]
  split
  ·simp
  ·simp only [List.mem_cons, insG_mem (l := r)]
   constructor
   ·rintro (h | h | h)
    ·exact .inr (.inl h)
    ·exact .inl h
    ·exact .inr (.inr h)
   ·rintro (h | h | h)
    ·exact .inr (.inl h)
    ·exact .inl h
    ·exact .inr (.inr h)
theorem insF_mem {x z : α} : ∀ {l : List α}, z ∈ insF num x l ↔ z = x ∨ z ∈ l
 | [] => by simp [insF]
 | y :: r => by
  simp only [insF]
  split
  ·simp only [List.mem_cons, insF_mem (l := r)]
   constructor
   ·rintro (h | h | h)
    ·exact .inr (.inl h)
    ·exact .inl h
    ·exact .inr (.inr h)
   ·rintro (h | h | h)
    ·exact .inr (.inl h)
    ·exact .inl h
    ·exact .inr (.inr h)
  ·simp
theorem insF_length (x : α) : ∀ l : List α, (insF num x l).length = l.length + 1
 | [] => rfl
 | y :: r => by
  simp only [insF]
  split
  ·simp [insF_length x r]
  ·rfl
/-- Where the place is found from the front. -/
theorem insF_at {x : α} : ∀ {l : List α} {k : Nat}, (∀ y ∈ l.take k, num y < num x) → (∀ y, l[k]? = some y → ¬ num y < num x) → l.take k ++ x :: l.drop k = insF num x l
 | [], k, _, _ => by simp [insF]
 | y :: r, 0, _, h2 => by
  have h3 := h2 y rfl
  simp [insF, h3]
 | y :: r, k + 1, h1, h2 => by
  have h3 := h1 y (by simp)
  simp only [List.take_succ_cons, List.drop_succ_cons, List.cons_append, insF, if_pos h3]
  rw [insF_at (fun z hz => h1 z (by simp [hz])) (fun z hz => h2 z (by simpa using hz))]
theorem things_mono {ok' : α → Bool} : ∀ {l : List α} {last : Int}, thingsB num ok last l = true → (∀ x ∈ l, ok x = true → ok' x = true) → thingsB num ok' last l = true
 | [], _, _, _ => rfl
 | x :: r, last, h, hm => by
  simp only [thingsB, Bool.and_eq_true] at h ⊢
  exact ⟨⟨h.1.1, hm x (by simp) h.1.2⟩, things_mono h.2 fun y hy => hm y (by simp [hy])⟩
/-- Whether things with one more are right. -/
def moreB (num : α → Int) (ok : α → Bool) (x : α) (l : List α) : Bool := !decide (num x ∈ l.map num) && inB (num x) 1 1000 && ok x
theorem insG_right {x : α} : ∀ {l : List α} {last : Int}, thingsB num ok last l = true → last < num x → thingsB num ok last (insG num x l) = moreB num ok x l
 | [], last, _, hl => by simp [insG, thingsB, moreB, hl]
 | y :: r, last, h, hl => by
  have h' := h
  simp only [thingsB, Bool.and_eq_true, decide_eq_true_eq] at h
  by_cases h1 : num x < num y
  ·have hr := things_rise h.2
   have hn : num x ∉ (y :: r).map num := fun hm => by
    rcases List.mem_cons.1 hm with e | hm
    ·omega
    ·obtain ⟨z, hz, e⟩ := List.mem_map.1 hm
     have := hr.1 z hz
     omega
   rw [moreB, decide_eq_false hn]
   simp [insG, h1, thingsB, hl, h.1.1.1, h.1.2, h.2]
  ·simp only [insG, if_neg h1, thingsB]
   by_cases h2 : num y = num x
   ·have hm : num x ∈ (y :: r).map num := by simp [h2]
    have h3 : thingsB num ok (num y) (insG num x r) = false := by
     cases h4 : thingsB num ok (num y) (insG num x r) with
     | false => rfl
     | true =>
      have := (things_rise h4).1 x (insG_mem.2 (.inl rfl))
      omega
    rw [moreB, decide_eq_true hm, h3]
    simp
   ·rw [insG_right h.2 (by omega)]
    have h5 : (num x ∈ (y :: r).map num) ↔ num x ∈ r.map num := by
     simp only [List.map_cons, List.mem_cons]
     constructor
     ·rintro (e | e)
      ·exact absurd e.symm h2
      ·exact e
     ·exact .inr
    simp only [moreB, h5, h.1.1.1, h.1.1.2, h.1.2, decide_true, Bool.true_and]
theorem insG_right0 {x : α} {l : List α} (h : thingsB num ok 0 l = true) : thingsB num ok 0 (insG num x l) = moreB num ok x l := by
 by_cases h0 : 0 < num x
 ·exact insG_right h h0
 ·have h1 : inB (num x) 1 1000 = false := by
   cases h2 : inB (num x) 1 1000 with
   | false => rfl
   | true => have := inB_iff.1 h2; omega
  cases h4 : thingsB num ok 0 (insG num x l) with
  | false => simp [moreB, h1]
  | true =>
   have := (things_rise h4).1 x (insG_mem.2 (.inl rfl))
   omega
theorem insF_twice {x : α} : ∀ {l : List α} {last : Int}, num x ∈ l.map num → thingsB num ok last l = true → thingsB num ok last (insF num x l) = false
 | [], _, h, _ => by simp at h
 | y :: r, last, h, ht => by
  simp only [thingsB, Bool.and_eq_true, decide_eq_true_eq] at ht
  simp only [insF]
  by_cases h1 : num y < num x
  ·rw [if_pos h1]
   have h2 : num x ∈ r.map num := by
    rcases List.mem_cons.1 h with e | e
    ·omega
    ·exact e
   simp [thingsB, insF_twice h2 ht.2]
  ·rw [if_neg h1]
   have h2 : ¬ num x < num y := fun h3 => by
    rcases List.mem_cons.1 h with e | e
    ·omega
    ·obtain ⟨z, hz, e⟩ := List.mem_map.1 e
     have := (things_rise ht.2).1 z hz
     omega
   simp [thingsB, h2]
theorem insF_right {x : α} {l : List α} (h : thingsB num ok 0 l = true) : thingsB num ok 0 (insF num x l) = moreB num ok x l := by
 by_cases hm : num x ∈ l.map num
 ·rw [insF_twice hm h, moreB, decide_eq_true hm]
  rfl
 ·rw [insF_is x l hm]
  exact insG_right0 h
end
/-- A partition with more, if it and what it becomes are right. -/
def withR (p p' : PartP) : Option PartP := if partB p && partB p' then some p' else none
theorem withR_not {p p' : PartP} (h : partB p = false) : withR p p' = none := by simp [withR, h]
theorem withR_no {p p' : PartP} (h : partB p' = false) : withR p p' = none := by simp [withR, h]
theorem withR_yes {p p' : PartP} (h : partB p = true) (h' : partB p' = true) : withR p p' = some p' := by simp [withR, h, h']
theorem withR_cases {p p' : PartP} : (withR p p').getD zeroPart = zeroPart ∨ partB p = true ∧ partB p' = true ∧ (withR p p').getD zeroPart = p' := by
 unfold withR
 split
 ·rename_i h
  rw [Bool.and_eq_true] at h
  exact .inr ⟨h.1, h.2, rfl⟩
 ·exact .inl rfl
theorem wait_mono {p p' : PartP} {y : ProcP} (h1 : ∀ z ∈ p.sems.map (·.id), z ∈ p'.sems.map (·.id)) (h2 : ∀ z ∈ p.events.map (·.id), z ∈ p'.events.map (·.id)) (h3 : ∀ z ∈ p.boards.map (·.id), z ∈ p'.boards.map (·.id)) (h4 : ∀ z ∈ p.buffers.map (·.id), z ∈ p'.buffers.map (·.id)) (h : waitB p y = true) : waitB p' y = true := by
 unfold waitB at h ⊢
 by_cases hs : 3 ≤ y.state
 ·rw [if_pos hs] at h ⊢
  unfold hasB at h ⊢
  by_cases e3 : y.state = 3
  ·rw [if_pos e3, decide_eq_true_eq] at h ⊢
   exact h1 _ h
  rw [if_neg e3] at h ⊢
  by_cases e4 : y.state = 4
  ·rw [if_pos e4, decide_eq_true_eq] at h ⊢
   exact h2 _ h
  rw [if_neg e4] at h ⊢
  by_cases e5 : y.state = 5 ∨ y.state = 6
  ·rw [if_pos e5, decide_eq_true_eq] at h ⊢
   exact h4 _ h
  rw [if_neg e5] at h ⊢
  by_cases e7 : y.state = 7
  ·rw [if_pos e7, decide_eq_true_eq] at h ⊢
   exact h3 _ h
  rw [if_neg e7] at h
  cases h
 ·rw [if_neg hs]
theorem ids_more {α : Type} {num : α → Int} {x : α} {l l' : List α} (h : ∀ z, z ∈ l' ↔ z = x ∨ z ∈ l) : ∀ z ∈ l.map num, z ∈ l'.map num := fun z hz => by
 obtain ⟨y, hy, e⟩ := List.mem_map.1 hz
 exact List.mem_map.2 ⟨y, (h y).2 (.inr hy), e⟩
end Go.Proofs.YtkbcplnlehdjfaaGreat

/- A thing laid into an open partition. (Made by mkwitho.py.) -/
namespace Go.Proofs.YtkbcplnlehdjfaaGreat
open Go.RowKit Go.Maps
theorem perm_step {A B B' : List Nat} {g : Nat} (h : B'.Perm (g :: B)) : (A ++ B').Perm (g :: (A ++ B)) := (List.Perm.append_left A h).trans List.perm_middle
theorem insT_boxes {α : Type} {num : α → Int} (x : α) (b g : Nat) (l : List (α × Nat)) : (b :: (insT num (x, g) l).map (·.2)).Perm (g :: (b :: l.map (·.2))) :=
 have h : ((insT num (x, g) l).map (·.2)).Perm (g :: l.map (·.2)) := (insT_perm (num := num) (x, g) l).map (·.2)
 (List.Perm.cons b h).trans (List.Perm.swap g b _)
theorem insT_fst {α β : Type} {num : α → Int} {num' : β → Int} (f : α → β) (hf : ∀ y, num' (f y) = num y) (x : α) (g : Nat) : ∀ l : List (α × Nat), (insT num (x, g) l).map (fun p => f p.1) = insG num' (f x) (l.map (fun p => f p.1))
 | [] => rfl
 | y :: r => by
  simp only [insT, insG, List.map_cons, hf]
  split
  ·simp
  ·simp [insT_fst f hf x g r]
theorem lay_more {α β : Type} {num : α → Int} {num' : β → Int} (f : α → β) (hf : ∀ y, num' (f y) = num y) (ok : β → Bool) (x : α) (n : Nat) (l : List (α × Nat)) : layB n (keysOf num l) (num x) (ok (f x)) = (moreB num' ok (f x) (l.map (fun p => f p.1)) && decide ((l.map (fun p => f p.1)).length < n)) := by
 have e1 : (keysOf num l).map (·.1) = (l.map (fun p => f p.1)).map num' := by
  simp only [keysOf, List.map_map]
  exact List.map_congr_left fun p _ => (hf p.1).symm
 have e2 : decide (((keysOf num l).length : Int) < (n : Int)) = decide ((l.map (fun p => f p.1)).length < n) := by
  rw [keysOf_length, List.length_map]
  exact decide_eq_decide.2 (by omega)
 unfold layB moreB
 rw [lookM_isSome, e1, e2, hf]
 cases decide ((l.map (fun p => f p.1)).length < n) <;> simp
theorem more_not {α : Type} {num : α → Int} {ok : α → Bool} {x : α} {l : List α} {n : Nat} (h : (moreB num ok x l && decide (l.length < n)) = true) : num x ∉ l.map num := by
 simp only [moreB, Bool.and_eq_true, Bool.not_eq_true', decide_eq_false_iff_not] at h
 exact h.1.1.1
theorem OpenAt.lt {w : World} {base o : Nat} {S : OpenD} (h : OpenAt w base o S) : ∀ c ∈ o :: (S.boxes ++ S.kids), c < w.heap.size := fun c hc => by
 simp only [OpenD.boxes, OpenD.kids, List.mem_cons, List.mem_append] at hc
 rcases hc with rfl | ((hc | hc | hc | hc | hc | hc) | hc | hc | hc)
 ·exact (Array.getElem?_eq_some_iff.1 h.opn).1
 ·exact h.procs.lt c (List.mem_cons.2 hc)
 ·exact h.sems.lt c (List.mem_cons.2 hc)
 ·exact h.events.lt c (List.mem_cons.2 hc)
 ·exact h.boards.lt c (List.mem_cons.2 hc)
 ·exact h.buffers.lt c (List.mem_cons.2 hc)
 ·exact h.ports.lt c (List.mem_cons.2 hc)
 ·obtain ⟨r, hr, hk⟩ := List.mem_filterMap.1 hc
  exact ((h.mineP r hr).lt hk).2
 ·obtain ⟨r, hr, hk⟩ := List.mem_filterMap.1 hc
  exact ((h.mineF r hr).lt hk).2
 ·obtain ⟨r, hr, hk⟩ := List.mem_filterMap.1 hc
  exact ((h.mineQ r hr).lt hk).2
end Go.Proofs.YtkbcplnlehdjfaaGreat

/- What becomes of a partition with a thing of the kind Sem more. (Made by mkwithp.py.) -/
namespace Go.Proofs.YtkbcplnlehdjfaaGreat
open Go.RowKit
/-- With a thing of the kind Sem. -/
theorem moreSem {p : PartP} {x : SemD} (h : PartR p) : partB ({ p with sems := insF (·.id) x p.sems } : PartP) = (moreB (·.id) semB x p.sems && decide (p.sems.length < 5)) := by
 rw [Bool.eq_iff_iff, partB_iff, Bool.and_eq_true, decide_eq_true_eq, ← insF_right h.sems]
 constructor
 ·intro h2
  have h3 : (insF (·.id) x p.sems).length ≤ 5 := h2.nSem
  rw [insF_length] at h3
  exact ⟨h2.sems, by omega⟩
 ·intro h2
  have h3 := h2.2
  refine ⟨h.id, h.next, h.nProc, (by show (insF (·.id) x p.sems).length ≤ 5; rw [insF_length]; omega), h.nEvent, h.nBoard, h.nBuffer, h.nPort, things_mono h.procs ?_, h2.1, h.events, h.boards, h.buffers, h.ports, h.apart⟩
  exact fun y _ hy => by
    simp only [Bool.and_eq_true] at hy ⊢
    exact ⟨hy.1, wait_mono (p := p) (ids_more fun _ => insF_mem) (fun _ hz => hz) (fun _ hz => hz) (fun _ hz => hz) hy.2⟩
theorem smallSem {p : PartP} {x : SemD} (h : p.Small) (hx : (Lit.int .i64 x.id).wf = true) : ((withR p { p with sems := insF (·.id) x p.sems }).getD zeroPart).Small := by
 rcases withR_cases (p := p) (p' := { p with sems := insF (·.id) x p.sems }) with e | ⟨_, hp, e⟩
 ·rw [e]; exact zero_small
 ·rw [e]
  have h2 := (partB_iff _).1 hp
  exact ⟨h.nProc, by have h3 : (insF (·.id) x p.sems).length ≤ 5 := h2.nSem; show (insF (·.id) x p.sems).length ≤ _; omega, h.nEvent, h.nBoard, h.nBuffer, h.nPort, h.procs, fun y hy => (insF_mem.1 hy).elim (fun e => e ▸ hx) (h.sems y), h.events, h.boards, h.buffers, h.ports⟩
theorem insSem_small {p : PartP} {x : SemD} (h : p.Small) (hr : partB p = true) (hx : (Lit.int .i64 x.id).wf = true) : PartP.Small { p with sems := insF (·.id) x p.sems } := by
 have h2 := ((partB_iff _).1 hr).nSem
 exact ⟨h.nProc, by show (insF (·.id) x p.sems).length ≤ _; rw [insF_length]; omega, h.nEvent, h.nBoard, h.nBuffer, h.nPort, h.procs, fun y hy => (insF_mem.1 hy).elim (fun e => e ▸ hx) (h.sems y), h.events, h.boards, h.buffers, h.ports⟩
theorem totalSem {p : PartP} {x : SemD} : ((withR p { p with sems := insF (·.id) x p.sems }).getD zeroPart).total ≤ p.total + 1 := by
 rcases withR_cases (p := p) (p' := { p with sems := insF (·.id) x p.sems }) with e | ⟨_, _, e⟩
 ·rw [e]; simp [PartP.total, zeroPart, sumL]
 ·rw [e]
  simp only [PartP.total, insF_length]
  omega
end Go.Proofs.YtkbcplnlehdjfaaGreat

/- What the specification's With.. do in memory: a list appended to one of the call's own; a list of a partition that is made anew. -/
namespace Go.Proofs.YtkbcplnlehdjfaaGreat
open Go.RowKit Go.Maps
/-- What is appended lies anywhere: at its address, or there is nothing. -/
def SrcAt (w : World) (a : Option Addr) (xs : List Value) : Prop := ∀ j u, xs[j]? = some u → ∃ ad, a = some ad ∧ w.cell? (ad.add j) = some u
theorem SrcAt.nil {w : World} {a : Option Addr} : SrcAt w a [] := fun j u hu => by cases hu
theorem SrcAt.none {w : World} {xs : List Value} (h : SrcAt w none xs) : xs = [] := by
 cases xs with
 | nil => rfl
 | cons u r =>
  obtain ⟨ad, e, _⟩ := h 0 u rfl
  cases e
theorem append_more {P : Program} (w : World) (base : Nat) (t ty e : TypeId) (i : TypeInfo) (z : Value) (size bytes : Nat) (ht : P.underlying t = some (.slice e)) (hi : P.info? e = some i) (hz : i.zero = some z)
  (hsize : i.size = size) (hby : i.bytes = bytes) (hzs : z.cells.size = size) (hsz : 0 < size) (a0 : Option Addr) (n0 c0 : Nat) (ys : List Value) (ho : w.ownsRow base e size (.slice a0 n0 c0) n0 ys)
  (a : Option Addr) (n cap : Nat) (xs : List Value) (h : SrcAt w a xs) (hl : xs.length = n * size) (h1 : ∀ u ∈ xs, u.oneCell' = true) (h63 : n0 + n ≤ 4000000) (hb : bytes ≤ 1000) (hbw : base ≤ w.heap.size) :
  ∃ a' cap' w', (Builtin.append_ #[t, t] ty #[.slice a0 n0 c0, .slice a n cap]).run P w = .ok (.slice a' (n0 + n) cap') w' ∧ w'.ownsRow base e size (.slice a' (n0 + n) cap') (n0 + n) (ys ++ xs) ∧ w.grownBy w' (Value.slice a0 n0 c0).ownBlock ∧ ∀ g ∈ blk a', g ∈ blk a0 ∨ g = w.heap.size := by
 cases a with
 | none =>
  have hx := h.none
  subst hx
  have hn : n = 0 := by
   cases n with
   | zero => rfl
   | succ n => simp only [List.length_nil, Nat.succ_mul] at hl; omega
  subst hn
  refine ⟨a0, c0, w, ?_, by simpa using ho, ⟨rfl, rfl, rfl, Nat.le_refl _, fun _ _ _ => rfl⟩, fun g hg => .inl hg⟩
  have hc : n0 ≤ c0 := by
   obtain ⟨-, ⟨e1, e2⟩ | ⟨g, c, cur, e1, -, -, h5, -⟩⟩ := ho
   ·cases e1; exact Nat.le_refl _
   ·cases e1; exact h5
  cases a0 <;> simp [Builtin.append_, run_underlying ht, sizeOf, typeInfo, hi, Builtin.lenOf, Builtin.firstCells, storeCells, hc]
 | some ad =>
  have hnews : ∀ j u, xs[j]? = some u → w.cell? (ad.add j) = some u := fun j u hu => by
   obtain ⟨ad', e', hc⟩ := h j u hu
   cases e'
   exact hc
  obtain ⟨v', w', hr, ho', hgr, -, hbl⟩ := run_append_own_at (P := P) w base t ty e i z size bytes ht hi hz hsize hby hzs hsz (.slice a0 n0 c0) n0 ys ho ad n cap xs hl hnews h1 (by unfold maxLen; omega) (by have := Nat.mul_le_mul h63 hb; omega) hbw
  obtain ⟨a', cap', rfl, -⟩ := own_form ho'
  refine ⟨a', cap', w', hr, ho', hgr, fun g hg => ?_⟩
  rw [mem_blk] at hg ⊢
  cases a' with
  | none => cases hg
  | some ad' =>
   simp only [Option.map_some, Option.some.injEq] at hg
   subst hg
   rcases hbl with hbl | hbl
   ·refine .inl ?_
    cases a0 with
    | none => cases hbl
    | some ad0 => simpa [Value.ownBlock] using hbl.symm
   ·exact .inr (by simpa [Value.ownBlock] using hbl)
theorem nodup_swap {Z A A' R : List Nat} (h : (Z ++ (A ++ R)).Nodup) (hA : A'.Nodup) (h1 : ∀ g ∈ A', g ∉ Z ++ (A ++ R)) : (Z ++ (A' ++ R)).Nodup := by
 simp only [List.mem_append, not_or] at h1
 simp only [List.nodup_append, List.mem_append] at h ⊢
 obtain ⟨hz, ⟨-, hR, -⟩, hzz⟩ := h
 refine ⟨hz, ⟨hA, hR, fun a ha b hb e => (h1 a ha).2.2 (e ▸ hb)⟩, fun a ha b hb e => ?_⟩
 rcases hb with hb | hb
 ·exact (h1 b hb).1 (e ▸ ha)
 ·exact hzz a ha b (.inr hb) e
theorem add_more (g m j : Nat) : (⟨g, m, none⟩ : Addr).add j = ⟨g, m + j, none⟩ := by unfold Addr.add; split <;> simp_all
/-- A piece of a row. -/
theorem drop_src {α : Type} {K : Kind α} {w : World} {a : Option Addr} {l : List α} (k : Nat) (h : Row w a (K.flat l)) : SrcAt w (a.map (·.add (k * K.n))) (K.flat (l.drop k)) := fun j u hu => by
 by_cases hk : k ≤ l.length
 ·have e : K.flat l = K.flat (l.take k) ++ K.flat (l.drop k) := by rw [← K.flat_append, List.take_append_drop]
  have hl : (K.flat (l.take k)).length = k * K.n := by rw [K.flat_length, List.length_take, Nat.min_eq_left hk]
  have hu2 : (K.flat l)[k * K.n + j]? = some u := by
   rw [e, List.getElem?_append_right (by omega), hl, Nat.add_sub_cancel_left]
   exact hu
  obtain ⟨g, rfl, hc⟩ := h _ u hu2
  exact ⟨⟨g, k * K.n, none⟩, by rw [Option.map_some, add_off], by rw [add_more]; exact hc⟩
 ·rw [List.drop_eq_nil_of_le (by omega)] at hu
  cases hu
theorem row_src {w : World} {a : Option Addr} {xs : List Value} (h : Row w a xs) : SrcAt w a xs := fun j u hu => by
 obtain ⟨g, rfl, hc⟩ := h j u hu
 exact ⟨_, rfl, by rw [add_off]; exact hc⟩
theorem take_src {α : Type} {K : Kind α} {w : World} {a : Option Addr} {l : List α} (k : Nat) (h : Row w a (K.flat l)) : SrcAt w a (K.flat (l.take k)) := fun j u hu => by
 have e : K.flat l = K.flat (l.take k) ++ K.flat (l.drop k) := by rw [← K.flat_append, List.take_append_drop]
 have hu2 : (K.flat l)[j]? = some u := by
  rw [e, List.getElem?_append_left (List.getElem?_eq_some_iff.1 hu).1]
  exact hu
 exact row_src h j u hu2
theorem own_cap {w : World} {base size n c : Nat} {e : TypeId} {a : Option Addr} {xs : List Value} (h : w.ownsRow base e size (.slice a n c) n xs) : n ≤ c := by
 obtain ⟨-, ⟨e1, e2⟩ | ⟨g, c', cur, e1, -, -, h5, -⟩⟩ := h
 ·cases e1; exact Nat.le_refl _
 ·cases e1; exact h5
theorem src_block {w : World} {g : Nat} {cs : Array Value} {t : TypeId} {fz : Nat × Nat} (h : w.heap[g]? = some (.cells cs t fz)) : SrcAt w (some ⟨g, 0, none⟩) cs.toList := fun j u hu => ⟨_, rfl, by rw [add_off]; simp only [World.cell?, h]; simpa using hu⟩
theorem setCell_size {w : World} {o i : Nat} {v : Value} : (w.setCell ⟨o, i, none⟩ v).heap.size = w.heap.size := setAllW_size [v]
theorem tail_src {α : Type} {K : Kind α} {w : World} {a : Option Addr} {l : List α} {k c : Nat} (hk : l.length ≤ c) (h : Row w a (K.flat l)) : SrcAt w (if c = k then a else Option.map (fun x => x.add (k * K.n)) a) (K.flat (l.drop k)) := by
 split
 ·rw [List.drop_eq_nil_of_le (by omega)]
  exact SrcAt.nil
 ·exact drop_src k h
theorem withR_ok {p p' : PartP} (h : (partB p && partB p') = true) : withR p p' = some p' := if_pos h
theorem withR_bad {p p' : PartP} (h : (partB p && partB p') = false) : withR p p' = none := if_neg (by rw [h]; decide)
theorem at_ways {α : Type} (num : α → Int) (id : Int) (l : List α) (k : Nat) : (∃ x, l[k]? = some x ∧ num x < id ∧ k < l.length) ∨ (∃ x, l[k]? = some x ∧ ¬ num x < id ∧ k < l.length) ∨ ¬ k < l.length := by
 by_cases h : k < l.length
 ·by_cases h2 : num l[k] < id
  ·exact .inl ⟨_, List.getElem?_eq_getElem h, h2, h⟩
  ·exact .inr (.inl ⟨_, List.getElem?_eq_getElem h, h2, h⟩)
 ·exact .inr (.inr h)
end Go.Proofs.YtkbcplnlehdjfaaGreat

/- An open partition in a world that has drawn. -/
namespace Go.Proofs.YtkbcplnlehdjfaaGreat
open Go.RowKit Go.Maps
abbrev zero8 : Array Value := #[.int .i64 0, .int .i64 0, .slice none 0 0, .slice none 0 0, .slice none 0 0, .slice none 0 0, .slice none 0 0, .slice none 0 0]
theorem OpenAt.drew {w : World} {base o : Nat} {S : OpenD} (h : OpenAt w base o S) : OpenAt w.drew base o S :=
 ⟨h.opn, h.procs.same fun _ _ => rfl, h.sems.same fun _ _ => rfl, h.events.same fun _ _ => rfl, h.boards.same fun _ _ => rfl, h.buffers.same fun _ _ => rfl, h.ports.same fun _ _ => rfl, fun p hp => (h.mineP p hp).same fun _ _ => rfl, fun p hp => (h.mineF p hp).same fun _ _ => rfl, fun p hp => (h.mineQ p hp).same fun _ _ => rfl, h.nodup, h.low⟩
end Go.Proofs.YtkbcplnlehdjfaaGreat

/- A thing of the kind Sem laid into an open partition. (Made by mkwitho.py.) -/
namespace Go.Proofs.YtkbcplnlehdjfaaGreat
open Go.RowKit Go.Maps
theorem OpenAt.laySem {w w' : World} {base o : Nat} {S : OpenD} {x : SemD} {e : Ending} (h : OpenAt w base o S) (hb : base ≤ w.heap.size) (hl : LayEnds w S.q.bs (keysOf (fun x : SemD => x.id) S.ls) true x.id (semVs x) 49 e w') :
  ∃ g, OpenAt w' base o { S with ls := insT (fun x : SemD => x.id) (x, g) S.ls } ∧ Below base w w' := by
 obtain ⟨g, hg, hsh, hgr⟩ := h.sems.lay hb hl
 have hn := h.nodup
 obtain ⟨hno, hn2⟩ := List.nodup_cons.1 hn
 obtain ⟨hnb, hnk, hbk⟩ := List.nodup_append.1 hn2
 have hnb0 := hnb
 unfold OpenD.boxes at hnb
 obtain ⟨-, r0, d0⟩ := List.nodup_append.1 hnb
 obtain ⟨-, r1, d1⟩ := List.nodup_append.1 r0
 clear r1
 have hs : ∀ c ∈ o :: (S.boxes ++ S.kids), c ≠ S.q.bs → w'.heap[c]? = w.heap[c]? := fun c hc hne => hgr.block c (h.lt c hc) (fun e => hne (Option.some.inj e))
 have hbm : S.q.bs ∈ S.boxes := by unfold OpenD.boxes; exact (List.mem_append_right _ (List.mem_append_left _ (List.mem_cons_self ..)))
 have hkid : ∀ c ∈ S.kids, w'.heap[c]? = w.heap[c]? := fun c hc => hs c (List.mem_cons_of_mem _ (List.mem_append_right _ hc)) (fun e => hbk _ hbm c hc e.symm)
 refine ⟨g, ⟨(hs o (List.mem_cons_self ..) (fun e => hno (e ▸ List.mem_append_left _ hbm))).trans h.opn, h.procs.same (fun c hc => hs c (List.mem_cons_of_mem _ (List.mem_append_left _ (by unfold OpenD.boxes; exact (List.mem_append_left _ hc)))) (d0 c hc _ (List.mem_append_left _ (List.mem_cons_self ..)))), hsh, h.events.same (fun c hc => hs c (List.mem_cons_of_mem _ (List.mem_append_left _ (by unfold OpenD.boxes; exact (List.mem_append_right _ (List.mem_append_right _ (List.mem_append_left _ hc)))))) (fun e => d1 _ (List.mem_cons_self ..) c (List.mem_append_left _ hc) e.symm)), h.boards.same (fun c hc => hs c (List.mem_cons_of_mem _ (List.mem_append_left _ (by unfold OpenD.boxes; exact (List.mem_append_right _ (List.mem_append_right _ (List.mem_append_right _ (List.mem_append_left _ hc))))))) (fun e => d1 _ (List.mem_cons_self ..) c (List.mem_append_right _ (List.mem_append_left _ hc)) e.symm)), h.buffers.same (fun c hc => hs c (List.mem_cons_of_mem _ (List.mem_append_left _ (by unfold OpenD.boxes; exact (List.mem_append_right _ (List.mem_append_right _ (List.mem_append_right _ (List.mem_append_right _ (List.mem_append_left _ hc)))))))) (fun e => d1 _ (List.mem_cons_self ..) c (List.mem_append_right _ (List.mem_append_right _ (List.mem_append_left _ hc))) e.symm)), h.ports.same (fun c hc => hs c (List.mem_cons_of_mem _ (List.mem_append_left _ (by unfold OpenD.boxes; exact (List.mem_append_right _ (List.mem_append_right _ (List.mem_append_right _ (List.mem_append_right _ (List.mem_append_right _ hc)))))))) (fun e => d1 _ (List.mem_cons_self ..) c (List.mem_append_right _ (List.mem_append_right _ (List.mem_append_right _ hc))) e.symm)), fun r hr => (h.mineP r hr).same fun c hc => hkid c (by unfold OpenD.kids; exact (List.mem_append_left _ (List.mem_filterMap.2 ⟨r, hr, hc⟩))), fun r hr => (h.mineF r hr).same fun c hc => hkid c (by unfold OpenD.kids; exact (List.mem_append_right _ (List.mem_append_left _ (List.mem_filterMap.2 ⟨r, hr, hc⟩)))), fun r hr => (h.mineQ r hr).same fun c hc => hkid c (by unfold OpenD.kids; exact (List.mem_append_right _ (List.mem_append_right _ (List.mem_filterMap.2 ⟨r, hr, hc⟩)))), ?_, h.low⟩, (Below.refl _ _).grown hgr hb fun c e => (Option.some.inj e) ▸ h.sems.low _ (List.mem_cons_self ..)⟩
 have hp1 : ({ S with ls := insT (fun x : SemD => x.id) (x, g) S.ls } : OpenD).boxes.Perm (g :: S.boxes) := by unfold OpenD.boxes; exact (perm_step ((insT_boxes (num := (fun x : SemD => x.id)) x S.q.bs g S.ls).append_right _))
 have hlt := h.lt
 have hp2 : (o :: (({ S with ls := insT (fun x : SemD => x.id) (x, g) S.ls } : OpenD).boxes ++ S.kids)).Perm (g :: (o :: (S.boxes ++ S.kids))) := (List.Perm.cons o (hp1.append_right _)).trans (List.Perm.swap g o _)
 exact hp2.nodup_iff.2 (List.nodup_cons.2 ⟨fun hm => by have := hlt g hm; omega, hn⟩)
end Go.Proofs.YtkbcplnlehdjfaaGreat

/- The specification's l3Checked. (Made by mkl3chk.py.) -/
namespace Go.Proofs.YtkbcplnlehdjfaaGreat
open Go.RowKit Go.Maps
attribute [local go_sem ↓] Go.wp_at_zero Go.wp_at_succ
set_option maxRecDepth 100000 in
set_option maxHeartbeats 4000000 in
theorem l3Checked_any (p q : PartD) (w : World) (hp : p.Fit ∧ (∀ x ∈ p.procs, x.Short) ∧ PartD.At w p) (hq : partB p.pure = true → q.Fit ∧ (∀ x ∈ q.procs, x.Short) ∧ PartD.At w q) :
  Calls Tryz.prog 87 #[.agg p.cells, .agg q.cells] w fun e w' => Below w.heap.size w w' ∧ (((partB p.pure && partB q.pure) = true ∧ e = .returned (.tuple #[.agg q.cells, .bool true])) ∨ ((partB p.pure && partB q.pure) = false ∧ e = .returned (.tuple #[.agg #[.int .i64 0, .int .i64 0, .slice none 0 0, .slice none 0 0, .slice none 0 0, .slice none 0 0, .slice none 0 0, .slice none 0 0], .bool false]))) := by
 have HB : Hid (Below w.heap.size w (((w.alloc (.cells #[.int .i64 p.id, .int .i64 p.next, .slice p.procA p.procs.length p.procC, .slice p.semA p.sems.length p.semC, .slice p.eventA p.events.length p.eventC, .slice p.boardA p.boards.length p.boardC, .slice p.bufferA p.buffers.length p.bufferC, .slice p.portA p.ports.length p.portC] 32)).alloc (.cells #[.int .i64 q.id, .int .i64 q.next, .slice q.procA q.procs.length q.procC, .slice q.semA q.sems.length q.semC, .slice q.eventA q.events.length q.eventC, .slice q.boardA q.boards.length q.boardC, .slice q.bufferA q.buffers.length q.bufferC, .slice q.portA q.ports.length q.portC] 32)).alloc (.cells #[.int .i64 0, .int .i64 0, .slice none 0 0, .slice none 0 0, .slice none 0 0, .slice none 0 0, .slice none 0 0, .slice none 0 0] 32)) ∧ PartBox (((w.alloc (.cells #[.int .i64 p.id, .int .i64 p.next, .slice p.procA p.procs.length p.procC, .slice p.semA p.sems.length p.semC, .slice p.eventA p.events.length p.eventC, .slice p.boardA p.boards.length p.boardC, .slice p.bufferA p.buffers.length p.bufferC, .slice p.portA p.ports.length p.portC] 32)).alloc (.cells #[.int .i64 q.id, .int .i64 q.next, .slice q.procA q.procs.length q.procC, .slice q.semA q.sems.length q.semC, .slice q.eventA q.events.length q.eventC, .slice q.boardA q.boards.length q.boardC, .slice q.bufferA q.buffers.length q.bufferC, .slice q.portA q.ports.length q.portC] 32)).alloc (.cells #[.int .i64 0, .int .i64 0, .slice none 0 0, .slice none 0 0, .slice none 0 0, .slice none 0 0, .slice none 0 0, .slice none 0 0] 32)) w.heap.size p ∧ PartBox (((w.alloc (.cells #[.int .i64 p.id, .int .i64 p.next, .slice p.procA p.procs.length p.procC, .slice p.semA p.sems.length p.semC, .slice p.eventA p.events.length p.eventC, .slice p.boardA p.boards.length p.boardC, .slice p.bufferA p.buffers.length p.bufferC, .slice p.portA p.ports.length p.portC] 32)).alloc (.cells #[.int .i64 q.id, .int .i64 q.next, .slice q.procA q.procs.length q.procC, .slice q.semA q.sems.length q.semC, .slice q.eventA q.events.length q.eventC, .slice q.boardA q.boards.length q.boardC, .slice q.bufferA q.buffers.length q.bufferC, .slice q.portA q.ports.length q.portC] 32)).alloc (.cells #[.int .i64 0, .int .i64 0, .slice none 0 0, .slice none 0 0, .slice none 0 0, .slice none 0 0, .slice none 0 0, .slice none 0 0] 32)) (w.heap.size + 1) q ∧ (((w.alloc (.cells #[.int .i64 p.id, .int .i64 p.next, .slice p.procA p.procs.length p.procC, .slice p.semA p.sems.length p.semC, .slice p.eventA p.events.length p.eventC, .slice p.boardA p.boards.length p.boardC, .slice p.bufferA p.buffers.length p.bufferC, .slice p.portA p.ports.length p.portC] 32)).alloc (.cells #[.int .i64 q.id, .int .i64 q.next, .slice q.procA q.procs.length q.procC, .slice q.semA q.sems.length q.semC, .slice q.eventA q.events.length q.eventC, .slice q.boardA q.boards.length q.boardC, .slice q.bufferA q.buffers.length q.bufferC, .slice q.portA q.ports.length q.portC] 32)).alloc (.cells #[.int .i64 0, .int .i64 0, .slice none 0 0, .slice none 0 0, .slice none 0 0, .slice none 0 0, .slice none 0 0, .slice none 0 0] 32)).heap[w.heap.size + 2]? = some (.cells #[.int .i64 0, .int .i64 0, .slice none 0 0, .slice none 0 0, .slice none 0 0, .slice none 0 0, .slice none 0 0, .slice none 0 0] 32 (0, 0))) := by
  refine ⟨(((Below.refl _ _).alloc (Nat.le_refl _) _).alloc (by simp) _).alloc (by simp; omega) _, ?_, ?_, ?_⟩
  ·exact (heap_alloc_old _ _ (by simp; omega)).trans ((heap_alloc_old _ _ (by simp)).trans (heap_alloc_new _ _))
  ·exact (heap_alloc_old _ _ (by simp)).trans (by simpa using heap_alloc_new (w.alloc (.cells #[.int .i64 p.id, .int .i64 p.next, .slice p.procA p.procs.length p.procC, .slice p.semA p.sems.length p.semC, .slice p.eventA p.events.length p.eventC, .slice p.boardA p.boards.length p.boardC, .slice p.bufferA p.buffers.length p.bufferC, .slice p.portA p.ports.length p.portC] 32)) _)
  ·simpa using heap_alloc_new ((w.alloc (.cells #[.int .i64 p.id, .int .i64 p.next, .slice p.procA p.procs.length p.procC, .slice p.semA p.sems.length p.semC, .slice p.eventA p.events.length p.eventC, .slice p.boardA p.boards.length p.boardC, .slice p.bufferA p.buffers.length p.bufferC, .slice p.portA p.ports.length p.portC] 32)).alloc (.cells #[.int .i64 q.id, .int .i64 q.next, .slice q.procA q.procs.length q.procC, .slice q.semA q.sems.length q.semC, .slice q.eventA q.events.length q.eventC, .slice q.boardA q.boards.length q.boardC, .slice q.bufferA q.buffers.length q.bufferC, .slice q.portA q.ports.length q.portC] 32)) _
 have HP : Hid (p.Fit ∧ (∀ x ∈ p.procs, x.Short) ∧ PartD.At w p) := hp
 have HQ : Hid (partB p.pure = true → q.Fit ∧ (∀ x ∈ q.procs, x.Short) ∧ PartD.At w q) := hq
 clear hp hq
 obtain ⟨m0, m1, m2, m3, m4, m5, m6, m7⟩ := HB.out.2.1.cells
 obtain ⟨k0, k1, k2, k3, k4, k5, k6, k7⟩ := HB.out.2.2.1.cells
 unfold PartD.cells
 go_enter Tryz.func87, Tryz.ntmps87
 go_wp2_with fail
 generalize ((w.alloc (.cells #[.int .i64 p.id, .int .i64 p.next, .slice p.procA p.procs.length p.procC, .slice p.semA p.sems.length p.semC, .slice p.eventA p.events.length p.eventC, .slice p.boardA p.boards.length p.boardC, .slice p.bufferA p.buffers.length p.bufferC, .slice p.portA p.ports.length p.portC] 32)).alloc (.cells #[.int .i64 q.id, .int .i64 q.next, .slice q.procA q.procs.length q.procC, .slice q.semA q.sems.length q.semC, .slice q.eventA q.events.length q.eventC, .slice q.boardA q.boards.length q.boardC, .slice q.bufferA q.buffers.length q.bufferC, .slice q.portA q.ports.length q.portC] 32)).alloc (.cells #[.int .i64 0, .int .i64 0, .slice none 0 0, .slice none 0 0, .slice none 0 0, .slice none 0 0, .slice none 0 0, .slice none 0 0] 32) = W at *
 clear m0 m1 m2 m3 m4 m5 m6 m7 k0 k1 k2 k3 k4 k5 k6 k7
 refine (specPartOk_any p W HP.out.1 HP.out.2.1 (HP.out.2.2.below HB.out.1)).mono ?_
 rintro e W1 ⟨rfl, hb⟩
 replace HB : Hid (Below w.heap.size w W1 ∧ PartBox W1 w.heap.size p ∧ PartBox W1 (w.heap.size + 1) q ∧ W1.heap[w.heap.size + 2]? = some (.cells #[.int .i64 0, .int .i64 0, .slice none 0 0, .slice none 0 0, .slice none 0 0, .slice none 0 0, .slice none 0 0, .slice none 0 0] 32 (0, 0))) := ⟨HB.out.1.trans (hb.mono HB.out.1.size), HB.out.2.1.below hb, HB.out.2.2.1.below hb, (hb.block _ (Array.getElem?_eq_some_iff.1 HB.out.2.2.2).1).trans HB.out.2.2.2⟩
 clear hb
 obtain ⟨k0, k1, k2, k3, k4, k5, k6, k7⟩ := HB.out.2.2.1.cells
 cases h4 : partB p.pure
 ·have H4 : Hid (partB p.pure = false) := h4
  clear h4
  go_wp2_with (refine wpList_store_row rfl 32 (Operand.tmp 4) (Operand.tmp 14) rfl (w.heap.size + 2) _ _ #[.int .i64 0, .int .i64 0, .slice none 0 0, .slice none 0 0, .slice none 0 0, .slice none 0 0, .slice none 0 0, .slice none 0 0] rfl rfl HB.out.2.2.2 (by kernel_rfl) rfl (by kernel_rfl) ?_)
  refine bodyPost_ret (v := .tuple #[.agg #[.int .i64 0, .int .i64 0, .slice none 0 0, .slice none 0 0, .slice none 0 0, .slice none 0 0, .slice none 0 0, .slice none 0 0], .bool false]) (results_row_tmp Tryz.results87 _ _ (w.heap.size + 2) _ _ _ _ (by rfl) (setRow_heap _ _ _ _ _ _ HB.out.2.2.2) Tryz.underlying32 rfl (by kernel_rfl)) rfl ?_
  exact ⟨below_setRow HB.out.1 (by omega) _, .inr ⟨by rw [H4.out]; rfl, rfl⟩⟩
 have H4 : Hid (partB p.pure = true) := h4
 clear h4
 go_wp2_with fail
 clear k0 k1 k2 k3 k4 k5 k6 k7
 refine (specPartOk_any q W1 (HQ.out H4.out).1 (HQ.out H4.out).2.1 ((HQ.out H4.out).2.2.below HB.out.1)).mono ?_
 rintro e W2 ⟨rfl, hb⟩
 replace HB : Hid (Below w.heap.size w W2 ∧ PartBox W2 w.heap.size p ∧ PartBox W2 (w.heap.size + 1) q ∧ W2.heap[w.heap.size + 2]? = some (.cells #[.int .i64 0, .int .i64 0, .slice none 0 0, .slice none 0 0, .slice none 0 0, .slice none 0 0, .slice none 0 0, .slice none 0 0] 32 (0, 0))) := ⟨HB.out.1.trans (hb.mono HB.out.1.size), HB.out.2.1.below hb, HB.out.2.2.1.below hb, (hb.block _ (Array.getElem?_eq_some_iff.1 HB.out.2.2.2).1).trans HB.out.2.2.2⟩
 clear hb
 obtain ⟨k0, k1, k2, k3, k4, k5, k6, k7⟩ := HB.out.2.2.1.cells
 cases h5 : partB q.pure
 ·have H5 : Hid (partB q.pure = false) := h5
  clear h5
  go_wp2_with (refine wpList_store_row rfl 32 (Operand.tmp 4) (Operand.tmp 14) rfl (w.heap.size + 2) _ _ #[.int .i64 0, .int .i64 0, .slice none 0 0, .slice none 0 0, .slice none 0 0, .slice none 0 0, .slice none 0 0, .slice none 0 0] rfl rfl HB.out.2.2.2 (by kernel_rfl) rfl (by kernel_rfl) ?_)
  refine bodyPost_ret (v := .tuple #[.agg #[.int .i64 0, .int .i64 0, .slice none 0 0, .slice none 0 0, .slice none 0 0, .slice none 0 0, .slice none 0 0, .slice none 0 0], .bool false]) (results_row_tmp Tryz.results87 _ _ (w.heap.size + 2) _ _ _ _ (by rfl) (setRow_heap _ _ _ _ _ _ HB.out.2.2.2) Tryz.underlying32 rfl (by kernel_rfl)) rfl ?_
  exact ⟨below_setRow HB.out.1 (by omega) _, .inr ⟨by rw [H4.out, H5.out]; rfl, rfl⟩⟩
 have H5 : Hid (partB q.pure = true) := h5
 clear h5
 go_wp2_with (refine wpList_store_row rfl 32 (Operand.tmp 4) (Operand.tmp 15) rfl (w.heap.size + 2) _ _ #[.int .i64 q.id, .int .i64 q.next, .slice q.procA q.procs.length q.procC, .slice q.semA q.sems.length q.semC, .slice q.eventA q.events.length q.eventC, .slice q.boardA q.boards.length q.boardC, .slice q.bufferA q.buffers.length q.bufferC, .slice q.portA q.ports.length q.portC] rfl rfl HB.out.2.2.2 (by kernel_rfl) rfl (by kernel_rfl) ?_)
 refine bodyPost_ret (v := .tuple #[.agg #[.int .i64 q.id, .int .i64 q.next, .slice q.procA q.procs.length q.procC, .slice q.semA q.sems.length q.semC, .slice q.eventA q.events.length q.eventC, .slice q.boardA q.boards.length q.boardC, .slice q.bufferA q.buffers.length q.bufferC, .slice q.portA q.ports.length q.portC], .bool true]) (results_row_tmp Tryz.results87 _ _ (w.heap.size + 2) _ _ _ _ (by rfl) (setRow_heap _ _ _ _ _ _ HB.out.2.2.2) Tryz.underlying32 rfl (by kernel_rfl)) rfl ?_
 exact ⟨below_setRow HB.out.1 (by omega) _, .inl ⟨by rw [H4.out, H5.out]; rfl, rfl⟩⟩
end Go.Proofs.YtkbcplnlehdjfaaGreat

/- A list of the kind Sem appended to one of the call's own; a partition with such a list made anew. -/
namespace Go.Proofs.YtkbcplnlehdjfaaGreat
open Go.RowKit Go.Maps
theorem more_sem (w : World) (base : Nat) (a0 : Option Addr) (c0 : Nat) (l0 : List SemD) (ho : w.ownsRow base 49 3 (.slice a0 l0.length c0) l0.length (semK.flat l0)) (a : Option Addr) (l : List SemD) (cap : Nat) (h : SrcAt w a (semK.flat l)) (hl : l0.length + l.length ≤ 4000000) (hbw : base ≤ w.heap.size) :
  ∃ a' cap' w', (Builtin.append_ #[26, 26] 26 #[.slice a0 l0.length c0, .slice a l.length cap]).run Tryz.prog w = .ok (.slice a' (l0.length + l.length) cap') w' ∧ w'.ownsRow base 49 3 (.slice a' (l0.length + l.length) cap') (l0.length + l.length) (semK.flat (l0 ++ l)) ∧ w.grownBy w' (Value.slice a0 l0.length c0).ownBlock ∧ ∀ g ∈ blk a', g ∈ blk a0 ∨ g = w.heap.size := by
 obtain ⟨i, hi, e⟩ := Option.map_eq_some_iff.1 rinfSem
 simp only [Prod.mk.injEq] at e
 rw [semK.flat_append]
 exact append_more w base _ _ 49 i _ 3 24 Tryz.underlying26 hi e.1 e.2.1 e.2.2 rfl (by decide) a0 l0.length c0 _ ho a l.length cap _ h (semK.flat_length l) one_sem hl (by decide) hbw
theorem PartOwn.newSem {w w' : World} {base B : Nat} {q : PartD} {l : List SemD} {a' : Option Addr} {c' : Nat} (h : PartOwn w base q) (hb : base ≤ B) (hB : ∀ g ∈ q.blocks, g < B) (hs : ∀ g ∈ q.blocks, w'.heap[g]? = w.heap[g]?)
  (ho : w'.ownsRow B 49 3 (.slice a' l.length c') l.length (semK.flat l)) : PartOwn w' base ({ q with sems := l, semA := a', semC := c' } : PartD) := by
 refine ⟨own_same h.procs fun g hg => hs g (by simp [PartD.blocks, hg]), own_low ho hb, own_same h.events fun g hg => hs g (by simp [PartD.blocks, hg]), own_same h.boards fun g hg => hs g (by simp [PartD.blocks, hg]), own_same h.buffers fun g hg => hs g (by simp [PartD.blocks, hg]), own_same h.ports fun g hg => hs g (by simp [PartD.blocks, hg]), fun x hx => (h.mineP x hx).same fun g hg => hs g ?_, fun x hx => (h.mineF x hx).same fun g hg => hs g ?_, fun x hx => (h.mineQ x hx).same fun g hg => hs g ?_, ?_⟩
 ·simp only [PartD.blocks, List.mem_append, List.mem_filterMap]
  exact .inr (.inl ⟨x, hx, hg⟩)
 ·simp only [PartD.blocks, List.mem_append, List.mem_filterMap]
  exact .inr (.inr (.inr (.inr (.inr (.inr (.inl ⟨x, hx, hg⟩))))))
 ·simp only [PartD.blocks, List.mem_append, List.mem_filterMap]
  exact .inr (.inr (.inr (.inr (.inr (.inr (.inr (.inr ⟨x, hx, hg⟩)))))))
 ·have h5 := h.nodup
  have h6 : ∀ g ∈ blk a', g ∉ q.blocks := fun g hg hm => by have := (own_lt ho hg).1; have := hB g hm; omega
  have e1 : ∀ (a2 : Option Addr) (l2 : List SemD) (c2 : Nat), ({ q with sems := l2, semA := a2, semC := c2 } : PartD).blocks = (blk q.procA ++ q.procs.filterMap procN.kid) ++ (blk a2 ++ (blk q.eventA ++ (blk q.boardA ++ (blk q.bufferA ++ (q.buffers.filterMap bufferN.kid ++ (blk q.portA ++ q.ports.filterMap portN.kid)))))) := fun _ _ _ => by simp [PartD.blocks]
  have e2 := e1 q.semA q.sems q.semC
  rw [e1]
  have e3 : q.blocks = (blk q.procA ++ q.procs.filterMap procN.kid) ++ (blk q.semA ++ (blk q.eventA ++ (blk q.boardA ++ (blk q.bufferA ++ (q.buffers.filterMap bufferN.kid ++ (blk q.portA ++ q.ports.filterMap portN.kid)))))) := e2
  rw [e3] at h5 h6
  exact nodup_swap h5 (blk_nodup _) h6
end Go.Proofs.YtkbcplnlehdjfaaGreat
