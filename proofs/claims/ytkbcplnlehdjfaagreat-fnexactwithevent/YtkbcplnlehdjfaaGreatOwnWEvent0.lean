/- What the proof leans on, part 0: WithP, WithO, LaEvent, WithEventI, WithM, L3Chk, WithEventS, WithEventLaw. -/
import Derived.Test.YtkbcplnlehdjfaaGreatOwnQ0
import Derived.Test.YtkbcplnlehdjfaaGreatOwnQ1
import Derived.Test.YtkbcplnlehdjfaaGreatOwnQ2
import Derived.Test.YtkbcplnlehdjfaaGreatOwnQ3
import Derived.Test.YtkbcplnlehdjfaaGreatOwnQ4
import Derived.Test.YtkbcplnlehdjfaaGreatOwnQ5
import Derived.Test.YtkbcplnlehdjfaaGreatOwnQ6

namespace Go.Proofs.YtkbcplnlehdjfaaGreat
open Go.RowKit

section
variable {α : Type} {num : α → Int} {ok : α → Bool}
/-- A thing before the first one of a greater number; before the first one of no lesser number. -/
def insG (num : α → Int) (x : α) : List α → List α
 | [] => [x]
 | y :: r => if num x < num y then x :: y :: r else y :: insG num x r
def insF (num : α → Int) (x : α) : List α → List α
 | [] => [x]
 | y :: r => if num y < num x then y :: insF num x r else x :: y :: r
theorem insG_length (x : α) : ∀ l : List α, (insG num x l).length = l.length + 1
 | [] => rfl
 | y :: r => by
  simp only [insG]
  split
  ·rfl
  ·simp [insG_length x r]
theorem insF_is (x : α) : ∀ l : List α, num x ∉ l.map num → insF num x l = insG num x l
 | [], _ => rfl
 | y :: r, h => by
  simp only [List.map_cons, List.mem_cons, not_or] at h
  simp only [insG, insF, insF_is x r h.2]
  by_cases h1 : num y < num x
  ·rw [if_pos h1, if_neg (by omega)]
  ·rw [if_neg h1, if_pos (by omega)]
theorem insG_mem {x z : α} : ∀ {l : List α}, z ∈ insG num x l ↔ z = x ∨ z ∈ l
 | [] => by simp [insG]
 | y :: r => by
  simp only [insG]
  split
  ·simp
  ·simp only [List.mem_cons, insG_mem (l := r)]
   constructor
   ·rintro (h | h | h)
    ·exact .inr (.inl h)
    ·exact .inl h
    ·exact .inr (.inr h)
   ·rintro (h | h | h)
    ·exact .inr (.inl h)
    ·exact .inl h
    ·exact .inr (.inr h)
theorem insF_mem {x z : α} : ∀ {l : List α}, z ∈ insF num x l ↔ z = x ∨ z ∈ l
 | [] => by simp [insF]
 | y :: r => by
  simp only [insF]
  split
  ·simp only [List.mem_cons, insF_mem (l := r)]
   constructor
   ·rintro (h | h | h)
    ·exact .inr (.inl h)
    ·exact .inl h
    ·exact .inr (.inr h)
   ·rintro (h | h | h)
    ·exact .inr (.inl h)
    ·exact .inl h
    ·exact .inr (.inr h)
  ·simp
theorem insF_length (x : α) : ∀ l : List α, (insF num x l).length = l.length + 1
 | [] => rfl
 | y :: r => by
  simp only [insF]
  split
  ·simp [insF_length x r]
  ·rfl
/-- Where the place is found from the front. -/
theorem insF_at {x : α} : ∀ {l : List α} {k : Nat}, (∀ y ∈ l.take k, num y < num x) → (∀ y, l[k]? = some y → ¬ num y < num x) → l.take k ++ x :: l.drop k = insF num x l
 | [], k, _, _ => by simp [insF]
 | y :: r, 0, _, h2 => by
  have h3 := h2 y rfl
  simp [insF, h3]
 | y :: r, k + 1, h1, h2 => by
  have h3 := h1 y (by simp)
  simp only [List.take_succ_cons, List.drop_succ_cons, List.cons_append, insF, if_pos h3]
  rw [insF_at (fun z hz => h1 z (by simp [hz])) (fun z hz => h2 z (by simpa using hz))]
theorem things_mono {ok' : α → Bool} : ∀ {l : List α} {last : Int}, thingsB num ok last l = true → (∀ x ∈ l, ok x = true → ok' x = true) → thingsB num ok' last l = true
 | [], _, _, _ => rfl
 | x :: r, last, h, hm => by
  simp only [thingsB, Bool.and_eq_true] at h ⊢
  exact ⟨⟨h.1.1, hm x (by simp) h.1.2⟩, things_mono h.2 fun y hy => hm y (by simp [hy])⟩
/-- Whether things with one more are right. -/
def moreB (num : α → Int) (ok : α → Bool) (x : α) (l : List α) : Bool := !decide (num x ∈ l.map num) && inB (num x) 1 1000 && ok x
theorem insG_right {x : α} : ∀ {l : List α} {last : Int}, thingsB num ok last l = true → last < num x → thingsB num ok last (insG num x l) = moreB num ok x l
 | [], last, _, hl => by simp [insG, thingsB, moreB, hl]
 | y :: r, last, h, hl => by
  have h' := h
  simp only [thingsB, Bool.and_eq_true, decide_eq_true_eq] at h
  by_cases h1 : num x < num y
  ·have hr := things_rise h.2
   have hn : num x ∉ (y :: r).map num := fun hm => by
    rcases List.mem_cons.1 hm with e | hm
    ·omega
    ·obtain ⟨z, hz, e⟩ := List.mem_map.1 hm
     have := hr.1 z hz
     omega
   rw [moreB, decide_eq_false hn]
   simp [insG, h1, thingsB, hl, h.1.1.1, h.1.2, h.2]
  ·simp only [insG, if_neg h1, thingsB]
   by_cases h2 : num y = num x
   ·have hm : num x ∈ (y :: r).map num := by simp [h2]
    have h3 : thingsB num ok (num y) (insG num x r) = false := by
     cases h4 : thingsB num ok (num y) (insG num x r) with
     | false => rfl
     | true =>
      have := (things_rise h4).1 x (insG_mem.2 (.inl rfl))
      omega
    rw [moreB, decide_eq_true hm, h3]
    simp
   ·rw [insG_right h.2 (by omega)]
    have h5 : (num x ∈ (y :: r).map num) ↔ num x ∈ r.map num := by
     simp only [List.map_cons, List.mem_cons]
     constructor
     ·rintro (e | e)
      ·exact absurd e.symm h2
      ·exact e
     ·exact .inr
    simp only [moreB, h5, h.1.1.1, h.1.1.2, h.1.2, decide_true, Bool.true_and]
theorem insG_right0 {x : α} {l : List α} (h : thingsB num ok 0 l = true) : thingsB num ok 0 (insG num x l) = moreB num ok x l := by
 by_cases h0 : 0 < num x
 ·exact insG_right h h0
 ·have h1 : inB (num x) 1 1000 = false := by
   cases h2 : inB (num x) 1 1000 with
   | false => rfl
   | true => have := inB_iff.1 h2; omega
  cases h4 : thingsB num ok 0 (insG num x l) with
  | false => simp [moreB, h1]
  | true =>
   have := (things_rise h4).1 x (insG_mem.2 (.inl rfl))
   omega
theorem insF_twice {x : α} : ∀ {l : List α} {last : Int}, num x ∈ l.map num → thingsB num ok last l = true → thingsB num ok last (insF num x l) = false
 | [], _, h, _ => by simp at h
 | y :: r, last, h, ht => by
  simp only [thingsB, Bool.and_eq_true, decide_eq_true_eq] at ht
  simp only [insF]
  by_cases h1 : num y < num x
  ·rw [if_pos h1]
   have h2 : num x ∈ r.map num := by
    rcases List.mem_cons.1 h with e | e
    ·omega
    ·exact e
   simp [thingsB, insF_twice h2 ht.2]
  ·rw [if_neg h1]
   have h2 : ¬ num x < num y := fun h3 => by
    rcases List.mem_cons.1 h with e | e
    ·omega
    ·obtain ⟨z, hz, e⟩ := List.mem_map.1 e
     have := (things_rise ht.2).1 z hz
     omega
   simp [thingsB, h2]
theorem insF_right {x : α} {l : List α} (h : thingsB num ok 0 l = true) : thingsB num ok 0 (insF num x l) = moreB num ok x l := by
 by_cases hm : num x ∈ l.map num
 ·rw [insF_twice hm h, moreB, decide_eq_true hm]
  rfl
 ·rw [insF_is x l hm]
  exact insG_right0 h
end
/-- A partition with more, if it and what it becomes are right. -/
def withR (p p' : PartP) : Option PartP := if partB p && partB p' then some p' else none
theorem withR_not {p p' : PartP} (h : partB p = false) : withR p p' = none := by simp [withR, h]
theorem withR_no {p p' : PartP} (h : partB p' = false) : withR p p' = none := by simp [withR, h]
theorem withR_yes {p p' : PartP} (h : partB p = true) (h' : partB p' = true) : withR p p' = some p' := by simp [withR, h, h']
theorem withR_cases {p p' : PartP} : (withR p p').getD zeroPart = zeroPart ∨ partB p = true ∧ partB p' = true ∧ (withR p p').getD zeroPart = p' := by
 unfold withR
 split
 ·rename_i h
  rw [Bool.and_eq_true] at h
  exact .inr ⟨h.1, h.2, rfl⟩
 ·exact .inl rfl
theorem wait_mono {p p' : PartP} {y : ProcP} (h1 : ∀ z ∈ p.sems.map (·.id), z ∈ p'.sems.map (·.id)) (h2 : ∀ z ∈ p.events.map (·.id), z ∈ p'.events.map (·.id)) (h3 : ∀ z ∈ p.boards.map (·.id), z ∈ p'.boards.map (·.id)) (h4 : ∀ z ∈ p.buffers.map (·.id), z ∈ p'.buffers.map (·.id)) (h : waitB p y = true) : waitB p' y = true := by
 unfold waitB at h ⊢
 by_cases hs : 3 ≤ y.state
 ·rw [if_pos hs] at h ⊢
  unfold hasB at h ⊢
  by_cases e3 : y.state = 3
  ·rw [if_pos e3, decide_eq_true_eq] at h ⊢
   exact h1 _ h
  rw [if_neg e3] at h ⊢
  by_cases e4 : y.state = 4
  ·rw [if_pos e4, decide_eq_true_eq] at h ⊢
   exact h2 _ h
  rw [if_neg e4] at h ⊢
  by_cases e5 : y.state = 5 ∨ y.state = 6
  ·rw [if_pos e5, decide_eq_true_eq] at h ⊢
   exact h4 _ h
  rw [if_neg e5] at h ⊢
  by_cases e7 : y.state = 7
  ·rw [if_pos e7, decide_eq_true_eq] at h ⊢
   exact h3 _ h
  rw [if_neg e7] at h
  cases h
 ·rw [if_neg hs]
theorem ids_more {α : Type} {num : α → Int} {x : α} {l l' : List α} (h : ∀ z, z ∈ l' ↔ z = x ∨ z ∈ l) : ∀ z ∈ l.map num, z ∈ l'.map num := fun z hz => by
 obtain ⟨y, hy, e⟩ := List.mem_map.1 hz
 exact List.mem_map.2 ⟨y, (h y).2 (.inr hy), e⟩
/-- With a thing of the kind Sem. -/
theorem moreSem {p : PartP} {x : SemD} (h : PartR p) : partB ({ p with sems := insF (·.id) x p.sems } : PartP) = (moreB (·.id) semB x p.sems && decide (p.sems.length < 5)) := by
 rw [Bool.eq_iff_iff, partB_iff, Bool.and_eq_true, decide_eq_true_eq, ← insF_right h.sems]
 constructor
 ·intro h2
  have h3 : (insF (·.id) x p.sems).length ≤ 5 := h2.nSem
  rw [insF_length] at h3
  exact ⟨h2.sems, by omega⟩
 ·intro h2
  have h3 := h2.2
  refine ⟨h.id, h.next, h.nProc, (by show (insF (·.id) x p.sems).length ≤ 5; rw [insF_length]; omega), h.nEvent, h.nBoard, h.nBuffer, h.nPort, things_mono h.procs ?_, h2.1, h.events, h.boards, h.buffers, h.ports, h.apart⟩
  exact fun y _ hy => by
    simp only [Bool.and_eq_true] at hy ⊢
    exact ⟨hy.1, wait_mono (p := p) (ids_more fun _ => insF_mem) (fun _ hz => hz) (fun _ hz => hz) (fun _ hz => hz) hy.2⟩
/-- With a thing of the kind Event. -/
theorem moreEvent {p : PartP} {x : EventD} (h : PartR p) : partB ({ p with events := insF (·.id) x p.events } : PartP) = (moreB (·.id) eventB x p.events && decide (p.events.length < 5)) := by
 rw [Bool.eq_iff_iff, partB_iff, Bool.and_eq_true, decide_eq_true_eq, ← insF_right h.events]
 constructor
 ·intro h2
  have h3 : (insF (·.id) x p.events).length ≤ 5 := h2.nEvent
  rw [insF_length] at h3
  exact ⟨h2.events, by omega⟩
 ·intro h2
  have h3 := h2.2
  refine ⟨h.id, h.next, h.nProc, h.nSem, (by show (insF (·.id) x p.events).length ≤ 5; rw [insF_length]; omega), h.nBoard, h.nBuffer, h.nPort, things_mono h.procs ?_, h.sems, h2.1, h.boards, h.buffers, h.ports, h.apart⟩
  exact fun y _ hy => by
    simp only [Bool.and_eq_true] at hy ⊢
    exact ⟨hy.1, wait_mono (p := p) (fun _ hz => hz) (ids_more fun _ => insF_mem) (fun _ hz => hz) (fun _ hz => hz) hy.2⟩
/-- With a thing of the kind Board. -/
theorem moreBoard {p : PartP} {x : BoardD} (h : PartR p) : partB ({ p with boards := insF (·.id) x p.boards } : PartP) = (moreB (·.id) boardB x p.boards && decide (p.boards.length < 5)) := by
 rw [Bool.eq_iff_iff, partB_iff, Bool.and_eq_true, decide_eq_true_eq, ← insF_right h.boards]
 constructor
 ·intro h2
  have h3 : (insF (·.id) x p.boards).length ≤ 5 := h2.nBoard
  rw [insF_length] at h3
  exact ⟨h2.boards, by omega⟩
 ·intro h2
  have h3 := h2.2
  refine ⟨h.id, h.next, h.nProc, h.nSem, h.nEvent, (by show (insF (·.id) x p.boards).length ≤ 5; rw [insF_length]; omega), h.nBuffer, h.nPort, things_mono h.procs ?_, h.sems, h.events, h2.1, h.buffers, h.ports, h.apart⟩
  exact fun y _ hy => by
    simp only [Bool.and_eq_true] at hy ⊢
    exact ⟨hy.1, wait_mono (p := p) (fun _ hz => hz) (fun _ hz => hz) (ids_more fun _ => insF_mem) (fun _ hz => hz) hy.2⟩
/-- With a thing of the kind Buffer. -/
theorem moreBuffer {p : PartP} {x : BufferP} (h : PartR p) : partB ({ p with buffers := insG (·.id) x p.buffers } : PartP) = (moreB (·.id) bufferB x p.buffers && decide (p.buffers.length < 5)) := by
 rw [Bool.eq_iff_iff, partB_iff, Bool.and_eq_true, decide_eq_true_eq, ← insG_right0 h.buffers]
 constructor
 ·intro h2
  have h3 : (insG (·.id) x p.buffers).length ≤ 5 := h2.nBuffer
  rw [insG_length] at h3
  exact ⟨h2.buffers, by omega⟩
 ·intro h2
  have h3 := h2.2
  refine ⟨h.id, h.next, h.nProc, h.nSem, h.nEvent, h.nBoard, (by show (insG (·.id) x p.buffers).length ≤ 5; rw [insG_length]; omega), h.nPort, things_mono h.procs ?_, h.sems, h.events, h.boards, h2.1, h.ports, h.apart⟩
  exact fun y _ hy => by
    simp only [Bool.and_eq_true] at hy ⊢
    exact ⟨hy.1, wait_mono (p := p) (fun _ hz => hz) (fun _ hz => hz) (fun _ hz => hz) (ids_more fun _ => insG_mem) hy.2⟩
/-- With a thing of the kind Port. -/
theorem morePort {p : PartP} {x : PortP} (h : PartR p) : partB ({ p with ports := insG (·.id) x p.ports } : PartP) = (moreB (·.id) portB x p.ports && decide (p.ports.length < 5)) := by
 rw [Bool.eq_iff_iff, partB_iff, Bool.and_eq_true, decide_eq_true_eq, ← insG_right0 h.ports]
 constructor
 ·intro h2
  have h3 : (insG (·.id) x p.ports).length ≤ 5 := h2.nPort
  rw [insG_length] at h3
  exact ⟨h2.ports, by omega⟩
 ·intro h2
  have h3 := h2.2
  refine ⟨h.id, h.next, h.nProc, h.nSem, h.nEvent, h.nBoard, h.nBuffer, (by show (insG (·.id) x p.ports).length ≤ 5; rw [insG_length]; omega), things_mono h.procs ?_, h.sems, h.events, h.boards, h.buffers, h2.1, h.apart⟩
  exact fun _ _ hy => hy
theorem sum_ins {α : Type} {num : α → Int} {c : α → Nat} (x : α) : ∀ l : List α, sumL c (insG num x l) = sumL c l + c x
 | [] => by simp [insG, sumL]
 | y :: r => by
  have ih := sum_ins (num := num) (c := c) x r
  simp only [insG, sumL] at ih ⊢
  split
  ·simp only [List.map_cons, List.sum_cons]; omega
  ·simp only [List.map_cons, List.sum_cons, ih]; omega
theorem smallSem {p : PartP} {x : SemD} (h : p.Small) (hx : (Lit.int .i64 x.id).wf = true) : ((withR p { p with sems := insF (·.id) x p.sems }).getD zeroPart).Small := by
 rcases withR_cases (p := p) (p' := { p with sems := insF (·.id) x p.sems }) with e | ⟨_, hp, e⟩
 ·rw [e]; exact zero_small
 ·rw [e]
  have h2 := (partB_iff _).1 hp
  exact ⟨h.nProc, by have h3 : (insF (·.id) x p.sems).length ≤ 5 := h2.nSem; show (insF (·.id) x p.sems).length ≤ _; omega, h.nEvent, h.nBoard, h.nBuffer, h.nPort, h.procs, fun y hy => (insF_mem.1 hy).elim (fun e => e ▸ hx) (h.sems y), h.events, h.boards, h.buffers, h.ports⟩
theorem insSem_small {p : PartP} {x : SemD} (h : p.Small) (hr : partB p = true) (hx : (Lit.int .i64 x.id).wf = true) : PartP.Small { p with sems := insF (·.id) x p.sems } := by
 have h2 := ((partB_iff _).1 hr).nSem
 exact ⟨h.nProc, by show (insF (·.id) x p.sems).length ≤ _; rw [insF_length]; omega, h.nEvent, h.nBoard, h.nBuffer, h.nPort, h.procs, fun y hy => (insF_mem.1 hy).elim (fun e => e ▸ hx) (h.sems y), h.events, h.boards, h.buffers, h.ports⟩
theorem totalSem {p : PartP} {x : SemD} : ((withR p { p with sems := insF (·.id) x p.sems }).getD zeroPart).total ≤ p.total + 1 := by
 rcases withR_cases (p := p) (p' := { p with sems := insF (·.id) x p.sems }) with e | ⟨_, _, e⟩
 ·rw [e]; simp [PartP.total, zeroPart, sumL]
 ·rw [e]
  simp only [PartP.total, insF_length]
  omega
theorem smallEvent {p : PartP} {x : EventD} (h : p.Small) (hx : (Lit.int .i64 x.id).wf = true) : ((withR p { p with events := insF (·.id) x p.events }).getD zeroPart).Small := by
 rcases withR_cases (p := p) (p' := { p with events := insF (·.id) x p.events }) with e | ⟨_, hp, e⟩
 ·rw [e]; exact zero_small
 ·rw [e]
  have h2 := (partB_iff _).1 hp
  exact ⟨h.nProc, h.nSem, by have h3 : (insF (·.id) x p.events).length ≤ 5 := h2.nEvent; show (insF (·.id) x p.events).length ≤ _; omega, h.nBoard, h.nBuffer, h.nPort, h.procs, h.sems, fun y hy => (insF_mem.1 hy).elim (fun e => e ▸ hx) (h.events y), h.boards, h.buffers, h.ports⟩
theorem insEvent_small {p : PartP} {x : EventD} (h : p.Small) (hr : partB p = true) (hx : (Lit.int .i64 x.id).wf = true) : PartP.Small { p with events := insF (·.id) x p.events } := by
 have h2 := ((partB_iff _).1 hr).nEvent
 exact ⟨h.nProc, h.nSem, by show (insF (·.id) x p.events).length ≤ _; rw [insF_length]; omega, h.nBoard, h.nBuffer, h.nPort, h.procs, h.sems, fun y hy => (insF_mem.1 hy).elim (fun e => e ▸ hx) (h.events y), h.boards, h.buffers, h.ports⟩
theorem totalEvent {p : PartP} {x : EventD} : ((withR p { p with events := insF (·.id) x p.events }).getD zeroPart).total ≤ p.total + 1 := by
 rcases withR_cases (p := p) (p' := { p with events := insF (·.id) x p.events }) with e | ⟨_, _, e⟩
 ·rw [e]; simp [PartP.total, zeroPart, sumL]
 ·rw [e]
  simp only [PartP.total, insF_length]
  omega
theorem smallBoard {p : PartP} {x : BoardD} (h : p.Small) (hx : (Lit.int .i64 x.id).wf = true ∧ x.text.size ≤ 1048576) : ((withR p { p with boards := insF (·.id) x p.boards }).getD zeroPart).Small := by
 rcases withR_cases (p := p) (p' := { p with boards := insF (·.id) x p.boards }) with e | ⟨_, hp, e⟩
 ·rw [e]; exact zero_small
 ·rw [e]
  have h2 := (partB_iff _).1 hp
  exact ⟨h.nProc, h.nSem, h.nEvent, by have h3 : (insF (·.id) x p.boards).length ≤ 5 := h2.nBoard; show (insF (·.id) x p.boards).length ≤ _; omega, h.nBuffer, h.nPort, h.procs, h.sems, h.events, fun y hy => (insF_mem.1 hy).elim (fun e => e ▸ hx) (h.boards y), h.buffers, h.ports⟩
theorem insBoard_small {p : PartP} {x : BoardD} (h : p.Small) (hr : partB p = true) (hx : (Lit.int .i64 x.id).wf = true ∧ x.text.size ≤ 1048576) : PartP.Small { p with boards := insF (·.id) x p.boards } := by
 have h2 := ((partB_iff _).1 hr).nBoard
 exact ⟨h.nProc, h.nSem, h.nEvent, by show (insF (·.id) x p.boards).length ≤ _; rw [insF_length]; omega, h.nBuffer, h.nPort, h.procs, h.sems, h.events, fun y hy => (insF_mem.1 hy).elim (fun e => e ▸ hx) (h.boards y), h.buffers, h.ports⟩
theorem totalBoard {p : PartP} {x : BoardD} : ((withR p { p with boards := insF (·.id) x p.boards }).getD zeroPart).total ≤ p.total + 1 := by
 rcases withR_cases (p := p) (p' := { p with boards := insF (·.id) x p.boards }) with e | ⟨_, _, e⟩
 ·rw [e]; simp [PartP.total, zeroPart, sumL]
 ·rw [e]
  simp only [PartP.total, insF_length]
  omega
theorem smallBuffer {p : PartP} {x : BufferP} (h : p.Small) (hx : (Lit.int .i64 x.id).wf = true ∧ x.items.length ≤ 1048576 ∧ ∀ s ∈ x.items, s.size ≤ 1048576) : ((withR p { p with buffers := insG (·.id) x p.buffers }).getD zeroPart).Small := by
 rcases withR_cases (p := p) (p' := { p with buffers := insG (·.id) x p.buffers }) with e | ⟨_, hp, e⟩
 ·rw [e]; exact zero_small
 ·rw [e]
  have h2 := (partB_iff _).1 hp
  exact ⟨h.nProc, h.nSem, h.nEvent, h.nBoard, by have h3 : (insG (·.id) x p.buffers).length ≤ 5 := h2.nBuffer; show (insG (·.id) x p.buffers).length ≤ _; omega, h.nPort, h.procs, h.sems, h.events, h.boards, fun y hy => (insG_mem.1 hy).elim (fun e => e ▸ hx) (h.buffers y), h.ports⟩
theorem insBuffer_small {p : PartP} {x : BufferP} (h : p.Small) (hr : partB p = true) (hx : (Lit.int .i64 x.id).wf = true ∧ x.items.length ≤ 1048576 ∧ ∀ s ∈ x.items, s.size ≤ 1048576) : PartP.Small { p with buffers := insG (·.id) x p.buffers } := by
 have h2 := ((partB_iff _).1 hr).nBuffer
 exact ⟨h.nProc, h.nSem, h.nEvent, h.nBoard, by show (insG (·.id) x p.buffers).length ≤ _; rw [insG_length]; omega, h.nPort, h.procs, h.sems, h.events, h.boards, fun y hy => (insG_mem.1 hy).elim (fun e => e ▸ hx) (h.buffers y), h.ports⟩
theorem totalBuffer {p : PartP} {x : BufferP} : ((withR p { p with buffers := insG (·.id) x p.buffers }).getD zeroPart).total ≤ p.total + 1 + x.items.length := by
 rcases withR_cases (p := p) (p' := { p with buffers := insG (·.id) x p.buffers }) with e | ⟨_, _, e⟩
 ·rw [e]; simp [PartP.total, zeroPart, sumL]
 ·rw [e]
  simp only [PartP.total, insG_length, sum_ins]
  omega
theorem smallPort {p : PartP} {x : PortP} (h : p.Small) (hx : (Lit.int .i64 x.id).wf = true ∧ x.items.length ≤ 1048576 ∧ ∀ s ∈ x.items, s.size ≤ 1048576) : ((withR p { p with ports := insG (·.id) x p.ports }).getD zeroPart).Small := by
 rcases withR_cases (p := p) (p' := { p with ports := insG (·.id) x p.ports }) with e | ⟨_, hp, e⟩
 ·rw [e]; exact zero_small
 ·rw [e]
  have h2 := (partB_iff _).1 hp
  exact ⟨h.nProc, h.nSem, h.nEvent, h.nBoard, h.nBuffer, by have h3 : (insG (·.id) x p.ports).length ≤ 5 := h2.nPort; show (insG (·.id) x p.ports).length ≤ _; omega, h.procs, h.sems, h.events, h.boards, h.buffers, fun y hy => (insG_mem.1 hy).elim (fun e => e ▸ hx) (h.ports y)⟩
theorem insPort_small {p : PartP} {x : PortP} (h : p.Small) (hr : partB p = true) (hx : (Lit.int .i64 x.id).wf = true ∧ x.items.length ≤ 1048576 ∧ ∀ s ∈ x.items, s.size ≤ 1048576) : PartP.Small { p with ports := insG (·.id) x p.ports } := by
 have h2 := ((partB_iff _).1 hr).nPort
 exact ⟨h.nProc, h.nSem, h.nEvent, h.nBoard, h.nBuffer, by show (insG (·.id) x p.ports).length ≤ _; rw [insG_length]; omega, h.procs, h.sems, h.events, h.boards, h.buffers, fun y hy => (insG_mem.1 hy).elim (fun e => e ▸ hx) (h.ports y)⟩
theorem totalPort {p : PartP} {x : PortP} : ((withR p { p with ports := insG (·.id) x p.ports }).getD zeroPart).total ≤ p.total + 1 + x.items.length := by
 rcases withR_cases (p := p) (p' := { p with ports := insG (·.id) x p.ports }) with e | ⟨_, _, e⟩
 ·rw [e]; simp [PartP.total, zeroPart, sumL]
 ·rw [e]
  simp only [PartP.total, insG_length, sum_ins]
  omega

end Go.Proofs.YtkbcplnlehdjfaaGreat

/- A thing laid into an open partition. (Made by mkwitho.py.) -/
namespace Go.Proofs.YtkbcplnlehdjfaaGreat
open Go.RowKit Go.Maps

theorem perm_step {A B B' : List Nat} {g : Nat} (h : B'.Perm (g :: B)) : (A ++ B').Perm (g :: (A ++ B)) := (List.Perm.append_left A h).trans List.perm_middle
theorem insT_boxes {α : Type} {num : α → Int} (x : α) (b g : Nat) (l : List (α × Nat)) : (b :: (insT num (x, g) l).map (·.2)).Perm (g :: (b :: l.map (·.2))) :=
 have h : ((insT num (x, g) l).map (·.2)).Perm (g :: l.map (·.2)) := (insT_perm (num := num) (x, g) l).map (·.2)
 (List.Perm.cons b h).trans (List.Perm.swap g b _)
theorem insT_fst {α β : Type} {num : α → Int} {num' : β → Int} (f : α → β) (hf : ∀ y, num' (f y) = num y) (x : α) (g : Nat) : ∀ l : List (α × Nat), (insT num (x, g) l).map (fun p => f p.1) = insG num' (f x) (l.map (fun p => f p.1))
 | [] => rfl
 | y :: r => by
  simp only [insT, insG, List.map_cons, hf]
  split
  ·simp
  ·simp [insT_fst f hf x g r]
theorem kids_ins {α : Type} {N : Nest α} {num : α → Int} (x : α) (g : Nat) (l : List (α × Nat)) : (kids N (insT num (x, g) l)).Perm (kids N ((x, g) :: l)) := (insT_perm (num := num) (x, g) l).filterMap _
theorem lay_more {α β : Type} {num : α → Int} {num' : β → Int} (f : α → β) (hf : ∀ y, num' (f y) = num y) (ok : β → Bool) (x : α) (n : Nat) (l : List (α × Nat)) : layB n (keysOf num l) (num x) (ok (f x)) = (moreB num' ok (f x) (l.map (fun p => f p.1)) && decide ((l.map (fun p => f p.1)).length < n)) := by
 have e1 : (keysOf num l).map (·.1) = (l.map (fun p => f p.1)).map num' := by
  simp only [keysOf, List.map_map]
  exact List.map_congr_left fun p _ => (hf p.1).symm
 have e2 : decide (((keysOf num l).length : Int) < (n : Int)) = decide ((l.map (fun p => f p.1)).length < n) := by
  rw [keysOf_length, List.length_map]
  exact decide_eq_decide.2 (by omega)
 unfold layB moreB
 rw [lookM_isSome, e1, e2, hf]
 cases decide ((l.map (fun p => f p.1)).length < n) <;> simp
theorem more_not {α : Type} {num : α → Int} {ok : α → Bool} {x : α} {l : List α} {n : Nat} (h : (moreB num ok x l && decide (l.length < n)) = true) : num x ∉ l.map num := by
 simp only [moreB, Bool.and_eq_true, Bool.not_eq_true', decide_eq_false_iff_not] at h
 exact h.1.1.1
theorem OpenAt.lt {w : World} {base o : Nat} {S : OpenD} (h : OpenAt w base o S) : ∀ c ∈ o :: (S.boxes ++ S.kids), c < w.heap.size := fun c hc => by
 simp only [OpenD.boxes, OpenD.kids, List.mem_cons, List.mem_append] at hc
 rcases hc with rfl | ((hc | hc | hc | hc | hc | hc) | hc | hc | hc)
 ·exact (Array.getElem?_eq_some_iff.1 h.opn).1
 ·exact h.procs.lt c (List.mem_cons.2 hc)
 ·exact h.sems.lt c (List.mem_cons.2 hc)
 ·exact h.events.lt c (List.mem_cons.2 hc)
 ·exact h.boards.lt c (List.mem_cons.2 hc)
 ·exact h.buffers.lt c (List.mem_cons.2 hc)
 ·exact h.ports.lt c (List.mem_cons.2 hc)
 ·obtain ⟨r, hr, hk⟩ := List.mem_filterMap.1 hc
  exact ((h.mineP r hr).lt hk).2
 ·obtain ⟨r, hr, hk⟩ := List.mem_filterMap.1 hc
  exact ((h.mineF r hr).lt hk).2
 ·obtain ⟨r, hr, hk⟩ := List.mem_filterMap.1 hc
  exact ((h.mineQ r hr).lt hk).2

end Go.Proofs.YtkbcplnlehdjfaaGreat

/- A thing of the kind Event laid into an open partition. (Made by mkwitho.py.) -/
namespace Go.Proofs.YtkbcplnlehdjfaaGreat
open Go.RowKit Go.Maps

theorem OpenAt.layEvent {w w' : World} {base o : Nat} {S : OpenD} {x : EventD} {e : Ending} (h : OpenAt w base o S) (hb : base ≤ w.heap.size) (hl : LayEnds w S.q.be (keysOf (fun x : EventD => x.id) S.le) true x.id (eventVs x) 138 e w') :
  ∃ g, OpenAt w' base o { S with le := insT (fun x : EventD => x.id) (x, g) S.le } ∧ Below base w w' := by
 obtain ⟨g, hg, hsh, hgr⟩ := h.events.lay hb hl
 have hn := h.nodup
 obtain ⟨hno, hn2⟩ := List.nodup_cons.1 hn
 obtain ⟨hnb, hnk, hbk⟩ := List.nodup_append.1 hn2
 have hnb0 := hnb
 unfold OpenD.boxes at hnb
 obtain ⟨-, r0, d0⟩ := List.nodup_append.1 hnb
 obtain ⟨-, r1, d1⟩ := List.nodup_append.1 r0
 obtain ⟨-, r2, d2⟩ := List.nodup_append.1 r1
 clear r2
 have hs : ∀ c ∈ o :: (S.boxes ++ S.kids), c ≠ S.q.be → w'.heap[c]? = w.heap[c]? := fun c hc hne => hgr.block c (h.lt c hc) (fun e => hne (Option.some.inj e))
 have hbm : S.q.be ∈ S.boxes := by unfold OpenD.boxes; exact (List.mem_append_right _ (List.mem_append_right _ (List.mem_append_left _ (List.mem_cons_self ..))))
 have hkid : ∀ c ∈ S.kids, w'.heap[c]? = w.heap[c]? := fun c hc => hs c (List.mem_cons_of_mem _ (List.mem_append_right _ hc)) (fun e => hbk _ hbm c hc e.symm)
 refine ⟨g, ⟨(hs o (List.mem_cons_self ..) (fun e => hno (e ▸ List.mem_append_left _ hbm))).trans h.opn, h.procs.same (fun c hc => hs c (List.mem_cons_of_mem _ (List.mem_append_left _ (by unfold OpenD.boxes; exact (List.mem_append_left _ hc)))) (d0 c hc _ (List.mem_append_right _ (List.mem_append_left _ (List.mem_cons_self ..))))), h.sems.same (fun c hc => hs c (List.mem_cons_of_mem _ (List.mem_append_left _ (by unfold OpenD.boxes; exact (List.mem_append_right _ (List.mem_append_left _ hc))))) (d1 c hc _ (List.mem_append_left _ (List.mem_cons_self ..)))), hsh, h.boards.same (fun c hc => hs c (List.mem_cons_of_mem _ (List.mem_append_left _ (by unfold OpenD.boxes; exact (List.mem_append_right _ (List.mem_append_right _ (List.mem_append_right _ (List.mem_append_left _ hc))))))) (fun e => d2 _ (List.mem_cons_self ..) c (List.mem_append_left _ hc) e.symm)), h.buffers.same (fun c hc => hs c (List.mem_cons_of_mem _ (List.mem_append_left _ (by unfold OpenD.boxes; exact (List.mem_append_right _ (List.mem_append_right _ (List.mem_append_right _ (List.mem_append_right _ (List.mem_append_left _ hc)))))))) (fun e => d2 _ (List.mem_cons_self ..) c (List.mem_append_right _ (List.mem_append_left _ hc)) e.symm)), h.ports.same (fun c hc => hs c (List.mem_cons_of_mem _ (List.mem_append_left _ (by unfold OpenD.boxes; exact (List.mem_append_right _ (List.mem_append_right _ (List.mem_append_right _ (List.mem_append_right _ (List.mem_append_right _ hc)))))))) (fun e => d2 _ (List.mem_cons_self ..) c (List.mem_append_right _ (List.mem_append_right _ hc)) e.symm)), fun r hr => (h.mineP r hr).same fun c hc => hkid c (by unfold OpenD.kids; exact (List.mem_append_left _ (List.mem_filterMap.2 ⟨r, hr, hc⟩))), fun r hr => (h.mineF r hr).same fun c hc => hkid c (by unfold OpenD.kids; exact (List.mem_append_right _ (List.mem_append_left _ (List.mem_filterMap.2 ⟨r, hr, hc⟩)))), fun r hr => (h.mineQ r hr).same fun c hc => hkid c (by unfold OpenD.kids; exact (List.mem_append_right _ (List.mem_append_right _ (List.mem_filterMap.2 ⟨r, hr, hc⟩)))), ?_, h.low⟩, (Below.refl _ _).grown hgr hb fun c e => (Option.some.inj e) ▸ h.events.low _ (List.mem_cons_self ..)⟩
 have hp1 : ({ S with le := insT (fun x : EventD => x.id) (x, g) S.le } : OpenD).boxes.Perm (g :: S.boxes) := by unfold OpenD.boxes; exact (perm_step (perm_step ((insT_boxes (num := (fun x : EventD => x.id)) x S.q.be g S.le).append_right _)))
 have hlt := h.lt
 have hp2 : (o :: (({ S with le := insT (fun x : EventD => x.id) (x, g) S.le } : OpenD).boxes ++ S.kids)).Perm (g :: (o :: (S.boxes ++ S.kids))) := (List.Perm.cons o (hp1.append_right _)).trans (List.Perm.swap g o _)
 exact hp2.nodup_iff.2 (List.nodup_cons.2 ⟨fun hm => by have := hlt g hm; omega, hn⟩)

end Go.Proofs.YtkbcplnlehdjfaaGreat

/- A thing of the kind Event laid in: the programme. (Made by mkwithi.py.) -/
namespace Go.Proofs.YtkbcplnlehdjfaaGreat
open Go.RowKit Go.Maps
attribute [local go_sem ↓] Go.wp_at_zero Go.wp_at_succ

set_option maxRecDepth 100000 in
set_option maxHeartbeats 8000000 in
theorem implWithEvent_any (p : PartD) (id : Int) (w : World) (hid : (Lit.int .i64 id).wf = true) (hg : p.Good w) :
  Calls Tryz.prog 37 #[.agg p.cells, .int .i64 id] w fun e w' => TurnRes w (withR p.pure { p.pure with events := insF (·.id) (⟨id, false⟩ : EventD) p.pure.events }) e w' := by
 have HB : Hid (p.Good ((w.alloc (.cells #[.int .i64 p.id, .int .i64 p.next, .slice p.procA p.procs.length p.procC, .slice p.semA p.sems.length p.semC, .slice p.eventA p.events.length p.eventC, .slice p.boardA p.boards.length p.boardC, .slice p.bufferA p.buffers.length p.bufferC, .slice p.portA p.ports.length p.portC] 32)).alloc (.cells #[.int .i64 0, .int .i64 0, .slice none 0 0, .slice none 0 0, .slice none 0 0, .slice none 0 0, .slice none 0 0, .slice none 0 0] 32)) ∧ Below w.heap.size w ((w.alloc (.cells #[.int .i64 p.id, .int .i64 p.next, .slice p.procA p.procs.length p.procC, .slice p.semA p.sems.length p.semC, .slice p.eventA p.events.length p.eventC, .slice p.boardA p.boards.length p.boardC, .slice p.bufferA p.buffers.length p.bufferC, .slice p.portA p.ports.length p.portC] 32)).alloc (.cells #[.int .i64 0, .int .i64 0, .slice none 0 0, .slice none 0 0, .slice none 0 0, .slice none 0 0, .slice none 0 0, .slice none 0 0] 32)) ∧ ((w.alloc (.cells #[.int .i64 p.id, .int .i64 p.next, .slice p.procA p.procs.length p.procC, .slice p.semA p.sems.length p.semC, .slice p.eventA p.events.length p.eventC, .slice p.boardA p.boards.length p.boardC, .slice p.bufferA p.buffers.length p.bufferC, .slice p.portA p.ports.length p.portC] 32)).alloc (.cells #[.int .i64 0, .int .i64 0, .slice none 0 0, .slice none 0 0, .slice none 0 0, .slice none 0 0, .slice none 0 0, .slice none 0 0] 32)).heap[w.heap.size + 1]? = some (.cells #[.int .i64 0, .int .i64 0, .slice none 0 0, .slice none 0 0, .slice none 0 0, .slice none 0 0, .slice none 0 0, .slice none 0 0] 32 (0, 0)) ∧ PartBox ((w.alloc (.cells #[.int .i64 p.id, .int .i64 p.next, .slice p.procA p.procs.length p.procC, .slice p.semA p.sems.length p.semC, .slice p.eventA p.events.length p.eventC, .slice p.boardA p.boards.length p.boardC, .slice p.bufferA p.buffers.length p.bufferC, .slice p.portA p.ports.length p.portC] 32)).alloc (.cells #[.int .i64 0, .int .i64 0, .slice none 0 0, .slice none 0 0, .slice none 0 0, .slice none 0 0, .slice none 0 0, .slice none 0 0] 32)) w.heap.size p ∧ (Lit.int .i64 id).wf = true) := by
  have b1 : Below w.heap.size w ((w.alloc (.cells #[.int .i64 p.id, .int .i64 p.next, .slice p.procA p.procs.length p.procC, .slice p.semA p.sems.length p.semC, .slice p.eventA p.events.length p.eventC, .slice p.boardA p.boards.length p.boardC, .slice p.bufferA p.buffers.length p.bufferC, .slice p.portA p.ports.length p.portC] 32)).alloc (.cells #[.int .i64 0, .int .i64 0, .slice none 0 0, .slice none 0 0, .slice none 0 0, .slice none 0 0, .slice none 0 0, .slice none 0 0] 32)) := ((Below.refl _ _).alloc (Nat.le_refl _) _).alloc (by simp) _
  exact ⟨hg.below b1, b1, heap_alloc2_new _ _ _, (heap_alloc_old _ _ (by simp)).trans (heap_alloc_new _ _), hid⟩
 clear hg hid
 obtain ⟨m0, m1, m2, m3, m4, m5, m6, m7⟩ := HB.out.2.2.2.1.cells
 unfold PartD.cells
 go_enter Tryz.func37, Tryz.ntmps37
 go_wp2_with fail
 generalize (w.alloc (.cells #[.int .i64 p.id, .int .i64 p.next, .slice p.procA p.procs.length p.procC, .slice p.semA p.sems.length p.semC, .slice p.eventA p.events.length p.eventC, .slice p.boardA p.boards.length p.boardC, .slice p.bufferA p.buffers.length p.bufferC, .slice p.portA p.ports.length p.portC] 32)).alloc (.cells #[.int .i64 0, .int .i64 0, .slice none 0 0, .slice none 0 0, .slice none 0 0, .slice none 0 0, .slice none 0 0, .slice none 0 0] 32) = W at *
 clear m0 m1 m2 m3 m4 m5 m6 m7
 refine (opened_any p W HB.out.1).mono ?_
 rintro e w1 ⟨hb1, ⟨hno, rfl⟩ | ⟨hyes, o, S, rfl, hat, hpu⟩⟩
 ·have HZ : Hid (Below w.heap.size w w1 ∧ w1.heap[w.heap.size + 1]? = some (.cells #[.int .i64 0, .int .i64 0, .slice none 0 0, .slice none 0 0, .slice none 0 0, .slice none 0 0, .slice none 0 0, .slice none 0 0] 32 (0, 0)) ∧ True) := ⟨HB.out.2.1.trans (hb1.mono HB.out.2.1.size), (hb1.block _ (Array.getElem?_eq_some_iff.1 HB.out.2.2.1).1).trans HB.out.2.2.1, trivial⟩
  have HN : Hid (withR p.pure { p.pure with events := insF (·.id) (⟨id, false⟩ : EventD) p.pure.events } = none) := withR_not (partB_false hno)
  clear hb1 hno
  go_wp2_with (refine wpList_store_row rfl 32 (Operand.tmp 4) (Operand.tmp 25) rfl (w.heap.size + 1) _ _ #[.int .i64 0, .int .i64 0, .slice none 0 0, .slice none 0 0, .slice none 0 0, .slice none 0 0, .slice none 0 0, .slice none 0 0] rfl rfl HZ.out.2.1 (by kernel_rfl) rfl (by kernel_rfl) ?_)
  refine bodyPost_ret (v := .tuple #[.agg #[.int .i64 0, .int .i64 0, .slice none 0 0, .slice none 0 0, .slice none 0 0, .slice none 0 0, .slice none 0 0, .slice none 0 0], .bool false]) (results_row_tmp Tryz.results37 _ _ (w.heap.size + 1) _ _ _ _ (by rfl) (setRow_heap _ _ _ _ _ _ HZ.out.2.1) Tryz.underlying32 rfl (by kernel_rfl)) rfl ?_
  exact turnRes_no HN.out (below_setRow HZ.out.1 (by omega) _)
 have HZ : Hid (Below w.heap.size w w1 ∧ w1.heap[w.heap.size + 1]? = some (.cells #[.int .i64 0, .int .i64 0, .slice none 0 0, .slice none 0 0, .slice none 0 0, .slice none 0 0, .slice none 0 0, .slice none 0 0] 32 (0, 0)) ∧ PartR S.pure ∧ OpenAt w1 W.heap.size o S ∧ S.pure = p.pure ∧ w.heap.size + 1 < W.heap.size ∧ W.heap.size ≤ w1.heap.size) := ⟨HB.out.2.1.trans (hb1.mono HB.out.2.1.size), (hb1.block _ (Array.getElem?_eq_some_iff.1 HB.out.2.2.1).1).trans HB.out.2.2.1, by rw [hpu]; exact hyes, hat, hpu, (Array.getElem?_eq_some_iff.1 HB.out.2.2.1).1, hb1.size⟩
 have c0 : w1.cell? ⟨o, 6, none⟩ = some (.int .i64 5) := hat.opn.cell 6
 have c1 : w1.cell? ⟨o, 7, none⟩ = some (.map (some S.q.be)) := hat.opn.cell 7
 have HM : Hid (partB { p.pure with events := insF (·.id) (⟨id, false⟩ : EventD) p.pure.events } = layB 5 (keysOf (fun x : EventD => x.id) S.le) id (eventB (⟨id, false⟩ : EventD))) := by
  have h5 := moreEvent (x := (⟨id, false⟩ : EventD)) HZ.out.2.2.1
  rw [hpu] at h5
  refine h5.trans ?_
  have h6 : p.pure.events = S.le.map (fun p => (fun y : EventD => y) p.1) := by rw [← hpu]; rfl
  rw [h6]
  exact (lay_more (num := (fun x : EventD => x.id)) (num' := (·.id)) (fun y : EventD => y) (fun _ => rfl) eventB (⟨id, false⟩ : EventD) 5 S.le).symm
 have hcall := layEvent_any 5 S.q.be (keysOf (fun x : EventD => x.id) S.le) (⟨id, false⟩ : EventD) w1 hat.events.map HB.out.2.2.2.2 (by have h5 := (open_fits HZ.out.2.2.1).nEvent; rw [keysOf_length]; omega) trivial
 have HLY : Hid (∀ e w', LayEnds w1 S.q.be (keysOf (fun x : EventD => x.id) S.le) (layB 5 (keysOf (fun x : EventD => x.id) S.le) id (eventB (⟨id, false⟩ : EventD))) id (eventVs (⟨id, false⟩ : EventD)) 138 e w' → LayEnds w1 S.q.be (keysOf (fun x : EventD => x.id) S.le) (partB { p.pure with events := insF (·.id) (⟨id, false⟩ : EventD) p.pure.events }) id (eventVs (⟨id, false⟩ : EventD)) 138 e w') := fun e w' h5 => by rw [HM.out]; exact h5
 simp only [eventVs] at hcall
 clear hb1 hyes hat hpu HM
 go_wp2_with fail
 refine hcall.mono ?_
 clear hcall c0 c1
 intro e w2 hE
 replace hE := HLY.out e w2 hE
 clear HLY
 cases hok : partB { p.pure with events := insF (·.id) (⟨id, false⟩ : EventD) p.pure.events }
 ·rw [hok] at hE
  obtain ⟨rfl, hb2, -⟩ := hE
  have HZ2 : Hid (Below w.heap.size w w2 ∧ w2.heap[w.heap.size + 1]? = some (.cells #[.int .i64 0, .int .i64 0, .slice none 0 0, .slice none 0 0, .slice none 0 0, .slice none 0 0, .slice none 0 0, .slice none 0 0] 32 (0, 0)) ∧ True) := ⟨HZ.out.1.trans ((hb2 rfl).mono HZ.out.1.size), ((hb2 rfl).block _ (Array.getElem?_eq_some_iff.1 HZ.out.2.1).1).trans HZ.out.2.1, trivial⟩
  have HN : Hid (withR p.pure { p.pure with events := insF (·.id) (⟨id, false⟩ : EventD) p.pure.events } = none) := withR_no hok
  clear hok hb2
  go_wp2_with (refine wpList_store_row rfl 32 (Operand.tmp 4) (Operand.tmp 25) rfl (w.heap.size + 1) _ _ #[.int .i64 0, .int .i64 0, .slice none 0 0, .slice none 0 0, .slice none 0 0, .slice none 0 0, .slice none 0 0, .slice none 0 0] rfl rfl HZ2.out.2.1 (by kernel_rfl) rfl (by kernel_rfl) ?_)
  refine bodyPost_ret (v := .tuple #[.agg #[.int .i64 0, .int .i64 0, .slice none 0 0, .slice none 0 0, .slice none 0 0, .slice none 0 0, .slice none 0 0, .slice none 0 0], .bool false]) (results_row_tmp Tryz.results37 _ _ (w.heap.size + 1) _ _ _ _ (by rfl) (setRow_heap _ _ _ _ _ _ HZ2.out.2.1) Tryz.underlying32 rfl (by kernel_rfl)) rfl ?_
  exact turnRes_no HN.out (below_setRow HZ2.out.1 (by omega) _)
 rw [hok] at hE
 obtain ⟨g, hat2, hb2⟩ := HZ.out.2.2.2.1.layEvent (x := (⟨id, false⟩ : EventD)) HZ.out.2.2.2.2.2.2 hE
 obtain ⟨rfl, -, -⟩ := hE
 have hlt := HZ.out.2.2.2.2.2.1
 have HN : Hid (withR p.pure { p.pure with events := insF (·.id) (⟨id, false⟩ : EventD) p.pure.events } = some { p.pure with events := insF (·.id) (⟨id, false⟩ : EventD) p.pure.events }) := withR_yes (by rw [← HZ.out.2.2.2.2.1]; exact partB_true HZ.out.2.2.1) hok
 have H2 : Hid (OpenAt w2 W.heap.size o ({ S with le := insT (fun x : EventD => x.id) ((⟨id, false⟩ : EventD), g) S.le } : OpenD) ∧ Below w.heap.size w w2 ∧ w2.heap[w.heap.size + 1]? = some (.cells #[.int .i64 0, .int .i64 0, .slice none 0 0, .slice none 0 0, .slice none 0 0, .slice none 0 0, .slice none 0 0, .slice none 0 0] 32 (0, 0)) ∧ W.heap.size ≤ w2.heap.size) := ⟨hat2, HZ.out.1.trans (hb2.mono (by omega)), (hb2.block _ hlt).trans HZ.out.2.1, by have := hb2.size; have := HZ.out.2.2.2.2.2.2; omega⟩
 have HF : Hid (({ S with le := insT (fun x : EventD => x.id) ((⟨id, false⟩ : EventD), g) S.le } : OpenD).pure = { p.pure with events := insF (·.id) (⟨id, false⟩ : EventD) p.pure.events } ∧ ({ S with le := insT (fun x : EventD => x.id) ((⟨id, false⟩ : EventD), g) S.le } : OpenD).Fits) := by
  have h5 := moreEvent (x := (⟨id, false⟩ : EventD)) HZ.out.2.2.1
  rw [HZ.out.2.2.2.2.1, hok] at h5
  have e1 : ({ S with le := insT (fun x : EventD => x.id) ((⟨id, false⟩ : EventD), g) S.le } : OpenD).pure = { p.pure with events := insF (·.id) (⟨id, false⟩ : EventD) p.pure.events } := by
   have h6 : p.pure.events = S.le.map (fun p => (fun y : EventD => y) p.1) := by rw [← HZ.out.2.2.2.2.1]; rfl
   have h7 : (insT (fun x : EventD => x.id) ((⟨id, false⟩ : EventD), g) S.le).map (fun p => (fun y : EventD => y) p.1) = insF (·.id) (⟨id, false⟩ : EventD) p.pure.events := by
    rw [insT_fst (num := (fun x : EventD => x.id)) (num' := (·.id)) (fun y : EventD => y) (fun _ => rfl), ← h6]
    exact (insF_is _ _ (more_not h5.symm)).symm
   rw [← HZ.out.2.2.2.2.1] at h7 ⊢
   unfold OpenD.pure at h7 ⊢
   simp only at h7 ⊢
   rw [← h7]
  exact ⟨e1, open_fits (by rw [e1]; exact (partB_iff _).1 hok)⟩
 clear hat2 hb2 hok
 go_wp2_with fail
 refine (toldPart_any o W.heap.size _ w2 H2.out.1 HF.out.2).mono ?_
 rintro e w3 ⟨r, rfl, ho3, hp3, hb3⟩
 have H3 : Hid (PartOwn w3 W.heap.size r ∧ Below w.heap.size w w3 ∧ w3.heap[w.heap.size + 1]? = some (.cells #[.int .i64 0, .int .i64 0, .slice none 0 0, .slice none 0 0, .slice none 0 0, .slice none 0 0, .slice none 0 0, .slice none 0 0] 32 (0, 0)) ∧ r.pure = { p.pure with events := insF (·.id) (⟨id, false⟩ : EventD) p.pure.events }) := ⟨ho3, H2.out.2.1.trans (hb3.mono H2.out.2.1.size), (hb3.block _ (Array.getElem?_eq_some_iff.1 H2.out.2.2.1).1).trans H2.out.2.2.1, hp3.trans HF.out.1⟩
 clear ho3 hp3 hb3
 go_wp2_with (refine wpList_store_row rfl 32 (Operand.tmp 4) (Operand.tmp 27) rfl (w.heap.size + 1) _ _ (PartD.cells r) rfl rfl H3.out.2.2.1 (by kernel_rfl) rfl (by kernel_rfl) ?_)
 refine bodyPost_ret (v := .tuple #[.agg (PartD.cells r), .bool true]) (results_row_tmp Tryz.results37 _ _ (w.heap.size + 1) _ _ _ _ (by rfl) (setRow_heap _ _ _ _ _ _ H3.out.2.2.1) Tryz.underlying32 rfl (by kernel_rfl)) rfl ?_
 rw [HN.out]
 exact ⟨r, rfl, (H3.out.1.lower (by omega)).same fun b hb => setRow_other _ _ _ _ (by have := (H3.out.1.lt b hb).1; omega), H3.out.2.2.2, below_setRow H3.out.2.1 (by omega) _⟩

end Go.Proofs.YtkbcplnlehdjfaaGreat

/- What the specification's With.. do in memory: a list appended to one of the call's own; a list of a partition that is made anew. -/
namespace Go.Proofs.YtkbcplnlehdjfaaGreat
open Go.RowKit Go.Maps

/-- What is appended lies anywhere: at its address, or there is nothing. -/
def SrcAt (w : World) (a : Option Addr) (xs : List Value) : Prop := ∀ j u, xs[j]? = some u → ∃ ad, a = some ad ∧ w.cell? (ad.add j) = some u
theorem SrcAt.nil {w : World} {a : Option Addr} : SrcAt w a [] := fun j u hu => by cases hu
theorem SrcAt.none {w : World} {xs : List Value} (h : SrcAt w none xs) : xs = [] := by
 cases xs with
 | nil => rfl
 | cons u r =>
  obtain ⟨ad, e, _⟩ := h 0 u rfl
  cases e
theorem append_more {P : Program} (w : World) (base : Nat) (t ty e : TypeId) (i : TypeInfo) (z : Value) (size bytes : Nat) (ht : P.underlying t = some (.slice e)) (hi : P.info? e = some i) (hz : i.zero = some z)
  (hsize : i.size = size) (hby : i.bytes = bytes) (hzs : z.cells.size = size) (hsz : 0 < size) (a0 : Option Addr) (n0 c0 : Nat) (ys : List Value) (ho : w.ownsRow base e size (.slice a0 n0 c0) n0 ys)
  (a : Option Addr) (n cap : Nat) (xs : List Value) (h : SrcAt w a xs) (hl : xs.length = n * size) (h1 : ∀ u ∈ xs, u.oneCell' = true) (h63 : n0 + n ≤ 4000000) (hb : bytes ≤ 1000) (hbw : base ≤ w.heap.size) :
  ∃ a' cap' w', (Builtin.append_ #[t, t] ty #[.slice a0 n0 c0, .slice a n cap]).run P w = .ok (.slice a' (n0 + n) cap') w' ∧ w'.ownsRow base e size (.slice a' (n0 + n) cap') (n0 + n) (ys ++ xs) ∧ w.grownBy w' (Value.slice a0 n0 c0).ownBlock ∧ ∀ g ∈ blk a', g ∈ blk a0 ∨ g = w.heap.size := by
 cases a with
 | none =>
  have hx := h.none
  subst hx
  have hn : n = 0 := by
   cases n with
   | zero => rfl
   | succ n => simp only [List.length_nil, Nat.succ_mul] at hl; omega
  subst hn
  refine ⟨a0, c0, w, ?_, by simpa using ho, ⟨rfl, rfl, rfl, Nat.le_refl _, fun _ _ _ => rfl⟩, fun g hg => .inl hg⟩
  have hc : n0 ≤ c0 := by
   obtain ⟨-, ⟨e1, e2⟩ | ⟨g, c, cur, e1, -, -, h5, -⟩⟩ := ho
   ·cases e1; exact Nat.le_refl _
   ·cases e1; exact h5
  cases a0 <;> simp [Builtin.append_, run_underlying ht, sizeOf, typeInfo, hi, Builtin.lenOf, Builtin.firstCells, storeCells, hc]
 | some ad =>
  have hnews : ∀ j u, xs[j]? = some u → w.cell? (ad.add j) = some u := fun j u hu => by
   obtain ⟨ad', e', hc⟩ := h j u hu
   cases e'
   exact hc
  obtain ⟨v', w', hr, ho', hgr, -, hbl⟩ := run_append_own_at (P := P) w base t ty e i z size bytes ht hi hz hsize hby hzs hsz (.slice a0 n0 c0) n0 ys ho ad n cap xs hl hnews h1 (by unfold maxLen; omega) (by have := Nat.mul_le_mul h63 hb; omega) hbw
  obtain ⟨a', cap', rfl, -⟩ := own_form ho'
  refine ⟨a', cap', w', hr, ho', hgr, fun g hg => ?_⟩
  rw [mem_blk] at hg ⊢
  cases a' with
  | none => cases hg
  | some ad' =>
   simp only [Option.map_some, Option.some.injEq] at hg
   subst hg
   rcases hbl with hbl | hbl
   ·refine .inl ?_
    cases a0 with
    | none => cases hbl
    | some ad0 => simpa [Value.ownBlock] using hbl.symm
   ·exact .inr (by simpa [Value.ownBlock] using hbl)
theorem nodup_swap {Z A A' R : List Nat} (h : (Z ++ (A ++ R)).Nodup) (hA : A'.Nodup) (h1 : ∀ g ∈ A', g ∉ Z ++ (A ++ R)) : (Z ++ (A' ++ R)).Nodup := by
 simp only [List.mem_append, not_or] at h1
 simp only [List.nodup_append, List.mem_append] at h ⊢
 obtain ⟨hz, ⟨-, hR, -⟩, hzz⟩ := h
 refine ⟨hz, ⟨hA, hR, fun a ha b hb e => (h1 a ha).2.2 (e ▸ hb)⟩, fun a ha b hb e => ?_⟩
 rcases hb with hb | hb
 ·exact (h1 b hb).1 (e ▸ ha)
 ·exact hzz a ha b (.inr hb) e
theorem add_more (g m j : Nat) : (⟨g, m, none⟩ : Addr).add j = ⟨g, m + j, none⟩ := by unfold Addr.add; split <;> simp_all
/-- A piece of a row. -/
theorem drop_src {α : Type} {K : Kind α} {w : World} {a : Option Addr} {l : List α} (k : Nat) (h : Row w a (K.flat l)) : SrcAt w (a.map (·.add (k * K.n))) (K.flat (l.drop k)) := fun j u hu => by
 by_cases hk : k ≤ l.length
 ·have e : K.flat l = K.flat (l.take k) ++ K.flat (l.drop k) := by rw [← K.flat_append, List.take_append_drop]
  have hl : (K.flat (l.take k)).length = k * K.n := by rw [K.flat_length, List.length_take, Nat.min_eq_left hk]
  have hu2 : (K.flat l)[k * K.n + j]? = some u := by
   rw [e, List.getElem?_append_right (by omega), hl, Nat.add_sub_cancel_left]
   exact hu
  obtain ⟨g, rfl, hc⟩ := h _ u hu2
  exact ⟨⟨g, k * K.n, none⟩, by rw [Option.map_some, add_off], by rw [add_more]; exact hc⟩
 ·rw [List.drop_eq_nil_of_le (by omega)] at hu
  cases hu
theorem row_src {w : World} {a : Option Addr} {xs : List Value} (h : Row w a xs) : SrcAt w a xs := fun j u hu => by
 obtain ⟨g, rfl, hc⟩ := h j u hu
 exact ⟨_, rfl, by rw [add_off]; exact hc⟩
theorem take_src {α : Type} {K : Kind α} {w : World} {a : Option Addr} {l : List α} (k : Nat) (h : Row w a (K.flat l)) : SrcAt w a (K.flat (l.take k)) := fun j u hu => by
 have e : K.flat l = K.flat (l.take k) ++ K.flat (l.drop k) := by rw [← K.flat_append, List.take_append_drop]
 have hu2 : (K.flat l)[j]? = some u := by
  rw [e, List.getElem?_append_left (List.getElem?_eq_some_iff.1 hu).1]
  exact hu
 exact row_src h j u hu2
theorem more_sem (w : World) (base : Nat) (a0 : Option Addr) (c0 : Nat) (l0 : List SemD) (ho : w.ownsRow base 49 3 (.slice a0 l0.length c0) l0.length (semK.flat l0)) (a : Option Addr) (l : List SemD) (cap : Nat) (h : SrcAt w a (semK.flat l)) (hl : l0.length + l.length ≤ 4000000) (hbw : base ≤ w.heap.size) :
  ∃ a' cap' w', (Builtin.append_ #[26, 26] 26 #[.slice a0 l0.length c0, .slice a l.length cap]).run Tryz.prog w = .ok (.slice a' (l0.length + l.length) cap') w' ∧ w'.ownsRow base 49 3 (.slice a' (l0.length + l.length) cap') (l0.length + l.length) (semK.flat (l0 ++ l)) ∧ w.grownBy w' (Value.slice a0 l0.length c0).ownBlock ∧ ∀ g ∈ blk a', g ∈ blk a0 ∨ g = w.heap.size := by
 obtain ⟨i, hi, e⟩ := Option.map_eq_some_iff.1 rinfSem
 simp only [Prod.mk.injEq] at e
 rw [semK.flat_append]
 exact append_more w base _ _ 49 i _ 3 24 Tryz.underlying26 hi e.1 e.2.1 e.2.2 rfl (by decide) a0 l0.length c0 _ ho a l.length cap _ h (semK.flat_length l) one_sem hl (by decide) hbw
theorem PartOwn.newSem {w w' : World} {base B : Nat} {q : PartD} {l : List SemD} {a' : Option Addr} {c' : Nat} (h : PartOwn w base q) (hb : base ≤ B) (hB : ∀ g ∈ q.blocks, g < B) (hs : ∀ g ∈ q.blocks, w'.heap[g]? = w.heap[g]?)
  (ho : w'.ownsRow B 49 3 (.slice a' l.length c') l.length (semK.flat l)) : PartOwn w' base ({ q with sems := l, semA := a', semC := c' } : PartD) := by
 refine ⟨own_same h.procs fun g hg => hs g (by simp [PartD.blocks, hg]), own_low ho hb, own_same h.events fun g hg => hs g (by simp [PartD.blocks, hg]), own_same h.boards fun g hg => hs g (by simp [PartD.blocks, hg]), own_same h.buffers fun g hg => hs g (by simp [PartD.blocks, hg]), own_same h.ports fun g hg => hs g (by simp [PartD.blocks, hg]), fun x hx => (h.mineP x hx).same fun g hg => hs g ?_, fun x hx => (h.mineF x hx).same fun g hg => hs g ?_, fun x hx => (h.mineQ x hx).same fun g hg => hs g ?_, ?_⟩
 ·simp only [PartD.blocks, List.mem_append, List.mem_filterMap]
  exact .inr (.inl ⟨x, hx, hg⟩)
 ·simp only [PartD.blocks, List.mem_append, List.mem_filterMap]
  exact .inr (.inr (.inr (.inr (.inr (.inr (.inl ⟨x, hx, hg⟩))))))
 ·simp only [PartD.blocks, List.mem_append, List.mem_filterMap]
  exact .inr (.inr (.inr (.inr (.inr (.inr (.inr (.inr ⟨x, hx, hg⟩)))))))
 ·have h5 := h.nodup
  have h6 : ∀ g ∈ blk a', g ∉ q.blocks := fun g hg hm => by have := (own_lt ho hg).1; have := hB g hm; omega
  have e1 : ∀ (a2 : Option Addr) (l2 : List SemD) (c2 : Nat), ({ q with sems := l2, semA := a2, semC := c2 } : PartD).blocks = (blk q.procA ++ q.procs.filterMap procN.kid) ++ (blk a2 ++ (blk q.eventA ++ (blk q.boardA ++ (blk q.bufferA ++ (q.buffers.filterMap bufferN.kid ++ (blk q.portA ++ q.ports.filterMap portN.kid)))))) := fun _ _ _ => by simp [PartD.blocks]
  have e2 := e1 q.semA q.sems q.semC
  rw [e1]
  have e3 : q.blocks = (blk q.procA ++ q.procs.filterMap procN.kid) ++ (blk q.semA ++ (blk q.eventA ++ (blk q.boardA ++ (blk q.bufferA ++ (q.buffers.filterMap bufferN.kid ++ (blk q.portA ++ q.ports.filterMap portN.kid)))))) := e2
  rw [e3] at h5 h6
  exact nodup_swap h5 (blk_nodup _) h6
theorem more_event (w : World) (base : Nat) (a0 : Option Addr) (c0 : Nat) (l0 : List EventD) (ho : w.ownsRow base 138 2 (.slice a0 l0.length c0) l0.length (eventK.flat l0)) (a : Option Addr) (l : List EventD) (cap : Nat) (h : SrcAt w a (eventK.flat l)) (hl : l0.length + l.length ≤ 4000000) (hbw : base ≤ w.heap.size) :
  ∃ a' cap' w', (Builtin.append_ #[27, 27] 27 #[.slice a0 l0.length c0, .slice a l.length cap]).run Tryz.prog w = .ok (.slice a' (l0.length + l.length) cap') w' ∧ w'.ownsRow base 138 2 (.slice a' (l0.length + l.length) cap') (l0.length + l.length) (eventK.flat (l0 ++ l)) ∧ w.grownBy w' (Value.slice a0 l0.length c0).ownBlock ∧ ∀ g ∈ blk a', g ∈ blk a0 ∨ g = w.heap.size := by
 obtain ⟨i, hi, e⟩ := Option.map_eq_some_iff.1 rinfEvent
 simp only [Prod.mk.injEq] at e
 rw [eventK.flat_append]
 exact append_more w base _ _ 138 i _ 2 16 Tryz.underlying27 hi e.1 e.2.1 e.2.2 rfl (by decide) a0 l0.length c0 _ ho a l.length cap _ h (eventK.flat_length l) one_event hl (by decide) hbw
theorem PartOwn.newEvent {w w' : World} {base B : Nat} {q : PartD} {l : List EventD} {a' : Option Addr} {c' : Nat} (h : PartOwn w base q) (hb : base ≤ B) (hB : ∀ g ∈ q.blocks, g < B) (hs : ∀ g ∈ q.blocks, w'.heap[g]? = w.heap[g]?)
  (ho : w'.ownsRow B 138 2 (.slice a' l.length c') l.length (eventK.flat l)) : PartOwn w' base ({ q with events := l, eventA := a', eventC := c' } : PartD) := by
 refine ⟨own_same h.procs fun g hg => hs g (by simp [PartD.blocks, hg]), own_same h.sems fun g hg => hs g (by simp [PartD.blocks, hg]), own_low ho hb, own_same h.boards fun g hg => hs g (by simp [PartD.blocks, hg]), own_same h.buffers fun g hg => hs g (by simp [PartD.blocks, hg]), own_same h.ports fun g hg => hs g (by simp [PartD.blocks, hg]), fun x hx => (h.mineP x hx).same fun g hg => hs g ?_, fun x hx => (h.mineF x hx).same fun g hg => hs g ?_, fun x hx => (h.mineQ x hx).same fun g hg => hs g ?_, ?_⟩
 ·simp only [PartD.blocks, List.mem_append, List.mem_filterMap]
  exact .inr (.inl ⟨x, hx, hg⟩)
 ·simp only [PartD.blocks, List.mem_append, List.mem_filterMap]
  exact .inr (.inr (.inr (.inr (.inr (.inr (.inl ⟨x, hx, hg⟩))))))
 ·simp only [PartD.blocks, List.mem_append, List.mem_filterMap]
  exact .inr (.inr (.inr (.inr (.inr (.inr (.inr (.inr ⟨x, hx, hg⟩)))))))
 ·have h5 := h.nodup
  have h6 : ∀ g ∈ blk a', g ∉ q.blocks := fun g hg hm => by have := (own_lt ho hg).1; have := hB g hm; omega
  have e1 : ∀ (a2 : Option Addr) (l2 : List EventD) (c2 : Nat), ({ q with events := l2, eventA := a2, eventC := c2 } : PartD).blocks = (blk q.procA ++ (q.procs.filterMap procN.kid ++ blk q.semA)) ++ (blk a2 ++ (blk q.boardA ++ (blk q.bufferA ++ (q.buffers.filterMap bufferN.kid ++ (blk q.portA ++ q.ports.filterMap portN.kid))))) := fun _ _ _ => by simp [PartD.blocks]
  have e2 := e1 q.eventA q.events q.eventC
  rw [e1]
  have e3 : q.blocks = (blk q.procA ++ (q.procs.filterMap procN.kid ++ blk q.semA)) ++ (blk q.eventA ++ (blk q.boardA ++ (blk q.bufferA ++ (q.buffers.filterMap bufferN.kid ++ (blk q.portA ++ q.ports.filterMap portN.kid))))) := e2
  rw [e3] at h5 h6
  exact nodup_swap h5 (blk_nodup _) h6
theorem more_board (w : World) (base : Nat) (a0 : Option Addr) (c0 : Nat) (l0 : List BoardD) (ho : w.ownsRow base 141 3 (.slice a0 l0.length c0) l0.length (boardK.flat l0)) (a : Option Addr) (l : List BoardD) (cap : Nat) (h : SrcAt w a (boardK.flat l)) (hl : l0.length + l.length ≤ 4000000) (hbw : base ≤ w.heap.size) :
  ∃ a' cap' w', (Builtin.append_ #[28, 28] 28 #[.slice a0 l0.length c0, .slice a l.length cap]).run Tryz.prog w = .ok (.slice a' (l0.length + l.length) cap') w' ∧ w'.ownsRow base 141 3 (.slice a' (l0.length + l.length) cap') (l0.length + l.length) (boardK.flat (l0 ++ l)) ∧ w.grownBy w' (Value.slice a0 l0.length c0).ownBlock ∧ ∀ g ∈ blk a', g ∈ blk a0 ∨ g = w.heap.size := by
 obtain ⟨i, hi, e⟩ := Option.map_eq_some_iff.1 rinfBoard
 simp only [Prod.mk.injEq] at e
 rw [boardK.flat_append]
 exact append_more w base _ _ 141 i _ 3 32 Tryz.underlying28 hi e.1 e.2.1 e.2.2 rfl (by decide) a0 l0.length c0 _ ho a l.length cap _ h (boardK.flat_length l) one_board hl (by decide) hbw
theorem PartOwn.newBoard {w w' : World} {base B : Nat} {q : PartD} {l : List BoardD} {a' : Option Addr} {c' : Nat} (h : PartOwn w base q) (hb : base ≤ B) (hB : ∀ g ∈ q.blocks, g < B) (hs : ∀ g ∈ q.blocks, w'.heap[g]? = w.heap[g]?)
  (ho : w'.ownsRow B 141 3 (.slice a' l.length c') l.length (boardK.flat l)) : PartOwn w' base ({ q with boards := l, boardA := a', boardC := c' } : PartD) := by
 refine ⟨own_same h.procs fun g hg => hs g (by simp [PartD.blocks, hg]), own_same h.sems fun g hg => hs g (by simp [PartD.blocks, hg]), own_same h.events fun g hg => hs g (by simp [PartD.blocks, hg]), own_low ho hb, own_same h.buffers fun g hg => hs g (by simp [PartD.blocks, hg]), own_same h.ports fun g hg => hs g (by simp [PartD.blocks, hg]), fun x hx => (h.mineP x hx).same fun g hg => hs g ?_, fun x hx => (h.mineF x hx).same fun g hg => hs g ?_, fun x hx => (h.mineQ x hx).same fun g hg => hs g ?_, ?_⟩
 ·simp only [PartD.blocks, List.mem_append, List.mem_filterMap]
  exact .inr (.inl ⟨x, hx, hg⟩)
 ·simp only [PartD.blocks, List.mem_append, List.mem_filterMap]
  exact .inr (.inr (.inr (.inr (.inr (.inr (.inl ⟨x, hx, hg⟩))))))
 ·simp only [PartD.blocks, List.mem_append, List.mem_filterMap]
  exact .inr (.inr (.inr (.inr (.inr (.inr (.inr (.inr ⟨x, hx, hg⟩)))))))
 ·have h5 := h.nodup
  have h6 : ∀ g ∈ blk a', g ∉ q.blocks := fun g hg hm => by have := (own_lt ho hg).1; have := hB g hm; omega
  have e1 : ∀ (a2 : Option Addr) (l2 : List BoardD) (c2 : Nat), ({ q with boards := l2, boardA := a2, boardC := c2 } : PartD).blocks = (blk q.procA ++ (q.procs.filterMap procN.kid ++ (blk q.semA ++ blk q.eventA))) ++ (blk a2 ++ (blk q.bufferA ++ (q.buffers.filterMap bufferN.kid ++ (blk q.portA ++ q.ports.filterMap portN.kid)))) := fun _ _ _ => by simp [PartD.blocks]
  have e2 := e1 q.boardA q.boards q.boardC
  rw [e1]
  have e3 : q.blocks = (blk q.procA ++ (q.procs.filterMap procN.kid ++ (blk q.semA ++ blk q.eventA))) ++ (blk q.boardA ++ (blk q.bufferA ++ (q.buffers.filterMap bufferN.kid ++ (blk q.portA ++ q.ports.filterMap portN.kid)))) := e2
  rw [e3] at h5 h6
  exact nodup_swap h5 (blk_nodup _) h6
theorem own_cap {w : World} {base size n c : Nat} {e : TypeId} {a : Option Addr} {xs : List Value} (h : w.ownsRow base e size (.slice a n c) n xs) : n ≤ c := by
 obtain ⟨-, ⟨e1, e2⟩ | ⟨g, c', cur, e1, -, -, h5, -⟩⟩ := h
 ·cases e1; exact Nat.le_refl _
 ·cases e1; exact h5
theorem src_block {w : World} {g : Nat} {cs : Array Value} {t : TypeId} {fz : Nat × Nat} (h : w.heap[g]? = some (.cells cs t fz)) : SrcAt w (some ⟨g, 0, none⟩) cs.toList := fun j u hu => ⟨_, rfl, by rw [add_off]; simp only [World.cell?, h]; simpa using hu⟩
theorem setCell_size {w : World} {o i : Nat} {v : Value} : (w.setCell ⟨o, i, none⟩ v).heap.size = w.heap.size := setAllW_size [v]
theorem tail_src {α : Type} {K : Kind α} {w : World} {a : Option Addr} {l : List α} {k c : Nat} (hk : l.length ≤ c) (h : Row w a (K.flat l)) : SrcAt w (if c = k then a else Option.map (fun x => x.add (k * K.n)) a) (K.flat (l.drop k)) := by
 split
 ·rw [List.drop_eq_nil_of_le (by omega)]
  exact SrcAt.nil
 ·exact drop_src k h
theorem withR_ok {p p' : PartP} (h : (partB p && partB p') = true) : withR p p' = some p' := if_pos h
theorem withR_bad {p p' : PartP} (h : (partB p && partB p') = false) : withR p p' = none := if_neg (by rw [h]; decide)
theorem at_ways {α : Type} (num : α → Int) (id : Int) (l : List α) (k : Nat) : (∃ x, l[k]? = some x ∧ num x < id ∧ k < l.length) ∨ (∃ x, l[k]? = some x ∧ ¬ num x < id ∧ k < l.length) ∨ ¬ k < l.length := by
 by_cases h : k < l.length
 ·by_cases h2 : num l[k] < id
  ·exact .inl ⟨_, List.getElem?_eq_getElem h, h2, h⟩
  ·exact .inr (.inl ⟨_, List.getElem?_eq_getElem h, h2, h⟩)
 ·exact .inr (.inr h)

end Go.Proofs.YtkbcplnlehdjfaaGreat

/- The specification's l3Checked. (Made by mkl3chk.py.) -/
namespace Go.Proofs.YtkbcplnlehdjfaaGreat
open Go.RowKit Go.Maps
attribute [local go_sem ↓] Go.wp_at_zero Go.wp_at_succ

set_option maxRecDepth 100000 in
set_option maxHeartbeats 4000000 in
theorem l3Checked_any (p q : PartD) (w : World) (hp : p.Fit ∧ (∀ x ∈ p.procs, x.Short) ∧ PartD.At w p) (hq : partB p.pure = true → q.Fit ∧ (∀ x ∈ q.procs, x.Short) ∧ PartD.At w q) :
  Calls Tryz.prog 87 #[.agg p.cells, .agg q.cells] w fun e w' => Below w.heap.size w w' ∧ (((partB p.pure && partB q.pure) = true ∧ e = .returned (.tuple #[.agg q.cells, .bool true])) ∨ ((partB p.pure && partB q.pure) = false ∧ e = .returned (.tuple #[.agg #[.int .i64 0, .int .i64 0, .slice none 0 0, .slice none 0 0, .slice none 0 0, .slice none 0 0, .slice none 0 0, .slice none 0 0], .bool false]))) := by
 have HB : Hid (Below w.heap.size w (((w.alloc (.cells #[.int .i64 p.id, .int .i64 p.next, .slice p.procA p.procs.length p.procC, .slice p.semA p.sems.length p.semC, .slice p.eventA p.events.length p.eventC, .slice p.boardA p.boards.length p.boardC, .slice p.bufferA p.buffers.length p.bufferC, .slice p.portA p.ports.length p.portC] 32)).alloc (.cells #[.int .i64 q.id, .int .i64 q.next, .slice q.procA q.procs.length q.procC, .slice q.semA q.sems.length q.semC, .slice q.eventA q.events.length q.eventC, .slice q.boardA q.boards.length q.boardC, .slice q.bufferA q.buffers.length q.bufferC, .slice q.portA q.ports.length q.portC] 32)).alloc (.cells #[.int .i64 0, .int .i64 0, .slice none 0 0, .slice none 0 0, .slice none 0 0, .slice none 0 0, .slice none 0 0, .slice none 0 0] 32)) ∧ PartBox (((w.alloc (.cells #[.int .i64 p.id, .int .i64 p.next, .slice p.procA p.procs.length p.procC, .slice p.semA p.sems.length p.semC, .slice p.eventA p.events.length p.eventC, .slice p.boardA p.boards.length p.boardC, .slice p.bufferA p.buffers.length p.bufferC, .slice p.portA p.ports.length p.portC] 32)).alloc (.cells #[.int .i64 q.id, .int .i64 q.next, .slice q.procA q.procs.length q.procC, .slice q.semA q.sems.length q.semC, .slice q.eventA q.events.length q.eventC, .slice q.boardA q.boards.length q.boardC, .slice q.bufferA q.buffers.length q.bufferC, .slice q.portA q.ports.length q.portC] 32)).alloc (.cells #[.int .i64 0, .int .i64 0, .slice none 0 0, .slice none 0 0, .slice none 0 0, .slice none 0 0, .slice none 0 0, .slice none 0 0] 32)) w.heap.size p ∧ PartBox (((w.alloc (.cells #[.int .i64 p.id, .int .i64 p.next, .slice p.procA p.procs.length p.procC, .slice p.semA p.sems.length p.semC, .slice p.eventA p.events.length p.eventC, .slice p.boardA p.boards.length p.boardC, .slice p.bufferA p.buffers.length p.bufferC, .slice p.portA p.ports.length p.portC] 32)).alloc (.cells #[.int .i64 q.id, .int .i64 q.next, .slice q.procA q.procs.length q.procC, .slice q.semA q.sems.length q.semC, .slice q.eventA q.events.length q.eventC, .slice q.boardA q.boards.length q.boardC, .slice q.bufferA q.buffers.length q.bufferC, .slice q.portA q.ports.length q.portC] 32)).alloc (.cells #[.int .i64 0, .int .i64 0, .slice none 0 0, .slice none 0 0, .slice none 0 0, .slice none 0 0, .slice none 0 0, .slice none 0 0] 32)) (w.heap.size + 1) q ∧ (((w.alloc (.cells #[.int .i64 p.id, .int .i64 p.next, .slice p.procA p.procs.length p.procC, .slice p.semA p.sems.length p.semC, .slice p.eventA p.events.length p.eventC, .slice p.boardA p.boards.length p.boardC, .slice p.bufferA p.buffers.length p.bufferC, .slice p.portA p.ports.length p.portC] 32)).alloc (.cells #[.int .i64 q.id, .int .i64 q.next, .slice q.procA q.procs.length q.procC, .slice q.semA q.sems.length q.semC, .slice q.eventA q.events.length q.eventC, .slice q.boardA q.boards.length q.boardC, .slice q.bufferA q.buffers.length q.bufferC, .slice q.portA q.ports.length q.portC] 32)).alloc (.cells #[.int .i64 0, .int .i64 0, .slice none 0 0, .slice none 0 0, .slice none 0 0, .slice none 0 0, .slice none 0 0, .slice none 0 0] 32)).heap[w.heap.size + 2]? = some (.cells #[.int .i64 0, .int .i64 0, .slice none 0 0, .slice none 0 0, .slice none 0 0, .slice none 0 0, .slice none 0 0, .slice none 0 0] 32 (0, 0))) := by
  refine ⟨(((Below.refl _ _).alloc (Nat.le_refl _) _).alloc (by simp) _).alloc (by simp; omega) _, ?_, ?_, ?_⟩
  ·exact (heap_alloc_old _ _ (by simp; omega)).trans ((heap_alloc_old _ _ (by simp)).trans (heap_alloc_new _ _))
  ·exact (heap_alloc_old _ _ (by simp)).trans (by simpa using heap_alloc_new (w.alloc (.cells #[.int .i64 p.id, .int .i64 p.next, .slice p.procA p.procs.length p.procC, .slice p.semA p.sems.length p.semC, .slice p.eventA p.events.length p.eventC, .slice p.boardA p.boards.length p.boardC, .slice p.bufferA p.buffers.length p.bufferC, .slice p.portA p.ports.length p.portC] 32)) _)
  ·simpa using heap_alloc_new ((w.alloc (.cells #[.int .i64 p.id, .int .i64 p.next, .slice p.procA p.procs.length p.procC, .slice p.semA p.sems.length p.semC, .slice p.eventA p.events.length p.eventC, .slice p.boardA p.boards.length p.boardC, .slice p.bufferA p.buffers.length p.bufferC, .slice p.portA p.ports.length p.portC] 32)).alloc (.cells #[.int .i64 q.id, .int .i64 q.next, .slice q.procA q.procs.length q.procC, .slice q.semA q.sems.length q.semC, .slice q.eventA q.events.length q.eventC, .slice q.boardA q.boards.length q.boardC, .slice q.bufferA q.buffers.length q.bufferC, .slice q.portA q.ports.length q.portC] 32)) _
 have HP : Hid (p.Fit ∧ (∀ x ∈ p.procs, x.Short) ∧ PartD.At w p) := hp
 have HQ : Hid (partB p.pure = true → q.Fit ∧ (∀ x ∈ q.procs, x.Short) ∧ PartD.At w q) := hq
 clear hp hq
 obtain ⟨m0, m1, m2, m3, m4, m5, m6, m7⟩ := HB.out.2.1.cells
 obtain ⟨k0, k1, k2, k3, k4, k5, k6, k7⟩ := HB.out.2.2.1.cells
 unfold PartD.cells
 go_enter Tryz.func87, Tryz.ntmps87
 go_wp2_with fail
 generalize ((w.alloc (.cells #[.int .i64 p.id, .int .i64 p.next, .slice p.procA p.procs.length p.procC, .slice p.semA p.sems.length p.semC, .slice p.eventA p.events.length p.eventC, .slice p.boardA p.boards.length p.boardC, .slice p.bufferA p.buffers.length p.bufferC, .slice p.portA p.ports.length p.portC] 32)).alloc (.cells #[.int .i64 q.id, .int .i64 q.next, .slice q.procA q.procs.length q.procC, .slice q.semA q.sems.length q.semC, .slice q.eventA q.events.length q.eventC, .slice q.boardA q.boards.length q.boardC, .slice q.bufferA q.buffers.length q.bufferC, .slice q.portA q.ports.length q.portC] 32)).alloc (.cells #[.int .i64 0, .int .i64 0, .slice none 0 0, .slice none 0 0, .slice none 0 0, .slice none 0 0, .slice none 0 0, .slice none 0 0] 32) = W at *
 clear m0 m1 m2 m3 m4 m5 m6 m7 k0 k1 k2 k3 k4 k5 k6 k7
 refine (specPartOk_any p W HP.out.1 HP.out.2.1 (HP.out.2.2.below HB.out.1)).mono ?_
 rintro e W1 ⟨rfl, hb⟩
 replace HB : Hid (Below w.heap.size w W1 ∧ PartBox W1 w.heap.size p ∧ PartBox W1 (w.heap.size + 1) q ∧ W1.heap[w.heap.size + 2]? = some (.cells #[.int .i64 0, .int .i64 0, .slice none 0 0, .slice none 0 0, .slice none 0 0, .slice none 0 0, .slice none 0 0, .slice none 0 0] 32 (0, 0))) := ⟨HB.out.1.trans (hb.mono HB.out.1.size), HB.out.2.1.below hb, HB.out.2.2.1.below hb, (hb.block _ (Array.getElem?_eq_some_iff.1 HB.out.2.2.2).1).trans HB.out.2.2.2⟩
 clear hb
 obtain ⟨k0, k1, k2, k3, k4, k5, k6, k7⟩ := HB.out.2.2.1.cells
 cases h4 : partB p.pure
 ·have H4 : Hid (partB p.pure = false) := h4
  clear h4
  go_wp2_with (refine wpList_store_row rfl 32 (Operand.tmp 4) (Operand.tmp 14) rfl (w.heap.size + 2) _ _ #[.int .i64 0, .int .i64 0, .slice none 0 0, .slice none 0 0, .slice none 0 0, .slice none 0 0, .slice none 0 0, .slice none 0 0] rfl rfl HB.out.2.2.2 (by kernel_rfl) rfl (by kernel_rfl) ?_)
  refine bodyPost_ret (v := .tuple #[.agg #[.int .i64 0, .int .i64 0, .slice none 0 0, .slice none 0 0, .slice none 0 0, .slice none 0 0, .slice none 0 0, .slice none 0 0], .bool false]) (results_row_tmp Tryz.results87 _ _ (w.heap.size + 2) _ _ _ _ (by rfl) (setRow_heap _ _ _ _ _ _ HB.out.2.2.2) Tryz.underlying32 rfl (by kernel_rfl)) rfl ?_
  exact ⟨below_setRow HB.out.1 (by omega) _, .inr ⟨by rw [H4.out]; rfl, rfl⟩⟩
 have H4 : Hid (partB p.pure = true) := h4
 clear h4
 go_wp2_with fail
 clear k0 k1 k2 k3 k4 k5 k6 k7
 refine (specPartOk_any q W1 (HQ.out H4.out).1 (HQ.out H4.out).2.1 ((HQ.out H4.out).2.2.below HB.out.1)).mono ?_
 rintro e W2 ⟨rfl, hb⟩
 replace HB : Hid (Below w.heap.size w W2 ∧ PartBox W2 w.heap.size p ∧ PartBox W2 (w.heap.size + 1) q ∧ W2.heap[w.heap.size + 2]? = some (.cells #[.int .i64 0, .int .i64 0, .slice none 0 0, .slice none 0 0, .slice none 0 0, .slice none 0 0, .slice none 0 0, .slice none 0 0] 32 (0, 0))) := ⟨HB.out.1.trans (hb.mono HB.out.1.size), HB.out.2.1.below hb, HB.out.2.2.1.below hb, (hb.block _ (Array.getElem?_eq_some_iff.1 HB.out.2.2.2).1).trans HB.out.2.2.2⟩
 clear hb
 obtain ⟨k0, k1, k2, k3, k4, k5, k6, k7⟩ := HB.out.2.2.1.cells
 cases h5 : partB q.pure
 ·have H5 : Hid (partB q.pure = false) := h5
  clear h5
  go_wp2_with (refine wpList_store_row rfl 32 (Operand.tmp 4) (Operand.tmp 14) rfl (w.heap.size + 2) _ _ #[.int .i64 0, .int .i64 0, .slice none 0 0, .slice none 0 0, .slice none 0 0, .slice none 0 0, .slice none 0 0, .slice none 0 0] rfl rfl HB.out.2.2.2 (by kernel_rfl) rfl (by kernel_rfl) ?_)
  refine bodyPost_ret (v := .tuple #[.agg #[.int .i64 0, .int .i64 0, .slice none 0 0, .slice none 0 0, .slice none 0 0, .slice none 0 0, .slice none 0 0, .slice none 0 0], .bool false]) (results_row_tmp Tryz.results87 _ _ (w.heap.size + 2) _ _ _ _ (by rfl) (setRow_heap _ _ _ _ _ _ HB.out.2.2.2) Tryz.underlying32 rfl (by kernel_rfl)) rfl ?_
  exact ⟨below_setRow HB.out.1 (by omega) _, .inr ⟨by rw [H4.out, H5.out]; rfl, rfl⟩⟩
 have H5 : Hid (partB q.pure = true) := h5
 clear h5
 go_wp2_with (refine wpList_store_row rfl 32 (Operand.tmp 4) (Operand.tmp 15) rfl (w.heap.size + 2) _ _ #[.int .i64 q.id, .int .i64 q.next, .slice q.procA q.procs.length q.procC, .slice q.semA q.sems.length q.semC, .slice q.eventA q.events.length q.eventC, .slice q.boardA q.boards.length q.boardC, .slice q.bufferA q.buffers.length q.bufferC, .slice q.portA q.ports.length q.portC] rfl rfl HB.out.2.2.2 (by kernel_rfl) rfl (by kernel_rfl) ?_)
 refine bodyPost_ret (v := .tuple #[.agg #[.int .i64 q.id, .int .i64 q.next, .slice q.procA q.procs.length q.procC, .slice q.semA q.sems.length q.semC, .slice q.eventA q.events.length q.eventC, .slice q.boardA q.boards.length q.boardC, .slice q.bufferA q.buffers.length q.bufferC, .slice q.portA q.ports.length q.portC], .bool true]) (results_row_tmp Tryz.results87 _ _ (w.heap.size + 2) _ _ _ _ (by rfl) (setRow_heap _ _ _ _ _ _ HB.out.2.2.2) Tryz.underlying32 rfl (by kernel_rfl)) rfl ?_
 exact ⟨below_setRow HB.out.1 (by omega) _, .inl ⟨by rw [H4.out, H5.out]; rfl, rfl⟩⟩

end Go.Proofs.YtkbcplnlehdjfaaGreat

/- A thing of the kind Event laid in: the specification. (Made by mkwiths.py.) -/
namespace Go.Proofs.YtkbcplnlehdjfaaGreat
open Go.RowKit Go.Maps
attribute [local go_sem ↓] Go.wp_at_zero Go.wp_at_succ

set_option maxRecDepth 100000 in
set_option maxHeartbeats 8000000 in
theorem specWithEvent_any (p : PartD) (id : Int) (w : World) (b0 : Nat) (hwf : (Lit.int .i64 id).wf = true) (hsm : p.pure.Small) (h : PartOwn w b0 p) :
  Calls Tryz.prog 38 #[.agg p.cells, .int .i64 id] w fun e w' => TurnRes w (withR p.pure { p.pure with events := insF (·.id) (⟨id, false⟩ : EventD) p.pure.events }) e w' := by
 have HB : Hid (PartBox ((w.alloc (.cells #[.int .i64 p.id, .int .i64 p.next, .slice p.procA p.procs.length p.procC, .slice p.semA p.sems.length p.semC, .slice p.eventA p.events.length p.eventC, .slice p.boardA p.boards.length p.boardC, .slice p.bufferA p.buffers.length p.bufferC, .slice p.portA p.ports.length p.portC] 32)).alloc (.cells #[.int .i64 0, .int .i64 0, .slice none 0 0, .slice none 0 0, .slice none 0 0, .slice none 0 0, .slice none 0 0, .slice none 0 0] 32)) w.heap.size p ∧ PartOwn ((w.alloc (.cells #[.int .i64 p.id, .int .i64 p.next, .slice p.procA p.procs.length p.procC, .slice p.semA p.sems.length p.semC, .slice p.eventA p.events.length p.eventC, .slice p.boardA p.boards.length p.boardC, .slice p.bufferA p.buffers.length p.bufferC, .slice p.portA p.ports.length p.portC] 32)).alloc (.cells #[.int .i64 0, .int .i64 0, .slice none 0 0, .slice none 0 0, .slice none 0 0, .slice none 0 0, .slice none 0 0, .slice none 0 0] 32)) b0 p ∧ Below w.heap.size w ((w.alloc (.cells #[.int .i64 p.id, .int .i64 p.next, .slice p.procA p.procs.length p.procC, .slice p.semA p.sems.length p.semC, .slice p.eventA p.events.length p.eventC, .slice p.boardA p.boards.length p.boardC, .slice p.bufferA p.buffers.length p.bufferC, .slice p.portA p.ports.length p.portC] 32)).alloc (.cells #[.int .i64 0, .int .i64 0, .slice none 0 0, .slice none 0 0, .slice none 0 0, .slice none 0 0, .slice none 0 0, .slice none 0 0] 32)) ∧ ((w.alloc (.cells #[.int .i64 p.id, .int .i64 p.next, .slice p.procA p.procs.length p.procC, .slice p.semA p.sems.length p.semC, .slice p.eventA p.events.length p.eventC, .slice p.boardA p.boards.length p.boardC, .slice p.bufferA p.buffers.length p.bufferC, .slice p.portA p.ports.length p.portC] 32)).alloc (.cells #[.int .i64 0, .int .i64 0, .slice none 0 0, .slice none 0 0, .slice none 0 0, .slice none 0 0, .slice none 0 0, .slice none 0 0] 32)).heap[w.heap.size + 1]? = some (.cells #[.int .i64 0, .int .i64 0, .slice none 0 0, .slice none 0 0, .slice none 0 0, .slice none 0 0, .slice none 0 0, .slice none 0 0] 32 (0, 0))) := by
  have b1 : Below w.heap.size w ((w.alloc (.cells #[.int .i64 p.id, .int .i64 p.next, .slice p.procA p.procs.length p.procC, .slice p.semA p.sems.length p.semC, .slice p.eventA p.events.length p.eventC, .slice p.boardA p.boards.length p.boardC, .slice p.bufferA p.buffers.length p.bufferC, .slice p.portA p.ports.length p.portC] 32)).alloc (.cells #[.int .i64 0, .int .i64 0, .slice none 0 0, .slice none 0 0, .slice none 0 0, .slice none 0 0, .slice none 0 0, .slice none 0 0] 32)) := ((Below.refl _ _).alloc (Nat.le_refl _) _).alloc (by simp) _
  exact ⟨(heap_alloc_old _ _ (by simp)).trans (heap_alloc_new _ _), h.below b1, b1, heap_alloc2_new _ _ _⟩
 have HFT : Hid (p.Fit ∧ (∀ x ∈ p.procs, x.Short) ∧ p.pure.Small ∧ (Lit.int .i64 id).wf = true) := ⟨small_fit hsm, fun x hx => (small_proc hsm hx).1, hsm, hwf⟩
 have hpl := HFT.out.1.short.events
 have hcap : p.events.length ≤ p.eventC := own_cap h.events
 have hpb0 : ∀ g ∈ p.blocks, g < w.heap.size := fun g hg => (h.lt g hg).2
 clear h hsm hwf
 obtain ⟨m0, m1, m2, m3, m4, m5, m6, m7⟩ := HB.out.1.cells
 unfold PartD.cells
 go_enter Tryz.func38, Tryz.ntmps38
 go_wp2_with fail
 generalize (w.alloc (.cells #[.int .i64 p.id, .int .i64 p.next, .slice p.procA p.procs.length p.procC, .slice p.semA p.sems.length p.semC, .slice p.eventA p.events.length p.eventC, .slice p.boardA p.boards.length p.boardC, .slice p.bufferA p.buffers.length p.bufferC, .slice p.portA p.ports.length p.portC] 32)).alloc (.cells #[.int .i64 0, .int .i64 0, .slice none 0 0, .slice none 0 0, .slice none 0 0, .slice none 0 0, .slice none 0 0, .slice none 0 0] 32) = W at *
 clear m0 m1 m2 m3 m4 m5 m6 m7
 refine (l3Copy_any p W HFT.out.1 HFT.out.2.1 HB.out.2.1.at).mono ?_
 rintro e W1 ⟨q, rfl, hown, hpu, hb1⟩
 have hb2 : Below W1.heap.size W1 (W1.alloc (.cells #[.int .i64 q.id, .int .i64 q.next, .slice q.procA q.procs.length q.procC, .slice q.semA q.sems.length q.semC, .slice q.eventA q.events.length q.eventC, .slice q.boardA q.boards.length q.boardC, .slice q.bufferA q.buffers.length q.bufferC, .slice q.portA q.ports.length q.portC] 32)) := (Below.refl _ _).alloc (Nat.le_refl _) _
 have hlt : w.heap.size + 1 < W.heap.size := (Array.getElem?_eq_some_iff.1 HB.out.2.2.2).1
 have hb3 : Below W.heap.size W (W1.alloc (.cells #[.int .i64 q.id, .int .i64 q.next, .slice q.procA q.procs.length q.procC, .slice q.semA q.sems.length q.semC, .slice q.eventA q.events.length q.eventC, .slice q.boardA q.boards.length q.boardC, .slice q.bufferA q.buffers.length q.bufferC, .slice q.portA q.ports.length q.portC] 32)) := hb1.trans (hb2.mono hb1.size)
 have hq1 : ∀ g ∈ q.blocks, g < W1.heap.size := fun g hg => (hown.lt g hg).2
 have HQ : Hid (PartBox (W1.alloc (.cells #[.int .i64 q.id, .int .i64 q.next, .slice q.procA q.procs.length q.procC, .slice q.semA q.sems.length q.semC, .slice q.eventA q.events.length q.eventC, .slice q.boardA q.boards.length q.boardC, .slice q.bufferA q.buffers.length q.bufferC, .slice q.portA q.ports.length q.portC] 32)) W1.heap.size q ∧ PartOwn (W1.alloc (.cells #[.int .i64 q.id, .int .i64 q.next, .slice q.procA q.procs.length q.procC, .slice q.semA q.sems.length q.semC, .slice q.eventA q.events.length q.eventC, .slice q.boardA q.boards.length q.boardC, .slice q.bufferA q.buffers.length q.bufferC, .slice q.portA q.ports.length q.portC] 32)) W.heap.size q ∧ q.pure = p.pure ∧ (∀ g ∈ q.blocks, g < W1.heap.size) ∧ W.heap.size ≤ W1.heap.size ∧ w.heap.size + 1 < W.heap.size ∧ W1.heap.size < (W1.alloc (.cells #[.int .i64 q.id, .int .i64 q.next, .slice q.procA q.procs.length q.procC, .slice q.semA q.sems.length q.semC, .slice q.eventA q.events.length q.eventC, .slice q.boardA q.boards.length q.boardC, .slice q.bufferA q.buffers.length q.bufferC, .slice q.portA q.ports.length q.portC] 32)).heap.size) := ⟨heap_alloc_new _ _, hown.below hb2, hpu, hq1, hb1.size, hlt, by simp⟩
 replace HB : Hid (PartBox (W1.alloc (.cells #[.int .i64 q.id, .int .i64 q.next, .slice q.procA q.procs.length q.procC, .slice q.semA q.sems.length q.semC, .slice q.eventA q.events.length q.eventC, .slice q.boardA q.boards.length q.boardC, .slice q.bufferA q.buffers.length q.bufferC, .slice q.portA q.ports.length q.portC] 32)) w.heap.size p ∧ PartOwn (W1.alloc (.cells #[.int .i64 q.id, .int .i64 q.next, .slice q.procA q.procs.length q.procC, .slice q.semA q.sems.length q.semC, .slice q.eventA q.events.length q.eventC, .slice q.boardA q.boards.length q.boardC, .slice q.bufferA q.buffers.length q.bufferC, .slice q.portA q.ports.length q.portC] 32)) b0 p ∧ Below w.heap.size w (W1.alloc (.cells #[.int .i64 q.id, .int .i64 q.next, .slice q.procA q.procs.length q.procC, .slice q.semA q.sems.length q.semC, .slice q.eventA q.events.length q.eventC, .slice q.boardA q.boards.length q.boardC, .slice q.bufferA q.buffers.length q.bufferC, .slice q.portA q.ports.length q.portC] 32)) ∧ (W1.alloc (.cells #[.int .i64 q.id, .int .i64 q.next, .slice q.procA q.procs.length q.procC, .slice q.semA q.sems.length q.semC, .slice q.eventA q.events.length q.eventC, .slice q.boardA q.boards.length q.boardC, .slice q.bufferA q.buffers.length q.bufferC, .slice q.portA q.ports.length q.portC] 32)).heap[w.heap.size + 1]? = some (.cells #[.int .i64 0, .int .i64 0, .slice none 0 0, .slice none 0 0, .slice none 0 0, .slice none 0 0, .slice none 0 0, .slice none 0 0] 32 (0, 0))) := ⟨HB.out.1.below hb3, HB.out.2.1.below hb3, HB.out.2.2.1.trans (hb3.mono HB.out.2.2.1.size), (hb3.block _ hlt).trans HB.out.2.2.2⟩
 have HPB : Hid (∀ g ∈ p.blocks, g < w.heap.size) := fun g hg => hpb0 g hg
 clear hown hpu hb1 hb2 hb3 hq1 hlt hpb0
 obtain ⟨m0, m1, m2, m3, m4, m5, m6, m7⟩ := HB.out.1.cells
 unfold PartD.cells
 go_wp2_with fail
 generalize W1.alloc (.cells #[.int .i64 q.id, .int .i64 q.next, .slice q.procA q.procs.length q.procC, .slice q.semA q.sems.length q.semC, .slice q.eventA q.events.length q.eventC, .slice q.boardA q.boards.length q.boardC, .slice q.bufferA q.buffers.length q.bufferC, .slice q.portA q.ports.length q.portC] 32) = W2 at *
 clear m0 m1 m2 m3 m5 m6 m7
 generalize W1.heap.size = o at *
 go_loop [7] (fun i => ∃ k : Nat, k ≤ p.events.length ∧ i = .int .i64 k ∧ Hid (∀ y ∈ p.events.take k, y.id < id)) (fun i => p.events.length - (intOf i).toNat)
 case atStart => exact ⟨0, Nat.zero_le _, rfl, fun y hy => by simp at hy⟩
 case round =>
  obtain ⟨k, hk, rfl, HA⟩ := hrel
  have i0 : (0 : Int) ≤ (k : Int) := by omega
  have icap : (k : Int) ≤ (p.eventC : Int) := by omega
  have i2 : (k : Int) ≤ (p.events.length : Int) := by omega
  rcases at_ways (fun y : EventD => y.id) id p.events k with ⟨x, hx, hc, hlt⟩ | ⟨x, hx, hc, hlt⟩ | hlt
  ·have HT : Hid (∀ y ∈ p.events.take (k + 1), y.id < id) := all_up hx HA.out hc
   have i1 : (k : Int) < (p.events.length : Int) := by omega
   obtain ⟨g, ha, hat⟩ := event_at HB.out.2.1.at.2.2.1 hx
   have c0 := hat.1
   have m := m4
   rw [ha] at m
   clear m4 hat hx
   go_wp2
   go_round
   case rel => exact ⟨k + 1, by omega, by go_num, HT.out⟩
   case measure => simp [intOf]; omega
  focus
   have HX : Hid (∀ y, p.events[k]? = some y → ¬ y.id < id) := fun y hy e => by rw [hx] at hy; cases hy; exact hc e
   have i1 : (k : Int) < (p.events.length : Int) := by omega
   obtain ⟨g, ha, hat⟩ := event_at HB.out.2.1.at.2.2.1 hx
   have c0 := hat.1
   have m := m4
   rw [ha] at m
   clear m4 hat hx ha
  rotate_left
  focus
   have HX : Hid (∀ y, p.events[k]? = some y → ¬ y.id < id) := fun y hy => absurd (List.getElem?_eq_some_iff.1 hy).1 hlt
   have i1 : ¬ (k : Int) < (p.events.length : Int) := by omega
   have m := m4
   clear m4
  all_goals
   have hkl : (p.events.take k).length = k := by rw [List.length_take]; omega
   have hb3 : Below W2.heap.size W2 (W2.alloc (.cells #[] 138)) := (Below.refl _ _).alloc (Nat.le_refl _) _
   obtain ⟨a5, c5, w5, hap, ho5, hg5, -⟩ := more_event (W2.alloc (.cells #[] 138)) W2.heap.size (some ⟨W2.heap.size, 0, none⟩) 0 [] (own_empty (heap_alloc_new _ _) (Nat.le_refl _)) p.eventA (p.events.take k) p.eventC (take_src k (HB.out.2.1.below hb3).at.2.2.1.1) (by rw [hkl]; show 0 + k ≤ _; omega) hb3.size
   rw [hkl] at hap ho5
   simp only [List.length_nil, Nat.zero_add, List.nil_append] at hap ho5
   have hb5 : Below W2.heap.size W2 w5 := hb3.grown hg5 hb3.size fun c e => by cases e; exact Nat.le_refl _
   have hb6 : Below w5.heap.size w5 (w5.alloc (.cells #[.int .i64 id, .bool false] 138)) := (Below.refl _ _).alloc (Nat.le_refl _) _
   have hb6o : Below W2.heap.size W2 (w5.alloc (.cells #[.int .i64 id, .bool false] 138)) := hb5.trans (hb6.mono hb5.size)
   have ho6 : (w5.alloc (.cells #[.int .i64 id, .bool false] 138)).ownsRow W2.heap.size 138 2 (.slice a5 (p.events.take k).length c5) (p.events.take k).length (eventK.flat (p.events.take k)) := by rw [hkl]; exact own_below ho5 hb6
   obtain ⟨a7, c7, w7, hap2, ho7, hg7, -⟩ := more_event (w5.alloc (.cells #[.int .i64 id, .bool false] 138)) W2.heap.size a5 c5 (p.events.take k) ho6 (some ⟨w5.heap.size, 0, none⟩) [(⟨id, false⟩ : EventD)] 1 (src_block (heap_alloc_new _ _)) (by rw [hkl]; show k + 1 ≤ _; omega) hb6o.size
   have hl7 : (p.events.take k ++ [(⟨id, false⟩ : EventD)]).length = k + 1 := by rw [List.length_append, hkl]; rfl
   rw [hkl] at hap2 ho7
   simp only [List.length_cons, List.length_nil, Nat.zero_add] at hap2 ho7
   have hb7 : Below W2.heap.size W2 w7 := hb6o.grown hg7 hb6o.size fun c e => (own_lt ho5 (own_block e)).1
   have HO7 : Hid (w7.ownsRow W2.heap.size 138 2 (.slice a7 (k + 1) c7) (k + 1) (eventK.flat (p.events.take k ++ [(⟨id, false⟩ : EventD)])) ∧ Below W2.heap.size W2 w7 ∧ (p.events.take k ++ [(⟨id, false⟩ : EventD)]).length = k + 1) := ⟨ho7, hb7, hl7⟩
   have m2 : (W2.alloc (.cells #[] 138)).cell? ⟨w.heap.size, 4, none⟩ = some (.slice p.eventA p.events.length p.eventC) := (HB.out.1.below hb3).cells.2.2.2.2.1
   have hbo : W2.heap.size ≤ w7.heap.size := hb7.size
   obtain ⟨⟨u, co⟩, fo⟩ : (∃ u, w7.cell? ⟨o, 4, none⟩ = some u) ∧ w7.frozen? ⟨o, 4, none⟩ = false := ⟨⟨_, (HQ.out.1.below hb7).cells.2.2.2.2.1⟩, frozen_of_row _ _ _ _ _ (HQ.out.1.below hb7)⟩
   clear ho5 hg5 hb5 hb6 hb6o ho6 ho7 hg7 hb7 hb3 hl7
   go_wp2_with (at_builtin; first | (refine wpList_append_run _ rfl _ _ 27 rfl _ _ _ _ rfl rfl hap ?_; clear hap) | (refine wpList_append_run _ rfl _ _ 27 rfl _ _ _ _ rfl rfl hap2 ?_; clear hap2))
   have H8 : Hid (((PartBox (w7.setCell ⟨o, 4, none⟩ (.slice a7 (k + 1) c7)) w.heap.size p ∧ PartOwn (w7.setCell ⟨o, 4, none⟩ (.slice a7 (k + 1) c7)) b0 p ∧ Below w.heap.size w (w7.setCell ⟨o, 4, none⟩ (.slice a7 (k + 1) c7)) ∧ (w7.setCell ⟨o, 4, none⟩ (.slice a7 (k + 1) c7)).heap[w.heap.size + 1]? = some (.cells #[.int .i64 0, .int .i64 0, .slice none 0 0, .slice none 0 0, .slice none 0 0, .slice none 0 0, .slice none 0 0, .slice none 0 0] 32 (0, 0))) ∧ (w7.setCell ⟨o, 4, none⟩ (.slice a7 (k + 1) c7)).heap[o]? = some (.cells #[.int .i64 q.id, .int .i64 q.next, .slice q.procA q.procs.length q.procC, .slice q.semA q.sems.length q.semC, .slice a7 (k + 1) c7, .slice q.boardA q.boards.length q.boardC, .slice q.bufferA q.buffers.length q.bufferC, .slice q.portA q.ports.length q.portC] 32 (0, 0)) ∧ PartOwn (w7.setCell ⟨o, 4, none⟩ (.slice a7 (k + 1) c7)) W.heap.size q) ∧ (w7.setCell ⟨o, 4, none⟩ (.slice a7 (k + 1) c7)).ownsRow W2.heap.size 138 2 (.slice a7 (k + 1) c7) (k + 1) (eventK.flat (p.events.take k ++ [(⟨id, false⟩ : EventD)])) ∧ W2.heap.size ≤ (w7.setCell ⟨o, 4, none⟩ (.slice a7 (k + 1) c7)).heap.size) := by
    have hb7 := HO7.out.2.1
    have hq := HQ.out
    have hbw : Below w.heap.size w w7 := HB.out.2.2.1.trans (hb7.mono (by have := HB.out.2.2.1.size; omega))
    refine ⟨⟨⟨(setCell_other (by omega)).trans (HB.out.1.below hb7), (HB.out.2.1.below hb7).same fun g hg => setCell_other (fun e => ?_), below_setCell hbw (by omega), (setCell_other (by omega)).trans ((hb7.block _ (by omega)).trans HB.out.2.2.2)⟩, setCell_block (HQ.out.1.below hb7), (HQ.out.2.1.below hb7).same fun g hg => setCell_other (by have := HQ.out.2.2.2.1 g hg; omega)⟩, own_same HO7.out.1 fun g hg => setCell_other (by have := (own_lt HO7.out.1 hg).1; omega), ?_⟩
    ·have := HPB.out g hg; omega
    ·rw [setCell_size]; exact hb7.size
   generalize w7.setCell ⟨o, 4, none⟩ (.slice a7 (k + 1) c7) = W8 at *
   have HS : Hid (W8.cell? ⟨w.heap.size, 4, none⟩ = some (.slice p.eventA p.events.length p.eventC)) := H8.out.1.1.1.cells.2.2.2.2.1
   have co8 : W8.drew.cell? ⟨o, 4, none⟩ = some (.slice a7 (k + 1) c7) := by rw [cell_of_row _ _ _ _ _ _ (show W8.drew.heap[o]? = _ from H8.out.1.2.1)]; rfl
   clear m m2 co fo hbo i1 hlt
   obtain ⟨aS, haS⟩ : ∃ aS, (if p.eventC = k then p.eventA else Option.map (fun x => x.add (k * 2)) p.eventA) = aS := ⟨_, rfl⟩
   refine wp_region_held_drew (S := fun w' => w'.cell? ⟨w.heap.size, 4, none⟩ = some (.slice p.eventA p.events.length p.eventC)) (by kernel_rfl) HS.out (fun hHeld => ?_)
   refine tk 0 (v := ?_) ?_ hHeld ?_; rotate_left; (intro w0 hS0; have hS1 := hS0; go_simp; try with_reducible rfl); simp only [pt, sb, s0, s1]
   refine tk 2 (v := ?_) ?_ hHeld ?_; rotate_left; (intro w0 hS0; have hS1 := hS0; go_simp; try with_reducible rfl); simp only [pt, sb, s0, s1]
   refine tk 3 (v := ?_) ?_ hHeld ?_; rotate_left; (intro w0 hS0; have hS1 := hS0; go_simp; try with_reducible rfl); simp only [pt, sb, s0, s1]
   refine tk 4 (v := ?_) ?_ hHeld ?_; rotate_left; (intro w0 hS0; have hS1 := hS0; go_simp; try with_reducible rfl); simp only [pt, sb, s0, s1]
   refine tk 5 (v := ?_) ?_ hHeld ?_; rotate_left; (intro w0 hS0; have hS1 := hS0; go_simp; try with_reducible rfl); simp only [pt, sb, s0, s1]
   refine wpAnyH_ready (rs := [1]) (by kernel_rfl) (by simp) ?_
   refine AllReadyH.cons rfl (fun K hK => ?_) AllReadyH.nil
   simp only [List.getElem_toArray, List.getElem_cons_zero, List.getElem_cons_succ]
   rw [if_pos (by rfl)]
   go_wp2_with fail
   refine hK.out _ _ HS.out (fun hHeld => ?_)
   clear hK K
   try simp only [pt, sb, s0, s1]
   have hbd : Below W8.heap.size W8 W8.drew := (Below.refl _ _).drew
   have hl7 := HO7.out.2.2
   have hkd : (p.events.drop k).length = p.events.length - k := List.length_drop
   obtain ⟨a9, c9, w9, hr, ho9, hg9, -⟩ := more_event W8.drew W2.heap.size a7 c7 (p.events.take k ++ [(⟨id, false⟩ : EventD)]) (by rw [hl7]; exact own_below H8.out.2.1 hbd) aS (p.events.drop k) (p.eventC - k) (by rw [← haS]; exact tail_src hcap (H8.out.1.1.2.1.below hbd).at.2.2.1.1) (by rw [hl7, hkd]; omega) H8.out.2.2
   rw [hl7, hkd] at hr ho9
   have hb9 : Below W2.heap.size W8.drew w9 := (Below.refl _ _).grown (a := W8.drew) hg9 H8.out.2.2 fun c e => (own_lt H8.out.2.1 (own_block e)).1
   have hq := HQ.out
   have h8 := H8.out
   have hol : o < W2.heap.size := hq.2.2.2.2.2.2
   have hwl : w.heap.size + 1 < o := by omega
   have ho10 : w9.heap[o]? = some (.cells #[.int .i64 q.id, .int .i64 q.next, .slice q.procA q.procs.length q.procC, .slice q.semA q.sems.length q.semC, .slice a7 (k + 1) c7, .slice q.boardA q.boards.length q.boardC, .slice q.bufferA q.buffers.length q.bufferC, .slice q.portA q.ports.length q.portC] 32 (0, 0)) := (hb9.block _ hol).trans h8.1.2.1
   have H9 : Hid (w9.cell? ⟨w.heap.size, 4, none⟩ = some (.slice p.eventA p.events.length p.eventC) ∧ (w9.setCell ⟨o, 4, none⟩ (.slice a9 (k + 1 + (p.events.length - k)) c9)).cell? ⟨w.heap.size, 4, none⟩ = some (.slice p.eventA p.events.length p.eventC)) := by
    have e1 : w9.cell? ⟨w.heap.size, 4, none⟩ = some (.slice p.eventA p.events.length p.eventC) := (World.cell?_of_block (hb9.block _ (by show w.heap.size < _; omega))).trans HS.out
    exact ⟨e1, (World.cell?_of_block (setCell_other (by show w.heap.size ≠ o; omega))).trans e1⟩
   have hln : ((p.events.take k ++ [(⟨id, false⟩ : EventD)]) ++ p.events.drop k).length = k + 1 + (p.events.length - k) := by rw [List.length_append, hl7, hkd]
   have hpu : ({ q with events := (p.events.take k ++ [(⟨id, false⟩ : EventD)]) ++ p.events.drop k, eventA := a9, eventC := c9 } : PartD).pure = { p.pure with events := insF (·.id) (⟨id, false⟩ : EventD) p.pure.events } := by
    have e1 : (p.events.take k ++ [(⟨id, false⟩ : EventD)]) ++ p.events.drop k = insF (·.id) (⟨id, false⟩ : EventD) p.pure.events := by
     rw [List.append_assoc]
     exact insF_at HA.out (fun y hy => by have h5 := HX.out y hy; show ¬ y.id < id; omega)
    have e2 := HQ.out.2.2.1
    show ({ q.pure with events := (p.events.take k ++ [(⟨id, false⟩ : EventD)]) ++ p.events.drop k } : PartP) = _
    rw [e1, e2]
   have H10 : Hid (PartBox (w9.setCell ⟨o, 4, none⟩ (.slice a9 (k + 1 + (p.events.length - k)) c9)) w.heap.size p ∧ PartOwn (w9.setCell ⟨o, 4, none⟩ (.slice a9 (k + 1 + (p.events.length - k)) c9)) b0 p ∧ Below w.heap.size w (w9.setCell ⟨o, 4, none⟩ (.slice a9 (k + 1 + (p.events.length - k)) c9)) ∧ (w9.setCell ⟨o, 4, none⟩ (.slice a9 (k + 1 + (p.events.length - k)) c9)).heap[w.heap.size + 1]? = some (.cells #[.int .i64 0, .int .i64 0, .slice none 0 0, .slice none 0 0, .slice none 0 0, .slice none 0 0, .slice none 0 0, .slice none 0 0] 32 (0, 0)) ∧ PartBox (w9.setCell ⟨o, 4, none⟩ (.slice a9 (k + 1 + (p.events.length - k)) c9)) o ({ q with events := (p.events.take k ++ [(⟨id, false⟩ : EventD)]) ++ p.events.drop k, eventA := a9, eventC := c9 } : PartD) ∧ PartOwn (w9.setCell ⟨o, 4, none⟩ (.slice a9 (k + 1 + (p.events.length - k)) c9)) W.heap.size ({ q with events := (p.events.take k ++ [(⟨id, false⟩ : EventD)]) ++ p.events.drop k, eventA := a9, eventC := c9 } : PartD) ∧ ({ q with events := (p.events.take k ++ [(⟨id, false⟩ : EventD)]) ++ p.events.drop k, eventA := a9, eventC := c9 } : PartD).pure = { p.pure with events := insF (·.id) (⟨id, false⟩ : EventD) p.pure.events }) := by
    have hpb : ∀ g ∈ p.blocks, g < w.heap.size := HPB.out
    have hqb : ∀ g ∈ q.blocks, g < o := hq.2.2.2.1
    have sm : ∀ g, g < W2.heap.size → g ≠ o → (w9.setCell ⟨o, 4, none⟩ (.slice a9 (k + 1 + (p.events.length - k)) c9)).heap[g]? = W8.heap[g]? := fun g hg hne => (setCell_other hne).trans (hb9.block _ hg)
    have hbw : Below w.heap.size w (w9.setCell ⟨o, 4, none⟩ (.slice a9 (k + 1 + (p.events.length - k)) c9)) := below_setCell (h8.1.1.2.2.1.drew.trans (hb9.mono (by omega))) (by omega)
    refine ⟨(sm _ (by omega) (by omega)).trans h8.1.1.1, h8.1.1.2.1.same fun g hg => sm g (by have := hpb g hg; omega) (by have := hpb g hg; omega), hbw, (sm _ (by omega) (by omega)).trans h8.1.1.2.2.2, ?_, ?_, hpu⟩
    ·have h5 := setCell_block (i := 4) (v := .slice a9 (k + 1 + (p.events.length - k)) c9) ho10
     unfold PartBox
     simp only [hln]
     exact h5
    ·refine h8.1.2.2.newEvent (B := W2.heap.size) (by omega) (fun g hg => by have := hqb g hg; omega) (fun g hg => sm g (by have := hqb g hg; omega) (by have := hqb g hg; omega)) ?_
     rw [hln]
     exact own_same ho9 fun g hg => setCell_other (by have := (own_lt ho9 hg).1; omega)
   refine wpAnyH_ready (rs := [6]) (by kernel_rfl) (by simp) ?_
   refine AllReadyH.cons rfl (fun K hK => ?_) AllReadyH.nil
   simp only [List.getElem_toArray, List.getElem_cons_zero, List.getElem_cons_succ]
   rw [if_pos (by rfl)]
   refine oper_append _ _ _ rfl _ _ _ w9 rfl rfl hr ?_
   refine hK.out _ _ H9.out.1 (fun hHeld => ?_)
   clear hK K
   try simp only [pt, sb, s0, s1]
   obtain ⟨⟨u, co⟩, fo⟩ : (∃ u, w9.cell? ⟨o, 4, none⟩ = some u) ∧ w9.frozen? ⟨o, 4, none⟩ = false := ⟨⟨_, by rw [cell_of_row _ _ _ _ _ _ ho10]; rfl⟩, frozen_of_row _ _ _ _ _ ho10⟩
   clear hr ho9 hg9 hb9 hq h8 hol hwl ho10 hbd
   refine tk 7 (v := ?_) ?_ hHeld ?_; rotate_left; (intro w0 hS0; have hS1 := hS0; go_simp; try with_reducible rfl); simp only [pt, sb, s0, s1]
   refine wpAnyH_ready (rs := [8]) (by kernel_rfl) (by simp) ?_
   refine AllReadyH.cons rfl (fun K hK => ?_) AllReadyH.nil
   simp only [List.getElem_toArray, List.getElem_cons_zero, List.getElem_cons_succ]
   rw [if_pos (by rfl)]
   go_wp2_with fail
   refine hK.out _ _ H9.out.2 (fun hHeld => ?_)
   clear hK K
   try simp only [pt, sb, s0, s1]
   refine wpAnyH_done (by kernel_rfl) ?_ _
   clear hHeld co fo H9 HS co8
   generalize w9.setCell ⟨o, 4, none⟩ (.slice a9 (k + 1 + (p.events.length - k)) c9) = W10 at *
   have hcall := l3Checked_any p ({ q with events := (p.events.take k ++ [(⟨id, false⟩ : EventD)]) ++ p.events.drop k, eventA := a9, eventC := c9 } : PartD) W10 ⟨HFT.out.1, HFT.out.2.1, H10.out.2.1.at⟩ (fun hr => by
    have h5 : PartP.Small ({ q with events := (p.events.take k ++ [(⟨id, false⟩ : EventD)]) ++ p.events.drop k, eventA := a9, eventC := c9 } : PartD).pure := by rw [H10.out.2.2.2.2.2.2]; exact insEvent_small HFT.out.2.2.1 hr HFT.out.2.2.2
    exact ⟨small_fit h5, fun x hx => (small_proc h5 hx).1, H10.out.2.2.2.2.2.1.at⟩)
   obtain ⟨m0, m1, m2, m3, m4, m5, m6, m7⟩ := H10.out.1.cells
   obtain ⟨k0, k1, k2, k3, k4, k5, k6, k7⟩ := H10.out.2.2.2.2.1.cells
   unfold PartD.cells at hcall
   simp only [hln] at hcall k0 k1 k2 k3 k4 k5 k6 k7
   have HLN : Hid (((p.events.take k ++ [(⟨id, false⟩ : EventD)]) ++ p.events.drop k).length = k + 1 + (p.events.length - k)) := hln
   clear hln hl7 hkd haS hpu
   go_wp2_with fail
   refine hcall.mono ?_
   clear hcall m0 m1 m2 m3 m4 m5 m6 m7 k0 k1 k2 k3 k4 k5 k6 k7
   rintro e w11 ⟨hb11, hok⟩
   have hq := HQ.out.2.2.2.2
   have HZ : Hid (Below w.heap.size w w11 ∧ w11.heap[w.heap.size + 1]? = some (.cells #[.int .i64 0, .int .i64 0, .slice none 0 0, .slice none 0 0, .slice none 0 0, .slice none 0 0, .slice none 0 0, .slice none 0 0] 32 (0, 0)) ∧ PartOwn w11 W.heap.size ({ q with events := (p.events.take k ++ [(⟨id, false⟩ : EventD)]) ++ p.events.drop k, eventA := a9, eventC := c9 } : PartD) ∧ w.heap.size + 1 < W.heap.size) := ⟨H10.out.2.2.1.trans (hb11.mono H10.out.2.2.1.size), (hb11.block _ (Array.getElem?_eq_some_iff.1 H10.out.2.2.2.1).1).trans H10.out.2.2.2.1, H10.out.2.2.2.2.2.1.below hb11, hq.2.1⟩
   clear hb11 hq
   rw [H10.out.2.2.2.2.2.2] at hok
   rcases hok with ⟨hok, rfl⟩ | ⟨hok, rfl⟩
   ·have HN : Hid (withR p.pure { p.pure with events := insF (·.id) (⟨id, false⟩ : EventD) p.pure.events } = some { p.pure with events := insF (·.id) (⟨id, false⟩ : EventD) p.pure.events }) := withR_ok hok
    clear hok
    go_wp2_with (refine wpList_store_row rfl 32 (Operand.tmp 4) (Operand.tmp 49) rfl (w.heap.size + 1) _ _ #[.int .i64 q.id, .int .i64 q.next, .slice q.procA q.procs.length q.procC, .slice q.semA q.sems.length q.semC, .slice a9 (k + 1 + (p.events.length - k)) c9, .slice q.boardA q.boards.length q.boardC, .slice q.bufferA q.buffers.length q.bufferC, .slice q.portA q.ports.length q.portC] rfl rfl HZ.out.2.1 (by kernel_rfl) rfl (by kernel_rfl) ?_)
    refine bodyPost_ret (v := .tuple #[.agg #[.int .i64 q.id, .int .i64 q.next, .slice q.procA q.procs.length q.procC, .slice q.semA q.sems.length q.semC, .slice a9 (k + 1 + (p.events.length - k)) c9, .slice q.boardA q.boards.length q.boardC, .slice q.bufferA q.buffers.length q.bufferC, .slice q.portA q.ports.length q.portC], .bool true]) (results_row_tmp Tryz.results38 _ _ (w.heap.size + 1) _ _ _ _ (by rfl) (setRow_heap _ _ _ _ _ _ HZ.out.2.1) Tryz.underlying32 rfl (by kernel_rfl)) rfl ?_
    have hl := HZ.out.2.2.2
    rw [HN.out]
    refine ⟨({ q with events := (p.events.take k ++ [(⟨id, false⟩ : EventD)]) ++ p.events.drop k, eventA := a9, eventC := c9 } : PartD), by unfold PartD.cells; simp only [HLN.out]; rfl, (HZ.out.2.2.1.lower (by omega)).same fun g hg => setRow_other _ _ _ _ (by have := (HZ.out.2.2.1.lt g hg).1; omega), H10.out.2.2.2.2.2.2, below_setRow HZ.out.1 (by omega) _⟩
   ·have HN : Hid (withR p.pure { p.pure with events := insF (·.id) (⟨id, false⟩ : EventD) p.pure.events } = none) := withR_bad hok
    clear hok
    go_wp2_with (refine wpList_store_row rfl 32 (Operand.tmp 4) (Operand.tmp 49) rfl (w.heap.size + 1) _ _ #[.int .i64 0, .int .i64 0, .slice none 0 0, .slice none 0 0, .slice none 0 0, .slice none 0 0, .slice none 0 0, .slice none 0 0] rfl rfl HZ.out.2.1 (by kernel_rfl) rfl (by kernel_rfl) ?_)
    refine bodyPost_ret (v := .tuple #[.agg #[.int .i64 0, .int .i64 0, .slice none 0 0, .slice none 0 0, .slice none 0 0, .slice none 0 0, .slice none 0 0, .slice none 0 0], .bool false]) (results_row_tmp Tryz.results38 _ _ (w.heap.size + 1) _ _ _ _ (by rfl) (setRow_heap _ _ _ _ _ _ HZ.out.2.1) Tryz.underlying32 rfl (by kernel_rfl)) rfl ?_
    exact turnRes_no HN.out (below_setRow HZ.out.1 (by omega) _)

end Go.Proofs.YtkbcplnlehdjfaaGreat

/- The exact law of WithEvent, called at any partition: true, and nothing that was there is changed. (Made by mkexactlaw.py.) -/
namespace Go.Proofs.YtkbcplnlehdjfaaGreat
open Go.RowKit
attribute [local go_sem ↓] Go.wp_at_zero Go.wp_at_succ

set_option maxRecDepth 100000 in
set_option maxHeartbeats 8000000 in
theorem withEventLaw_any (p : PartD) (id : Int) (w : World) (hb : p.Big) (hc : p.Came w) (hi : p.Ints) (hwid : (Lit.int .i64 id).wf = true) :
  Calls Tryz.prog 11 #[.agg p.cells, .int .i64 id] w fun e w' => e = .returned (.bool true) ∧ Below w.heap.size w w' := by
 have HB : Hid (p.Big ∧ p.Ints) := ⟨hb, hi⟩
 have HC : Hid (p.Came w) := hc
 have HWid : Hid ((Lit.int .i64 id).wf = true) := hwid
 have HX : Hid (SrcS p w (w.alloc (.cells #[.int .i64 p.id, .int .i64 p.next, .slice p.procA p.procs.length p.procC, .slice p.semA p.sems.length p.semC, .slice p.eventA p.events.length p.eventC, .slice p.boardA p.boards.length p.boardC, .slice p.bufferA p.buffers.length p.bufferC, .slice p.portA p.ports.length p.portC] 73))) := ⟨heap_alloc_new _ _, (Below.refl _ _).alloc (Nat.le_refl _) _⟩
 clear hb hc hi hwid
 unfold PartD.cells
 go_enter Tryz.func11, Tryz.ntmps11
 go_wp2_with fail
 generalize w.alloc (.cells #[.int .i64 p.id, .int .i64 p.next, .slice p.procA p.procs.length p.procC, .slice p.semA p.sems.length p.semC, .slice p.eventA p.events.length p.eventC, .slice p.boardA p.boards.length p.boardC, .slice p.bufferA p.buffers.length p.bufferC, .slice p.portA p.ports.length p.portC] 73) = W0 at *
 refine (szPart_l p 1048576 W0 HB.out.1 (HC.out.below HX.out.2) (by omega) (by omega)).mono ?_
 rintro e W1 ⟨r, rfl, r0, r1, hr, hb⟩
 replace HX : Hid (SrcS p w W1) := HX.out.below hb
 clear hb
 by_cases hneg : r < 0
 ·go_wp2
  go_ret
  exact ⟨rfl, HX.out.2⟩
 have HSM : Hid (p.Shorts ∧ p.pure.Small ∧ p.pure.total ≤ 1048576) := ⟨(hr (by omega)).1, small_of (hr (by omega)).1 HB.out.2, by have := (hr (by omega)).2; omega⟩
 clear hr
 obtain ⟨m0, m1, m2, m3, m4, m5, m6, m7⟩ := srcCells HX.out.1
 go_wp2_with fail
 clear m0 m1 m2 m3 m4 m5 m6 m7
 refine (toPart_l p W1 HSM.out.1 (HC.out.below HX.out.2)).mono ?_
 rintro e W2 ⟨p2, rfl, ho, hp, hb⟩
 have HQ : Hid (PartOwn W2 W1.heap.size p2 ∧ p2.pure = p.pure ∧ p2.pure.Small) := ⟨ho, hp, by rw [hp]; exact HSM.out.2.1⟩
 replace HX : Hid (SrcS p w W2) := HX.out.below hb
 clear ho hp hb
 go_wp2_with fail
 obtain ⟨ok, hok⟩ : ∃ b : Bool, (withR p.pure { p.pure with events := insF (·.id) (⟨id, false⟩ : EventD) p.pure.events }).isSome = b := ⟨_, rfl⟩
 have HOK : Hid ((withR p.pure { p.pure with events := insF (·.id) (⟨id, false⟩ : EventD) p.pure.events }).isSome = ok) := hok
 clear hok
 have dn : (ok != ok) = false := by simp
 refine (specWithEvent_any p2 id W2 W1.heap.size HWid.out HQ.out.2.2 HQ.out.1).mono ?_
 rintro e V3 hE
 rw [HQ.out.2.1] at hE
 obtain ⟨r3, rfl, ho, hp, hb⟩ := hE
 rw [HOK.out]
 have hb2 : Below W2.heap.size W2 (V3.alloc (.cells #[.int .i64 r3.id, .int .i64 r3.next, .slice r3.procA r3.procs.length r3.procC, .slice r3.semA r3.sems.length r3.semC, .slice r3.eventA r3.events.length r3.eventC, .slice r3.boardA r3.boards.length r3.boardC, .slice r3.bufferA r3.buffers.length r3.bufferC, .slice r3.portA r3.ports.length r3.portC] 32)) := hb.alloc hb.size _
 have H3 : Hid (PartIn (V3.alloc (.cells #[.int .i64 r3.id, .int .i64 r3.next, .slice r3.procA r3.procs.length r3.procC, .slice r3.semA r3.sems.length r3.semC, .slice r3.eventA r3.events.length r3.eventC, .slice r3.boardA r3.boards.length r3.boardC, .slice r3.bufferA r3.buffers.length r3.bufferC, .slice r3.portA r3.ports.length r3.portC] 32)) V3.heap.size W2.heap.size r3) := ⟨heap_alloc_new _ _, ho.below ((Below.refl _ _).alloc (Nat.le_refl _) _)⟩
 have HP3 : Hid (r3.pure = (withR p.pure { p.pure with events := insF (·.id) (⟨id, false⟩ : EventD) p.pure.events }).getD zeroPart) := hp
 have HR : Hid ((∀ g ∈ r3.blocks, w.heap.size < g ∧ g < V3.heap.size) ∧ w.heap.size < V3.heap.size) := by
  have h5 := (Array.getElem?_eq_some_iff.1 HX.out.1).1
  have h6 := hb.size
  exact ⟨fun g hg => by have := (ho.lt g hg); omega, by omega⟩
 clear ho hp HQ
 replace HX : Hid (SrcS p w (V3.alloc (.cells #[.int .i64 r3.id, .int .i64 r3.next, .slice r3.procA r3.procs.length r3.procC, .slice r3.semA r3.sems.length r3.semC, .slice r3.eventA r3.events.length r3.eventC, .slice r3.boardA r3.boards.length r3.boardC, .slice r3.bufferA r3.buffers.length r3.bufferC, .slice r3.portA r3.ports.length r3.portC] 32))) := HX.out.below hb2
 obtain ⟨m0, m1, m2, m3, m4, m5, m6, m7⟩ := srcCells HX.out.1
 unfold PartD.cells
 go_wp2_with fail
 clear m0 m1 m2 m3 m4 m5 m6 m7
 generalize V3.alloc (.cells #[.int .i64 r3.id, .int .i64 r3.next, .slice r3.procA r3.procs.length r3.procC, .slice r3.semA r3.sems.length r3.semC, .slice r3.eventA r3.events.length r3.eventC, .slice r3.boardA r3.boards.length r3.boardC, .slice r3.bufferA r3.buffers.length r3.bufferC, .slice r3.portA r3.ports.length r3.portC] 32) = W3 at *
 have hxl := H3.out.1.lt
 generalize V3.heap.size = X3 at *
 clear hb2 hb
 refine (toPart_l p W3 HSM.out.1 (HC.out.below HX.out.2)).mono ?_
 rintro e V4 ⟨p4, rfl, ho, hp, hb⟩
 have hb2 : Below W3.heap.size W3 (V4.alloc (.cells #[.int .i64 p4.id, .int .i64 p4.next, .slice p4.procA p4.procs.length p4.procC, .slice p4.semA p4.sems.length p4.semC, .slice p4.eventA p4.events.length p4.eventC, .slice p4.boardA p4.boards.length p4.boardC, .slice p4.bufferA p4.buffers.length p4.bufferC, .slice p4.portA p4.ports.length p4.portC] 32)) := hb.alloc hb.size _
 have H4 : Hid (PartIn (V4.alloc (.cells #[.int .i64 p4.id, .int .i64 p4.next, .slice p4.procA p4.procs.length p4.procC, .slice p4.semA p4.sems.length p4.semC, .slice p4.eventA p4.events.length p4.eventC, .slice p4.boardA p4.boards.length p4.boardC, .slice p4.bufferA p4.buffers.length p4.bufferC, .slice p4.portA p4.ports.length p4.portC] 32)) V4.heap.size W3.heap.size p4) := ⟨heap_alloc_new _ _, ho.below ((Below.refl _ _).alloc (Nat.le_refl _) _)⟩
 have HP4 : Hid (p4.pure = p.pure ∧ p4.pure.Small ∧ (∀ g ∈ p4.blocks, X3 < g ∧ g < V4.heap.size) ∧ X3 < V4.heap.size) := ⟨hp, by rw [hp]; exact HSM.out.2.1, fun g hg => by have := ho.lt g hg; omega, by have := hb.size; omega⟩
 unfold PartD.cells
 go_wp2_with fail
 generalize V4.alloc (.cells #[.int .i64 p4.id, .int .i64 p4.next, .slice p4.procA p4.procs.length p4.procC, .slice p4.semA p4.sems.length p4.semC, .slice p4.eventA p4.events.length p4.eventC, .slice p4.boardA p4.boards.length p4.boardC, .slice p4.bufferA p4.buffers.length p4.bufferC, .slice p4.portA p4.ports.length p4.portC] 32) = W4 at *
 have hxl4 := H4.out.1.lt
 generalize V4.heap.size = X4 at *
 replace HX : Hid (SrcS p w W4) := HX.out.below hb2
 replace H3 : Hid (PartIn W4 X3 W2.heap.size r3) := H3.out.below hb2
 clear hb2 hb ho hp hxl
 refine (implWithEvent_any p4 id W4 HWid.out (small_good HP4.out.2.1 H4.out.2)).mono ?_
 rintro e V5 hE
 rw [HP4.out.1] at hE
 obtain ⟨r5, rfl, ho, hp, hb⟩ := hE
 rw [HOK.out]
 have hb2 : Below W4.heap.size W4 (V5.alloc (.cells #[.int .i64 r5.id, .int .i64 r5.next, .slice r5.procA r5.procs.length r5.procC, .slice r5.semA r5.sems.length r5.semC, .slice r5.eventA r5.events.length r5.eventC, .slice r5.boardA r5.boards.length r5.boardC, .slice r5.bufferA r5.buffers.length r5.bufferC, .slice r5.portA r5.ports.length r5.portC] 32)) := hb.alloc hb.size _
 have H5 : Hid (PartIn (V5.alloc (.cells #[.int .i64 r5.id, .int .i64 r5.next, .slice r5.procA r5.procs.length r5.procC, .slice r5.semA r5.sems.length r5.semC, .slice r5.eventA r5.events.length r5.eventC, .slice r5.boardA r5.boards.length r5.boardC, .slice r5.bufferA r5.buffers.length r5.bufferC, .slice r5.portA r5.ports.length r5.portC] 32)) V5.heap.size W4.heap.size r5) := ⟨heap_alloc_new _ _, ho.below ((Below.refl _ _).alloc (Nat.le_refl _) _)⟩
 have HP5 : Hid (r5.pure = (withR p.pure { p.pure with events := insF (·.id) (⟨id, false⟩ : EventD) p.pure.events }).getD zeroPart ∧ (∀ g ∈ r5.blocks, X4 < g ∧ g < V5.heap.size) ∧ X4 < V5.heap.size) := ⟨hp, fun g hg => by have := (ho.lt g hg); omega, by have := hb.size; omega⟩
 clear ho hp
 replace HX : Hid (SrcS p w (V5.alloc (.cells #[.int .i64 r5.id, .int .i64 r5.next, .slice r5.procA r5.procs.length r5.procC, .slice r5.semA r5.sems.length r5.semC, .slice r5.eventA r5.events.length r5.eventC, .slice r5.boardA r5.boards.length r5.boardC, .slice r5.bufferA r5.buffers.length r5.bufferC, .slice r5.portA r5.ports.length r5.portC] 32))) := HX.out.below hb2
 replace H3 : Hid (PartIn (V5.alloc (.cells #[.int .i64 r5.id, .int .i64 r5.next, .slice r5.procA r5.procs.length r5.procC, .slice r5.semA r5.sems.length r5.semC, .slice r5.eventA r5.events.length r5.eventC, .slice r5.boardA r5.boards.length r5.boardC, .slice r5.bufferA r5.buffers.length r5.bufferC, .slice r5.portA r5.ports.length r5.portC] 32)) X3 W2.heap.size r3) := H3.out.below hb2
 replace H4 : Hid (PartIn (V5.alloc (.cells #[.int .i64 r5.id, .int .i64 r5.next, .slice r5.procA r5.procs.length r5.procC, .slice r5.semA r5.sems.length r5.semC, .slice r5.eventA r5.events.length r5.eventC, .slice r5.boardA r5.boards.length r5.boardC, .slice r5.bufferA r5.buffers.length r5.bufferC, .slice r5.portA r5.ports.length r5.portC] 32)) X4 W3.heap.size p4) := H4.out.below hb2
 obtain ⟨v0, v1, v2, v3, v4, v5, v6, v7⟩ := H3.out.1.cells
 unfold PartD.cells
 go_wp2_with fail
 clear v0 v1 v2 v3 v4 v5 v6 v7
 generalize V5.alloc (.cells #[.int .i64 r5.id, .int .i64 r5.next, .slice r5.procA r5.procs.length r5.procC, .slice r5.semA r5.sems.length r5.semC, .slice r5.eventA r5.events.length r5.eventC, .slice r5.boardA r5.boards.length r5.boardC, .slice r5.bufferA r5.buffers.length r5.bufferC, .slice r5.portA r5.ports.length r5.portC] 32) = W5 at *
 generalize V5.heap.size = X5 at *
 clear hb2 hb hxl4
 have HE : Hid (r3.pure = r5.pure) := HP3.out.trans HP5.out.1.symm
 have HL : Hid (r5.pure.Small) := by rw [HP5.out.1]; exact (smallEvent HSM.out.2.1 HWid.out)
 refine (eqPart_l r5 r3 W5 HL.out HE.out H5.out.2.at H3.out.2.at).mono ?_
 rintro e W6 ⟨rfl, hb⟩
 replace HX : Hid (SrcS p w W6) := HX.out.below hb
 replace H3 : Hid (PartIn W6 X3 W2.heap.size r3) := H3.out.below hb
 replace H4 : Hid (PartIn W6 X4 W3.heap.size p4) := H4.out.below hb
 replace H5 : Hid (PartIn W6 X5 W4.heap.size r5) := H5.out.below hb
 clear hb
 go_wp2_with fail
 have HS : Hid (PartBox W6 X4 p4 ∧ W6.heap[w.heap.size]? = some (.cells p.cells 73 (0, 0))) := ⟨H4.out.1, HX.out.1⟩
 refine wp_region_held_drew (S := fun w' => PartBox w' X4 p4 ∧ w'.heap[w.heap.size]? = some (.cells p.cells 73 (0, 0))) (by kernel_rfl) HS.out (fun hHeld => ?_)
 refine wpAnyH_take (i := 0) (v := .agg #[.int .i64 p4.id, .int .i64 p4.next, .slice p4.procA p4.procs.length p4.procC, .slice p4.semA p4.sems.length p4.semC, .slice p4.eventA p4.events.length p4.eventC, .slice p4.boardA p4.boards.length p4.boardC, .slice p4.bufferA p4.buffers.length p4.bufferC, .slice p4.portA p4.ports.length p4.portC]) rfl (by kernel_rfl) (by kernel_rfl) (by kernel_rfl) (fun _ _ _ h => h) (yieldsIf_row (by rfl) 32 _ rfl X4 (by rfl) 32 _ _ (fun _ h => h.1) Tryz.underlying32 rfl (by kernel_rfl)) hHeld ?_
 simp only [List.getElem_toArray, List.getElem_cons_zero, Act.put, List.setIfInBounds_toArray, List.set_cons_zero, List.set_cons_succ]
 refine wpAnyH_take (i := 1) (v := .agg #[.int .i64 p.id, .int .i64 p.next, .slice p.procA p.procs.length p.procC, .slice p.semA p.sems.length p.semC, .slice p.eventA p.events.length p.eventC, .slice p.boardA p.boards.length p.boardC, .slice p.bufferA p.buffers.length p.bufferC, .slice p.portA p.ports.length p.portC]) rfl (by kernel_rfl) (by kernel_rfl) (by kernel_rfl) (fun _ _ _ h => h) (yieldsIf_row (by rfl) 73 _ rfl w.heap.size (by rfl) 73 _ _ (fun _ h => h.2) Tryz.underlying73 rfl (by kernel_rfl)) hHeld ?_
 simp only [List.getElem_toArray, List.getElem_cons_zero, List.getElem_cons_succ, Act.put, List.setIfInBounds_toArray, List.set_cons_zero, List.set_cons_succ]
 refine wpAnyH_ready (rs := [2]) (by kernel_rfl) (by simp) ?_
 refine AllReadyH.cons rfl (fun K hK => ?_) AllReadyH.nil
 simp only [List.getElem_toArray, List.getElem_cons_zero, List.getElem_cons_succ]
 rw [if_pos (by rfl)]
 go_wp2_with fail
 refine (toPart_l p W6.drew HSM.out.1 (HC.out.below HX.out.2.drew)).mono ?_
 rintro e W7 ⟨p6, rfl, ho, hp, hb2⟩
 have hb : Below W6.heap.size W6 W7 := below_undrew' hb2
 have H7 : Hid (PartD.At W7 p6 ∧ p6.pure = p4.pure) := ⟨ho.at, by rw [hp, HP4.out.1]⟩
 replace HX : Hid (SrcS p w W7) := HX.out.below hb
 replace H3 : Hid (PartIn W7 X3 W2.heap.size r3) := H3.out.below hb
 replace H4 : Hid (PartIn W7 X4 W3.heap.size p4) := H4.out.below hb
 replace H5 : Hid (PartIn W7 X5 W4.heap.size r5) := H5.out.below hb
 clear hb hb2 ho hp HS hHeld
 refine hK.out _ _ ⟨H4.out.1, HX.out.1⟩ (fun hHeld => ?_)
 clear hK K
 try simp only [List.getElem_toArray, List.getElem_cons_zero, List.getElem_cons_succ, Act.put, List.setIfInBounds_toArray, List.set_cons_zero, List.set_cons_succ]
 refine wpAnyH_ready (rs := [3]) (by kernel_rfl) (by simp) ?_
 refine AllReadyH.cons rfl (fun K hK => ?_) AllReadyH.nil
 simp only [List.getElem_toArray, List.getElem_cons_zero, List.getElem_cons_succ]
 rw [if_pos (by rfl)]
 go_wp2_with fail
 refine (eqPart_l p4 p6 W7 HP4.out.2.1 H7.out.2 H4.out.2.at H7.out.1).mono ?_
 rintro e W8 ⟨rfl, hb⟩
 replace HX : Hid (SrcS p w W8) := HX.out.below hb
 replace H3 : Hid (PartIn W8 X3 W2.heap.size r3) := H3.out.below hb
 replace H4 : Hid (PartIn W8 X4 W3.heap.size p4) := H4.out.below hb
 replace H5 : Hid (PartIn W8 X5 W4.heap.size r5) := H5.out.below hb
 clear hb H7
 refine hK.out _ _ ⟨H4.out.1, HX.out.1⟩ (fun hHeld => ?_)
 clear hK K
 try simp only [List.getElem_toArray, List.getElem_cons_zero, List.getElem_cons_succ, Act.put, List.setIfInBounds_toArray, List.set_cons_zero, List.set_cons_succ]
 refine wpAnyH_take (i := 4) (v := .bool false) rfl (by kernel_rfl) (by kernel_rfl) (by kernel_rfl) (fun _ _ _ h => h) (Or.inl ⟨by rfl, fun _ _ => rfl⟩) ⟨H4.out.1, HX.out.1⟩ ?_
 simp only [List.getElem_toArray, List.getElem_cons_zero, List.getElem_cons_succ, Act.put, List.setIfInBounds_toArray, List.set_cons_zero, List.set_cons_succ]
 refine wpAnyH_done (by kernel_rfl) ?_ _
 clear hHeld
 obtain ⟨b0, b1, b2, b3, b4, b5, b6, b7⟩ := H4.out.1.cells
 have HCT : Hid (1 + (cntPart p4 : Nat) ≤ (90000000 : Int)) := by have h5 := cnt_part p4; rw [HP4.out.1] at h5; have h6 := HSM.out.2.2; show (1 : Int) + _ ≤ _; omega
 go_wp2_with fail
 clear b0 b1 b2 b3 b4 b5 b6 b7
 refine (markPart_l p4 1 W8 W3.heap.size (small_cnt HP4.out.2.1) (by omega) HCT.out H4.out.2).mono ?_
 rintro e W9 ⟨rfl, -, hkb⟩
 have hrw := HR.out
 have hr4 := HP4.out.2.2
 have hr5 := HP5.out.2
 replace HX : Hid (SrcS p w W9) := HX.out.kept hkb fun g hg => by have := hr4.1 g hg; omega
 replace H3 : Hid (PartIn W9 X3 W2.heap.size r3) := H3.out.kept hkb (fun hm => by have := hr4.1 _ hm; omega) (fun g hg hm => by have := hr4.1 g hm; have := hrw.1 g hg; omega)
 replace H5 : Hid (PartIn W9 X5 W4.heap.size r5) := H5.out.kept hkb (fun hm => by have := hr4.1 _ hm; omega) (fun g hg hm => by have := hr4.1 g hm; have := hr5.1 g hg; omega)
 clear H4 hkb hrw hr4 hr5
 have nn : decide ((1 : Int) + (cntPart p4 : Nat) < 0) = false := decide_eq_false (by omega)
 obtain ⟨u0, u1, u2, u3, u4, u5, u6, u7⟩ := H5.out.1.cells
 obtain ⟨v0, v1, v2, v3, v4, v5, v6, v7⟩ := H3.out.1.cells
 go_wp2_with fail
 clear u0 u1 u2 u3 u4 u5 u6 u7
 clear v0 v1 v2 v3 v4 v5 v6 v7
 clear nn
 refine (eqPart_l r5 r3 W9 HL.out HE.out H5.out.2.at H3.out.2.at).mono ?_
 rintro e W10 ⟨rfl, hb⟩
 replace HX : Hid (SrcS p w W10) := HX.out.below hb
 replace H3 : Hid (PartIn W10 X3 W2.heap.size r3) := H3.out.below hb
 replace H5 : Hid (PartIn W10 X5 W4.heap.size r5) := H5.out.below hb
 clear hb
 obtain ⟨u0, u1, u2, u3, u4, u5, u6, u7⟩ := H5.out.1.cells
 go_wp2_with fail
 clear u0 u1 u2 u3 u4 u5 u6 u7
 have HCR : Hid (1 + (cntPart r5 : Nat) ≤ (90000000 : Int)) := by have h5 := cnt_part r5; have h6 : r5.pure.total ≤ 1048577 := (by rw [HP5.out.1]; exact Nat.le_trans totalEvent (by have h7 := HSM.out.2.2; omega)); show (1 : Int) + _ ≤ _; omega
 refine (markPart_l r5 1 W10 W4.heap.size (small_cnt HL.out) (by omega) HCR.out H5.out.2).mono ?_
 rintro e W11 ⟨rfl, hmk, hkb⟩
 have hrw := HR.out
 have hr4 := HP4.out.2.2
 have hr5 := HP5.out.2
 replace HX : Hid (SrcS p w W11) := HX.out.kept hkb fun g hg => by have := hr5.1 g hg; omega
 replace H3 : Hid (PartIn W11 X3 W2.heap.size r3) := H3.out.kept hkb (fun hm => by have := hr5.1 _ hm; omega) (fun g hg hm => by have := hr5.1 g hm; have := hrw.1 g hg; omega)
 have HB5 : Hid (PartBox W11 X5 r5) := (hkb.same _ H5.out.1.lt fun hm => by have := hr5.1 _ hm; omega).trans H5.out.1
 have HM : Hid (PartOwn W11 W4.heap.size (mkPart 1 r5)) := hmk
 clear H5 hkb hmk hrw hr4 hr5
 obtain ⟨u0, u1, u2, u3, u4, u5, u6, u7⟩ := HB5.out.cells
 go_wp2_with fail
 clear u0 u1 u2 u3 u4 u5 u6 u7
 refine (heldPart_l r5 1 W11 (small_cnt HL.out) (by omega) HCR.out HM.out.at).mono ?_
 rintro e W12 ⟨rfl, hb⟩
 replace HX : Hid (SrcS p w W12) := HX.out.below hb
 replace H3 : Hid (PartIn W12 X3 W2.heap.size r3) := H3.out.below hb
 replace HB5 : Hid (PartBox W12 X5 r5) := HB5.out.below hb
 replace HM : Hid (PartOwn W12 W4.heap.size (mkPart 1 r5)) := HM.out.below hb
 clear hb
 have nq : ¬ (1 : Int) + (cntPart r5 : Nat) < 0 := by omega
 have nd : ((1 : Int) + (cntPart r5 : Nat) != 1 + (cntPart r5 : Nat)) = false := by simp
 obtain ⟨m0, m1, m2, m3, m4, m5, m6, m7⟩ := srcCells HX.out.1
 go_wp2_with fail
 clear m0 m1 m2 m3 m4 m5 m6 m7
 refine (toPart_l p W12 HSM.out.1 (HC.out.below HX.out.2)).mono ?_
 rintro e W13 ⟨p13, rfl, ho, hp, hb⟩
 have HQ : Hid (PartOwn W13 W12.heap.size p13 ∧ p13.pure = p.pure ∧ p13.pure.Small) := ⟨ho, hp, by rw [hp]; exact HSM.out.2.1⟩
 replace HX : Hid (SrcS p w W13) := HX.out.below hb
 replace H3 : Hid (PartIn W13 X3 W2.heap.size r3) := H3.out.below hb
 replace HB5 : Hid (PartBox W13 X5 r5) := HB5.out.below hb
 replace HM : Hid (PartOwn W13 W4.heap.size (mkPart 1 r5)) := HM.out.below hb
 clear ho hp hb
 go_wp2_with fail
 refine (implWithEvent_any p13 id W13 HWid.out (small_good HQ.out.2.2 HQ.out.1)).mono ?_
 rintro e V14 hE
 rw [HQ.out.2.1] at hE
 obtain ⟨r14, rfl, ho, hp14, hb⟩ := hE
 rw [HOK.out]
 have hb2 : Below W13.heap.size W13 (V14.alloc (.cells #[.int .i64 r14.id, .int .i64 r14.next, .slice r14.procA r14.procs.length r14.procC, .slice r14.semA r14.sems.length r14.semC, .slice r14.eventA r14.events.length r14.eventC, .slice r14.boardA r14.boards.length r14.boardC, .slice r14.bufferA r14.buffers.length r14.bufferC, .slice r14.portA r14.ports.length r14.portC] 32)) := hb.alloc hb.size _
 have H14 : Hid (PartIn (V14.alloc (.cells #[.int .i64 r14.id, .int .i64 r14.next, .slice r14.procA r14.procs.length r14.procC, .slice r14.semA r14.sems.length r14.semC, .slice r14.eventA r14.events.length r14.eventC, .slice r14.boardA r14.boards.length r14.boardC, .slice r14.bufferA r14.buffers.length r14.bufferC, .slice r14.portA r14.ports.length r14.portC] 32)) V14.heap.size W13.heap.size r14) := ⟨heap_alloc_new _ _, ho.below ((Below.refl _ _).alloc (Nat.le_refl _) _)⟩
 have HE14 : Hid (r3.pure = r14.pure) := HP3.out.trans hp14.symm
 have HL14 : Hid (r14.pure.Small) := by rw [hp14]; exact (smallEvent HSM.out.2.1 HWid.out)
 clear ho hp14 HQ
 replace HX : Hid (SrcS p w (V14.alloc (.cells #[.int .i64 r14.id, .int .i64 r14.next, .slice r14.procA r14.procs.length r14.procC, .slice r14.semA r14.sems.length r14.semC, .slice r14.eventA r14.events.length r14.eventC, .slice r14.boardA r14.boards.length r14.boardC, .slice r14.bufferA r14.buffers.length r14.bufferC, .slice r14.portA r14.ports.length r14.portC] 32))) := HX.out.below hb2
 replace H3 : Hid (PartIn (V14.alloc (.cells #[.int .i64 r14.id, .int .i64 r14.next, .slice r14.procA r14.procs.length r14.procC, .slice r14.semA r14.sems.length r14.semC, .slice r14.eventA r14.events.length r14.eventC, .slice r14.boardA r14.boards.length r14.boardC, .slice r14.bufferA r14.buffers.length r14.bufferC, .slice r14.portA r14.ports.length r14.portC] 32)) X3 W2.heap.size r3) := H3.out.below hb2
 replace HB5 : Hid (PartBox (V14.alloc (.cells #[.int .i64 r14.id, .int .i64 r14.next, .slice r14.procA r14.procs.length r14.procC, .slice r14.semA r14.sems.length r14.semC, .slice r14.eventA r14.events.length r14.eventC, .slice r14.boardA r14.boards.length r14.boardC, .slice r14.bufferA r14.buffers.length r14.bufferC, .slice r14.portA r14.ports.length r14.portC] 32)) X5 r5) := HB5.out.below hb2
 replace HM : Hid (PartOwn (V14.alloc (.cells #[.int .i64 r14.id, .int .i64 r14.next, .slice r14.procA r14.procs.length r14.procC, .slice r14.semA r14.sems.length r14.semC, .slice r14.eventA r14.events.length r14.eventC, .slice r14.boardA r14.boards.length r14.boardC, .slice r14.bufferA r14.buffers.length r14.bufferC, .slice r14.portA r14.ports.length r14.portC] 32)) W4.heap.size (mkPart 1 r5)) := HM.out.below hb2
 obtain ⟨v0, v1, v2, v3, v4, v5, v6, v7⟩ := H3.out.1.cells
 unfold PartD.cells
 go_wp2_with fail
 clear v0 v1 v2 v3 v4 v5 v6 v7
 generalize V14.alloc (.cells #[.int .i64 r14.id, .int .i64 r14.next, .slice r14.procA r14.procs.length r14.procC, .slice r14.semA r14.sems.length r14.semC, .slice r14.eventA r14.events.length r14.eventC, .slice r14.boardA r14.boards.length r14.boardC, .slice r14.bufferA r14.buffers.length r14.bufferC, .slice r14.portA r14.ports.length r14.portC] 32) = W14 at *
 generalize V14.heap.size = X14 at *
 clear hb2 hb
 refine (eqPart_l r14 r3 W14 HL14.out HE14.out H14.out.2.at H3.out.2.at).mono ?_
 rintro e W15 ⟨rfl, hb⟩
 replace HX : Hid (SrcS p w W15) := HX.out.below hb
 replace H3 : Hid (PartIn W15 X3 W2.heap.size r3) := H3.out.below hb
 replace HB5 : Hid (PartBox W15 X5 r5) := HB5.out.below hb
 replace HM : Hid (PartOwn W15 W4.heap.size (mkPart 1 r5)) := HM.out.below hb
 clear hb
 obtain ⟨u0, u1, u2, u3, u4, u5, u6, u7⟩ := HB5.out.cells
 go_wp2_with fail
 clear u0 u1 u2 u3 u4 u5 u6 u7
 refine (heldPart_l r5 1 W15 (small_cnt HL.out) (by omega) HCR.out HM.out.at).mono ?_
 rintro e W16 ⟨rfl, hb⟩
 replace HX : Hid (SrcS p w W16) := HX.out.below hb
 replace H3 : Hid (PartIn W16 X3 W2.heap.size r3) := H3.out.below hb
 replace HB5 : Hid (PartBox W16 X5 r5) := HB5.out.below hb
 replace HM : Hid (PartOwn W16 W4.heap.size (mkPart 1 r5)) := HM.out.below hb
 clear hb
 go_wp2
 go_ret
 exact ⟨rfl, HX.out.2⟩

end Go.Proofs.YtkbcplnlehdjfaaGreat
