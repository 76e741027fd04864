/- What the proof leans on, part 0: ProcOfI, WithP, StoppedS, StartedS, WithO, WkPure, OpenX, StoppedI. -/
import Derived.Test.YtkbcplnlehdjfaaGreatOwnR1
import Derived.Test.YtkbcplnlehdjfaaGreatOwnR33
import Derived.Test.YtkbcplnlehdjfaaGreatOwnR35
import Derived.Deep.MidRow

namespace Go.Proofs.YtkbcplnlehdjfaaGreat
open Go.RowKit Go.Maps
attribute [local go_sem ↓] Go.wp_at_zero Go.wp_at_succ
/-- The process of that number. -/
def zeroP : ProcP := ⟨0, 0, [], 0, 0, 0, 0, 0, noT, noT, 0, 0⟩
def procOfP (p : PartP) (id : Int) : Option ProcP := if partB p then p.procs.find? (fun x => decide (x.id = id)) else none
/-- What asking for a process ends in: it, or none, in memory of its own. -/
def ProcEnds (w : World) (r : Option ProcP) (e : Ending) (w' : World) : Prop := ∃ x : ProcD, e = .returned (.tuple #[.agg (procVs x), .bool r.isSome]) ∧ procN.Mine w' w.heap.size x ∧ x.toProcP = r.getD zeroP ∧ Below w.heap.size w w'
end Go.Proofs.YtkbcplnlehdjfaaGreat

/- A thing more in its place: what becomes of a partition. -/
namespace Go.Proofs.YtkbcplnlehdjfaaGreat
open Go.RowKit
section
variable {α : Type} {num : α → Int} {ok : α → Bool}
/-- A thing before the first one of a greater number; before the first one of no lesser number. -/
def insG (num : α → Int) (x : α) : List α → List α
 | [] => [x]
 | y :: r => if num x < num y then x :: y :: r else y :: insG num x r
def insF (num : α → Int) (x : α) : List α → List α
 | [] => [x]
 | y :: r => if num y < num x then y :: insF num x r else x :: y :: r
/-- Whether things with one more are right. -/
def moreB (num : α → Int) (ok : α → Bool) (x : α) (l : List α) : Bool := !decide (num x ∈ l.map num) && inB (num x) 1 1000 && ok x
end
/-- A partition with more, if it and what it becomes are right. -/
def withR (p p' : PartP) : Option PartP := if partB p && partB p' then some p' else none
end Go.Proofs.YtkbcplnlehdjfaaGreat

/- A process that is stopped: the specification. (Made by mkstopped.py.) -/
namespace Go.Proofs.YtkbcplnlehdjfaaGreat
open Go.RowKit Go.Maps
attribute [local go_sem ↓] Go.wp_at_zero Go.wp_at_succ
/-- A process that is at rest. -/
def restP (y : ProcP) : ProcP := ⟨y.id, y.prio, y.prog, 0, 0, 0, 0, 0, noT, y.got, y.code, 0⟩
def restD (y : ProcD) : ProcD := ⟨restP y.toProcP, y.progA, y.progC⟩
def stoppedP (p : PartP) (id : Int) : Option PartP := turnedP p id (fun y => !decide (y.state = 0)) restP p.next
set_option maxRecDepth 100000 in
set_option maxHeartbeats 4000000 in
theorem l4Dormant_any (x : ProcD) (w : World) : Calls Tryz.prog 100 #[.agg #[.int .i64 x.id, .int .i64 x.prio, .slice x.progA x.prog.length x.progC, .int .i64 x.state, .int .i64 x.pc, .int .i64 x.left, .int .i64 x.wake, .int .i64 x.on, .string x.held, .string x.got, .int .i64 x.code, .int .i64 x.since]] w fun e w' => e = .returned (.agg #[.int .i64 x.id, .int .i64 x.prio, .slice x.progA x.prog.length x.progC, .int .i64 0, .int .i64 0, .int .i64 0, .int .i64 0, .int .i64 0, .string ⟨#[]⟩, .string x.got, .int .i64 x.code, .int .i64 0]) ∧ Below w.heap.size w w' := by
 have HB : Hid (Below w.heap.size w ((w.alloc (.cells #[.int .i64 x.id, .int .i64 x.prio, .slice x.progA x.prog.length x.progC, .int .i64 x.state, .int .i64 x.pc, .int .i64 x.left, .int .i64 x.wake, .int .i64 x.on, .string x.held, .string x.got, .int .i64 x.code, .int .i64 x.since] 43)).alloc (.cells #[.int .i64 0, .int .i64 0, .slice none 0 0, .int .i64 0, .int .i64 0, .int .i64 0, .int .i64 0, .int .i64 0, .string ⟨#[]⟩, .string ⟨#[]⟩, .int .i64 0, .int .i64 0] 43)) ∧ ((w.alloc (.cells #[.int .i64 x.id, .int .i64 x.prio, .slice x.progA x.prog.length x.progC, .int .i64 x.state, .int .i64 x.pc, .int .i64 x.left, .int .i64 x.wake, .int .i64 x.on, .string x.held, .string x.got, .int .i64 x.code, .int .i64 x.since] 43)).alloc (.cells #[.int .i64 0, .int .i64 0, .slice none 0 0, .int .i64 0, .int .i64 0, .int .i64 0, .int .i64 0, .int .i64 0, .string ⟨#[]⟩, .string ⟨#[]⟩, .int .i64 0, .int .i64 0] 43)).heap[w.heap.size + 1]? = some (.cells #[.int .i64 0, .int .i64 0, .slice none 0 0, .int .i64 0, .int .i64 0, .int .i64 0, .int .i64 0, .int .i64 0, .string ⟨#[]⟩, .string ⟨#[]⟩, .int .i64 0, .int .i64 0] 43 (0, 0))) := ⟨((Below.refl _ _).alloc (Nat.le_refl _) _).alloc (by simp) _, heap_alloc2_new _ _ _⟩
 go_enter Tryz.func100, Tryz.ntmps100
 go_wp2_with (refine wpList_store_row rfl 43 (Operand.tmp 2) (Operand.tmp 13) rfl (w.heap.size + 1) _ _ #[.int .i64 x.id, .int .i64 x.prio, .slice x.progA x.prog.length x.progC, .int .i64 0, .int .i64 0, .int .i64 0, .int .i64 0, .int .i64 0, .string ⟨#[]⟩, .string x.got, .int .i64 x.code, .int .i64 0] rfl rfl HB.out.2 (by kernel_rfl) rfl (by kernel_rfl) ?_)
 refine bodyPost_ret (v := .agg #[.int .i64 x.id, .int .i64 x.prio, .slice x.progA x.prog.length x.progC, .int .i64 0, .int .i64 0, .int .i64 0, .int .i64 0, .int .i64 0, .string ⟨#[]⟩, .string x.got, .int .i64 x.code, .int .i64 0]) (results_cell_row Tryz.results100 _ _ (w.heap.size + 1) _ _ (0, 0) _ rfl (setRow_heap _ _ _ _ _ _ HB.out.2) Tryz.underlying43 rfl (by kernel_rfl)) rfl ?_
 exact ⟨rfl, below_setRow HB.out.1 (by omega) _⟩
def StopS (O gs n : Nat) (q : PartD) (x : ProcD) (w' : World) : Prop := w'.cell? ⟨O, 2, none⟩ = some (.slice (some ⟨gs, 0, none⟩) q.procs.length q.procC) ∧ w'.cell? ⟨gs, n * 12, none⟩ = some (.int .i64 x.id) ∧ w'.cell? ⟨gs, n * 12 + 1, none⟩ = some (.int .i64 x.prio) ∧ w'.cell? ⟨gs, n * 12 + 2, none⟩ = some (.slice x.progA x.prog.length x.progC) ∧ w'.cell? ⟨gs, n * 12 + 3, none⟩ = some (.int .i64 x.state) ∧ w'.cell? ⟨gs, n * 12 + 4, none⟩ = some (.int .i64 x.pc) ∧ w'.cell? ⟨gs, n * 12 + 5, none⟩ = some (.int .i64 x.left) ∧ w'.cell? ⟨gs, n * 12 + 6, none⟩ = some (.int .i64 x.wake) ∧ w'.cell? ⟨gs, n * 12 + 7, none⟩ = some (.int .i64 x.on) ∧ w'.cell? ⟨gs, n * 12 + 8, none⟩ = some (.string x.held) ∧ w'.cell? ⟨gs, n * 12 + 9, none⟩ = some (.string x.got) ∧ w'.cell? ⟨gs, n * 12 + 10, none⟩ = some (.int .i64 x.code) ∧ w'.cell? ⟨gs, n * 12 + 11, none⟩ = some (.int .i64 x.since)
end Go.Proofs.YtkbcplnlehdjfaaGreat

/- A process that is started: the specification. (Made by mkstarted.py.) -/
namespace Go.Proofs.YtkbcplnlehdjfaaGreat
open Go.RowKit Go.Maps
attribute [local go_sem ↓] Go.wp_at_zero Go.wp_at_succ
/-- A process that is started. -/
def startedP (p : PartP) (id : Int) : Option PartP := turnedP p id (fun y => decide (y.state = 0) && !decide (p.next = 1000000000)) (fun y => { y with state := 1, since := p.next }) (p.next + 1)
end Go.Proofs.YtkbcplnlehdjfaaGreat

/- A thing laid into an open partition. (Made by mkwitho.py.) -/
namespace Go.Proofs.YtkbcplnlehdjfaaGreat
open Go.RowKit Go.Maps
theorem OpenAt.lt {w : World} {base o : Nat} {S : OpenD} (h : OpenAt w base o S) : ∀ c ∈ o :: (S.boxes ++ S.kids), c < w.heap.size := fun c hc => by
 simp only [OpenD.boxes, OpenD.kids, List.mem_cons, List.mem_append] at hc
 rcases hc with rfl | ((hc | hc | hc | hc | hc | hc) | hc | hc | hc)
 ·exact (Array.getElem?_eq_some_iff.1 h.opn).1
 ·exact h.procs.lt c (List.mem_cons.2 hc)
 ·exact h.sems.lt c (List.mem_cons.2 hc)
 ·exact h.events.lt c (List.mem_cons.2 hc)
 ·exact h.boards.lt c (List.mem_cons.2 hc)
 ·exact h.buffers.lt c (List.mem_cons.2 hc)
 ·exact h.ports.lt c (List.mem_cons.2 hc)
 ·obtain ⟨r, hr, hk⟩ := List.mem_filterMap.1 hc
  exact ((h.mineP r hr).lt hk).2
 ·obtain ⟨r, hr, hk⟩ := List.mem_filterMap.1 hc
  exact ((h.mineF r hr).lt hk).2
 ·obtain ⟨r, hr, hk⟩ := List.mem_filterMap.1 hc
  exact ((h.mineQ r hr).lt hk).2
end Go.Proofs.YtkbcplnlehdjfaaGreat

/- Those whose time has come: which is woken first, what becomes of it, and what all of them leave. -/
namespace Go.Proofs.YtkbcplnlehdjfaaGreat
section
variable {α : Type} (ah : α → α → Bool)
/-- The one that is ahead of all, of those that none is ahead of the first. -/
def stepA (r : Option α) (x : α) : Option α := match r with
 | none => some x
 | some b => if ah x b then some x else some b
def bestA (l : List α) : Option α := l.foldl (stepA ah) none
theorem bestA_snoc (l : List α) (x : α) : bestA ah (l ++ [x]) = stepA ah (bestA ah l) x := by simp [bestA]
theorem stepA_mem {r : Option α} {x y : α} (h : stepA ah r x = some y) : y = x ∨ r = some y := by
 unfold stepA at h
 split at h
 ·exact .inl (Option.some.inj h).symm
 ·split at h
  ·exact .inl (Option.some.inj h).symm
  ·exact .inr h
theorem fold_mem : ∀ (l : List α) (r : Option α) {y : α}, l.foldl (stepA ah) r = some y → y ∈ l ∨ r = some y
 | [], _, _, h => .inr h
 | x :: l, r, y, h => by
  rcases fold_mem l (stepA ah r x) h with h1 | h1
  ·exact .inl (by simp [h1])
  ·rcases stepA_mem ah h1 with h2 | h2
   ·exact .inl (by simp [h2])
   ·exact .inr h2
theorem bestA_mem {l : List α} {y : α} (h : bestA ah l = some y) : y ∈ l := (fold_mem ah l none h).elim id (fun e => by cases e)
theorem stepA_some (r : Option α) (x : α) : ∃ y, stepA ah r x = some y := by
 unfold stepA
 split
 ·exact ⟨_, rfl⟩
 ·split <;> exact ⟨_, rfl⟩
theorem bestA_none {l : List α} (h : bestA ah l = none) : l = [] := by
 rcases List.eq_nil_or_concat l with e | ⟨l', x, e⟩
 ·exact e
 ·subst e
  rw [List.concat_eq_append, bestA_snoc] at h
  obtain ⟨y, hy⟩ := stepA_some ah (bestA ah l') x
  rw [hy] at h
  cases h
/-- By its place among the first k that are looked at. -/
def BestAt (f : α → Bool) (l : List α) (k : Nat) (i : Int) : Prop := match bestA ah ((l.take k).filter f) with
 | none => i = -1
 | some x => ∃ n : Nat, i = n ∧ n < k ∧ l[n]? = some x
variable {f : α → Bool} {l : List α} {k : Nat} {i : Int} {x : α}
theorem BestAt.start (f : α → Bool) (l : List α) : BestAt ah f l 0 (-1) := by simp [BestAt, bestA]
theorem filterA_up (hx : l[k]? = some x) : (l.take (k + 1)).filter f = (l.take k).filter f ++ (if f x then [x] else []) := by
 have h : l.take (k + 1) = l.take k ++ [x] := by rw [List.take_add_one, hx]; rfl
 rw [h, List.filter_append]
 by_cases h : f x = true <;> simp [h]
variable {ah}
theorem BestAt.skip (h : BestAt ah f l k i) (hx : l[k]? = some x) (hf : f x = false) : BestAt ah f l (k + 1) i := by
 unfold BestAt at h ⊢
 rw [filterA_up hx, hf]
 simp only [Bool.false_eq_true, if_false, List.append_nil]
 split at h
 ·exact h
 ·obtain ⟨n, h1, h2, h3⟩ := h
  exact ⟨n, h1, by omega, h3⟩
theorem BestAt.first (h : BestAt ah f l k i) (hi : i < 0) (hx : l[k]? = some x) (hf : f x = true) : BestAt ah f l (k + 1) k := by
 unfold BestAt at h ⊢
 rw [filterA_up hx, hf]
 simp only [if_true]
 rw [bestA_snoc]
 split at h
 ·rename_i e
  rw [e]
  exact ⟨k, rfl, by omega, hx⟩
 ·obtain ⟨n, h1, _⟩ := h
  omega
theorem BestAt.got (h : BestAt ah f l k i) (hi : ¬ i < 0) : ∃ (n : Nat) (y : α), i = n ∧ n < k ∧ l[n]? = some y ∧ bestA ah ((l.take k).filter f) = some y := by
 unfold BestAt at h
 split at h
 ·omega
 ·rename_i y e
  obtain ⟨n, h1, h2, h3⟩ := h
  exact ⟨n, y, h1, h2, h3, e⟩
theorem BestAt.none' (h : BestAt ah f l k i) (hi : i < 0) : bestA ah ((l.take k).filter f) = none := by
 unfold BestAt at h
 split at h
 ·assumption
 ·obtain ⟨n, h1, _⟩ := h
  omega
theorem BestAt.next {n : Nat} {y : α} (hn : n < k) (hy : l[n]? = some y) (he : bestA ah ((l.take k).filter f) = some y) (hx : l[k]? = some x) (hf : f x = true) : BestAt ah f l (k + 1) (if ah x y then (k : Int) else (n : Int)) := by
 unfold BestAt
 rw [filterA_up hx, hf]
 simp only [if_true]
 rw [bestA_snoc, he]
 simp only [stepA]
 by_cases ha : ah x y = true
 ·simp only [ha, if_true]
  exact ⟨k, rfl, by omega, hx⟩
 ·simp only [ha, Bool.false_eq_true, if_false]
  exact ⟨n, rfl, by omega, hy⟩
end
/-- Its time has come. -/
def dueB (now : Int) (x : ProcP) : Bool := decide (2 ≤ x.state) && inB x.wake 1 now
def soonB (a b : ProcP) : Bool := decide (a.wake < b.wake)
def dueL (now : Int) (l : List ProcP) : List ProcP := l.filter (dueB now)
def nextDue (now : Int) (l : List ProcP) : Option ProcP := bestA soonB (dueL now l)
/-- Past its op, with that code. -/
def goneP (code : Int) (x : ProcP) : ProcP := { x with code := code, state := 1, pc := x.pc + 1, left := 0, wake := 0, on := 0, held := noT }
def pastP (code : Int) (x : ProcP) : ProcP := if x.pc + 1 = x.prog.length then restP (goneP code x) else goneP code x
def wakeF (nx code : Int) (x : ProcP) : ProcP := if x.pc + 1 = x.prog.length then restP (goneP code x) else { goneP code x with since := nx }
def wakeN (nx : Int) (x : ProcP) : Int := if x.pc + 1 = x.prog.length then nx else nx + 1
def codeOf (x : ProcP) : Int := if x.state = 2 then 0 else 2
def wakeStep (p : PartP) (x : ProcP) : PartP := { p with next := wakeN p.next x, procs := turnP x.id (wakeF p.next (codeOf x)) p.procs }
def wokenN (now : Int) : Nat → PartP → PartP
 | 0, p => p
 | n + 1, p => match nextDue now p.procs with
  | none => p
  | some x => wokenN now n (wakeStep p x)
/-- All whose time has come. -/
def wokenL (now : Int) (p : PartP) : PartP := wokenN now (dueL now p.procs).length p
def wokenP (p : PartP) (now : Int) : Option PartP := if partB p && inB now 0 1000000000 && decide (p.next ≤ 999999980) then some (wokenL now p) else none
theorem wakeF_id (nx code : Int) (x : ProcP) : (wakeF nx code x).id = x.id ∧ (wakeF nx code x).prog = x.prog := by
 unfold wakeF
 split <;> exact ⟨rfl, rfl⟩
theorem wakeF_not (now nx code : Int) (x : ProcP) : dueB now (wakeF nx code x) = false := by
 unfold wakeF dueB
 split <;> simp [restP, goneP]
theorem turn_other {f : ProcP → ProcP} {id : Int} : ∀ {l : List ProcP}, (∀ y ∈ l, y.id ≠ id) → turnP id f l = l
 | [], _ => rfl
 | y :: r, h => by
  have h1 : turnP id f r = r := turn_other fun z hz => h z (List.mem_cons_of_mem _ hz)
  simp only [turnP, List.map_cons] at h1 ⊢
  rw [if_neg (h y (by simp)), h1]
/-- One less. -/
theorem due_less {now : Int} {f : ProcP → ProcP} {x : ProcP} (hf : dueB now (f x) = false) (hx : dueB now x = true) : ∀ {l : List ProcP}, l.Pairwise (fun x y => x.id < y.id) → x ∈ l → (dueL now (turnP x.id f l)).length + 1 = (dueL now l).length
 | [], _, h => by cases h
 | y :: r, hr, h => by
  rw [List.pairwise_cons] at hr
  by_cases e : y = x
  ·subst e
   have h2 : turnP y.id f (y :: r) = f y :: r := by
    have h3 : turnP y.id f r = r := turn_other fun z hz e => by have := hr.1 z hz; omega
    simp only [turnP, List.map_cons, if_true] at h3 ⊢
    rw [h3]
   rw [h2]
   simp [dueL, hf, hx]
  ·have hm : x ∈ r := by
    rcases List.mem_cons.1 h with h1 | h1
    ·exact absurd h1.symm e
    ·exact h1
   have h4 := due_less hf hx hr.2 hm
   have h5 : ¬ y.id = x.id := by have := hr.1 x hm; omega
   have h6 : turnP x.id f (y :: r) = y :: turnP x.id f r := by simp [turnP, h5]
   rw [h6]
   unfold dueL at h4 ⊢
   by_cases hy : dueB now y = true
   ·simp only [List.filter_cons, hy, if_true, List.length_cons]; omega
   ·simp only [List.filter_cons, hy, Bool.false_eq_true, if_false]; exact h4
theorem turn_rise {f : ProcP → ProcP} {id : Int} (hf : ∀ x, (f x).id = x.id) {l : List ProcP} (h : l.Pairwise (fun x y => x.id < y.id)) : (turnP id f l).Pairwise (fun x y => x.id < y.id) := by
 unfold turnP
 rw [List.pairwise_map]
 refine h.imp fun {a b} hab => ?_
 have e : ∀ z : ProcP, (if z.id = id then f z else z).id = z.id := fun z => by split <;> simp [hf]
 rw [e, e]
 exact hab
theorem turn_mem {f : ProcP → ProcP} {id : Int} {l : List ProcP} {y : ProcP} (h : y ∈ turnP id f l) : y ∈ l ∨ ∃ x ∈ l, y = f x := by
 obtain ⟨z, hz, e⟩ := List.mem_map.1 h
 by_cases h1 : z.id = id
 ·exact .inr ⟨z, hz, by rw [← e, if_pos h1]⟩
 ·exact .inl (by rw [if_neg h1] at e; exact e ▸ hz)
/-- What waking goes by, and keeps. -/
structure Wk (now : Int) (p : PartP) : Prop where
 rise : p.procs.Pairwise (fun x y => x.id < y.id)
 op : ∀ x ∈ p.procs, 2 ≤ x.state → 0 ≤ x.pc ∧ x.pc < x.prog.length
 room : 1 ≤ p.next ∧ p.next + (dueL now p.procs).length ≤ 1000000000
 low : p.procs.length ≤ 6
theorem Wk.mem {now : Int} {p : PartP} {x : ProcP} (h : nextDue now p.procs = some x) : x ∈ p.procs ∧ dueB now x = true := by
 have h1 := bestA_mem soonB h
 exact List.mem_filter.1 h1
theorem Wk.step {now : Int} {p : PartP} {x : ProcP} (h : Wk now p) (hx : nextDue now p.procs = some x) : Wk now (wakeStep p x) ∧ (dueL now (wakeStep p x).procs).length + 1 = (dueL now p.procs).length := by
 obtain ⟨hm, hd⟩ := Wk.mem hx
 have h1 := due_less (wakeF_not now p.next (codeOf x) x) hd h.rise hm
 refine ⟨⟨turn_rise (fun y => (wakeF_id _ _ y).1) h.rise, fun y hy hs => ?_, ?_, ?_⟩, h1⟩
 ·rcases turn_mem hy with h2 | ⟨z, _, rfl⟩
  ·exact h.op y h2 hs
  ·unfold wakeF at hs
   split at hs <;> simp [restP, goneP] at hs
 ·have h2 := h.room
  have h3 : (wakeStep p x).next ≤ p.next + 1 ∧ p.next ≤ (wakeStep p x).next := by
   show wakeN p.next x ≤ _ ∧ _ ≤ wakeN p.next x
   unfold wakeN
   split <;> omega
  have h4 : (dueL now (wakeStep p x).procs).length + 1 = (dueL now p.procs).length := h1
  omega
 ·show (turnP _ _ p.procs).length ≤ 6
  simpa [turnP] using h.low
theorem woken_none {now : Int} {p : PartP} (h : nextDue now p.procs = none) : wokenL now p = p := by
 unfold wokenL
 rw [bestA_none soonB h]
 rfl
theorem woken_some {now : Int} {p : PartP} {x : ProcP} (h : Wk now p) (hx : nextDue now p.procs = some x) : wokenL now p = wokenL now (wakeStep p x) := by
 have h1 := (h.step hx).2
 unfold wokenL
 rw [← h1]
 simp only [wokenN, hx]
theorem Wk.of {now : Int} {p : PartP} (h : PartR p) (hn : p.next ≤ 999999980) : Wk now p := by
 have h1 := (things_rise h.procs).2
 refine ⟨h1, fun x hx hs => ?_, ?_, h.nProc⟩
 ·have h2 := (things_all h.procs x hx).2
  simp only [procB, Bool.and_eq_true] at h2
  have h3 := h2.1.1.2
  unfold stateB at h3
  have h4 : hasOpB x = true := by
   split at h3
   ·omega
   ·split at h3
    ·omega
    ·split at h3
     ·simp only [Bool.and_eq_true] at h3; exact h3.1.1.1.1
     ·split at h3
      ·simp only [Bool.and_eq_true] at h3; exact h3.1.1
      ·split at h3
       ·simp only [Bool.and_eq_true] at h3; exact h3.1.1.1
       ·cases h3
  have h5 := inB_iff.1 h4
  omega
 ·have h2 := inB_iff.1 h.next
  have h3 : (dueL now p.procs).length ≤ p.procs.length := List.length_filter_le _ _
  have h4 := h.nProc
  omega
end Go.Proofs.YtkbcplnlehdjfaaGreat

/- An open partition in a world that has drawn. -/
namespace Go.Proofs.YtkbcplnlehdjfaaGreat
open Go.RowKit Go.Maps
abbrev zero8 : Array Value := #[.int .i64 0, .int .i64 0, .slice none 0 0, .slice none 0 0, .slice none 0 0, .slice none 0 0, .slice none 0 0, .slice none 0 0]
theorem OpenAt.drew {w : World} {base o : Nat} {S : OpenD} (h : OpenAt w base o S) : OpenAt w.drew base o S :=
 ⟨h.opn, h.procs.same fun _ _ => rfl, h.sems.same fun _ _ => rfl, h.events.same fun _ _ => rfl, h.boards.same fun _ _ => rfl, h.buffers.same fun _ _ => rfl, h.ports.same fun _ _ => rfl, fun p hp => (h.mineP p hp).same fun _ _ => rfl, fun p hp => (h.mineF p hp).same fun _ _ => rfl, fun p hp => (h.mineQ p hp).same fun _ _ => rfl, h.nodup, h.low⟩
end Go.Proofs.YtkbcplnlehdjfaaGreat

/- A process that is stopped: the programme. (Made by mkstoppedi.py.) -/
namespace Go.Proofs.YtkbcplnlehdjfaaGreat
open Go.RowKit Go.Maps
attribute [local go_sem ↓] Go.wp_at_zero Go.wp_at_succ
set_option maxRecDepth 100000 in
set_option maxHeartbeats 2000000 in
theorem sendToRest_any (g : Nat) (x : ProcD) (w : World) (h : w.heap[g]? = some (.cells (procVs x) 43 (0, 0))) : Calls Tryz.prog 99 #[.pointer (some ⟨g, 0, none⟩)] w fun e w' => e = .returned (.tuple #[]) ∧ w' = w.drew.setRow g #[.int .i64 x.id, .int .i64 x.prio, .slice x.progA x.prog.length x.progC, .int .i64 0, .int .i64 0, .int .i64 0, .int .i64 0, .int .i64 0, .string ⟨#[]⟩, .string x.got, .int .i64 x.code, .int .i64 0] := by
 have H : Hid (_) := h
 obtain ⟨d0, d1, d2, d3, d4, d5, d6, d7, d8, d9, d10, d11⟩ := proc_cells h
 clear h d3 d4 d5 d6 d7 d8 d11
 go_enter Tryz.func99, Tryz.ntmps99
 go_wp2_with fail
 refine last_region (fun w' => w' = w.drew) 23 (by kernel_rfl) rfl ?_
 iterate 23 (refine ly 24 (v := ?_) (some _) rfl rfl (by kernel_rfl) (fun _ _ _ h => h) (does_yield (by kernel_rfl) ?_) ?_; rotate_left; (intro w0 hS0; subst hS0; go_simp; try with_reducible rfl); simp only [pt, sb, s0, s1])
 refine last_done rfl (by kernel_rfl) (by kernel_rfl) (by kernel_rfl) ?_
 intro w1 hS1
 subst hS1
 refine oper_store _ _ _ rfl g _ _ #[.int .i64 x.id, .int .i64 x.prio, .slice x.progA x.prog.length x.progC, .int .i64 0, .int .i64 0, .int .i64 0, .int .i64 0, .int .i64 0, .string ⟨#[]⟩, .string x.got, .int .i64 x.code, .int .i64 0] rfl rfl H.out (by kernel_rfl) rfl (by kernel_rfl) ?_
 go_end0
 exact ⟨rfl, rfl⟩
end Go.Proofs.YtkbcplnlehdjfaaGreat
