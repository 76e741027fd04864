/- What the proof leans on, part 5: PImplPure, ProgL, ShBase. -/
import Derived.Deep.RegionWith
import Derived.Deep.RegionHeld3
import Derived.Deep.DrawnRows
import Derived.Test.YtkbcplnlehdjfaaGreatOwnR0
import Derived.Test.YtkbcplnlehdjfaaGreatOwnR1
import Derived.Test.YtkbcplnlehdjfaaGreatOwnR3
import Derived.Test.YtkbcplnlehdjfaaGreatOwnR4

namespace Go.Proofs.YtkbcplnlehdjfaaGreat
open Go.RowKit
/-- The turns of those that are not dormant: in their bounds, no two the same. -/
def upL (l : List ProcP) : List Int := (l.filter (fun x => !decide (x.state = 0))).map (·.since)
def TurnsR (next : Int) (l : List ProcP) : Prop := (∀ x ∈ l, ¬ x.state = 0 → 1 ≤ x.since ∧ x.since < next) ∧ (upL l).Nodup
structure OpenR (p : PartP) : Prop where
 id : inB p.id 1 6 = true
 next : inB p.next 1 1000000000 = true
 nProc : p.procs.length ≤ 6
 nSem : p.sems.length ≤ 5
 nEvent : p.events.length ≤ 5
 nBoard : p.boards.length ≤ 5
 nBuffer : p.buffers.length ≤ 5
 nPort : p.ports.length ≤ 5
 procs : thingsB (·.id) procB 0 p.procs = true
 sems : thingsB (·.id) semB 0 p.sems = true
 events : thingsB (·.id) eventB 0 p.events = true
 boards : thingsB (·.id) boardB 0 p.boards = true
 buffers : thingsB (·.id) bufferB 0 p.buffers = true
 ports : thingsB (·.id) portB 0 p.ports = true
 turns : TurnsR p.next p.procs
 waits : p.procs.all (waitB p) = true
theorem inB_iff {n lo hi : Int} : inB n lo hi = true ↔ lo ≤ n ∧ n ≤ hi := by simp [inB]
theorem dormant_since {x : ProcP} (h : procB x = true) (h0 : x.state = 0) : x.since = 0 := by
 simp only [procB, Bool.and_eq_true] at h
 have := h.2
 simp only [stateB, h0, if_true, Bool.and_eq_true, decide_eq_true_eq] at this
 exact this.1.2
theorem apart_of_turns {next : Int} {l : List ProcP} (hb : ∀ x ∈ l, procB x = true) (h : TurnsR next l) : Apart l := by
 induction l with
 | nil => exact List.Pairwise.nil
 | cons x r ih =>
  have hr : TurnsR next r := ⟨fun y hy => h.1 y (by simp [hy]), by
   have := h.2
   unfold upL at this ⊢
   rw [List.filter_cons] at this
   split at this
   ·exact (List.nodup_cons.1 this).2
   ·exact this⟩
  refine List.pairwise_cons.2 ⟨fun b hbm hab => ?_, ih (fun y hy => hb y (by simp [hy])) hr⟩
  obtain ⟨y, hy, rfl⟩ := List.mem_map.1 hbm
  have e1 : x.since = y.since := hab.1
  have e2 : 0 < y.since := hab.2
  have hxs : ¬ x.state = 0 := fun e => by
   have := dormant_since (hb x (by simp)) e
   omega
  have hys : ¬ y.state = 0 := fun e => by
   have := dormant_since (hb y (by simp [hy])) e
   omega
  have := h.2
  unfold upL at this
  rw [List.filter_cons, if_pos (by simp [hxs]), List.map_cons, List.nodup_cons] at this
  exact this.1 (List.mem_map.2 ⟨y, List.mem_filter.2 ⟨hy, by simp [hys]⟩, hab.1.symm⟩)
theorem turns_of_apart {next : Int} {l : List ProcP} (ht : ∀ x ∈ l, turnB next x = true) (h : Apart l) : TurnsR next l := by
 have h1 : ∀ x ∈ l, ¬ x.state = 0 → 1 ≤ x.since ∧ x.since < next := fun x hx h0 => by
  have := ht x hx
  simp only [turnB, h0, decide_false, Bool.false_or] at this
  have := inB_iff.1 this
  omega
 refine ⟨h1, ?_⟩
 induction l with
 | nil => exact List.nodup_nil
 | cons x r ih =>
  obtain ⟨h2, h3⟩ := List.pairwise_cons.1 h
  have ih' := ih (fun y hy => ht y (by simp [hy])) h3 (fun y hy => h1 y (by simp [hy]))
  unfold upL at ih' ⊢
  rw [List.filter_cons]
  split
  ·rename_i hx
   have hx0 : ¬ x.state = 0 := by simpa using hx
   rw [List.map_cons, List.nodup_cons]
   refine ⟨fun hm => ?_, ih'⟩
   obtain ⟨y, hy, e⟩ := List.mem_map.1 hm
   have hy' := (List.mem_filter.1 hy).1
   have := h1 x (by simp) hx0
   exact h2 y.since (List.mem_map.2 ⟨y, hy', rfl⟩) ⟨e.symm, by omega⟩
  ·exact ih'
theorem openR_iff (p : PartP) : OpenR p ↔ PartR p := by
 constructor
 ·intro h
  refine ⟨h.id, h.next, h.nProc, h.nSem, h.nEvent, h.nBoard, h.nBuffer, h.nPort, ?_, h.sems, h.events, h.boards, h.buffers, h.ports, apart_of_turns (fun x hx => (things_all h.procs x hx).2) h.turns⟩
  rw [things_and, things_and, h.procs, h.waits, Bool.true_and, Bool.and_true, List.all_eq_true]
  intro x hx
  by_cases h0 : x.state = 0
  ·simp [turnB, h0]
  ·have := h.turns.1 x hx h0
   simp only [turnB, h0, decide_false, Bool.false_or]
   exact inB_iff.2 (by omega)
 ·intro h
  have hp := h.procs
  rw [things_and, things_and, Bool.and_eq_true, Bool.and_eq_true] at hp
  exact ⟨h.id, h.next, h.nProc, h.nSem, h.nEvent, h.nBoard, h.nBuffer, h.nPort, hp.1.1, h.sems, h.events, h.boards, h.buffers, h.ports, turns_of_apart (fun x hx => List.all_eq_true.1 hp.1.2 x hx) h.apart, hp.2⟩
end Go.Proofs.YtkbcplnlehdjfaaGreat

/- Whether a program is right, of a list of ops wherever it lies. -/
namespace Go.Proofs.YtkbcplnlehdjfaaGreat
open Go.RowKit
theorem opFlat_get (l : List OpD) {j : Nat} (hj : j < l.length * 4) : (opK.flat l)[j]? = some (opV (kOf l) (nOf l) (mOf l) (sOf l) j) := by
 have hi : j / 4 < l.length := by omega
 have hx : l[j / 4]? = some l[j / 4] := List.getElem?_eq_getElem hi
 have hr : j % 4 < 4 := by omega
 have := opK.flat_get hx (j := j % 4) hr
 have e : j / 4 * opK.n + j % 4 = j := by show j / 4 * 4 + j % 4 = j; omega
 rw [e] at this
 rw [this]
 have h4 : j % 4 = 0 ∨ j % 4 = 1 ∨ j % 4 = 2 ∨ j % 4 = 3 := by omega
 rcases h4 with h | h | h | h <;> rw [h] <;> simp [opK, opVals, opV, h, kOf, nOf, mOf, sOf, hx]
theorem ops_of_row {w : World} {a : Option Addr} {l : List OpD} (h : Row w a (opK.flat l)) (hl : 0 < l.length) : ∃ g, a = some ⟨g, 0, none⟩ ∧ ListAt w g l := by
 obtain ⟨g, e, hc⟩ := h 0 _ (opFlat_get l (j := 0) (by omega))
 refine ⟨g, e, block_lt_of_cell hc, fun j hj => ?_⟩
 obtain ⟨g', e', hc'⟩ := h j _ (opFlat_get l hj)
 rw [e] at e'
 cases e'
 exact hc'
theorem op_at {w : World} {a : Option Addr} {l : List OpD} (h : Row w a (opK.flat l)) {i : Nat} {x : OpD} (hx : l[i]? = some x) : ∃ g, a = some ⟨g, 0, none⟩ ∧ w.cell? ⟨g, i * 4, none⟩ = some (.int .i64 x.1) ∧ w.cell? ⟨g, i * 4 + 1, none⟩ = some (.int .i64 x.2.1) ∧ w.cell? ⟨g, i * 4 + 2, none⟩ = some (.int .i64 x.2.2.1) ∧ w.cell? ⟨g, i * 4 + 3, none⟩ = some (.string x.2.2.2) := by
 have h' : opK.Lies w a l := ⟨h, fun _ _ r hr => by cases hr⟩
 obtain ⟨g, e, hc⟩ := h'.at hx
 exact ⟨g, e, hc 0 _ rfl, hc 1 _ rfl, hc 2 _ rfl, hc 3 _ rfl⟩
theorem sOf_small {l : List OpD} (hs : ∀ o ∈ l, o.2.2.2.size ≤ 1048576) : ∀ i, i < l.length → (sOf l i).size ≤ 1048576 := fun i hi => by
 simp only [sOf, List.getElem?_eq_getElem hi, Option.getD_some]
 exact hs _ (List.getElem_mem hi)
/-- The texts of a process and of its ops are not too long for a machine. -/
structure ProcD.Short (x : ProcD) : Prop where
 prog : x.prog.length ≤ 1048576
 ops : ∀ o ∈ x.prog, o.2.2.2.size ≤ 1048576
 held : x.held.size ≤ 1048576
 got : x.got.size ≤ 1048576
theorem progL_nil : progL [] = false := progB_false (fun h => by have := h.1; simp at this)
set_option maxHeartbeats 1000000 in
theorem specProgOk_none (a : Option Addr) (cap : Nat) (w : World) :
  Calls Tryz.prog 183 #[.slice a 0 cap] w fun e w' => e = .returned (.bool false) ∧ Below w.heap.size w w' := by
 go_enter Tryz.func183, Tryz.ntmps183
 go_wp2
 go_loop [3] (fun i => i = .int .i64 0) (fun _ => 0)
 case atStart => rfl
 case round =>
  subst hrel
  go_wp2
  go_ret
  exact ⟨rfl, Below.refl _ _⟩
theorem specProgL_any (a : Option Addr) (l : List OpD) (cap : Nat) (w : World) (hl : l.length ≤ 1048576) (hs : ∀ o ∈ l, o.2.2.2.size ≤ 1048576) (h : Row w a (opK.flat l)) :
  Calls Tryz.prog 183 #[.slice a l.length cap] w fun e w' => e = .returned (.bool (progL l)) ∧ Below w.heap.size w w' := by
 cases l with
 | nil => rw [progL_nil]; exact specProgOk_none a cap w
 | cons x r =>
  obtain ⟨g, rfl, hr⟩ := ops_of_row h (by simp)
  exact specProgOk_any g _ cap _ _ _ _ w hl (sOf_small hs) hr
set_option maxHeartbeats 1000000 in
theorem implProgOk_none (a : Option Addr) (cap : Nat) (w : World) :
  Calls Tryz.prog 284 #[.slice a 0 cap] w fun e w' => e = .returned (.bool false) ∧ Below w.heap.size w w' := by
 go_enter Tryz.func284, Tryz.ntmps284
 go_wp2
 go_ret
 exact ⟨rfl, Below.refl _ _⟩
theorem implProgL_any (a : Option Addr) (l : List OpD) (cap : Nat) (w : World) (hl : l.length ≤ 1048576) (hs : ∀ o ∈ l, o.2.2.2.size ≤ 1048576) (h : Row w a (opK.flat l)) :
  Calls Tryz.prog 284 #[.slice a l.length cap] w fun e w' => e = .returned (.bool (progL l)) ∧ Below w.heap.size w w' := by
 cases l with
 | nil => rw [progL_nil]; exact implProgOk_none a cap w
 | cons x r =>
  obtain ⟨g, rfl, hr⟩ := ops_of_row h (by simp)
  exact implProgOk_any g _ cap _ _ _ _ w hl (sOf_small hs) hr
end Go.Proofs.YtkbcplnlehdjfaaGreat

/- Shelves: maps from numbers to things that lie in blocks of their own. -/
namespace Go.Proofs.YtkbcplnlehdjfaaGreat
open Go.RowKit Go.Maps
theorem below_undrew' {B : Nat} {w w' : World} (h : Below B w.drew w') : Below B w w' := ⟨h.os, h.tape, h.output, h.size, h.block⟩
/-- A list of texts lies, and is not too long for a machine. -/
structure TextsFit (w : World) (a : Option Addr) (l : List ByteArray) : Prop where
 len : l.length ≤ 1048576
 short : ∀ s ∈ l, s.size ≤ 1048576
 row : Row w a (strK.flat l)
theorem TextsFit.below {w w' : World} {a : Option Addr} {l : List ByteArray} (h : TextsFit w a l) (hb : Below w.heap.size w w') : TextsFit w' a l := ⟨h.len, h.short, h.row.below hb⟩
set_option maxHeartbeats 1000000 in
theorem itemsOk_any (a : Option Addr) (l : List ByteArray) (cap : Nat) (most : Int) (w : World) (h : TextsFit w a l) :
  Calls Tryz.prog 299 #[.slice a l.length cap, .int .i64 most] w fun e w' => e = .returned (.bool (inB most 1 5 && textsB l most)) ∧ w' = w := by
 have H : Hid (TextsFit w a l) := h
 have hl := h.len
 clear h
 by_cases h1 : most < 1
 ·go_enter Tryz.func299, Tryz.ntmps299
  go_wp2
  go_ret
  exact ⟨ret_bool (by rw [inB_low h1]; rfl), rfl⟩
 by_cases h2 : 5 < most
 ·go_enter Tryz.func299, Tryz.ntmps299
  go_wp2
  go_ret
  exact ⟨ret_bool (by rw [inB_high h2]; rfl), rfl⟩
 have HIn : Hid (inB most 1 5 = true) := inB_true (by omega) (by omega)
 by_cases h3 : most < (l.length : Int)
 ·have HT : Hid (textsB l most = false) := by show textsB l most = false; simp [textsB]; intro _; omega
  have e1 : wrap64 (l.length : Int) = l.length := by unfold wrap64; omega
  go_enter Tryz.func299, Tryz.ntmps299
  go_wp2
  go_ret
  exact ⟨ret_bool (by rw [HT.out, Bool.and_false]), rfl⟩
 have HL : Hid (decide ((l.length : Int) ≤ most) = true) := decide_eq_true (by omega)
 have e1 : wrap64 (l.length : Int) = l.length := by unfold wrap64; omega
 go_enter Tryz.func299, Tryz.ntmps299
 go_wp2_with fail
 go_loop [21] (fun i => ∃ k : Nat, k ≤ l.length ∧ i = .int .i64 k ∧ Hid ((l.take k).all plainB = true)) (fun i => l.length - (intOf i).toNat)
 case atStart => exact ⟨0, Nat.zero_le _, rfl, (by simp : (l.take 0).all plainB = true)⟩
 case round =>
  obtain ⟨k, hk, rfl, HA⟩ := hrel
  by_cases hlt : k < l.length
  ·have i0 : (0 : Int) ≤ (k : Int) := by omega
   have i1 : (k : Int) < (l.length : Int) := by omega
   obtain ⟨x, hx⟩ : ∃ x, l[k]? = some x := ⟨_, List.getElem?_eq_getElem hlt⟩
   have HX : Hid (l[k]? = some x) := hx
   obtain ⟨g, rfl, c0⟩ := str_at H.out.row hx
   have hxs := H.out.short x (List.mem_of_getElem? hx)
   clear hx
   go_wp2_with fail
   refine (isPlain_any x w hxs).mono ?_
   rintro e w' ⟨rfl, rfl⟩
   cases hp : plainB x with
   | true =>
    have HP : Hid (plainB x = true) := hp
    clear hp
    go_wp2
    go_round
    case rel => exact ⟨k + 1, by omega, by go_num, all_take_snoc HA.out HX.out HP.out⟩
    case measure => simp [intOf]; omega
   | false =>
    have HP : Hid (plainB x = false) := hp
    clear hp
    go_wp2
    go_ret
    exact ⟨ret_bool (by rw [textsB_no HX.out HP.out, Bool.and_false]), rfl⟩
  ·have i1 : ¬ (k : Int) < (l.length : Int) := by omega
   have HT : Hid (l.all plainB = true) := by have := HA.out; rwa [List.take_of_length_le (by omega)] at this
   go_wp2
   go_ret
   exact ⟨ret_bool (by rw [HIn.out, textsB, HT.out, HL.out]; rfl), rfl⟩
theorem portB_false {id : Int} {out queue : Bool} {max : Int} {items : List ByteArray} (h : (inB max 1 5 && textsB items max) = false) : portB ⟨id, out, queue, max, items⟩ = false := by
 simp only [portB]
 cases h1 : inB max 1 5 <;> cases h2 : textsB items max <;> simp_all
theorem portB_true {id : Int} {out : Bool} {max : Int} {items : List ByteArray} (h : (inB max 1 5 && textsB items max) = true) (q : Bool) : portB ⟨id, out, q, max, items⟩ = (q || decide (max = 1)) := by
 simp only [Bool.and_eq_true] at h
 simp [portB, h.1, h.2]
/-- Whether a thing may be laid in. -/
def layB (most : Int) (m : MapL) (id : Int) (ok : Bool) : Bool := !(lookM m id).isSome && decide ((m.length : Int) < most) && inB id 1 1000 && ok
/-- What laying in does. -/
def LayEnds (w : World) (b : Nat) (m : MapL) (ok : Bool) (id : Int) (cs : Array Value) (T : TypeId) (e : Ending) (w' : World) : Prop :=
 e = .returned (.bool ok) ∧ (ok = false → Below w.heap.size w w') ∧ (ok = true → ∃ g, w.heap.size ≤ g ∧ w'.heap[g]? = some (.cells cs T (0, 0)) ∧ MapIs w' b (insM (id, g) m) ∧ w.grownBy w' (some b))
theorem layEnds_no {w w' : World} {b : Nat} {m : MapL} {ok : Bool} {id : Int} {cs : Array Value} {T : TypeId} (h : ok = false) (hb : Below w.heap.size w w') : LayEnds w b m ok id cs T (.returned (.bool false)) w' := by
 subst h
 exact ⟨rfl, fun _ => hb, fun h => by cases h⟩
/-- What is there while a thing is laid in. -/
structure LayIn (w W : World) (S X b : Nat) (m : MapL) (most : Int) (cs : Array Value) (T TS : TypeId) : Prop where
 sh : W.heap[S]? = some (.cells #[.int .i64 most, .map (some b)] TS (0, 0))
 bx : W.heap[X]? = some (.cells cs T (0, 0))
 mp : MapIs W b m
 bel : Below w.heap.size w W
section
variable {w W W' : World} {S X b : Nat} {m : MapL} {most : Int} {cs : Array Value} {T TS : TypeId}
theorem LayIn.below (h : LayIn w W S X b m most cs T TS) (hb : Below W.heap.size W W') : LayIn w W' S X b m most cs T TS :=
 ⟨(hb.block _ (Array.getElem?_eq_some_iff.1 h.sh).1).trans h.sh, (hb.block _ (Array.getElem?_eq_some_iff.1 h.bx).1).trans h.bx, h.mp.below hb, h.bel.trans (hb.mono h.bel.size)⟩
theorem LayIn.start (w : World) {b : Nat} {m : MapL} (h : MapIs w b m) (most : Int) (cs : Array Value) (T TS : TypeId) : LayIn w ((w.alloc (.cells #[.int .i64 most, .map (some b)] TS)).alloc (.cells cs T)) w.heap.size (w.heap.size + 1) b m most cs T TS := by
 have b1 : Below w.heap.size w (w.alloc (.cells #[.int .i64 most, .map (some b)] TS)) := (Below.refl _ _).alloc (Nat.le_refl _) _
 have b2 : Below w.heap.size w ((w.alloc (.cells #[.int .i64 most, .map (some b)] TS)).alloc (.cells cs T)) := b1.alloc b1.size _
 exact ⟨(heap_alloc_old _ _ (by simp)).trans (heap_alloc_new _ _), heap_alloc2_new _ _ _, h.below b2, b2⟩
theorem LayIn.drew (h : LayIn w W S X b m most cs T TS) : LayIn w W.drew S X b m most cs T TS := ⟨h.sh, h.bx, h.mp.same rfl, h.bel.drew⟩
theorem LayIn.cells (h : LayIn w W S X b m most cs T TS) : W.cell? ⟨S, 0, none⟩ = some (.int .i64 most) ∧ W.cell? ⟨S, 1, none⟩ = some (.map (some b)) := by
 have := h.sh
 simp [World.cell?, this]
/-- The thing is stored under its number. -/
theorem LayIn.put (h : LayIn w W S X b m most cs T TS) (hX : w.heap.size ≤ X) {t e : TypeId} (ht : Tryz.prog.underlying t = some (.map 2 e)) {id : Int} (hid : (Lit.int .i64 id).wf = true) (hn : lookM m id = none) (hm : m.length ≤ 1048576) (hXb : ¬ X = b) :
  ∃ w', (Instr.mapUpdate t (.map (some b)) (.int .i64 id) (.pointer (some ⟨X, 0, none⟩))).run Tryz.prog W = .ok () w' ∧ LayEnds w b m true id cs T (.returned (.bool true)) w' := by
 obtain ⟨w', hrun, hmp, htn⟩ := h.mp.put ht hid X hn hm
 refine ⟨w', hrun, ⟨rfl, (fun h => by cases h), fun _ => ⟨X, hX, ?_, hmp, ?_⟩⟩⟩
 ·have := htn.grown
  exact (this.block X (Array.getElem?_eq_some_iff.1 h.bx).1 (fun e => hXb (Option.some.inj e))).trans h.bx
 ·have hg := htn.grown
  exact ⟨hg.os.trans h.bel.os, hg.tape.trans h.bel.tape, hg.output.trans h.bel.output, Nat.le_trans h.bel.size hg.size, fun k hk hne => (hg.block k (Nat.lt_of_lt_of_le hk h.bel.size) hne).trans (h.bel.block k hk)⟩
end
end Go.Proofs.YtkbcplnlehdjfaaGreat
