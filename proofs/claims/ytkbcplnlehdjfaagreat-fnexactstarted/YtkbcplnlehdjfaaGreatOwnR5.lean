/- What the proof leans on, part 5: KdPort, KdSem, KdEvent, KdBoard, OwnI, TameY, HasW. -/
import Derived.Test.YtkbcplnlehdjfaaGreatOwnR2
import Derived.Test.YtkbcplnlehdjfaaGreatOwnR3
import Derived.Test.YtkbcplnlehdjfaaGreatOwnR4

namespace Go.Proofs.YtkbcplnlehdjfaaGreat
open Go.RowKit
attribute [local go_sem ↓] Go.wp_at_zero Go.wp_at_succ
def portVs (x : PortD) : Array Value := #[.int .i64 x.id, .bool x.out, .bool x.queue, .int .i64 x.max, .slice x.itemsA x.items.length x.itemsC]
/-- Its lists lie, and nothing of it is too long for a machine. -/
def PortFit (w : World) (x : PortD) : Prop := TextsFit w x.itemsA x.items
theorem PortFit.below {w w' : World} {x : PortD} (h : PortFit w x) (hb : Below w.heap.size w w') : PortFit w' x := TextsFit.below h hb
theorem port_cells {W : World} {X : Nat} {x : PortD} (h : W.heap[X]? = some (.cells (portVs x) 61 (0, 0))) : W.cell? ⟨X, 0, none⟩ = some (.int .i64 x.id) ∧ W.cell? ⟨X, 1, none⟩ = some (.bool x.out) ∧ W.cell? ⟨X, 2, none⟩ = some (.bool x.queue) ∧ W.cell? ⟨X, 3, none⟩ = some (.int .i64 x.max) ∧ W.cell? ⟨X, 4, none⟩ = some (.slice x.itemsA x.items.length x.itemsC) := by
 unfold portVs at h
 simp [World.cell?, h]
set_option maxHeartbeats 400000 in
theorem numberPort_any (x : PortD) (w : World) : Calls Tryz.prog 297 #[.agg (portVs x)] w fun e w' => e = .returned (.int .i64 x.id) ∧ Below w.heap.size w w' := by
 unfold portVs
 go_enter Tryz.func297, Tryz.ntmps297
 go_wp2
 go_ret
 exact ⟨rfl, (Below.refl _ _).alloc (Nat.le_refl _) _⟩
theorem meth_numberPort (v : Value) (w : World) : Sem.run Tryz.prog (method 440 61 v "loop.example/g00313/impl.number") w = .ok (297, v) w := by kernel_rfl
theorem meth_rightPort (v : Value) (w : World) : Sem.run Tryz.prog (method 440 61 v "loop.example/g00313/impl.right") w = .ok (298, v) w := by kernel_rfl
theorem zeroPtrPort (w : World) : (zeroValue 225).run Tryz.prog w = .ok (.pointer none) w := by kernel_rfl
set_option maxHeartbeats 1000000 in
theorem hasPort_any (most : Int) (b : Nat) (m : MapL) (id : Int) (w : World) (h : MapIs w b m) (hw : (Lit.int .i64 id).wf = true) :
  Calls Tryz.prog 179 #[.agg #[.int .i64 most, .map (some b)], .int .i64 id] w fun e w' => e = .returned (.bool (lookM m id).isSome) ∧ Below w.heap.size w w' := by
 have hlk := (h.below ((Below.refl _ w).alloc (Nat.le_refl _) (.cells #[.int .i64 most, .map (some b)] 125))).look Tryz.underlying123 (zeroPtrPort _) hw true
 simp only [if_true] at hlk
 clear h hw
 go_enter Tryz.func179, Tryz.ntmps179
 go_wp2
 go_ret
 exact ⟨rfl, (Below.refl _ _).alloc (Nat.le_refl _) _⟩
set_option maxHeartbeats 1000000 in
theorem rightPort_any (x : PortD) (w : World) (hf : PortFit w x) : Calls Tryz.prog 298 #[.agg (portVs x)] w fun e w' => e = .returned (.bool (portB x.toPortP)) ∧ Below w.heap.size w w' := by
 have HF : Hid (PortFit w x) := hf
 clear hf
 obtain ⟨⟨id, out, queue, max, items⟩, itemsA, itemsC⟩ := x
 unfold portVs
 cases hp : (inB max 1 5 && textsB items max) with
 | false =>
  have HP : Hid ((inB max 1 5 && textsB items max) = false) := hp
  clear hp
  go_enter Tryz.func298, Tryz.ntmps298
  go_wp2_with fail
  refine (itemsOk_any itemsA items itemsC max _ (TextsFit.below HF.out ((Below.refl _ _).alloc (Nat.le_refl _) _))).mono ?_
  rintro e w1 ⟨rfl, hw1⟩
  rw [HP.out]
  subst hw1
  go_wp2
  go_ret
  exact ⟨ret_bool (portB_false HP.out).symm, (Below.refl _ _).alloc (Nat.le_refl _) _⟩
 | true =>
  have HP : Hid ((inB max 1 5 && textsB items max) = true) := hp
  clear hp
  by_cases h1 : max = 1
  all_goals
   have HM : Hid (decide (max = 1) = (max == 1)) := by show decide (max = 1) = (max == 1); by_cases h : max = 1 <;> simp [h]
   have h1' : (max == 1) = decide (max = 1) := HM.out.symm
   cases queue
  all_goals
   have HV : Hid (∀ q, portB ⟨id, out, q, max, items⟩ = (q || decide (max = 1))) := portB_true HP.out
   simp only [h1, decide_true, decide_false] at h1'
   clear h1
   go_enter Tryz.func298, Tryz.ntmps298
   go_wp2_with fail
   refine (itemsOk_any itemsA items itemsC max _ (TextsFit.below HF.out ((Below.refl _ _).alloc (Nat.le_refl _) _))).mono ?_
   rintro e w1 ⟨rfl, hw1⟩
   rw [HP.out]
   subst hw1
   go_wp2
   go_ret
   exact ⟨ret_bool (by rw [HV.out, HM.out]; simp [h1']), (Below.refl _ _).alloc (Nat.le_refl _) _⟩
end Go.Proofs.YtkbcplnlehdjfaaGreat

/- The things of the kind Sem, and their shelf: what each method does. (Made by mkshelf.py.) -/
namespace Go.Proofs.YtkbcplnlehdjfaaGreat
open Go.RowKit
attribute [local go_sem ↓] Go.wp_at_zero Go.wp_at_succ
def semVs (x : SemD) : Array Value := #[.int .i64 x.id, .int .i64 x.n, .int .i64 x.max]
/-- Its lists lie, and nothing of it is too long for a machine. -/
def SemFit (_ : World) (_ : SemD) : Prop := True
theorem SemFit.below {w w' : World} {x : SemD} (_ : SemFit w x) (_ : Below w.heap.size w w') : SemFit w' x := trivial
theorem sem_cells {W : World} {X : Nat} {x : SemD} (h : W.heap[X]? = some (.cells (semVs x) 49 (0, 0))) : W.cell? ⟨X, 0, none⟩ = some (.int .i64 x.id) ∧ W.cell? ⟨X, 1, none⟩ = some (.int .i64 x.n) ∧ W.cell? ⟨X, 2, none⟩ = some (.int .i64 x.max) := by
 unfold semVs at h
 simp [World.cell?, h]
set_option maxHeartbeats 400000 in
theorem numberSem_any (x : SemD) (w : World) : Calls Tryz.prog 294 #[.agg (semVs x)] w fun e w' => e = .returned (.int .i64 x.id) ∧ Below w.heap.size w w' := by
 unfold semVs
 go_enter Tryz.func294, Tryz.ntmps294
 go_wp2
 go_ret
 exact ⟨rfl, (Below.refl _ _).alloc (Nat.le_refl _) _⟩
theorem meth_numberSem (v : Value) (w : World) : Sem.run Tryz.prog (method 440 49 v "loop.example/g00313/impl.number") w = .ok (294, v) w := by kernel_rfl
theorem meth_rightSem (v : Value) (w : World) : Sem.run Tryz.prog (method 440 49 v "loop.example/g00313/impl.right") w = .ok (295, v) w := by kernel_rfl
theorem zeroPtrSem (w : World) : (zeroValue 221).run Tryz.prog w = .ok (.pointer none) w := by kernel_rfl
set_option maxHeartbeats 1000000 in
theorem hasSem_any (most : Int) (b : Nat) (m : MapL) (id : Int) (w : World) (h : MapIs w b m) (hw : (Lit.int .i64 id).wf = true) :
  Calls Tryz.prog 175 #[.agg #[.int .i64 most, .map (some b)], .int .i64 id] w fun e w' => e = .returned (.bool (lookM m id).isSome) ∧ Below w.heap.size w w' := by
 have hlk := (h.below ((Below.refl _ w).alloc (Nat.le_refl _) (.cells #[.int .i64 most, .map (some b)] 113))).look Tryz.underlying111 (zeroPtrSem _) hw true
 simp only [if_true] at hlk
 clear h hw
 go_enter Tryz.func175, Tryz.ntmps175
 go_wp2
 go_ret
 exact ⟨rfl, (Below.refl _ _).alloc (Nat.le_refl _) _⟩
set_option maxHeartbeats 1000000 in
theorem rightSem_any (x : SemD) (w : World) (_ : SemFit w x) : Calls Tryz.prog 295 #[.agg (semVs x)] w fun e w' => e = .returned (.bool (semB x)) ∧ Below w.heap.size w w' := by
 unfold semVs
 by_cases h1 : 1 ≤ x.max
 ·by_cases h2 : x.max ≤ 1000
  ·by_cases h3 : 0 ≤ x.n
   ·by_cases h4 : x.n ≤ x.max
    all_goals
     go_enter Tryz.func295, Tryz.ntmps295
     go_wp2
     go_ret
     exact ⟨ret_bool (by simp [semB, inB, *] <;> omega), (Below.refl _ _).alloc (Nat.le_refl _) _⟩
   ·go_enter Tryz.func295, Tryz.ntmps295
    go_wp2
    go_ret
    exact ⟨ret_bool (by simp [semB, inB, *] <;> omega), (Below.refl _ _).alloc (Nat.le_refl _) _⟩
  ·go_enter Tryz.func295, Tryz.ntmps295
   go_wp2
   go_ret
   exact ⟨ret_bool (by simp [semB, inB, *] <;> omega), (Below.refl _ _).alloc (Nat.le_refl _) _⟩
 ·go_enter Tryz.func295, Tryz.ntmps295
  go_wp2
  go_ret
  exact ⟨ret_bool (by simp [semB, inB, *] <;> omega), (Below.refl _ _).alloc (Nat.le_refl _) _⟩
end Go.Proofs.YtkbcplnlehdjfaaGreat

/- The things of the kind Event, and their shelf: what each method does. (Made by mkshelf.py.) -/
namespace Go.Proofs.YtkbcplnlehdjfaaGreat
open Go.RowKit
attribute [local go_sem ↓] Go.wp_at_zero Go.wp_at_succ
def eventVs (x : EventD) : Array Value := #[.int .i64 x.id, .bool x.up]
/-- Its lists lie, and nothing of it is too long for a machine. -/
def EventFit (_ : World) (_ : EventD) : Prop := True
theorem EventFit.below {w w' : World} {x : EventD} (_ : EventFit w x) (_ : Below w.heap.size w w') : EventFit w' x := trivial
theorem event_cells {W : World} {X : Nat} {x : EventD} (h : W.heap[X]? = some (.cells (eventVs x) 138 (0, 0))) : W.cell? ⟨X, 0, none⟩ = some (.int .i64 x.id) ∧ W.cell? ⟨X, 1, none⟩ = some (.bool x.up) := by
 unfold eventVs at h
 simp [World.cell?, h]
set_option maxHeartbeats 400000 in
theorem numberEvent_any (x : EventD) (w : World) : Calls Tryz.prog 307 #[.agg (eventVs x)] w fun e w' => e = .returned (.int .i64 x.id) ∧ Below w.heap.size w w' := by
 unfold eventVs
 go_enter Tryz.func307, Tryz.ntmps307
 go_wp2
 go_ret
 exact ⟨rfl, (Below.refl _ _).alloc (Nat.le_refl _) _⟩
theorem meth_numberEvent (v : Value) (w : World) : Sem.run Tryz.prog (method 440 138 v "loop.example/g00313/impl.number") w = .ok (307, v) w := by kernel_rfl
theorem meth_rightEvent (v : Value) (w : World) : Sem.run Tryz.prog (method 440 138 v "loop.example/g00313/impl.right") w = .ok (308, v) w := by kernel_rfl
theorem zeroPtrEvent (w : World) : (zeroValue 222).run Tryz.prog w = .ok (.pointer none) w := by kernel_rfl
set_option maxHeartbeats 1000000 in
theorem hasEvent_any (most : Int) (b : Nat) (m : MapL) (id : Int) (w : World) (h : MapIs w b m) (hw : (Lit.int .i64 id).wf = true) :
  Calls Tryz.prog 176 #[.agg #[.int .i64 most, .map (some b)], .int .i64 id] w fun e w' => e = .returned (.bool (lookM m id).isSome) ∧ Below w.heap.size w w' := by
 have hlk := (h.below ((Below.refl _ w).alloc (Nat.le_refl _) (.cells #[.int .i64 most, .map (some b)] 116))).look Tryz.underlying114 (zeroPtrEvent _) hw true
 simp only [if_true] at hlk
 clear h hw
 go_enter Tryz.func176, Tryz.ntmps176
 go_wp2
 go_ret
 exact ⟨rfl, (Below.refl _ _).alloc (Nat.le_refl _) _⟩
set_option maxHeartbeats 1000000 in
theorem rightEvent_any (x : EventD) (w : World) (_ : EventFit w x) : Calls Tryz.prog 308 #[.agg (eventVs x)] w fun e w' => e = .returned (.bool (eventB x)) ∧ Below w.heap.size w w' := by
 unfold eventVs
 go_enter Tryz.func308, Tryz.ntmps308
 go_wp2
 go_ret
 exact ⟨rfl, (Below.refl _ _).alloc (Nat.le_refl _) _⟩
end Go.Proofs.YtkbcplnlehdjfaaGreat

/- The things of the kind Board, and their shelf: what each method does. (Made by mkshelf.py.) -/
namespace Go.Proofs.YtkbcplnlehdjfaaGreat
open Go.RowKit
attribute [local go_sem ↓] Go.wp_at_zero Go.wp_at_succ
def boardVs (x : BoardD) : Array Value := #[.int .i64 x.id, .bool x.shown, .string x.text]
/-- Its lists lie, and nothing of it is too long for a machine. -/
def BoardFit (_ : World) (x : BoardD) : Prop := x.text.size ≤ 1048576
theorem BoardFit.below {w w' : World} {x : BoardD} (h : BoardFit w x) (_ : Below w.heap.size w w') : BoardFit w' x := h
theorem board_cells {W : World} {X : Nat} {x : BoardD} (h : W.heap[X]? = some (.cells (boardVs x) 141 (0, 0))) : W.cell? ⟨X, 0, none⟩ = some (.int .i64 x.id) ∧ W.cell? ⟨X, 1, none⟩ = some (.bool x.shown) ∧ W.cell? ⟨X, 2, none⟩ = some (.string x.text) := by
 unfold boardVs at h
 simp [World.cell?, h]
set_option maxHeartbeats 400000 in
theorem numberBoard_any (x : BoardD) (w : World) : Calls Tryz.prog 310 #[.agg (boardVs x)] w fun e w' => e = .returned (.int .i64 x.id) ∧ Below w.heap.size w w' := by
 unfold boardVs
 go_enter Tryz.func310, Tryz.ntmps310
 go_wp2
 go_ret
 exact ⟨rfl, (Below.refl _ _).alloc (Nat.le_refl _) _⟩
theorem meth_numberBoard (v : Value) (w : World) : Sem.run Tryz.prog (method 440 141 v "loop.example/g00313/impl.number") w = .ok (310, v) w := by kernel_rfl
theorem meth_rightBoard (v : Value) (w : World) : Sem.run Tryz.prog (method 440 141 v "loop.example/g00313/impl.right") w = .ok (311, v) w := by kernel_rfl
theorem zeroPtrBoard (w : World) : (zeroValue 223).run Tryz.prog w = .ok (.pointer none) w := by kernel_rfl
set_option maxHeartbeats 1000000 in
theorem hasBoard_any (most : Int) (b : Nat) (m : MapL) (id : Int) (w : World) (h : MapIs w b m) (hw : (Lit.int .i64 id).wf = true) :
  Calls Tryz.prog 177 #[.agg #[.int .i64 most, .map (some b)], .int .i64 id] w fun e w' => e = .returned (.bool (lookM m id).isSome) ∧ Below w.heap.size w w' := by
 have hlk := (h.below ((Below.refl _ w).alloc (Nat.le_refl _) (.cells #[.int .i64 most, .map (some b)] 119))).look Tryz.underlying117 (zeroPtrBoard _) hw true
 simp only [if_true] at hlk
 clear h hw
 go_enter Tryz.func177, Tryz.ntmps177
 go_wp2
 go_ret
 exact ⟨rfl, (Below.refl _ _).alloc (Nat.le_refl _) _⟩
set_option maxHeartbeats 1000000 in
theorem rightBoard_any (x : BoardD) (w : World) (hf : BoardFit w x) : Calls Tryz.prog 311 #[.agg (boardVs x)] w fun e w' => e = .returned (.bool (boardB x)) ∧ Below w.heap.size w w' := by
 have HF : Hid (BoardFit w x) := hf
 clear hf
 unfold boardVs
 obtain ⟨id, shown, text⟩ := x
 cases hp : plainB text with
 | false =>
  have HP : Hid (plainB text = false) := hp
  clear hp
  go_enter Tryz.func311, Tryz.ntmps311
  go_wp2_with fail
  refine (isPlain_any text _ HF.out).mono ?_
  rintro e w1 ⟨rfl, hw1⟩
  rw [HP.out]
  subst hw1
  go_wp2
  go_ret
  exact ⟨ret_bool (by simp [boardB, HP.out]), (Below.refl _ _).alloc (Nat.le_refl _) _⟩
 | true =>
  have HP : Hid (plainB text = true) := hp
  clear hp
  by_cases hes : text.toList = []
  all_goals
   have hes' : ([] = text.toList) = (text.toList = []) := propext ⟨fun h => h.symm, fun h => h.symm⟩
   cases shown
  all_goals
   go_enter Tryz.func311, Tryz.ntmps311
   go_wp2_with fail
   refine (isPlain_any text _ HF.out).mono ?_
   rintro e w1 ⟨rfl, hw1⟩
   rw [HP.out]
   subst hw1
   go_wp2
   go_ret
   exact ⟨ret_bool (by simp [boardB, HP.out, emptyB, hes]), (Below.refl _ _).alloc (Nat.le_refl _) _⟩
end Go.Proofs.YtkbcplnlehdjfaaGreat

/- An open partition's lists are made its own. (Made by mkown.py.) -/
namespace Go.Proofs.YtkbcplnlehdjfaaGreat
open Go.RowKit Go.Maps
attribute [local go_sem ↓] Go.wp_at_zero Go.wp_at_succ
def procN : Nest ProcD := ⟨procVs, fun x => x.id, 43, 134, 4, fun x => x.progA, fun x => x.progC, fun x => x.prog.length, fun x => opK.flat x.prog, fun x a c => { x with progA := a, progC := c }, fun _ _ _ => rfl, fun _ _ _ => rfl, fun _ _ _ => rfl, fun _ _ _ => rfl, fun _ _ _ => rfl, fun _ _ _ _ _ => rfl⟩
def bufferN : Nest BufferD := ⟨bufferVs, fun x => x.id, 144, 9, 1, fun x => x.itemsA, fun x => x.itemsC, fun x => x.items.length, fun x => strK.flat x.items, fun x a c => { x with itemsA := a, itemsC := c }, fun _ _ _ => rfl, fun _ _ _ => rfl, fun _ _ _ => rfl, fun _ _ _ => rfl, fun _ _ _ => rfl, fun _ _ _ _ _ => rfl⟩
def portN : Nest PortD := ⟨portVs, fun x => x.id, 61, 9, 1, fun x => x.itemsA, fun x => x.itemsC, fun x => x.items.length, fun x => strK.flat x.items, fun x a c => { x with itemsA := a, itemsC := c }, fun _ _ _ => rfl, fun _ _ _ => rfl, fun _ _ _ => rfl, fun _ _ _ => rfl, fun _ _ _ => rfl, fun _ _ _ _ _ => rfl⟩
/-- The lists of the things lie, below all that was made. -/
def ListsIn {α : Type} (N : Nest α) (w : World) (base : Nat) (l : List (α × Nat)) : Prop := ∀ p ∈ l, Row w (N.ad p.1) (N.flat p.1) ∧ N.len p.1 ≤ 1048576 ∧ ∀ g, N.kid p.1 = some g → g < base
theorem ListsIn.low {α : Type} {N : Nest α} {w w' : World} {base : Nat} {l : List (α × Nat)} (h : ListsIn N w base l) (hb : Below base w w') : ListsIn N w' base l := fun p hp =>
 ⟨(h p hp).1.low (fun q e => (h p hp).2.2 q.block (by simp [Nest.kid, e])) hb, (h p hp).2⟩
theorem opInfoL : (Tryz.prog.info? 134).map (fun i => (i.zero, i.size, i.bytes)) = some (some (.agg #[.int .i64 0, .int .i64 0, .int .i64 0, .string ⟨#[]⟩]), 4, 40) := by kernel_rfl
theorem strInfo : (Tryz.prog.info? 9).map (fun i => (i.zero, i.size, i.bytes)) = some (some (.string ⟨#[]⟩), 1, 16) := by kernel_rfl
theorem one_op {l : List OpD} : ∀ u ∈ opK.flat l, u.oneCell' = true := fun u hu => by
 obtain ⟨x, _, hx⟩ := List.mem_flatMap.1 hu
 simp only [opK, opVals, List.mem_cons, List.not_mem_nil, or_false] at hx
 rcases hx with rfl | rfl | rfl | rfl <;> rfl
theorem one_str {l : List ByteArray} : ∀ u ∈ strK.flat l, u.oneCell' = true := fun u hu => by
 obtain ⟨x, _, hx⟩ := List.mem_flatMap.1 hu
 simp only [strK, List.mem_cons, List.not_mem_nil, or_false] at hx
 subst hx
 rfl
theorem copy_ops (w : World) (a : Option Addr) (l : List OpD) (cap : Nat) (h : Row w a (opK.flat l)) (hl : l.length ≤ 1048576) :
  ∃ a' cap' w', (Builtin.append_ #[37, 37] 37 #[.slice none 0 0, .slice a l.length cap]).run Tryz.prog w = .ok (.slice a' l.length cap') w' ∧ w'.ownsRow w.heap.size 134 4 (.slice a' l.length cap') l.length (opK.flat l) ∧ w.grownBy w' none := by
 obtain ⟨i, hi, e⟩ := Option.map_eq_some_iff.1 opInfoL
 simp only [Prod.mk.injEq] at e
 exact append_copy w _ _ 134 i _ 4 40 Tryz.underlying37 hi e.1 e.2.1 e.2.2 rfl (by decide) a l.length cap _ h (opK.flat_length l) one_op hl (by decide)
theorem copy_strs (w : World) (a : Option Addr) (l : List ByteArray) (cap : Nat) (h : Row w a (strK.flat l)) (hl : l.length ≤ 1048576) :
  ∃ a' cap' w', (Builtin.append_ #[59, 59] 59 #[.slice none 0 0, .slice a l.length cap]).run Tryz.prog w = .ok (.slice a' l.length cap') w' ∧ w'.ownsRow w.heap.size 9 1 (.slice a' l.length cap') l.length (strK.flat l) ∧ w.grownBy w' none := by
 obtain ⟨i, hi, e⟩ := Option.map_eq_some_iff.1 strInfo
 simp only [Prod.mk.injEq] at e
 exact append_copy w _ _ 9 i _ 1 16 Tryz.underlying59 hi e.1 e.2.1 e.2.2 rfl (by decide) a l.length cap _ h (strK.flat_length l) one_str hl (by decide)
/-- What a shelf's lists end in. -/
structure Owned {α : Type} (N : Nest α) (w0 wr : World) (base b : Nat) (l l' : List (α × Nat)) : Prop where
 shelf : Shelf N.vs N.num N.T wr base b l'
 alike : l'.map (fun p => (N.set p.1 none 0, p.2)) = l.map (fun p => (N.set p.1 none 0, p.2))
 mine : ∀ p ∈ l', N.Mine wr w0.heap.size p.1
 nodup : (kids N l').Nodup
 os : wr.os = w0.os
 tape : wr.tape = w0.tape
 output : wr.output = w0.output
 size : w0.heap.size ≤ wr.heap.size
 same : ∀ g, g < w0.heap.size → g ∉ l.map (·.2) → wr.heap[g]? = w0.heap[g]?
theorem OwnIn.owned {α : Type} {N : Nest α} {w0 wr : World} {base b : Nat} {l l' : List (α × Nat)} {left : Lit → Bool} (h : OwnIn N w0 wr base b l l' left) (hd : ∀ kl, left kl = false) : Owned N w0 wr base b l l' :=
 ⟨h.shelf, h.alike, fun p hp => h.own p hp (hd _), h.nodup hd, h.os, h.tape, h.output, h.size, h.same⟩
theorem Owned.below {α : Type} {N : Nest α} {w0 wr : World} {base b : Nat} {l l' : List (α × Nat)} (h : Owned N w0 wr base b l l') (hb : base ≤ w0.heap.size) (hl : ∀ g ∈ l.map (·.2), base ≤ g) : Below base w0 wr :=
 ⟨h.os, h.tape, h.output, h.size, fun g hg => h.same g (by omega) (fun hm => by have := hl g hm; omega)⟩
/-- The three shelves whose things have lists. -/
structure Three (w : World) (base o : Nat) (q : Opn) (lp : List (ProcD × Nat)) (lf : List (BufferD × Nat)) (lq : List (PortD × Nat)) : Prop where
 opn : OpenBox w o q
 procs : Shelf procVs (fun x : ProcD => x.id) 43 w base q.bp lp
 buffers : Shelf bufferVs (fun x : BufferD => x.id) 144 w base q.bf lf
 ports : Shelf portVs (fun x : PortD => x.id) 61 w base q.bq lq
 nodup : (o :: ((q.bp :: lp.map (·.2)) ++ ((q.bf :: lf.map (·.2)) ++ (q.bq :: lq.map (·.2))))).Nodup
theorem Three.ownedProc {w w' : World} {base o : Nat} {q : Opn} {lp l' : List (ProcD × Nat)} {lf : List (BufferD × Nat)} {lq : List (PortD × Nat)} (h : Three w base o q lp lf lq) (ho : Owned procN w w' base q.bp lp l') : Three w' base o q l' lf lq := by
 have hbl : l'.map (·.2) = lp.map (·.2) := by
  have := congrArg (List.map (·.2)) ho.alike
  simp only [List.map_map, Function.comp_def] at this
  exact this
 have hn := h.nodup
 rw [List.nodup_cons, List.nodup_append] at hn
 obtain ⟨h1, h2, h3, h4⟩ := hn
 have hlp : ∀ g, g ∈ (q.bf :: lf.map (·.2)) ++ (q.bq :: lq.map (·.2)) → g ∉ lp.map (·.2) := fun g hg hm => h4 g (List.mem_cons_of_mem _ hm) g hg rfl
 refine ⟨(ho.same o (Array.getElem?_eq_some_iff.1 h.opn).1 (fun hm => h1 (by simp [List.mem_map.1 hm]))).trans h.opn, ho.shelf, h.buffers.same fun g hg => ho.same g (h.buffers.lt g hg) (hlp g (List.mem_append_left _ hg)), h.ports.same fun g hg => ho.same g (h.ports.lt g hg) (hlp g (List.mem_append_right _ hg)), ?_⟩
 rw [hbl]
 exact h.nodup
theorem Three.ownedBuffer {w w' : World} {base o : Nat} {q : Opn} {lp : List (ProcD × Nat)} {lf l' : List (BufferD × Nat)} {lq : List (PortD × Nat)} (h : Three w base o q lp lf lq) (ho : Owned bufferN w w' base q.bf lf l') : Three w' base o q lp l' lq := by
 have hbl : l'.map (·.2) = lf.map (·.2) := by
  have := congrArg (List.map (·.2)) ho.alike
  simp only [List.map_map, Function.comp_def] at this
  exact this
 have hn := h.nodup
 rw [List.nodup_cons, List.nodup_append, List.nodup_append] at hn
 obtain ⟨h1, h2, ⟨h3, h5, h6⟩, h4⟩ := hn
 refine ⟨(ho.same o (Array.getElem?_eq_some_iff.1 h.opn).1 (fun hm => h1 (by simp [List.mem_map.1 hm]))).trans h.opn, h.procs.same fun g hg => ho.same g (h.procs.lt g hg) (fun hm => h4 g hg g (List.mem_append_left _ (List.mem_cons_of_mem _ hm)) rfl), ho.shelf, h.ports.same fun g hg => ho.same g (h.ports.lt g hg) (fun hm => h6 g (List.mem_cons_of_mem _ hm) g hg rfl), ?_⟩
 rw [hbl]
 exact h.nodup
set_option maxRecDepth 100000 in
set_option maxHeartbeats 8000000 in
theorem ownLists_walk (o base : Nat) (q : Opn) (lp : List (ProcD × Nat)) (lf : List (BufferD × Nat)) (lq : List (PortD × Nat)) (w : World) (h : Three w base o q lp lf lq) (hb : base ≤ w.heap.size) (h1 : ListsIn procN w base lp) (h2 : ListsIn bufferN w base lf) (h3 : ListsIn portN w base lq) :
  Calls Tryz.prog 155 #[.pointer (some ⟨o, 0, none⟩)] w fun e w' => e = .returned (.tuple #[]) ∧ ∃ w1 w2 l0 l1 l2, Owned procN w w1 base q.bp lp l0 ∧ Owned bufferN w1 w2 base q.bf lf l1 ∧ Owned portN w2 w' base q.bq lq l2 := by
 have HT : Hid (Three w base o q lp lf lq) := h
 have HB0 : Hid (base ≤ w.heap.size) := hb
 have HBL : Hid (∀ g ∈ lp.map (·.2), base ≤ g) := fun g hg => h.procs.low g (List.mem_cons_of_mem _ hg)
 have HLP : Hid (ListsIn procN w base lp) := h1
 have HLF : Hid (ListsIn bufferN w base lf) := h2
 have HLQ : Hid (ListsIn portN w base lq) := h3
 clear h hb h1 h2 h3
 go_enter Tryz.func155, Tryz.ntmps155
 have c0 : w.cell? ⟨o, 3, none⟩ = some (.map (some q.bp)) := HT.out.opn.cell 3
 have hown := HT.out.procs.map.1
 go_wp2_with (at_range; refine wpList_range_own _ rfl _ 108 rfl 2 102 keyed64 Tryz.underlying108 ptrR q.bp _ _ rfl hown ?_; intro w1 hrg1 hg1 hs1)
 have HS : Hid (OwnIn procN w w1 base q.bp lp lp (Maps.has (mapD (keysOf procN.num lp)))) := OwnIn.start HT.out.procs hg1
 have HL0 : Hid (∀ g ∈ q.bp :: lp.map (·.2), g < w.heap.size) := HT.out.procs.lt
 clear hown c0 hg1
 go_frame
 go_loopw [3] (fun _ wr1 => ∃ (left : Lit → Bool) (cnt : Nat) (l' : List (ProcD × Nat)), wr1.ranges Tryz.prog 2 ptrR q.bp w.heap.size (keysOf (fun x : ProcD => x.id) lp).length (mapD (keysOf (fun x : ProcD => x.id) lp)) left cnt ∧ Hid (OwnIn procN w wr1 base q.bp lp l' left)) (fun _ wr1 => wr1.rangeLeft q.bp w.heap.size)
 case atStart => exact ⟨_, _, lp, hrg1, HS.out⟩
 case round =>
  rename World => wr1
  clear HS hrg1 hs1 w1
  obtain ⟨left, cnt, l0, hrg, HO⟩ := hrel
  go_wp2_with (at_next; refine wpList_next_ranges _ rfl _ rfl 2 keyed64 ptrR (Value.int .i64) ptrV (fun key kl hk => by obtain ⟨x, rfl, _⟩ := keyOf_int_inv Tryz.underlying2 hk; exact ⟨x, rfl⟩) (fun v y hv => by obtain ⟨g, rfl, _⟩ := ptrR_inv hv; exact ⟨g, rfl⟩) q.bp w.heap.size _ _ _ _ rfl hrg ?_ ?_)
  ·intro hc0 hl0
   have HD0 : Hid (Owned procN w wr1 base q.bp lp l0) := HO.out.owned hl0
   clear hrg HO hc0 hl0 HL0 left cnt
   have HTN : Hid (Three wr1 base o q l0 lf lq) := HT.out.ownedProc HD0.out
   clear HT
   have HT : Hid (Three wr1 base o q l0 lf lq) := HTN.out
   have HLI : Hid (ListsIn bufferN wr1 base lf ∧ ListsIn portN wr1 base lq) := ⟨HLF.out.low (HD0.out.below HB0.out HBL.out), HLQ.out.low (HD0.out.below HB0.out HBL.out)⟩
   have HBN : Hid (base ≤ wr1.heap.size) := Nat.le_trans HB0.out HD0.out.size
   clear HTN HB0 HBL HLP
   have HB0 : Hid (base ≤ wr1.heap.size) := HBN.out
   have HBL : Hid (∀ g ∈ lf.map (·.2), base ≤ g) := fun g hg => HT.out.buffers.low g (List.mem_cons_of_mem _ hg)
   clear HLF HLQ
   have HLF : Hid (ListsIn bufferN wr1 base lf) := HLI.out.1
   have HLQ : Hid (ListsIn portN wr1 base lq) := HLI.out.2
   clear HLI HBN
   have c1 : wr1.cell? ⟨o, 11, none⟩ = some (.map (some q.bf)) := HT.out.opn.cell 11
   have hown := HT.out.buffers.map.1
   go_wp2_with (at_range; refine wpList_range_own _ rfl _ 120 rfl 2 224 keyed64 Tryz.underlying120 ptrR q.bf _ _ rfl hown ?_; intro w1 hrg1 hg1 hs1)
   have HS : Hid (OwnIn bufferN wr1 w1 base q.bf lf lf (Maps.has (mapD (keysOf bufferN.num lf)))) := OwnIn.start HT.out.buffers hg1
   have HL1 : Hid (∀ g ∈ q.bf :: lf.map (·.2), g < wr1.heap.size) := HT.out.buffers.lt
   clear hown c1 hg1
   go_frame
   go_loopw [5] (fun _ wr2 => ∃ (left : Lit → Bool) (cnt : Nat) (l' : List (BufferD × Nat)), wr2.ranges Tryz.prog 2 ptrR q.bf wr1.heap.size (keysOf (fun x : BufferD => x.id) lf).length (mapD (keysOf (fun x : BufferD => x.id) lf)) left cnt ∧ Hid (OwnIn bufferN wr1 wr2 base q.bf lf l' left)) (fun _ wr2 => wr2.rangeLeft q.bf wr1.heap.size)
   case atStart => exact ⟨_, _, lf, hrg1, HS.out⟩
   case round =>
    rename World => wr2
    clear HS hrg1 hs1 w1
    obtain ⟨left, cnt, l1, hrg, HO⟩ := hrel
    go_wp2_with (at_next; refine wpList_next_ranges _ rfl _ rfl 2 keyed64 ptrR (Value.int .i64) ptrV (fun key kl hk => by obtain ⟨x, rfl, _⟩ := keyOf_int_inv Tryz.underlying2 hk; exact ⟨x, rfl⟩) (fun v y hv => by obtain ⟨g, rfl, _⟩ := ptrR_inv hv; exact ⟨g, rfl⟩) q.bf wr1.heap.size _ _ _ _ rfl hrg ?_ ?_)
    ·intro hc0 hl0
     have HD1 : Hid (Owned bufferN wr1 wr2 base q.bf lf l1) := HO.out.owned hl0
     clear hrg HO hc0 hl0 HL1 left cnt
     have HTN : Hid (Three wr2 base o q l0 l1 lq) := HT.out.ownedBuffer HD1.out
     clear HT
     have HT : Hid (Three wr2 base o q l0 l1 lq) := HTN.out
     have HLI : Hid (ListsIn portN wr2 base lq) := HLQ.out.low (HD1.out.below HB0.out HBL.out)
     have HBN : Hid (base ≤ wr2.heap.size) := Nat.le_trans HB0.out HD1.out.size
     clear HTN HB0 HBL HLF
     have HB0 : Hid (base ≤ wr2.heap.size) := HBN.out
     have HBL : Hid (∀ g ∈ lq.map (·.2), base ≤ g) := fun g hg => HT.out.ports.low g (List.mem_cons_of_mem _ hg)
     clear HLQ
     have HLQ : Hid (ListsIn portN wr2 base lq) := HLI.out
     clear HLI HBN
     have c2 : wr2.cell? ⟨o, 13, none⟩ = some (.map (some q.bq)) := HT.out.opn.cell 13
     have hown := HT.out.ports.map.1
     go_wp2_with (at_range; refine wpList_range_own _ rfl _ 123 rfl 2 225 keyed64 Tryz.underlying123 ptrR q.bq _ _ rfl hown ?_; intro w1 hrg1 hg1 hs1)
     have HS : Hid (OwnIn portN wr2 w1 base q.bq lq lq (Maps.has (mapD (keysOf portN.num lq)))) := OwnIn.start HT.out.ports hg1
     have HL2 : Hid (∀ g ∈ q.bq :: lq.map (·.2), g < wr2.heap.size) := HT.out.ports.lt
     clear hown c2 hg1
     go_frame
     go_loopw [7] (fun _ wr3 => ∃ (left : Lit → Bool) (cnt : Nat) (l' : List (PortD × Nat)), wr3.ranges Tryz.prog 2 ptrR q.bq wr2.heap.size (keysOf (fun x : PortD => x.id) lq).length (mapD (keysOf (fun x : PortD => x.id) lq)) left cnt ∧ Hid (OwnIn portN wr2 wr3 base q.bq lq l' left)) (fun _ wr3 => wr3.rangeLeft q.bq wr2.heap.size)
     case atStart => exact ⟨_, _, lq, hrg1, HS.out⟩
     case round =>
      rename World => wr3
      clear HS hrg1 hs1 w1
      obtain ⟨left, cnt, l2, hrg, HO⟩ := hrel
      go_wp2_with (at_next; refine wpList_next_ranges _ rfl _ rfl 2 keyed64 ptrR (Value.int .i64) ptrV (fun key kl hk => by obtain ⟨x, rfl, _⟩ := keyOf_int_inv Tryz.underlying2 hk; exact ⟨x, rfl⟩) (fun v y hv => by obtain ⟨g, rfl, _⟩ := ptrR_inv hv; exact ⟨g, rfl⟩) q.bq wr2.heap.size _ _ _ _ rfl hrg ?_ ?_)
      ·intro hc0 hl0
       have HD2 : Hid (Owned portN wr2 wr3 base q.bq lq l2) := HO.out.owned hl0
       clear hrg HO hc0 hl0 HL2 left cnt
       go_wp2
       go_end0
       exact ⟨rfl, wr1, wr2, l0, l1, l2, HD0.out, HD1.out, HD2.out⟩
      ·intro x c kl y1 y2 w2 cnt2 hkey hlk hv hat hrg2 hlt2 hgr2 hsz2 hen
       obtain ⟨p, hp, rfl, rfl, rfl⟩ := HO.out.pick hkey hv hat
       have hpl : p.2 ∈ lq.map (·.2) := by rw [← HO.out.blocks]; exact List.mem_map.2 ⟨p, hp, rfl⟩
       have hpo := HO.out.old p hp hlk
       have hpw := HL2.out p.2 (List.mem_cons_of_mem _ hpl)
       have hbox : w2.heap[p.2]? = some (.cells (portVs p.1) 61 (0, 0)) := (hgr2.block p.2 (Nat.lt_of_lt_of_le hpw HO.out.size) (fun e => by have := Option.some.inj e; omega)).trans (HO.out.shelf.box p hp)
       have hrow : Row w2 p.1.itemsA (strK.flat p.1.items) := (HLQ.out p hpo).1.same fun g e => by
        have hgb : g < base := (HLQ.out p hpo).2.2 g (by show (p.1.itemsA).map (·.block) = some g; rw [show p.1.itemsA = some ⟨g, 0, none⟩ from e]; rfl)
        have hb0 := HB0.out
        refine (hgr2.block g (by have := HO.out.size; omega) (fun e => by have := Option.some.inj e; omega)).trans (HO.out.same g (by omega) (fun hm => by have := HBL.out g hm; omega))
       obtain ⟨a3, cap3, w3, hap, hown3, hg3⟩ := copy_strs w2 p.1.itemsA p.1.items p.1.itemsC hrow (HLQ.out p hpo).2.1
       have cc : w2.cell? ⟨p.2, 4, none⟩ = some (.slice p.1.itemsA p.1.items.length p.1.itemsC) := by simp [World.cell?, hbox, portVs]
       have hbox3 := (hg3.block p.2 (Array.getElem?_eq_some_iff.1 hbox).1 (by simp)).trans hbox
       have cc3 : w3.cell? ⟨p.2, 4, none⟩ = some (.slice p.1.itemsA p.1.items.length p.1.itemsC) := by simp [World.cell?, hbox3, portVs]
       have cf3 : w3.frozen? ⟨p.2, 4, none⟩ = false := by simp [World.frozen?, hbox3]
       have HN := HO.out.turn (i := 4) hrg hgr2 hrg2 HL2.out (Nat.le_refl _) hp hown3 hg3 rfl
       have HNH : Hid (_ ∧ _) := HN
       have HLT : Hid (cnt2 < cnt ∧ wr3.rangeLeft q.bq wr2.heap.size = cnt) := ⟨hlt2, hrg.left_eq⟩
       simp only [ptrV] at hen
       clear HN hrg hrg2 hgr2 hsz2 hkey hlk hv hat hlt2 hpl hpo hpw hbox hbox3 hrow hown3 hg3
       unfold ptrV
       go_wp2_with (at_builtin; refine wpList_append_run _ rfl _ _ 59 rfl _ _ _ _ rfl rfl hap ?_; clear hap)
       go_roundw
       case rel => exact ⟨_, _, _, HNH.out.2, HNH.out.1⟩
       case measure => have h5 := HNH.out.2.left_eq; have h6 := HLT.out; rw [h6.2]; exact Nat.lt_of_le_of_lt (Nat.le_of_eq h5) h6.1
    ·intro x c kl y1 y2 w2 cnt2 hkey hlk hv hat hrg2 hlt2 hgr2 hsz2 hen
     obtain ⟨p, hp, rfl, rfl, rfl⟩ := HO.out.pick hkey hv hat
     have hpl : p.2 ∈ lf.map (·.2) := by rw [← HO.out.blocks]; exact List.mem_map.2 ⟨p, hp, rfl⟩
     have hpo := HO.out.old p hp hlk
     have hpw := HL1.out p.2 (List.mem_cons_of_mem _ hpl)
     have hbox : w2.heap[p.2]? = some (.cells (bufferVs p.1) 144 (0, 0)) := (hgr2.block p.2 (Nat.lt_of_lt_of_le hpw HO.out.size) (fun e => by have := Option.some.inj e; omega)).trans (HO.out.shelf.box p hp)
     have hrow : Row w2 p.1.itemsA (strK.flat p.1.items) := (HLF.out p hpo).1.same fun g e => by
      have hgb : g < base := (HLF.out p hpo).2.2 g (by show (p.1.itemsA).map (·.block) = some g; rw [show p.1.itemsA = some ⟨g, 0, none⟩ from e]; rfl)
      have hb0 := HB0.out
      refine (hgr2.block g (by have := HO.out.size; omega) (fun e => by have := Option.some.inj e; omega)).trans (HO.out.same g (by omega) (fun hm => by have := HBL.out g hm; omega))
     obtain ⟨a3, cap3, w3, hap, hown3, hg3⟩ := copy_strs w2 p.1.itemsA p.1.items p.1.itemsC hrow (HLF.out p hpo).2.1
     have cc : w2.cell? ⟨p.2, 2, none⟩ = some (.slice p.1.itemsA p.1.items.length p.1.itemsC) := by simp [World.cell?, hbox, bufferVs]
     have hbox3 := (hg3.block p.2 (Array.getElem?_eq_some_iff.1 hbox).1 (by simp)).trans hbox
     have cc3 : w3.cell? ⟨p.2, 2, none⟩ = some (.slice p.1.itemsA p.1.items.length p.1.itemsC) := by simp [World.cell?, hbox3, bufferVs]
     have cf3 : w3.frozen? ⟨p.2, 2, none⟩ = false := by simp [World.frozen?, hbox3]
     have HN := HO.out.turn (i := 2) hrg hgr2 hrg2 HL1.out (Nat.le_refl _) hp hown3 hg3 rfl
     have HNH : Hid (_ ∧ _) := HN
     have HLT : Hid (cnt2 < cnt ∧ wr2.rangeLeft q.bf wr1.heap.size = cnt) := ⟨hlt2, hrg.left_eq⟩
     simp only [ptrV] at hen
     clear HN hrg hrg2 hgr2 hsz2 hkey hlk hv hat hlt2 hpl hpo hpw hbox hbox3 hrow hown3 hg3
     unfold ptrV
     go_wp2_with (at_builtin; refine wpList_append_run _ rfl _ _ 59 rfl _ _ _ _ rfl rfl hap ?_; clear hap)
     go_roundw
     case rel => exact ⟨_, _, _, HNH.out.2, HNH.out.1⟩
     case measure => have h5 := HNH.out.2.left_eq; have h6 := HLT.out; rw [h6.2]; exact Nat.lt_of_le_of_lt (Nat.le_of_eq h5) h6.1
  ·intro x c kl y1 y2 w2 cnt2 hkey hlk hv hat hrg2 hlt2 hgr2 hsz2 hen
   obtain ⟨p, hp, rfl, rfl, rfl⟩ := HO.out.pick hkey hv hat
   have hpl : p.2 ∈ lp.map (·.2) := by rw [← HO.out.blocks]; exact List.mem_map.2 ⟨p, hp, rfl⟩
   have hpo := HO.out.old p hp hlk
   have hpw := HL0.out p.2 (List.mem_cons_of_mem _ hpl)
   have hbox : w2.heap[p.2]? = some (.cells (procVs p.1) 43 (0, 0)) := (hgr2.block p.2 (Nat.lt_of_lt_of_le hpw HO.out.size) (fun e => by have := Option.some.inj e; omega)).trans (HO.out.shelf.box p hp)
   have hrow : Row w2 p.1.progA (opK.flat p.1.prog) := (HLP.out p hpo).1.same fun g e => by
    have hgb : g < base := (HLP.out p hpo).2.2 g (by show (p.1.progA).map (·.block) = some g; rw [show p.1.progA = some ⟨g, 0, none⟩ from e]; rfl)
    have hb0 := HB0.out
    refine (hgr2.block g (by have := HO.out.size; omega) (fun e => by have := Option.some.inj e; omega)).trans (HO.out.same g (by omega) (fun hm => by have := HBL.out g hm; omega))
   obtain ⟨a3, cap3, w3, hap, hown3, hg3⟩ := copy_ops w2 p.1.progA p.1.prog p.1.progC hrow (HLP.out p hpo).2.1
   have cc : w2.cell? ⟨p.2, 2, none⟩ = some (.slice p.1.progA p.1.prog.length p.1.progC) := by simp [World.cell?, hbox, procVs]
   have hbox3 := (hg3.block p.2 (Array.getElem?_eq_some_iff.1 hbox).1 (by simp)).trans hbox
   have cc3 : w3.cell? ⟨p.2, 2, none⟩ = some (.slice p.1.progA p.1.prog.length p.1.progC) := by simp [World.cell?, hbox3, procVs]
   have cf3 : w3.frozen? ⟨p.2, 2, none⟩ = false := by simp [World.frozen?, hbox3]
   have HN := HO.out.turn (i := 2) hrg hgr2 hrg2 HL0.out (Nat.le_refl _) hp hown3 hg3 rfl
   have HNH : Hid (_ ∧ _) := HN
   have HLT : Hid (cnt2 < cnt ∧ wr1.rangeLeft q.bp w.heap.size = cnt) := ⟨hlt2, hrg.left_eq⟩
   simp only [ptrV] at hen
   clear HN hrg hrg2 hgr2 hsz2 hkey hlk hv hat hlt2 hpl hpo hpw hbox hbox3 hrow hown3 hg3
   unfold ptrV
   go_wp2_with (at_builtin; refine wpList_append_run _ rfl _ _ 37 rfl _ _ _ _ rfl rfl hap ?_; clear hap)
   go_roundw
   case rel => exact ⟨_, _, _, HNH.out.2, HNH.out.1⟩
   case measure => have h5 := HNH.out.2.left_eq; have h6 := HLT.out; rw [h6.2]; exact Nat.lt_of_le_of_lt (Nat.le_of_eq h5) h6.1
end Go.Proofs.YtkbcplnlehdjfaaGreat

/- The next operation in the order of the text: runs of operations in one row. -/
namespace Go.Proofs.YtkbcplnlehdjfaaGreat
open Go
section
variable {P : Program} {md : Region.Mode} {ops : Array Oper} {Q : Exit → Act → World → Prop} {S : World → Prop}
/-- The next one in the order of the text. -/
theorem ty {oi : Oper} {v : Value} {fuel : Nat} {listed : Array Bool} {a : Act} (d : Option Tmp) (hi : ops[ops.size - (fuel + 1)]? = some oi) (_hd : oi.dst = d) (hc : tmB md ops listed (ops.size - (fuel + 1)) oi d = true)
  (hQ : ∀ c a w, Q (.panic c) (a.put d v) w → Q (.panic c) a w) (hy : Does P ops S oi v a)
  (h : wpAnyD P md ops Q S fuel (listed.setIfInBounds (ops.size - (fuel + 1)) true) (a.put d v)) : wpAnyD P md ops Q S (fuel + 1) listed a := tm (ops.size - (fuel + 1)) d hi hc hQ hy h
theorem ly {L : Nat} (n : Nat) {oi : Oper} {v : Value} {fuel : Nat} {listed : Array Bool} {a : Act} (d : Option Tmp) (hi : ops[ops.size - (fuel + 1)]? = some oi) (_hd : oi.dst = d) (hc : lsB md ops listed (ops.size - (fuel + 1)) L n oi d = true)
  (hQ : ∀ c a w, Q (.panic c) (a.put d v) w → Q (.panic c) a w) (hy : Does P ops S oi v a)
  (h : wpAnyL P md ops Q S L fuel (listed.setIfInBounds (ops.size - (fuel + 1)) true) (a.put d v)) : wpAnyL P md ops Q S L (fuel + 1) listed a := ls (ops.size - (fuel + 1)) n d hi hc hQ hy h
/-- The same, its checks left to the kernel: an operation that yields, one that is passed over, a call. -/
theorem yl {oi : Oper} {v : Value} {fuel : Nat} {listed : Array Bool} {a : Act} {d : Tmp} (hy : ∀ w, S w → (execOp a.eval oi).run P w = .ok (.value v) w)
  (h : wpAnyD P md ops Q S fuel (listed.setIfInBounds (ops.size - (fuel + 1)) true) (a.put (some d) v)) (hi : ops[ops.size - (fuel + 1)]? = some oi := by rfl) (_hd : oi.dst = some d := by rfl) (hc : tmB md ops listed (ops.size - (fuel + 1)) oi (some d) = true := by kernel_rfl)
  (hQ : ∀ c a w, Q (.panic c) (a.put (some d) v) w → Q (.panic c) a w := by exact fun _ _ _ h => h) (hw : Region.wanted oi (yielded ops a.tmps) = true := by kernel_rfl) : wpAnyD P md ops Q S (fuel + 1) listed a := tm (ops.size - (fuel + 1)) (some d) hi hc hQ (does_yield hw hy) h
theorem nl {oi : Oper} {fuel : Nat} {listed : Array Bool} {a : Act} {d : Tmp}
  (h : wpAnyD P md ops Q S fuel (listed.setIfInBounds (ops.size - (fuel + 1)) true) (a.put (some d) undef)) (hi : ops[ops.size - (fuel + 1)]? = some oi := by rfl) (_hd : oi.dst = some d := by rfl) (hc : tmB md ops listed (ops.size - (fuel + 1)) oi (some d) = true := by kernel_rfl)
  (hQ : ∀ c a w, Q (.panic c) (a.put (some d) undef) w → Q (.panic c) a w := by exact fun _ _ _ h => h) (hw : Region.wanted oi (yielded ops a.tmps) = false := by kernel_rfl) : wpAnyD P md ops Q S (fuel + 1) listed a := tm (ops.size - (fuel + 1)) (some d) hi hc hQ (does_skip hw) h
theorem cl (v : Value) (f : FuncId) (args : Array Value) {oi : Oper} {fuel : Nat} {listed : Array Bool} {a : Act} {d : Tmp} (hy : ∀ w, S w → (execOp a.eval oi).run P w = .ok (.enter f args) w) (hf : ∀ w, S w → Calls P f args w (fun e w' => e = .returned v ∧ S w'))
  (h : wpAnyD P md ops Q S fuel (listed.setIfInBounds (ops.size - (fuel + 1)) true) (a.put (some d) v)) (hi : ops[ops.size - (fuel + 1)]? = some oi := by rfl) (_hd : oi.dst = some d := by rfl) (hc : tmB md ops listed (ops.size - (fuel + 1)) oi (some d) = true := by kernel_rfl)
  (hQ : ∀ c a w, Q (.panic c) (a.put (some d) v) w → Q (.panic c) a w := by exact fun _ _ _ h => h) (hw : Region.wanted oi (yielded ops a.tmps) = true := by kernel_rfl) : wpAnyD P md ops Q S (fuel + 1) listed a := tm (ops.size - (fuel + 1)) (some d) hi hc hQ (does_call hw hy hf) h
end
end Go.Proofs.YtkbcplnlehdjfaaGreat

/- Whether there is what a process waits for: what the programme answers. (Made by mkhas.py.) -/
namespace Go.Proofs.YtkbcplnlehdjfaaGreat
open Go.RowKit
attribute [local go_sem ↓] Go.wp_at_zero Go.wp_at_succ
theorem hasS3_of {w w' : World} {o X : Nat} {q : Opn} {x : ProcD} {ms me mb mf : MapL} (h : HasIn w w' o X q x ms me mb mf) : (w'.cell? ⟨o, 4, none⟩ = some (.int .i64 5) ∧ w'.cell? ⟨o, 5, none⟩ = some (.map (some q.bs)) ∧ w'.cell? ⟨X, 7, none⟩ = some (.int .i64 x.on)) ∧ Hid (HasIn w w' o X q x ms me mb mf) :=
 ⟨⟨h.opn.cell 4, h.opn.cell 5, (proc_cells h.box).2.2.2.2.2.2.2.1⟩, h⟩
set_option maxRecDepth 100000 in
set_option maxHeartbeats 2000000 in
theorem hasWait_3 (o X : Nat) (q : Opn) (x : ProcD) (ms me mb mf : MapL) (w : World) (h : HasIn w w o X q x ms me mb mf) (hw : (Lit.int .i64 x.on).wf = true) (hs : x.state = 3) :
  Calls Tryz.prog 203 #[.pointer (some ⟨o, 0, none⟩), .pointer (some ⟨X, 0, none⟩)] w fun e w' => e = .returned (.bool (waitK ms me mb mf x)) ∧ Below w.heap.size w w' := by
 have H : Hid (HasIn w w o X q x ms me mb mf) := h
 have HW : Hid ((Lit.int .i64 x.on).wf = true) := hw
 have HV : Hid (waitK ms me mb mf x = (lookM ms x.on).isSome) := by show waitK ms me mb mf x = _; simp [waitK, hs]
 have k3 : w.cell? ⟨X, 3, none⟩ = some (.int .i64 3) := by rw [(proc_cells h.box).2.2.2.1, hs]
 clear h hw hs
 go_enter Tryz.func203, Tryz.ntmps203
 go_wp2_with fail
 clear k3
 refine tame_region (fun w' => (w'.cell? ⟨o, 4, none⟩ = some (.int .i64 5) ∧ w'.cell? ⟨o, 5, none⟩ = some (.map (some q.bs)) ∧ w'.cell? ⟨X, 7, none⟩ = some (.int .i64 x.on)) ∧ Hid (HasIn w w' o X q x ms me mb mf)) (by kernel_rfl) (hasS3_of H.out.drew) ?_
 iterate 8 (refine yl (v := ?_) ?_ ?_; rotate_left; (intro w0 hS0; obtain ⟨⟨q0, q1, q2⟩, hH⟩ := hS0; go_simp; try with_reducible rfl); simp only [pt, sb, s0, s1])
 refine cl (.bool (lookM ms x.on).isSome) 175 #[.agg #[.int .i64 5, .map (some q.bs)], .int .i64 x.on] ?_ ?_ ?_
 ·intro w0 hS0
  obtain ⟨⟨q0, q1, q2⟩, hH⟩ := hS0
  go_simp
  try with_reducible rfl
 ·intro w0 hS0
  refine (hasSem_any 5 q.bs ms x.on w0 hS0.2.out.ms HW.out).mono ?_
  rintro e w2 ⟨rfl, hb2⟩
  exact ⟨rfl, hasS3_of (hS0.2.out.below hb2)⟩
 simp only [pt, sb, s0, s1]
 (refine yl (v := ?_) ?_ ?_; rotate_left; (intro w0 hS0; obtain ⟨⟨q0, q1, q2⟩, hH⟩ := hS0; go_simp; try with_reducible rfl); simp only [pt, sb, s0, s1])
 refine tame_done (by kernel_rfl) ?_ _
 intro w1 hS1
 go_wp2
 go_ret
 exact ⟨ret_bool HV.out.symm, hS1.2.out.bel⟩
theorem hasS4_of {w w' : World} {o X : Nat} {q : Opn} {x : ProcD} {ms me mb mf : MapL} (h : HasIn w w' o X q x ms me mb mf) : (w'.cell? ⟨o, 6, none⟩ = some (.int .i64 5) ∧ w'.cell? ⟨o, 7, none⟩ = some (.map (some q.be)) ∧ w'.cell? ⟨X, 7, none⟩ = some (.int .i64 x.on)) ∧ Hid (HasIn w w' o X q x ms me mb mf) :=
 ⟨⟨h.opn.cell 6, h.opn.cell 7, (proc_cells h.box).2.2.2.2.2.2.2.1⟩, h⟩
set_option maxRecDepth 100000 in
set_option maxHeartbeats 2000000 in
theorem hasWait_4 (o X : Nat) (q : Opn) (x : ProcD) (ms me mb mf : MapL) (w : World) (h : HasIn w w o X q x ms me mb mf) (hw : (Lit.int .i64 x.on).wf = true) (hs : x.state = 4) :
  Calls Tryz.prog 203 #[.pointer (some ⟨o, 0, none⟩), .pointer (some ⟨X, 0, none⟩)] w fun e w' => e = .returned (.bool (waitK ms me mb mf x)) ∧ Below w.heap.size w w' := by
 have H : Hid (HasIn w w o X q x ms me mb mf) := h
 have HW : Hid ((Lit.int .i64 x.on).wf = true) := hw
 have HV : Hid (waitK ms me mb mf x = (lookM me x.on).isSome) := by show waitK ms me mb mf x = _; simp [waitK, hs]
 have k3 : w.cell? ⟨X, 3, none⟩ = some (.int .i64 4) := by rw [(proc_cells h.box).2.2.2.1, hs]
 clear h hw hs
 go_enter Tryz.func203, Tryz.ntmps203
 go_wp2_with fail
 clear k3
 refine tame_region (fun w' => (w'.cell? ⟨o, 6, none⟩ = some (.int .i64 5) ∧ w'.cell? ⟨o, 7, none⟩ = some (.map (some q.be)) ∧ w'.cell? ⟨X, 7, none⟩ = some (.int .i64 x.on)) ∧ Hid (HasIn w w' o X q x ms me mb mf)) (by kernel_rfl) (hasS4_of H.out.drew) ?_
 iterate 8 (refine yl (v := ?_) ?_ ?_; rotate_left; (intro w0 hS0; obtain ⟨⟨q0, q1, q2⟩, hH⟩ := hS0; go_simp; try with_reducible rfl); simp only [pt, sb, s0, s1])
 refine cl (.bool (lookM me x.on).isSome) 176 #[.agg #[.int .i64 5, .map (some q.be)], .int .i64 x.on] ?_ ?_ ?_
 ·intro w0 hS0
  obtain ⟨⟨q0, q1, q2⟩, hH⟩ := hS0
  go_simp
  try with_reducible rfl
 ·intro w0 hS0
  refine (hasEvent_any 5 q.be me x.on w0 hS0.2.out.me HW.out).mono ?_
  rintro e w2 ⟨rfl, hb2⟩
  exact ⟨rfl, hasS4_of (hS0.2.out.below hb2)⟩
 simp only [pt, sb, s0, s1]
 (refine yl (v := ?_) ?_ ?_; rotate_left; (intro w0 hS0; obtain ⟨⟨q0, q1, q2⟩, hH⟩ := hS0; go_simp; try with_reducible rfl); simp only [pt, sb, s0, s1])
 refine tame_done (by kernel_rfl) ?_ _
 intro w1 hS1
 go_wp2
 go_ret
 exact ⟨ret_bool HV.out.symm, hS1.2.out.bel⟩
theorem hasS5_of {w w' : World} {o X : Nat} {q : Opn} {x : ProcD} {ms me mb mf : MapL} (h : HasIn w w' o X q x ms me mb mf) : (w'.cell? ⟨o, 10, none⟩ = some (.int .i64 5) ∧ w'.cell? ⟨o, 11, none⟩ = some (.map (some q.bf)) ∧ w'.cell? ⟨X, 7, none⟩ = some (.int .i64 x.on)) ∧ Hid (HasIn w w' o X q x ms me mb mf) :=
 ⟨⟨h.opn.cell 10, h.opn.cell 11, (proc_cells h.box).2.2.2.2.2.2.2.1⟩, h⟩
set_option maxRecDepth 100000 in
set_option maxHeartbeats 2000000 in
theorem hasWait_5 (o X : Nat) (q : Opn) (x : ProcD) (ms me mb mf : MapL) (w : World) (h : HasIn w w o X q x ms me mb mf) (hw : (Lit.int .i64 x.on).wf = true) (hs : x.state = 5) :
  Calls Tryz.prog 203 #[.pointer (some ⟨o, 0, none⟩), .pointer (some ⟨X, 0, none⟩)] w fun e w' => e = .returned (.bool (waitK ms me mb mf x)) ∧ Below w.heap.size w w' := by
 have H : Hid (HasIn w w o X q x ms me mb mf) := h
 have HW : Hid ((Lit.int .i64 x.on).wf = true) := hw
 have HV : Hid (waitK ms me mb mf x = (lookM mf x.on).isSome) := by show waitK ms me mb mf x = _; simp [waitK, hs]
 have k3 : w.cell? ⟨X, 3, none⟩ = some (.int .i64 5) := by rw [(proc_cells h.box).2.2.2.1, hs]
 clear h hw hs
 go_enter Tryz.func203, Tryz.ntmps203
 go_wp2_with fail
 clear k3
 refine tame_region (fun w' => (w'.cell? ⟨o, 10, none⟩ = some (.int .i64 5) ∧ w'.cell? ⟨o, 11, none⟩ = some (.map (some q.bf)) ∧ w'.cell? ⟨X, 7, none⟩ = some (.int .i64 x.on)) ∧ Hid (HasIn w w' o X q x ms me mb mf)) (by kernel_rfl) (hasS5_of H.out.drew) ?_
 iterate 8 (refine yl (v := ?_) ?_ ?_; rotate_left; (intro w0 hS0; obtain ⟨⟨q0, q1, q2⟩, hH⟩ := hS0; go_simp; try with_reducible rfl); simp only [pt, sb, s0, s1])
 refine cl (.bool (lookM mf x.on).isSome) 178 #[.agg #[.int .i64 5, .map (some q.bf)], .int .i64 x.on] ?_ ?_ ?_
 ·intro w0 hS0
  obtain ⟨⟨q0, q1, q2⟩, hH⟩ := hS0
  go_simp
  try with_reducible rfl
 ·intro w0 hS0
  refine (hasBuffer_any 5 q.bf mf x.on w0 hS0.2.out.mf HW.out).mono ?_
  rintro e w2 ⟨rfl, hb2⟩
  exact ⟨rfl, hasS5_of (hS0.2.out.below hb2)⟩
 simp only [pt, sb, s0, s1]
 (refine yl (v := ?_) ?_ ?_; rotate_left; (intro w0 hS0; obtain ⟨⟨q0, q1, q2⟩, hH⟩ := hS0; go_simp; try with_reducible rfl); simp only [pt, sb, s0, s1])
 refine tame_done (by kernel_rfl) ?_ _
 intro w1 hS1
 go_wp2
 go_ret
 exact ⟨ret_bool HV.out.symm, hS1.2.out.bel⟩
theorem hasS6_of {w w' : World} {o X : Nat} {q : Opn} {x : ProcD} {ms me mb mf : MapL} (h : HasIn w w' o X q x ms me mb mf) : (w'.cell? ⟨o, 10, none⟩ = some (.int .i64 5) ∧ w'.cell? ⟨o, 11, none⟩ = some (.map (some q.bf)) ∧ w'.cell? ⟨X, 7, none⟩ = some (.int .i64 x.on)) ∧ Hid (HasIn w w' o X q x ms me mb mf) :=
 ⟨⟨h.opn.cell 10, h.opn.cell 11, (proc_cells h.box).2.2.2.2.2.2.2.1⟩, h⟩
set_option maxRecDepth 100000 in
set_option maxHeartbeats 2000000 in
theorem hasWait_6 (o X : Nat) (q : Opn) (x : ProcD) (ms me mb mf : MapL) (w : World) (h : HasIn w w o X q x ms me mb mf) (hw : (Lit.int .i64 x.on).wf = true) (hs : x.state = 6) :
  Calls Tryz.prog 203 #[.pointer (some ⟨o, 0, none⟩), .pointer (some ⟨X, 0, none⟩)] w fun e w' => e = .returned (.bool (waitK ms me mb mf x)) ∧ Below w.heap.size w w' := by
 have H : Hid (HasIn w w o X q x ms me mb mf) := h
 have HW : Hid ((Lit.int .i64 x.on).wf = true) := hw
 have HV : Hid (waitK ms me mb mf x = (lookM mf x.on).isSome) := by show waitK ms me mb mf x = _; simp [waitK, hs]
 have k3 : w.cell? ⟨X, 3, none⟩ = some (.int .i64 6) := by rw [(proc_cells h.box).2.2.2.1, hs]
 clear h hw hs
 go_enter Tryz.func203, Tryz.ntmps203
 go_wp2_with fail
 clear k3
 refine tame_region (fun w' => (w'.cell? ⟨o, 10, none⟩ = some (.int .i64 5) ∧ w'.cell? ⟨o, 11, none⟩ = some (.map (some q.bf)) ∧ w'.cell? ⟨X, 7, none⟩ = some (.int .i64 x.on)) ∧ Hid (HasIn w w' o X q x ms me mb mf)) (by kernel_rfl) (hasS6_of H.out.drew) ?_
 iterate 8 (refine yl (v := ?_) ?_ ?_; rotate_left; (intro w0 hS0; obtain ⟨⟨q0, q1, q2⟩, hH⟩ := hS0; go_simp; try with_reducible rfl); simp only [pt, sb, s0, s1])
 refine cl (.bool (lookM mf x.on).isSome) 178 #[.agg #[.int .i64 5, .map (some q.bf)], .int .i64 x.on] ?_ ?_ ?_
 ·intro w0 hS0
  obtain ⟨⟨q0, q1, q2⟩, hH⟩ := hS0
  go_simp
  try with_reducible rfl
 ·intro w0 hS0
  refine (hasBuffer_any 5 q.bf mf x.on w0 hS0.2.out.mf HW.out).mono ?_
  rintro e w2 ⟨rfl, hb2⟩
  exact ⟨rfl, hasS6_of (hS0.2.out.below hb2)⟩
 simp only [pt, sb, s0, s1]
 (refine yl (v := ?_) ?_ ?_; rotate_left; (intro w0 hS0; obtain ⟨⟨q0, q1, q2⟩, hH⟩ := hS0; go_simp; try with_reducible rfl); simp only [pt, sb, s0, s1])
 refine tame_done (by kernel_rfl) ?_ _
 intro w1 hS1
 go_wp2
 go_ret
 exact ⟨ret_bool HV.out.symm, hS1.2.out.bel⟩
theorem hasS7_of {w w' : World} {o X : Nat} {q : Opn} {x : ProcD} {ms me mb mf : MapL} (h : HasIn w w' o X q x ms me mb mf) : (w'.cell? ⟨o, 8, none⟩ = some (.int .i64 5) ∧ w'.cell? ⟨o, 9, none⟩ = some (.map (some q.bb)) ∧ w'.cell? ⟨X, 7, none⟩ = some (.int .i64 x.on)) ∧ Hid (HasIn w w' o X q x ms me mb mf) :=
 ⟨⟨h.opn.cell 8, h.opn.cell 9, (proc_cells h.box).2.2.2.2.2.2.2.1⟩, h⟩
set_option maxRecDepth 100000 in
set_option maxHeartbeats 2000000 in
theorem hasWait_7 (o X : Nat) (q : Opn) (x : ProcD) (ms me mb mf : MapL) (w : World) (h : HasIn w w o X q x ms me mb mf) (hw : (Lit.int .i64 x.on).wf = true) (hs : x.state = 7) :
  Calls Tryz.prog 203 #[.pointer (some ⟨o, 0, none⟩), .pointer (some ⟨X, 0, none⟩)] w fun e w' => e = .returned (.bool (waitK ms me mb mf x)) ∧ Below w.heap.size w w' := by
 have H : Hid (HasIn w w o X q x ms me mb mf) := h
 have HW : Hid ((Lit.int .i64 x.on).wf = true) := hw
 have HV : Hid (waitK ms me mb mf x = (lookM mb x.on).isSome) := by show waitK ms me mb mf x = _; simp [waitK, hs]
 have k3 : w.cell? ⟨X, 3, none⟩ = some (.int .i64 7) := by rw [(proc_cells h.box).2.2.2.1, hs]
 clear h hw hs
 go_enter Tryz.func203, Tryz.ntmps203
 go_wp2_with fail
 clear k3
 refine tame_region (fun w' => (w'.cell? ⟨o, 8, none⟩ = some (.int .i64 5) ∧ w'.cell? ⟨o, 9, none⟩ = some (.map (some q.bb)) ∧ w'.cell? ⟨X, 7, none⟩ = some (.int .i64 x.on)) ∧ Hid (HasIn w w' o X q x ms me mb mf)) (by kernel_rfl) (hasS7_of H.out.drew) ?_
 iterate 8 (refine yl (v := ?_) ?_ ?_; rotate_left; (intro w0 hS0; obtain ⟨⟨q0, q1, q2⟩, hH⟩ := hS0; go_simp; try with_reducible rfl); simp only [pt, sb, s0, s1])
 refine cl (.bool (lookM mb x.on).isSome) 177 #[.agg #[.int .i64 5, .map (some q.bb)], .int .i64 x.on] ?_ ?_ ?_
 ·intro w0 hS0
  obtain ⟨⟨q0, q1, q2⟩, hH⟩ := hS0
  go_simp
  try with_reducible rfl
 ·intro w0 hS0
  refine (hasBoard_any 5 q.bb mb x.on w0 hS0.2.out.mb HW.out).mono ?_
  rintro e w2 ⟨rfl, hb2⟩
  exact ⟨rfl, hasS7_of (hS0.2.out.below hb2)⟩
 simp only [pt, sb, s0, s1]
 (refine yl (v := ?_) ?_ ?_; rotate_left; (intro w0 hS0; obtain ⟨⟨q0, q1, q2⟩, hH⟩ := hS0; go_simp; try with_reducible rfl); simp only [pt, sb, s0, s1])
 refine tame_done (by kernel_rfl) ?_ _
 intro w1 hS1
 go_wp2
 go_ret
 exact ⟨ret_bool HV.out.symm, hS1.2.out.bel⟩
set_option maxHeartbeats 2000000 in
theorem hasWait_none (o X : Nat) (q : Opn) (x : ProcD) (ms me mb mf : MapL) (w : World) (h : HasIn w w o X q x ms me mb mf) (h3 : ¬ x.state = 3) (h4 : ¬ x.state = 4) (h5 : ¬ x.state = 5) (h6 : ¬ x.state = 6) (h7 : ¬ x.state = 7) :
  Calls Tryz.prog 203 #[.pointer (some ⟨o, 0, none⟩), .pointer (some ⟨X, 0, none⟩)] w fun e w' => e = .returned (.bool (waitK ms me mb mf x)) ∧ Below w.heap.size w w' := by
 have HV : Hid (waitK ms me mb mf x = true) := by show waitK ms me mb mf x = true; simp [waitK, h3, h4, h5, h6, h7]
 have k3 := (proc_cells h.box).2.2.2.1
 have s3 : (x.state == 3) = false := by simp [h3]
 have s4 : (x.state == 4) = false := by simp [h4]
 have s5 : (x.state == 5) = false := by simp [h5]
 have s6 : (x.state == 6) = false := by simp [h6]
 have s7 : (x.state == 7) = false := by simp [h7]
 clear h h3 h4 h5 h6 h7
 go_enter Tryz.func203, Tryz.ntmps203
 go_wp2
 go_ret
 exact ⟨ret_bool HV.out.symm, Below.refl _ _⟩
theorem hasWait_any (o X : Nat) (q : Opn) (x : ProcD) (ms me mb mf : MapL) (w : World) (h : HasIn w w o X q x ms me mb mf) (hw : (Lit.int .i64 x.on).wf = true) :
  Calls Tryz.prog 203 #[.pointer (some ⟨o, 0, none⟩), .pointer (some ⟨X, 0, none⟩)] w fun e w' => e = .returned (.bool (waitK ms me mb mf x)) ∧ Below w.heap.size w w' := by
 by_cases h3 : x.state = 3
 ·exact hasWait_3 o X q x ms me mb mf w h hw h3
 by_cases h4 : x.state = 4
 ·exact hasWait_4 o X q x ms me mb mf w h hw h4
 by_cases h5 : x.state = 5
 ·exact hasWait_5 o X q x ms me mb mf w h hw h5
 by_cases h6 : x.state = 6
 ·exact hasWait_6 o X q x ms me mb mf w h hw h6
 by_cases h7 : x.state = 7
 ·exact hasWait_7 o X q x ms me mb mf w h hw h7
 exact hasWait_none o X q x ms me mb mf w h h3 h4 h5 h6 h7
end Go.Proofs.YtkbcplnlehdjfaaGreat
