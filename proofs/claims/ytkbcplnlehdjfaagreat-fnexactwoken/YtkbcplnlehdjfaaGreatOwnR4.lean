/- What the proof leans on, part 4: PD, ProgSpec, Place, SrcCells, PPure. -/
import Derived.Test.YtkbcplnlehdjfaaGreatOwnR2
import Derived.Test.YtkbcplnlehdjfaaGreatOwnR3

namespace Go.Proofs.YtkbcplnlehdjfaaGreat
open Go.RowKit
structure SemD where
 id : Int
 n : Int
 max : Int
def semVals (x : SemD) : List Value := [.int .i64 x.id, .int .i64 x.n, .int .i64 x.max]
def semK : Kind SemD := ⟨3, semVals, fun _ => [], by decide, fun _ => rfl⟩
/-- It lies at the i-th place of block g. -/
def SemD.At (w : World) (g i : Nat) (x : SemD) : Prop := w.cell? ⟨g, i * 3, none⟩ = some (.int .i64 x.id) ∧ w.cell? ⟨g, i * 3 + 1, none⟩ = some (.int .i64 x.n) ∧ w.cell? ⟨g, i * 3 + 2, none⟩ = some (.int .i64 x.max)
theorem sem_at {w : World} {a : Option Addr} {l : List SemD} (h : semK.Lies w a l) {i : Nat} {x : SemD} (hx : l[i]? = some x) : ∃ g, a = some ⟨g, 0, none⟩ ∧ SemD.At w g i x := by
 obtain ⟨g, e, hc⟩ := h.at hx
 exact ⟨g, e, hc 0 _ rfl, hc 1 _ rfl, hc 2 _ rfl⟩
structure EventD where
 id : Int
 up : Bool
def eventVals (x : EventD) : List Value := [.int .i64 x.id, .bool x.up]
def eventK : Kind EventD := ⟨2, eventVals, fun _ => [], by decide, fun _ => rfl⟩
/-- It lies at the i-th place of block g. -/
def EventD.At (w : World) (g i : Nat) (x : EventD) : Prop := w.cell? ⟨g, i * 2, none⟩ = some (.int .i64 x.id) ∧ w.cell? ⟨g, i * 2 + 1, none⟩ = some (.bool x.up)
theorem event_at {w : World} {a : Option Addr} {l : List EventD} (h : eventK.Lies w a l) {i : Nat} {x : EventD} (hx : l[i]? = some x) : ∃ g, a = some ⟨g, 0, none⟩ ∧ EventD.At w g i x := by
 obtain ⟨g, e, hc⟩ := h.at hx
 exact ⟨g, e, hc 0 _ rfl, hc 1 _ rfl⟩
structure BoardD where
 id : Int
 shown : Bool
 text : ByteArray
def boardVals (x : BoardD) : List Value := [.int .i64 x.id, .bool x.shown, .string x.text]
def boardK : Kind BoardD := ⟨3, boardVals, fun _ => [], by decide, fun _ => rfl⟩
/-- It lies at the i-th place of block g. -/
def BoardD.At (w : World) (g i : Nat) (x : BoardD) : Prop := w.cell? ⟨g, i * 3, none⟩ = some (.int .i64 x.id) ∧ w.cell? ⟨g, i * 3 + 1, none⟩ = some (.bool x.shown) ∧ w.cell? ⟨g, i * 3 + 2, none⟩ = some (.string x.text)
theorem board_at {w : World} {a : Option Addr} {l : List BoardD} (h : boardK.Lies w a l) {i : Nat} {x : BoardD} (hx : l[i]? = some x) : ∃ g, a = some ⟨g, 0, none⟩ ∧ BoardD.At w g i x := by
 obtain ⟨g, e, hc⟩ := h.at hx
 exact ⟨g, e, hc 0 _ rfl, hc 1 _ rfl, hc 2 _ rfl⟩
structure BufferP where
 id : Int
 max : Int
 items : List ByteArray
structure BufferD extends BufferP where
 itemsA : Option Addr
 itemsC : Nat
def bufferVals (x : BufferD) : List Value := [.int .i64 x.id, .int .i64 x.max, .slice x.itemsA x.items.length x.itemsC]
def bufferK : Kind BufferD := ⟨3, bufferVals, fun x => [(x.itemsA, strK.flat x.items)], by decide, fun _ => rfl⟩
/-- It lies at the i-th place of block g. -/
def BufferD.At (w : World) (g i : Nat) (x : BufferD) : Prop := w.cell? ⟨g, i * 3, none⟩ = some (.int .i64 x.id) ∧ w.cell? ⟨g, i * 3 + 1, none⟩ = some (.int .i64 x.max) ∧ w.cell? ⟨g, i * 3 + 2, none⟩ = some (.slice x.itemsA x.items.length x.itemsC)
theorem buffer_at {w : World} {a : Option Addr} {l : List BufferD} (h : bufferK.Lies w a l) {i : Nat} {x : BufferD} (hx : l[i]? = some x) : ∃ g, a = some ⟨g, 0, none⟩ ∧ BufferD.At w g i x := by
 obtain ⟨g, e, hc⟩ := h.at hx
 exact ⟨g, e, hc 0 _ rfl, hc 1 _ rfl, hc 2 _ rfl⟩
theorem buffer_items {w : World} {a : Option Addr} {l : List BufferD} (h : bufferK.Lies w a l) {i : Nat} {x : BufferD} (hx : l[i]? = some x) : Row w x.itemsA (strK.flat x.items) := h.kid hx (r := (x.itemsA, strK.flat x.items)) (by simp [bufferK])
structure PortP where
 id : Int
 out : Bool
 queue : Bool
 max : Int
 items : List ByteArray
structure PortD extends PortP where
 itemsA : Option Addr
 itemsC : Nat
def portVals (x : PortD) : List Value := [.int .i64 x.id, .bool x.out, .bool x.queue, .int .i64 x.max, .slice x.itemsA x.items.length x.itemsC]
def portK : Kind PortD := ⟨5, portVals, fun x => [(x.itemsA, strK.flat x.items)], by decide, fun _ => rfl⟩
/-- It lies at the i-th place of block g. -/
def PortD.At (w : World) (g i : Nat) (x : PortD) : Prop := w.cell? ⟨g, i * 5, none⟩ = some (.int .i64 x.id) ∧ w.cell? ⟨g, i * 5 + 1, none⟩ = some (.bool x.out) ∧ w.cell? ⟨g, i * 5 + 2, none⟩ = some (.bool x.queue) ∧ w.cell? ⟨g, i * 5 + 3, none⟩ = some (.int .i64 x.max) ∧ w.cell? ⟨g, i * 5 + 4, none⟩ = some (.slice x.itemsA x.items.length x.itemsC)
theorem port_at {w : World} {a : Option Addr} {l : List PortD} (h : portK.Lies w a l) {i : Nat} {x : PortD} (hx : l[i]? = some x) : ∃ g, a = some ⟨g, 0, none⟩ ∧ PortD.At w g i x := by
 obtain ⟨g, e, hc⟩ := h.at hx
 exact ⟨g, e, hc 0 _ rfl, hc 1 _ rfl, hc 2 _ rfl, hc 3 _ rfl, hc 4 _ rfl⟩
theorem port_items {w : World} {a : Option Addr} {l : List PortD} (h : portK.Lies w a l) {i : Nat} {x : PortD} (hx : l[i]? = some x) : Row w x.itemsA (strK.flat x.items) := h.kid hx (r := (x.itemsA, strK.flat x.items)) (by simp [portK])
structure ProcP where
 id : Int
 prio : Int
 prog : List OpD
 state : Int
 pc : Int
 left : Int
 wake : Int
 on : Int
 held : ByteArray
 got : ByteArray
 code : Int
 since : Int
structure ProcD extends ProcP where
 progA : Option Addr
 progC : Nat
def procVals (x : ProcD) : List Value := [.int .i64 x.id, .int .i64 x.prio, .slice x.progA x.prog.length x.progC, .int .i64 x.state, .int .i64 x.pc, .int .i64 x.left, .int .i64 x.wake, .int .i64 x.on, .string x.held, .string x.got, .int .i64 x.code, .int .i64 x.since]
def procK : Kind ProcD := ⟨12, procVals, fun x => [(x.progA, opK.flat x.prog)], by decide, fun _ => rfl⟩
/-- It lies at the i-th place of block g. -/
def ProcD.At (w : World) (g i : Nat) (x : ProcD) : Prop := w.cell? ⟨g, i * 12, none⟩ = some (.int .i64 x.id) ∧ w.cell? ⟨g, i * 12 + 1, none⟩ = some (.int .i64 x.prio) ∧ w.cell? ⟨g, i * 12 + 2, none⟩ = some (.slice x.progA x.prog.length x.progC) ∧ w.cell? ⟨g, i * 12 + 3, none⟩ = some (.int .i64 x.state) ∧ w.cell? ⟨g, i * 12 + 4, none⟩ = some (.int .i64 x.pc) ∧ w.cell? ⟨g, i * 12 + 5, none⟩ = some (.int .i64 x.left) ∧ w.cell? ⟨g, i * 12 + 6, none⟩ = some (.int .i64 x.wake) ∧ w.cell? ⟨g, i * 12 + 7, none⟩ = some (.int .i64 x.on) ∧ w.cell? ⟨g, i * 12 + 8, none⟩ = some (.string x.held) ∧ w.cell? ⟨g, i * 12 + 9, none⟩ = some (.string x.got) ∧ w.cell? ⟨g, i * 12 + 10, none⟩ = some (.int .i64 x.code) ∧ w.cell? ⟨g, i * 12 + 11, none⟩ = some (.int .i64 x.since)
theorem proc_at {w : World} {a : Option Addr} {l : List ProcD} (h : procK.Lies w a l) {i : Nat} {x : ProcD} (hx : l[i]? = some x) : ∃ g, a = some ⟨g, 0, none⟩ ∧ ProcD.At w g i x := by
 obtain ⟨g, e, hc⟩ := h.at hx
 exact ⟨g, e, hc 0 _ rfl, hc 1 _ rfl, hc 2 _ rfl, hc 3 _ rfl, hc 4 _ rfl, hc 5 _ rfl, hc 6 _ rfl, hc 7 _ rfl, hc 8 _ rfl, hc 9 _ rfl, hc 10 _ rfl, hc 11 _ rfl⟩
theorem proc_prog {w : World} {a : Option Addr} {l : List ProcD} (h : procK.Lies w a l) {i : Nat} {x : ProcD} (hx : l[i]? = some x) : Row w x.progA (opK.flat x.prog) := h.kid hx (r := (x.progA, opK.flat x.prog)) (by simp [procK])
/-- A partition: its numbers, its lists, and where each lies. -/
structure PartD where
 id : Int
 next : Int
 procs : List ProcD
 procA : Option Addr
 procC : Nat
 sems : List SemD
 semA : Option Addr
 semC : Nat
 events : List EventD
 eventA : Option Addr
 eventC : Nat
 boards : List BoardD
 boardA : Option Addr
 boardC : Nat
 buffers : List BufferD
 bufferA : Option Addr
 bufferC : Nat
 ports : List PortD
 portA : Option Addr
 portC : Nat
def PartD.cells (p : PartD) : Array Value := #[.int .i64 p.id, .int .i64 p.next, .slice p.procA p.procs.length p.procC, .slice p.semA p.sems.length p.semC, .slice p.eventA p.events.length p.eventC, .slice p.boardA p.boards.length p.boardC, .slice p.bufferA p.buffers.length p.bufferC, .slice p.portA p.ports.length p.portC]
def PartD.At (w : World) (p : PartD) : Prop := procK.Lies w p.procA p.procs ∧ semK.Lies w p.semA p.sems ∧ eventK.Lies w p.eventA p.events ∧ boardK.Lies w p.boardA p.boards ∧ bufferK.Lies w p.bufferA p.buffers ∧ portK.Lies w p.portA p.ports
theorem PartD.At.below {w w' : World} {p : PartD} (h : PartD.At w p) (hb : Below w.heap.size w w') : PartD.At w' p := ⟨h.1.below hb, h.2.1.below hb, h.2.2.1.below hb, h.2.2.2.1.below hb, h.2.2.2.2.1.below hb, h.2.2.2.2.2.below hb⟩
/-- A partition, wherever it lies. -/
structure PartP where
 id : Int
 next : Int
 procs : List ProcP
 sems : List SemD
 events : List EventD
 boards : List BoardD
 buffers : List BufferP
 ports : List PortP
def PartD.pure (p : PartD) : PartP := ⟨p.id, p.next, p.procs.map (·.toProcP), p.sems, p.events, p.boards, p.buffers.map (·.toBufferP), p.ports.map (·.toPortP)⟩
/-- The place of the first that has that number; -1: there is none. -/
def place (l : List Int) (id : Int) (i : Nat) : Int := match l with
 | [] => -1
 | x :: r => if x = id then i else place r id (i + 1)
theorem place_ge : ∀ (l : List Int) (id : Int) (i : Nat), place l id i = -1 ∨ (i : Int) ≤ place l id i
 | [], _, _ => .inl rfl
 | y :: r, id, i => by
  simp only [place]
  split
  ·exact .inr (by omega)
  ·rcases place_ge r id (i + 1) with h | h
   ·exact .inl h
   ·exact .inr (by omega)
/-- Whether there is one with that number. -/
theorem place_none : ∀ {l : List Int} {id : Int} {i : Nat}, place l id i = -1 ↔ id ∉ l
 | [], id, i => by simp [place]
 | y :: r, id, i => by
  simp only [place, List.mem_cons, not_or]
  split
  ·rename_i h
   constructor
   ·intro h2; omega
   ·intro h2; exact absurd h.symm h2.1
  ·rename_i h
   rw [place_none (l := r)]
   exact ⟨fun h2 => ⟨fun e => h e.symm, h2⟩, fun h2 => h2.2⟩
theorem place_take {l : List Int} {id : Int} {k : Nat} (h : id ∉ l.take k) {x : Int} (hx : l[k]? = some x) (e : x = id) : place l id 0 = k := by
 have hk : k < l.length := (List.getElem?_eq_some_iff.1 hx).1
 have e1 : l = l.take k ++ x :: l.drop (k + 1) := by
  have := List.take_append_drop k l
  rw [List.drop_eq_getElem_cons hk] at this
  rw [← this]
  rw [List.getElem?_eq_getElem hk] at hx
  cases hx
  simp
 have key : ∀ (t : List Int) (i : Nat), id ∉ t → place (t ++ x :: l.drop (k + 1)) id i = ((i + t.length : Nat) : Int) := by
  intro t
  induction t with
  | nil => intro i _; simp [place, e]
  | cons y r ih =>
   intro i hn
   simp only [List.mem_cons, not_or] at hn
   simp only [List.cons_append, place]
   rw [if_neg (fun h => hn.1 h.symm), ih (i + 1) hn.2]
   simp only [List.length_cons]
   rw [show i + 1 + r.length = i + (r.length + 1) by omega]
 have := key (l.take k) 0 h
 rw [← e1] at this
 rw [this, List.length_take]
 congr 1
 omega
end Go.Proofs.YtkbcplnlehdjfaaGreat

/- What ProgOk answers, the specification's and the program's. -/
namespace Go.Proofs.YtkbcplnlehdjfaaGreat
open Go.RowKit
set_option maxHeartbeats 1000000 in
theorem specProgOk_any (g len cap : Nat) (K N M : Nat → Int) (S : Nat → ByteArray) (w : World) (hl : len ≤ 1048576) (hs : ∀ i, i < len → (S i).size ≤ 1048576) (hr : OpsAt w g len K N M S) :
  Calls Tryz.prog 183 #[.slice (some ⟨g, 0, none⟩) len cap] w fun e w' => e = .returned (.bool (progB len K N M S)) ∧ Below w.heap.size w w' := by
 have HR : Hid (OpsAt w g len K N M S) := hr
 have HS : Hid (∀ i, i < len → (S i).size ≤ 1048576) := hs
 clear hr hs
 go_enter Tryz.func183, Tryz.ntmps183
 go_wp2
 go_loopw [3] (fun i wr => ∃ k : Nat, k ≤ len ∧ i = .int .i64 k ∧ (∀ j, j < k → opAtB K N M S j = true) ∧ Below w.heap.size w wr) (fun i _ => len - (intOf i).toNat)
 case atStart => exact ⟨0, Nat.zero_le _, rfl, fun j hj => absurd hj (by omega), Below.refl _ _⟩
 case round =>
  obtain ⟨k, hk, rfl, hall, hbel⟩ := hrel
  have HA : Hid (∀ j, j < k → opAtB K N M S j = true) := hall
  have HB : Hid (Below w.heap.size w wr) := hbel
  have HW : Hid (OpsAt wr g len K N M S) := HR.out.below hbel
  clear hall hbel
  by_cases hlt : k < len
  ·have c0 := HW.out.c0 hlt
   have c1 := HW.out.c1 hlt
   have c2 := HW.out.c2 hlt
   have c3 := HW.out.c3 hlt
   have i0 : (0 : Int) ≤ (k : Int) := by omega
   have i1 : (k : Int) < (len : Int) := by omega
   go_wp2_with fail
   refine (specOpOk_any (K k) (N k) (M k) (S k) wr (HS.out k hlt)).mono ?_
   rintro e w1 ⟨rfl, hb1⟩
   have HB1 : Hid (Below w.heap.size w w1) := HB.out.trans (hb1.mono HB.out.size)
   have HO : Hid (opB (K k) (N k) (M k) (S k) = opAtB K N M S k) := rfl
   rw [HO.out]
   clear hb1 c0 c1 c2 c3
   cases hop : opAtB K N M S k with
   | true =>
    have HP : Hid (opAtB K N M S k = true) := hop
    clear hop
    go_wp2
    go_roundw
    case rel => exact ⟨k + 1, by omega, by go_num, fun j hj => by
     by_cases e : j = k
     ·subst e; exact HP.out
     ·exact HA.out j (by omega), HB1.out⟩
    case measure => simp [intOf]; omega
   | false =>
    have HP : Hid (opAtB K N M S k = false) := hop
    clear hop
    go_wp2
    go_ret
    exact ⟨ret_bool (progB_false (fun h => by have := h.2.2 k hlt; rw [HP.out] at this; cases this)).symm, HB1.out⟩
  ·have e : k = len := by omega
   subst e
   by_cases h1 : 1 ≤ k
   ·have h1' : (1 : Int) ≤ (k : Int) := by omega
    by_cases h2 : k ≤ 20
    ·have h2' : (k : Int) ≤ 20 := by omega
     go_wp2
     go_ret
     exact ⟨ret_bool (by rw [progB_true ⟨h1, h2, HA.out⟩]), HB.out⟩
    ·have h2' : ¬ (k : Int) ≤ 20 := by omega
     go_wp2
     go_ret
     exact ⟨ret_bool (by rw [progB_false (fun h => h2 h.2.1)]), HB.out⟩
   ·have h1' : ¬ (1 : Int) ≤ (k : Int) := by omega
    go_wp2
    go_ret
    exact ⟨ret_bool (by rw [progB_false (fun h => h1 h.1)]), HB.out⟩
set_option maxHeartbeats 1000000 in
theorem implProgOk_any (g len cap : Nat) (K N M : Nat → Int) (S : Nat → ByteArray) (w : World) (hl : len ≤ 1048576) (hs : ∀ i, i < len → (S i).size ≤ 1048576) (hr : OpsAt w g len K N M S) :
  Calls Tryz.prog 284 #[.slice (some ⟨g, 0, none⟩) len cap] w fun e w' => e = .returned (.bool (progB len K N M S)) ∧ Below w.heap.size w w' := by
 have HR : Hid (OpsAt w g len K N M S) := hr
 have HS : Hid (∀ i, i < len → (S i).size ≤ 1048576) := hs
 clear hr hs
 by_cases h1 : ¬ 1 ≤ len
 ·have h1' : (len : Int) < 1 := by omega
  go_enter Tryz.func284, Tryz.ntmps284
  go_wp2
  go_ret
  exact ⟨ret_bool (progB_false (fun h => h1 h.1)).symm, Below.refl _ _⟩
 have h1' : ¬ (len : Int) < 1 := by omega
 by_cases h2 : 20 < len
 ·have h2' : (20 : Int) < (len : Int) := by omega
  go_enter Tryz.func284, Tryz.ntmps284
  go_wp2
  go_ret
  exact ⟨ret_bool (progB_false (fun h => by omega)).symm, Below.refl _ _⟩
 have h2' : ¬ (20 : Int) < (len : Int) := by omega
 go_enter Tryz.func284, Tryz.ntmps284
 go_wp2_with fail
 go_loopw [15] (fun i wr => ∃ k : Nat, k ≤ len ∧ i = .int .i64 k ∧ (∀ j, j < k → opAtB K N M S j = true) ∧ Below w.heap.size w wr) (fun i _ => len - (intOf i).toNat)
 case atStart => exact ⟨0, Nat.zero_le _, rfl, fun j hj => absurd hj (by omega), Below.refl _ _⟩
 case round =>
  obtain ⟨k, hk, rfl, hall, hbel⟩ := hrel
  have HA : Hid (∀ j, j < k → opAtB K N M S j = true) := hall
  have HB : Hid (Below w.heap.size w wr) := hbel
  have HW : Hid (OpsAt wr g len K N M S) := HR.out.below hbel
  clear hall hbel
  by_cases hlt : k < len
  ·have c0 := HW.out.c0 hlt
   have c1 := HW.out.c1 hlt
   have c2 := HW.out.c2 hlt
   have c3 := HW.out.c3 hlt
   have i0 : (0 : Int) ≤ (k : Int) := by omega
   have i1 : (k : Int) < (len : Int) := by omega
   have hgl := HW.out.1
   go_wp2_with fail
   refine (implOpOk_any (K k) (N k) (M k) (S k) _ (HS.out k hlt)).mono ?_
   rintro e w1 ⟨rfl, hb1⟩
   have HB1 : Hid (Below w.heap.size w w1) := (HB.out.alloc HB.out.size _).trans (hb1.mono (by have := HB.out.size; simp; omega))
   have HO : Hid (opB (K k) (N k) (M k) (S k) = opAtB K N M S k) := rfl
   rw [HO.out]
   clear hb1 c0 c1 c2 c3
   cases hop : opAtB K N M S k with
   | true =>
    have HP : Hid (opAtB K N M S k = true) := hop
    clear hop
    go_wp2
    go_roundw
    case rel => exact ⟨k + 1, by omega, by go_num, fun j hj => by
     by_cases e : j = k
     ·subst e; exact HP.out
     ·exact HA.out j (by omega), HB1.out⟩
    case measure => simp [intOf]; omega
   | false =>
    have HP : Hid (opAtB K N M S k = false) := hop
    clear hop
    go_wp2
    go_ret
    exact ⟨ret_bool (progB_false (fun h => by have := h.2.2 k hlt; rw [HP.out] at this; cases this)).symm, HB1.out⟩
  ·have e : k = len := by omega
   subst e
   go_wp2
   go_ret
   exact ⟨ret_bool (progB_true ⟨by omega, by omega, HA.out⟩).symm, HB.out⟩
end Go.Proofs.YtkbcplnlehdjfaaGreat

/- The specification's searches through a partition's lists, and what a process waits for. (Made by mkplace.py.) -/
namespace Go.Proofs.YtkbcplnlehdjfaaGreat
open Go.RowKit
theorem not_take {l : List Int} {k : Nat} {id x : Int} (h : id ∉ l.take k) (hx : l[k]? = some x) (hne : ¬ x = id) : id ∉ l.take (k + 1) := by
 have hk : k < l.length := (List.getElem?_eq_some_iff.1 hx).1
 rw [List.take_succ_eq_append_getElem hk, List.mem_append, List.mem_singleton]
 rw [List.getElem?_eq_getElem hk] at hx
 cases hx
 rintro (h1 | h1)
 ·exact h h1
 ·exact hne h1.symm
theorem not_all_take {l : List Int} {k : Nat} {id : Int} (h : id ∉ l.take k) (hk : l.length ≤ k) : place l id 0 = -1 := by
 rw [List.take_of_length_le hk] at h
 exact place_none.2 h
set_option maxHeartbeats 1000000 in
theorem l3Proc_any (p : PartD) (id : Int) (w : World) (hl : p.procs.length ≤ 1048576) (h : PartD.At w p) :
  Calls Tryz.prog 97 #[.agg p.cells, .int .i64 id] w fun e w' => e = .returned (.int .i64 (place (p.procs.map (·.id)) id 0)) ∧ Below w.heap.size w w' := by
 have H : Hid (procK.Lies (w.alloc (.cells p.cells 32)) p.procA p.procs ∧ Below w.heap.size w (w.alloc (.cells p.cells 32))) := ⟨h.1.below ((Below.refl _ _).alloc (Nat.le_refl _) _), (Below.refl _ _).alloc (Nat.le_refl _) _⟩
 have q : (w.alloc (.cells p.cells 32)).cell? ⟨w.heap.size, 2, none⟩ = some (.slice p.procA p.procs.length p.procC) := by rw [cell_of_row _ _ _ _ _ _ (heap_alloc_new _ _)]; rfl
 clear h
 unfold PartD.cells at *
 go_enter Tryz.func97, Tryz.ntmps97
 go_wp2_with fail
 generalize w.alloc (.cells #[.int .i64 p.id, .int .i64 p.next, .slice p.procA p.procs.length p.procC, .slice p.semA p.sems.length p.semC, .slice p.eventA p.events.length p.eventC, .slice p.boardA p.boards.length p.boardC, .slice p.bufferA p.buffers.length p.bufferC, .slice p.portA p.ports.length p.portC] 32) = W at *
 go_loop [5] (fun i => ∃ k : Nat, k ≤ p.procs.length ∧ i = .int .i64 k ∧ Hid (id ∉ (p.procs.map (·.id)).take k)) (fun i => p.procs.length - (intOf i).toNat)
 case atStart => exact ⟨0, Nat.zero_le _, rfl, (by simp : id ∉ (p.procs.map (·.id)).take 0)⟩
 case round =>
  obtain ⟨k, hk, rfl, HA⟩ := hrel
  by_cases hlt : k < p.procs.length
  ·have i0 : (0 : Int) ≤ (k : Int) := by omega
   have i1 : (k : Int) < (p.procs.length : Int) := by omega
   obtain ⟨x, hx⟩ : ∃ x, p.procs[k]? = some x := ⟨_, List.getElem?_eq_getElem hlt⟩
   have HX : Hid ((p.procs.map (·.id))[k]? = some x.id) := by show _ = _; rw [List.getElem?_map, hx]; rfl
   obtain ⟨g, ha, hat⟩ := proc_at H.out.1 hx
   have c0 := hat.1
   rw [ha] at q
   clear hat hx
   by_cases hc : x.id = id
   ·have HC : Hid (x.id = id) := hc
    have h1 : (x.id == id) = true := by simp [hc]
    clear hc
    go_wp2
    go_ret
    exact ⟨ret_int (place_take HA.out HX.out HC.out).symm, H.out.2⟩
   ·have HC : Hid (¬ x.id = id) := hc
    have h1 : (x.id == id) = false := by simp [hc]
    clear hc
    go_wp2
    go_round
    case rel => exact ⟨k + 1, by omega, by go_num, not_take HA.out HX.out HC.out⟩
    case measure => simp [intOf]; omega
  ·have i1 : ¬ (k : Int) < (p.procs.length : Int) := by omega
   go_wp2
   go_ret
   exact ⟨ret_int (not_all_take HA.out (by rw [List.length_map]; omega)).symm, H.out.2⟩
set_option maxHeartbeats 1000000 in
theorem l3Sem_any (p : PartD) (id : Int) (w : World) (hl : p.sems.length ≤ 1048576) (h : PartD.At w p) :
  Calls Tryz.prog 214 #[.agg p.cells, .int .i64 id] w fun e w' => e = .returned (.int .i64 (place (p.sems.map (·.id)) id 0)) ∧ Below w.heap.size w w' := by
 have H : Hid (semK.Lies (w.alloc (.cells p.cells 32)) p.semA p.sems ∧ Below w.heap.size w (w.alloc (.cells p.cells 32))) := ⟨h.2.1.below ((Below.refl _ _).alloc (Nat.le_refl _) _), (Below.refl _ _).alloc (Nat.le_refl _) _⟩
 have q : (w.alloc (.cells p.cells 32)).cell? ⟨w.heap.size, 3, none⟩ = some (.slice p.semA p.sems.length p.semC) := by rw [cell_of_row _ _ _ _ _ _ (heap_alloc_new _ _)]; rfl
 clear h
 unfold PartD.cells at *
 go_enter Tryz.func214, Tryz.ntmps214
 go_wp2_with fail
 generalize w.alloc (.cells #[.int .i64 p.id, .int .i64 p.next, .slice p.procA p.procs.length p.procC, .slice p.semA p.sems.length p.semC, .slice p.eventA p.events.length p.eventC, .slice p.boardA p.boards.length p.boardC, .slice p.bufferA p.buffers.length p.bufferC, .slice p.portA p.ports.length p.portC] 32) = W at *
 go_loop [5] (fun i => ∃ k : Nat, k ≤ p.sems.length ∧ i = .int .i64 k ∧ Hid (id ∉ (p.sems.map (·.id)).take k)) (fun i => p.sems.length - (intOf i).toNat)
 case atStart => exact ⟨0, Nat.zero_le _, rfl, (by simp : id ∉ (p.sems.map (·.id)).take 0)⟩
 case round =>
  obtain ⟨k, hk, rfl, HA⟩ := hrel
  by_cases hlt : k < p.sems.length
  ·have i0 : (0 : Int) ≤ (k : Int) := by omega
   have i1 : (k : Int) < (p.sems.length : Int) := by omega
   obtain ⟨x, hx⟩ : ∃ x, p.sems[k]? = some x := ⟨_, List.getElem?_eq_getElem hlt⟩
   have HX : Hid ((p.sems.map (·.id))[k]? = some x.id) := by show _ = _; rw [List.getElem?_map, hx]; rfl
   obtain ⟨g, ha, hat⟩ := sem_at H.out.1 hx
   have c0 := hat.1
   rw [ha] at q
   clear hat hx
   by_cases hc : x.id = id
   ·have HC : Hid (x.id = id) := hc
    have h1 : (x.id == id) = true := by simp [hc]
    clear hc
    go_wp2
    go_ret
    exact ⟨ret_int (place_take HA.out HX.out HC.out).symm, H.out.2⟩
   ·have HC : Hid (¬ x.id = id) := hc
    have h1 : (x.id == id) = false := by simp [hc]
    clear hc
    go_wp2
    go_round
    case rel => exact ⟨k + 1, by omega, by go_num, not_take HA.out HX.out HC.out⟩
    case measure => simp [intOf]; omega
  ·have i1 : ¬ (k : Int) < (p.sems.length : Int) := by omega
   go_wp2
   go_ret
   exact ⟨ret_int (not_all_take HA.out (by rw [List.length_map]; omega)).symm, H.out.2⟩
set_option maxHeartbeats 1000000 in
theorem l3Event_any (p : PartD) (id : Int) (w : World) (hl : p.events.length ≤ 1048576) (h : PartD.At w p) :
  Calls Tryz.prog 215 #[.agg p.cells, .int .i64 id] w fun e w' => e = .returned (.int .i64 (place (p.events.map (·.id)) id 0)) ∧ Below w.heap.size w w' := by
 have H : Hid (eventK.Lies (w.alloc (.cells p.cells 32)) p.eventA p.events ∧ Below w.heap.size w (w.alloc (.cells p.cells 32))) := ⟨h.2.2.1.below ((Below.refl _ _).alloc (Nat.le_refl _) _), (Below.refl _ _).alloc (Nat.le_refl _) _⟩
 have q : (w.alloc (.cells p.cells 32)).cell? ⟨w.heap.size, 4, none⟩ = some (.slice p.eventA p.events.length p.eventC) := by rw [cell_of_row _ _ _ _ _ _ (heap_alloc_new _ _)]; rfl
 clear h
 unfold PartD.cells at *
 go_enter Tryz.func215, Tryz.ntmps215
 go_wp2_with fail
 generalize w.alloc (.cells #[.int .i64 p.id, .int .i64 p.next, .slice p.procA p.procs.length p.procC, .slice p.semA p.sems.length p.semC, .slice p.eventA p.events.length p.eventC, .slice p.boardA p.boards.length p.boardC, .slice p.bufferA p.buffers.length p.bufferC, .slice p.portA p.ports.length p.portC] 32) = W at *
 go_loop [5] (fun i => ∃ k : Nat, k ≤ p.events.length ∧ i = .int .i64 k ∧ Hid (id ∉ (p.events.map (·.id)).take k)) (fun i => p.events.length - (intOf i).toNat)
 case atStart => exact ⟨0, Nat.zero_le _, rfl, (by simp : id ∉ (p.events.map (·.id)).take 0)⟩
 case round =>
  obtain ⟨k, hk, rfl, HA⟩ := hrel
  by_cases hlt : k < p.events.length
  ·have i0 : (0 : Int) ≤ (k : Int) := by omega
   have i1 : (k : Int) < (p.events.length : Int) := by omega
   obtain ⟨x, hx⟩ : ∃ x, p.events[k]? = some x := ⟨_, List.getElem?_eq_getElem hlt⟩
   have HX : Hid ((p.events.map (·.id))[k]? = some x.id) := by show _ = _; rw [List.getElem?_map, hx]; rfl
   obtain ⟨g, ha, hat⟩ := event_at H.out.1 hx
   have c0 := hat.1
   rw [ha] at q
   clear hat hx
   by_cases hc : x.id = id
   ·have HC : Hid (x.id = id) := hc
    have h1 : (x.id == id) = true := by simp [hc]
    clear hc
    go_wp2
    go_ret
    exact ⟨ret_int (place_take HA.out HX.out HC.out).symm, H.out.2⟩
   ·have HC : Hid (¬ x.id = id) := hc
    have h1 : (x.id == id) = false := by simp [hc]
    clear hc
    go_wp2
    go_round
    case rel => exact ⟨k + 1, by omega, by go_num, not_take HA.out HX.out HC.out⟩
    case measure => simp [intOf]; omega
  ·have i1 : ¬ (k : Int) < (p.events.length : Int) := by omega
   go_wp2
   go_ret
   exact ⟨ret_int (not_all_take HA.out (by rw [List.length_map]; omega)).symm, H.out.2⟩
set_option maxHeartbeats 1000000 in
theorem l3Board_any (p : PartD) (id : Int) (w : World) (hl : p.boards.length ≤ 1048576) (h : PartD.At w p) :
  Calls Tryz.prog 217 #[.agg p.cells, .int .i64 id] w fun e w' => e = .returned (.int .i64 (place (p.boards.map (·.id)) id 0)) ∧ Below w.heap.size w w' := by
 have H : Hid (boardK.Lies (w.alloc (.cells p.cells 32)) p.boardA p.boards ∧ Below w.heap.size w (w.alloc (.cells p.cells 32))) := ⟨h.2.2.2.1.below ((Below.refl _ _).alloc (Nat.le_refl _) _), (Below.refl _ _).alloc (Nat.le_refl _) _⟩
 have q : (w.alloc (.cells p.cells 32)).cell? ⟨w.heap.size, 5, none⟩ = some (.slice p.boardA p.boards.length p.boardC) := by rw [cell_of_row _ _ _ _ _ _ (heap_alloc_new _ _)]; rfl
 clear h
 unfold PartD.cells at *
 go_enter Tryz.func217, Tryz.ntmps217
 go_wp2_with fail
 generalize w.alloc (.cells #[.int .i64 p.id, .int .i64 p.next, .slice p.procA p.procs.length p.procC, .slice p.semA p.sems.length p.semC, .slice p.eventA p.events.length p.eventC, .slice p.boardA p.boards.length p.boardC, .slice p.bufferA p.buffers.length p.bufferC, .slice p.portA p.ports.length p.portC] 32) = W at *
 go_loop [5] (fun i => ∃ k : Nat, k ≤ p.boards.length ∧ i = .int .i64 k ∧ Hid (id ∉ (p.boards.map (·.id)).take k)) (fun i => p.boards.length - (intOf i).toNat)
 case atStart => exact ⟨0, Nat.zero_le _, rfl, (by simp : id ∉ (p.boards.map (·.id)).take 0)⟩
 case round =>
  obtain ⟨k, hk, rfl, HA⟩ := hrel
  by_cases hlt : k < p.boards.length
  ·have i0 : (0 : Int) ≤ (k : Int) := by omega
   have i1 : (k : Int) < (p.boards.length : Int) := by omega
   obtain ⟨x, hx⟩ : ∃ x, p.boards[k]? = some x := ⟨_, List.getElem?_eq_getElem hlt⟩
   have HX : Hid ((p.boards.map (·.id))[k]? = some x.id) := by show _ = _; rw [List.getElem?_map, hx]; rfl
   obtain ⟨g, ha, hat⟩ := board_at H.out.1 hx
   have c0 := hat.1
   rw [ha] at q
   clear hat hx
   by_cases hc : x.id = id
   ·have HC : Hid (x.id = id) := hc
    have h1 : (x.id == id) = true := by simp [hc]
    clear hc
    go_wp2
    go_ret
    exact ⟨ret_int (place_take HA.out HX.out HC.out).symm, H.out.2⟩
   ·have HC : Hid (¬ x.id = id) := hc
    have h1 : (x.id == id) = false := by simp [hc]
    clear hc
    go_wp2
    go_round
    case rel => exact ⟨k + 1, by omega, by go_num, not_take HA.out HX.out HC.out⟩
    case measure => simp [intOf]; omega
  ·have i1 : ¬ (k : Int) < (p.boards.length : Int) := by omega
   go_wp2
   go_ret
   exact ⟨ret_int (not_all_take HA.out (by rw [List.length_map]; omega)).symm, H.out.2⟩
set_option maxHeartbeats 1000000 in
theorem l3Buffer_any (p : PartD) (id : Int) (w : World) (hl : p.buffers.length ≤ 1048576) (h : PartD.At w p) :
  Calls Tryz.prog 216 #[.agg p.cells, .int .i64 id] w fun e w' => e = .returned (.int .i64 (place (p.buffers.map (·.id)) id 0)) ∧ Below w.heap.size w w' := by
 have H : Hid (bufferK.Lies (w.alloc (.cells p.cells 32)) p.bufferA p.buffers ∧ Below w.heap.size w (w.alloc (.cells p.cells 32))) := ⟨h.2.2.2.2.1.below ((Below.refl _ _).alloc (Nat.le_refl _) _), (Below.refl _ _).alloc (Nat.le_refl _) _⟩
 have q : (w.alloc (.cells p.cells 32)).cell? ⟨w.heap.size, 6, none⟩ = some (.slice p.bufferA p.buffers.length p.bufferC) := by rw [cell_of_row _ _ _ _ _ _ (heap_alloc_new _ _)]; rfl
 clear h
 unfold PartD.cells at *
 go_enter Tryz.func216, Tryz.ntmps216
 go_wp2_with fail
 generalize w.alloc (.cells #[.int .i64 p.id, .int .i64 p.next, .slice p.procA p.procs.length p.procC, .slice p.semA p.sems.length p.semC, .slice p.eventA p.events.length p.eventC, .slice p.boardA p.boards.length p.boardC, .slice p.bufferA p.buffers.length p.bufferC, .slice p.portA p.ports.length p.portC] 32) = W at *
 go_loop [5] (fun i => ∃ k : Nat, k ≤ p.buffers.length ∧ i = .int .i64 k ∧ Hid (id ∉ (p.buffers.map (·.id)).take k)) (fun i => p.buffers.length - (intOf i).toNat)
 case atStart => exact ⟨0, Nat.zero_le _, rfl, (by simp : id ∉ (p.buffers.map (·.id)).take 0)⟩
 case round =>
  obtain ⟨k, hk, rfl, HA⟩ := hrel
  by_cases hlt : k < p.buffers.length
  ·have i0 : (0 : Int) ≤ (k : Int) := by omega
   have i1 : (k : Int) < (p.buffers.length : Int) := by omega
   obtain ⟨x, hx⟩ : ∃ x, p.buffers[k]? = some x := ⟨_, List.getElem?_eq_getElem hlt⟩
   have HX : Hid ((p.buffers.map (·.id))[k]? = some x.id) := by show _ = _; rw [List.getElem?_map, hx]; rfl
   obtain ⟨g, ha, hat⟩ := buffer_at H.out.1 hx
   have c0 := hat.1
   rw [ha] at q
   clear hat hx
   by_cases hc : x.id = id
   ·have HC : Hid (x.id = id) := hc
    have h1 : (x.id == id) = true := by simp [hc]
    clear hc
    go_wp2
    go_ret
    exact ⟨ret_int (place_take HA.out HX.out HC.out).symm, H.out.2⟩
   ·have HC : Hid (¬ x.id = id) := hc
    have h1 : (x.id == id) = false := by simp [hc]
    clear hc
    go_wp2
    go_round
    case rel => exact ⟨k + 1, by omega, by go_num, not_take HA.out HX.out HC.out⟩
    case measure => simp [intOf]; omega
  ·have i1 : ¬ (k : Int) < (p.buffers.length : Int) := by omega
   go_wp2
   go_ret
   exact ⟨ret_int (not_all_take HA.out (by rw [List.length_map]; omega)).symm, H.out.2⟩
/-- Whether a list's texts are plain, and not too many. -/
def textsB (l : List ByteArray) (most : Int) : Bool := l.all plainB && decide ((l.length : Int) ≤ most)
theorem textsB_no {l : List ByteArray} {most : Int} {k : Nat} {x : ByteArray} (hx : l[k]? = some x) (h : plainB x = false) : textsB l most = false := by
 have : l.all plainB = false := by
  rw [List.all_eq_false]
  exact ⟨x, List.mem_of_getElem? hx, by simp [h]⟩
 simp [textsB, this]
theorem all_take_snoc {l : List ByteArray} {k : Nat} {x : ByteArray} (h : (l.take k).all plainB = true) (hx : l[k]? = some x) (hp : plainB x = true) : (l.take (k + 1)).all plainB = true := by
 have hk : k < l.length := (List.getElem?_eq_some_iff.1 hx).1
 rw [List.take_succ_eq_append_getElem hk, List.all_append, h]
 rw [List.getElem?_eq_getElem hk] at hx
 cases hx
 simp [hp]
theorem str_at {w : World} {a : Option Addr} {l : List ByteArray} (h : Row w a (strK.flat l)) {k : Nat} {x : ByteArray} (hx : l[k]? = some x) : ∃ g, a = some ⟨g, 0, none⟩ ∧ w.cell? ⟨g, k, none⟩ = some (.string x) := by
 have h1 : (strK.flat l)[k]? = some (.string x) := by
  have := strK.flat_get hx (j := 0) (by decide)
  simpa [strK] using this
 exact h k _ h1
set_option maxHeartbeats 1000000 in
theorem l3Texts_any (a : Option Addr) (l : List ByteArray) (cap : Nat) (most : Int) (w : World) (hl : l.length ≤ 1048576) (hs : ∀ x ∈ l, x.size ≤ 1048576) (h : Row w a (strK.flat l)) :
  Calls Tryz.prog 182 #[.slice a l.length cap, .int .i64 most] w fun e w' => e = .returned (.bool (textsB l most)) ∧ w' = w := by
 have H : Hid (Row w a (strK.flat l) ∧ ∀ x ∈ l, x.size ≤ 1048576) := ⟨h, hs⟩
 clear h hs
 go_enter Tryz.func182, Tryz.ntmps182
 go_wp2_with fail
 go_loop [5] (fun i => ∃ k : Nat, k ≤ l.length ∧ i = .int .i64 k ∧ Hid ((l.take k).all plainB = true)) (fun i => l.length - (intOf i).toNat)
 case atStart => exact ⟨0, Nat.zero_le _, rfl, (by simp : (l.take 0).all plainB = true)⟩
 case round =>
  obtain ⟨k, hk, rfl, HA⟩ := hrel
  by_cases hlt : k < l.length
  ·have i0 : (0 : Int) ≤ (k : Int) := by omega
   have i1 : (k : Int) < (l.length : Int) := by omega
   obtain ⟨x, hx⟩ : ∃ x, l[k]? = some x := ⟨_, List.getElem?_eq_getElem hlt⟩
   have HX : Hid (l[k]? = some x) := hx
   obtain ⟨g, rfl, c0⟩ := str_at H.out.1 hx
   have hxs := H.out.2 x (List.mem_of_getElem? hx)
   clear hx
   go_wp2_with fail
   refine (l2Plain_any x w hxs).mono ?_
   rintro e w' ⟨rfl, rfl⟩
   cases hp : plainB x with
   | true =>
    have HP : Hid (plainB x = true) := hp
    clear hp
    go_wp2
    go_round
    case rel => exact ⟨k + 1, by omega, by go_num, all_take_snoc HA.out HX.out HP.out⟩
    case measure => simp [intOf]; omega
   | false =>
    have HP : Hid (plainB x = false) := hp
    clear hp
    go_wp2
    go_ret
    exact ⟨ret_bool (textsB_no HX.out HP.out).symm, rfl⟩
  ·have i1 : ¬ (k : Int) < (l.length : Int) := by omega
   have HT : Hid (l.all plainB = true) := by have := HA.out; rwa [List.take_of_length_le (by omega)] at this
   have e1 : wrap64 (l.length : Int) = l.length := by unfold wrap64; omega
   go_wp2
   go_ret
   exact ⟨ret_bool (by rw [textsB, HT.out]; simp), rfl⟩
/-- Whether there is what a process waits for. -/
def hasB (p : PartP) (state id : Int) : Bool :=
 if state = 3 then decide (id ∈ p.sems.map (·.id)) else if state = 4 then decide (id ∈ p.events.map (·.id))
 else if state = 5 ∨ state = 6 then decide (id ∈ p.buffers.map (·.id)) else if state = 7 then decide (id ∈ p.boards.map (·.id)) else false
theorem place_mem (l : List Int) (id : Int) : decide (0 ≤ place l id 0) = decide (id ∈ l) := by
 by_cases h : id ∈ l
 ·rw [decide_eq_true h]
  rcases place_ge l id 0 with h1 | h1
  ·exact absurd h (place_none.1 h1)
  ·exact decide_eq_true (by simpa using h1)
 ·rw [decide_eq_false h, place_none.2 h]
  rfl
/-- The lists are not too long for a machine. -/
structure PartD.Short (p : PartD) : Prop where
 procs : p.procs.length ≤ 1048576
 sems : p.sems.length ≤ 1048576
 events : p.events.length ≤ 1048576
 boards : p.boards.length ≤ 1048576
 buffers : p.buffers.length ≤ 1048576
 ports : p.ports.length ≤ 1048576
set_option maxHeartbeats 2000000 in
theorem l3Has_any (p : PartD) (state id : Int) (w : World) (hl : p.Short) (h : PartD.At w p) :
  Calls Tryz.prog 184 #[.agg p.cells, .int .i64 state, .int .i64 id] w fun e w' => e = .returned (.bool (hasB p.pure state id)) ∧ Below w.heap.size w w' := by
 have hp : p.cells = #[.int .i64 p.id, .int .i64 p.next, .slice p.procA p.procs.length p.procC, .slice p.semA p.sems.length p.semC, .slice p.eventA p.events.length p.eventC, .slice p.boardA p.boards.length p.boardC, .slice p.bufferA p.buffers.length p.bufferC, .slice p.portA p.ports.length p.portC] := rfl
 have H : Hid ((PartD.At (w.alloc (.cells p.cells 32)) p ∧ Below w.heap.size w (w.alloc (.cells p.cells 32))) ∧ p.Short) := ⟨⟨h.below ((Below.refl _ _).alloc (Nat.le_refl _) _), (Below.refl _ _).alloc (Nat.le_refl _) _⟩, hl⟩
 rw [hp] at H
 rw [hp]
 clear h hl hp
 by_cases s3 : state = 3
 ·subst s3
  go_enter Tryz.func184, Tryz.ntmps184
  go_wp2_with fail
  refine (l3Sem_any p id _ H.out.2.sems H.out.1.1).mono ?_
  rintro e w1 ⟨rfl, hb1⟩
  have HB : Hid (Below w.heap.size w w1) := H.out.1.2.trans (hb1.mono (by simp))
  have HM : Hid (decide (0 ≤ place (p.sems.map (·.id)) id 0) = decide (id ∈ p.sems.map (·.id))) := place_mem _ id
  clear hb1
  go_wp2
  go_ret
  exact ⟨ret_bool (HM.out.trans (by simp [hasB, PartD.pure])), HB.out⟩
 by_cases s4 : state = 4
 ·subst s4
  go_enter Tryz.func184, Tryz.ntmps184
  go_wp2_with fail
  refine (l3Event_any p id _ H.out.2.events H.out.1.1).mono ?_
  rintro e w1 ⟨rfl, hb1⟩
  have HB : Hid (Below w.heap.size w w1) := H.out.1.2.trans (hb1.mono (by simp))
  have HM : Hid (decide (0 ≤ place (p.events.map (·.id)) id 0) = decide (id ∈ p.events.map (·.id))) := place_mem _ id
  clear hb1
  go_wp2
  go_ret
  exact ⟨ret_bool (HM.out.trans (by simp [hasB, PartD.pure])), HB.out⟩
 by_cases s5 : state = 5
 ·subst s5
  go_enter Tryz.func184, Tryz.ntmps184
  go_wp2_with fail
  refine (l3Buffer_any p id _ H.out.2.buffers H.out.1.1).mono ?_
  rintro e w1 ⟨rfl, hb1⟩
  have HB : Hid (Below w.heap.size w w1) := H.out.1.2.trans (hb1.mono (by simp))
  have HM : Hid (decide (0 ≤ place (p.buffers.map (·.id)) id 0) = decide (id ∈ p.buffers.map (·.id))) := place_mem _ id
  clear hb1
  go_wp2
  go_ret
  exact ⟨ret_bool (HM.out.trans (by simp [hasB, PartD.pure])), HB.out⟩
 by_cases s6 : state = 6
 ·subst s6
  go_enter Tryz.func184, Tryz.ntmps184
  go_wp2_with fail
  refine (l3Buffer_any p id _ H.out.2.buffers H.out.1.1).mono ?_
  rintro e w1 ⟨rfl, hb1⟩
  have HB : Hid (Below w.heap.size w w1) := H.out.1.2.trans (hb1.mono (by simp))
  have HM : Hid (decide (0 ≤ place (p.buffers.map (·.id)) id 0) = decide (id ∈ p.buffers.map (·.id))) := place_mem _ id
  clear hb1
  go_wp2
  go_ret
  exact ⟨ret_bool (HM.out.trans (by simp [hasB, PartD.pure])), HB.out⟩
 by_cases s7 : state = 7
 ·subst s7
  go_enter Tryz.func184, Tryz.ntmps184
  go_wp2_with fail
  refine (l3Board_any p id _ H.out.2.boards H.out.1.1).mono ?_
  rintro e w1 ⟨rfl, hb1⟩
  have HB : Hid (Below w.heap.size w w1) := H.out.1.2.trans (hb1.mono (by simp))
  have HM : Hid (decide (0 ≤ place (p.boards.map (·.id)) id 0) = decide (id ∈ p.boards.map (·.id))) := place_mem _ id
  clear hb1
  go_wp2
  go_ret
  exact ⟨ret_bool (HM.out.trans (by simp [hasB, PartD.pure])), HB.out⟩
 have e3 : (state == 3) = false := by simp [s3]
 have e4 : (state == 4) = false := by simp [s4]
 have e5 : (state == 5) = false := by simp [s5]
 have e6 : (state == 6) = false := by simp [s6]
 have e7 : (state == 7) = false := by simp [s7]
 have HN : Hid (hasB p.pure state id = false) := by show hasB p.pure state id = false; simp [hasB, s3, s4, s5, s6, s7]
 clear s3 s4 s5 s6 s7
 go_enter Tryz.func184, Tryz.ntmps184
 go_wp2
 go_ret
 exact ⟨ret_bool HN.out.symm, H.out.1.2⟩
end Go.Proofs.YtkbcplnlehdjfaaGreat

/- The cells of a partition that lies in a block. (Made by mkchosenlaw.py.) -/
namespace Go.Proofs.YtkbcplnlehdjfaaGreat
open Go.RowKit
theorem srcCells {W : World} {B : Nat} {p : PartD} {T : TypeId} (h : W.heap[B]? = some (.cells #[.int .i64 p.id, .int .i64 p.next, .slice p.procA p.procs.length p.procC, .slice p.semA p.sems.length p.semC, .slice p.eventA p.events.length p.eventC, .slice p.boardA p.boards.length p.boardC, .slice p.bufferA p.buffers.length p.bufferC, .slice p.portA p.ports.length p.portC] T (0, 0))) : W.cell? ⟨B, 0, none⟩ = some (.int .i64 p.id) ∧ W.cell? ⟨B, 1, none⟩ = some (.int .i64 p.next) ∧ W.cell? ⟨B, 2, none⟩ = some (.slice p.procA p.procs.length p.procC) ∧ W.cell? ⟨B, 3, none⟩ = some (.slice p.semA p.sems.length p.semC) ∧ W.cell? ⟨B, 4, none⟩ = some (.slice p.eventA p.events.length p.eventC) ∧ W.cell? ⟨B, 5, none⟩ = some (.slice p.boardA p.boards.length p.boardC) ∧ W.cell? ⟨B, 6, none⟩ = some (.slice p.bufferA p.buffers.length p.bufferC) ∧ W.cell? ⟨B, 7, none⟩ = some (.slice p.portA p.ports.length p.portC) := by
 simp [World.cell?, h]
end Go.Proofs.YtkbcplnlehdjfaaGreat

/- When a partition is right. -/
namespace Go.Proofs.YtkbcplnlehdjfaaGreat
open Go.RowKit
/-- The text of nothing. -/
def noT : ByteArray := ⟨#[]⟩
def progL (l : List OpD) : Bool := progB l.length (kOf l) (nOf l) (mOf l) (sOf l)
def semB (x : SemD) : Bool := inB x.max 1 1000 && inB x.n 0 x.max
def eventB (_ : EventD) : Bool := true
def boardB (x : BoardD) : Bool := plainB x.text && (x.shown || emptyB x.text)
def bufferB (x : BufferP) : Bool := inB x.max 1 5 && textsB x.items x.max
def portB (x : PortP) : Bool := inB x.max 1 5 && (x.queue || decide (x.max = 1)) && textsB x.items x.max
/-- Things that are right each, their numbers rising. -/
def thingsB {α : Type} (num : α → Int) (ok : α → Bool) : Int → List α → Bool
 | _, [] => true
 | last, x :: r => inB (num x) 1 1000 && decide (last < num x) && ok x && thingsB num ok (num x) r
def lastOf {α : Type} (num : α → Int) : Int → List α → Int
 | last, [] => last
 | _, x :: r => lastOf num (num x) r
section
variable {α : Type} {num : α → Int} {ok : α → Bool}
theorem thingsB_append : ∀ (l r : List α) (last : Int), thingsB num ok last (l ++ r) = (thingsB num ok last l && thingsB num ok (lastOf num last l) r)
 | [], r, last => by simp [thingsB, lastOf]
 | x :: l, r, last => by
  simp only [List.cons_append, thingsB, lastOf, thingsB_append l r (num x), Bool.and_assoc]
theorem lastOf_append : ∀ (l : List α) (x : α) (last : Int), lastOf num last (l ++ [x]) = num x
 | [], _, _ => rfl
 | y :: l, x, _ => lastOf_append l x (num y)
theorem split_at {l : List α} {k : Nat} {x : α} (hx : l[k]? = some x) : l = l.take k ++ x :: l.drop (k + 1) := by
 have hk : k < l.length := (List.getElem?_eq_some_iff.1 hx).1
 rw [List.getElem?_eq_getElem hk] at hx
 cases hx
 have := List.take_append_drop k l
 rw [List.drop_eq_getElem_cons hk] at this
 exact this.symm
theorem take_up {l : List α} {k : Nat} {x : α} (hx : l[k]? = some x) : l.take (k + 1) = l.take k ++ [x] := by
 have hk : k < l.length := (List.getElem?_eq_some_iff.1 hx).1
 rw [List.getElem?_eq_getElem hk] at hx
 cases hx
 exact List.take_succ_eq_append_getElem hk
theorem lastOf_take {l : List α} {k : Nat} {x : α} (hx : l[k]? = some x) (last : Int) : lastOf num last (l.take (k + 1)) = num x := by
 rw [take_up hx, lastOf_append]
/-- One more. -/
theorem things_yes {l : List α} {k : Nat} {x : α} {last : Int} (h : thingsB num ok last (l.take k) = true) (hx : l[k]? = some x) (h1 : inB (num x) 1 1000 = true) (h2 : lastOf num last (l.take k) < num x) (h3 : ok x = true) : thingsB num ok last (l.take (k + 1)) = true := by
 rw [take_up hx, thingsB_append, h]
 simp [thingsB, h1, h2, h3]
theorem things_no {l : List α} {k : Nat} {x : α} {last : Int} (hx : l[k]? = some x) (h : ¬ (inB (num x) 1 1000 = true ∧ lastOf num last (l.take k) < num x ∧ ok x = true)) : thingsB num ok last l = false := by
 rw [split_at hx, thingsB_append]
 have : thingsB num ok (lastOf num last (l.take k)) (x :: l.drop (k + 1)) = false := by
  simp only [thingsB]
  cases h1 : inB (num x) 1 1000 <;> simp
  by_cases h2 : lastOf num last (l.take k) < num x
  ·cases h3 : ok x
   ·simp
   ·exact absurd ⟨h1, h2, h3⟩ h
  ·simp [h2]
 rw [this, Bool.and_false]
theorem things_all {l : List α} {last : Int} (h : thingsB num ok last l = true) : ∀ x ∈ l, inB (num x) 1 1000 = true ∧ ok x = true := by
 induction l generalizing last with
 | nil => intro x hx; cases hx
 | cons y r ih =>
  simp only [thingsB, Bool.and_eq_true] at h
  intro x hx
  rcases List.mem_cons.1 hx with rfl | hx
  ·exact ⟨h.1.1.1, h.1.2⟩
  ·exact ih h.2 x hx
theorem things_and {ok' : α → Bool} {l : List α} {last : Int} : thingsB num (fun x => ok x && ok' x) last l = (thingsB num ok last l && l.all ok') := by
 induction l generalizing last with
 | nil => rfl
 | cons y r ih =>
  simp only [thingsB, ih, List.all_cons]
  cases inB (num y) 1 1000 <;> cases decide (last < num y) <;> cases ok y <;> cases ok' y <;> simp
end
theorem thingsB_map {α β : Type} (f : α → β) (num : β → Int) (ok : β → Bool) (l : List α) (last : Int) : thingsB num ok last (l.map f) = thingsB (fun x => num (f x)) (fun x => ok (f x)) last l := by
 induction l generalizing last with
 | nil => rfl
 | cons y r ih => simp only [List.map_cons, thingsB, ih]
/-- The op at which a process stands. -/
def opAt (x : ProcP) : OpD := x.prog[x.pc.toNat]?.getD (0, 0, 0, noT)
def hasOpB (x : ProcP) : Bool := inB x.pc 0 ((x.prog.length : Int) - 1)
def leftB (x : ProcP) : Bool := if (opAt x).1 = 1 then decide (0 ≤ x.left) && decide (x.left < (opAt x).2.1) else decide (x.left = 0)
def wakeB (t : Int) : Bool := inB t 1 2000000000 || decide (t = -1)
def stateB (x : ProcP) : Bool :=
 if x.state = 0 then decide (x.pc = 0) && decide (x.left = 0) && decide (x.wake = 0) && decide (x.on = 0) && decide (x.since = 0) && emptyB x.held
 else if x.state = 1 then hasOpB x && leftB x && decide (x.wake = 0) && decide (x.on = 0) && emptyB x.held
 else if x.state = 2 then hasOpB x && decide (x.left = 0) && inB x.wake 1 2000000000 && decide (x.on = 0) && emptyB x.held
 else if x.state = 5 then hasOpB x && decide (x.left = 0) && wakeB x.wake
 else if x.state = 3 ∨ x.state = 4 ∨ x.state = 6 ∨ x.state = 7 then hasOpB x && decide (x.left = 0) && wakeB x.wake && emptyB x.held
 else false
/-- A process is right by itself. -/
def procB (x : ProcP) : Bool := inB x.prio 1 50 && progL x.prog && plainB x.held && plainB x.got && inB x.code 0 3 && stateB x
/-- Its turn, and what it waits for. -/
def turnB (next : Int) (x : ProcP) : Bool := decide (x.state = 0) || inB x.since 1 (next - 1)
def waitB (p : PartP) (x : ProcP) : Bool := if 3 ≤ x.state then hasB p x.state x.on else true
/-- No two have one turn. -/
def Apart (l : List ProcP) : Prop := (l.map (·.since)).Pairwise (fun a b => ¬ (a = b ∧ 0 < b))
/-- A partition is right. -/
structure PartR (p : PartP) : Prop where
 id : inB p.id 1 6 = true
 next : inB p.next 1 1000000000 = true
 nProc : p.procs.length ≤ 6
 nSem : p.sems.length ≤ 5
 nEvent : p.events.length ≤ 5
 nBoard : p.boards.length ≤ 5
 nBuffer : p.buffers.length ≤ 5
 nPort : p.ports.length ≤ 5
 procs : thingsB (·.id) (fun x => procB x && turnB p.next x && waitB p x) 0 p.procs = true
 sems : thingsB (·.id) semB 0 p.sems = true
 events : thingsB (·.id) eventB 0 p.events = true
 boards : thingsB (·.id) boardB 0 p.boards = true
 buffers : thingsB (·.id) bufferB 0 p.buffers = true
 ports : thingsB (·.id) portB 0 p.ports = true
 apart : Apart p.procs
def partB (p : PartP) : Bool := inB p.id 1 6 && inB p.next 1 1000000000 && decide (p.procs.length ≤ 6) && decide (p.sems.length ≤ 5) && decide (p.events.length ≤ 5) && decide (p.boards.length ≤ 5) && decide (p.buffers.length ≤ 5) && decide (p.ports.length ≤ 5) &&
 thingsB (·.id) (fun x => procB x && turnB p.next x && waitB p x) 0 p.procs && thingsB (·.id) semB 0 p.sems && thingsB (·.id) eventB 0 p.events && thingsB (·.id) boardB 0 p.boards && thingsB (·.id) bufferB 0 p.buffers && thingsB (·.id) portB 0 p.ports && decide ((p.procs.map (·.since)).Pairwise (fun a b => ¬ (a = b ∧ 0 < b)))
theorem partB_iff (p : PartP) : partB p = true ↔ PartR p := by
 simp only [partB, Bool.and_eq_true, decide_eq_true_eq]
 constructor
 ·rintro ⟨⟨⟨⟨⟨⟨⟨⟨⟨⟨⟨⟨⟨⟨h1, h2⟩, h3⟩, h4⟩, h5⟩, h6⟩, h7⟩, h8⟩, h9⟩, h10⟩, h11⟩, h12⟩, h13⟩, h14⟩, h15⟩
  exact ⟨h1, h2, h3, h4, h5, h6, h7, h8, h9, h10, h11, h12, h13, h14, h15⟩
 ·intro h
  exact ⟨⟨⟨⟨⟨⟨⟨⟨⟨⟨⟨⟨⟨⟨h.id, h.next⟩, h.nProc⟩, h.nSem⟩, h.nEvent⟩, h.nBoard⟩, h.nBuffer⟩, h.nPort⟩, h.procs⟩, h.sems⟩, h.events⟩, h.boards⟩, h.buffers⟩, h.ports⟩, h.apart⟩
theorem partB_true {p : PartP} (h : PartR p) : partB p = true := (partB_iff p).2 h
theorem partB_false {p : PartP} (h : ¬ PartR p) : partB p = false := by
 cases hb : partB p with
 | false => rfl
 | true => exact absurd ((partB_iff p).1 hb) h
end Go.Proofs.YtkbcplnlehdjfaaGreat
