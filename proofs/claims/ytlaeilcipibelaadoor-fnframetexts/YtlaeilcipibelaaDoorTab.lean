/- The program's table of windows: what tableOf answers. -/
import Derived.Test.YtlaeilcipibelaaDoorOk
import Derived.Laws.ResultCell
namespace Go.Proofs.YtlaeilcipibelaaDoor
open Go.RowKit

/-- The cells of an empty table, and of one with its first two fields laid. -/
def tabZ : Array Value := Array.replicate 62 (.int .i64 0)
def tabH (m n : Int) : Array Value := #[.int .i64 m, .int .i64 n] ++ Array.replicate 60 (.int .i64 0)
theorem tabZ_size : tabZ.size = 62 := by simp [tabZ]
theorem tabH_size (m n : Int) : (tabH m n).size = 62 := by simp [tabH]
theorem tabZ_one : tabZ.all (·.oneCell') = true := by
  refine Array.all_eq_true_iff_forall_mem.2 fun v hv => ?_
  obtain ⟨_, rfl⟩ := Array.mem_replicate.1 hv
  rfl
theorem tabH_one (m n : Int) : (tabH m n).all (·.oneCell') = true := by
  refine Array.all_eq_true_iff_forall_mem.2 fun v hv => ?_
  rcases Array.mem_append.1 hv with h | h
  · simp at h
    rcases h with rfl | rfl <;> rfl
  · obtain ⟨_, rfl⟩ := Array.mem_replicate.1 h
    rfl

theorem run_allocTab (w : World) : (Instr.alloc 59 true (.tuple #[])).run Tryd.prog w = .ok (.pointer (some ⟨w.heap.size, 0, none⟩)) (w.alloc (.cells tabZ 59)) := by kernel_rfl
theorem run_buildTab0 (w : World) : (Instr.build 59 #[]).run Tryd.prog w = .ok (.agg tabZ) w := by kernel_rfl
theorem run_buildTab (m n : Int) (w : World) : (Instr.build 59 #[(0, .int .i64 m), (1, .int .i64 n)]).run Tryd.prog w = .ok (.agg (tabH m n)) w := by kernel_rfl
theorem tabSize : (Tryd.prog.info? 59).map (·.size) = some 62 := by kernel_rfl

theorem tabSize' (cs : Array Value) (h : cs.size = 62) : (Tryd.prog.info? 59).map (·.size) = some cs.size := by rw [tabSize, h]

theorem wpList_allocTab {ops : Array Oper} {rest : List Oper} {op : Oper} {a : Act} {w : World} {Q : Exit → Act → World → Prop} (hgd : op.guard = none) (ho : op.op = .alloc 59) (N : Nat) (hN : w.heap.size = N) (T : Array Value) (hT : tabZ = T)
    (h : wpList Tryd.prog ops Q rest (a.put op.dst (.pointer (some ⟨N, 0, none⟩))) (w.alloc (.cells T 59))) : wpList Tryd.prog ops Q (op :: rest) a w :=
  wpList_plain hgd fun _ hK => by
    subst hT
    unfold Oper.wp execOp
    simp only [ho, Sem.run_bind, run_allocTab, Result.andThen_ok]
    rw [hN]
    exact hK _ _ h
theorem wpList_buildTab0 {ops : Array Oper} {rest : List Oper} {op : Oper} {a : Act} {w : World} {Q : Exit → Act → World → Prop} (hgd : op.guard = none) (ho : op.op = .build 59 #[]) (T : Array Value) (hT : tabZ = T)
    (h : wpList Tryd.prog ops Q rest (a.put op.dst (.agg T)) w) : wpList Tryd.prog ops Q (op :: rest) a w :=
  wpList_plain hgd fun _ hK => by
    subst hT
    unfold Oper.wp execOp
    simp only [ho, Sem.run_bind, List.map_toArray, List.map_nil, run_buildTab0, Result.andThen_ok]
    exact hK _ _ h
theorem wpList_buildTab {ops : Array Oper} {rest : List Oper} {op : Oper} {a : Act} {w : World} {Q : Exit → Act → World → Prop} (hgd : op.guard = none) (x y : Operand) (ho : op.op = .build 59 #[(0, x), (1, y)])
    (m n : Int) (hx : a.eval x = .int .i64 m) (hy : a.eval y = .int .i64 n) (T : Array Value) (hT : tabH m n = T)
    (h : wpList Tryd.prog ops Q rest (a.put op.dst (.agg T)) w) : wpList Tryd.prog ops Q (op :: rest) a w :=
  wpList_plain hgd fun _ hK => by
    subst hT
    unfold Oper.wp execOp
    simp only [ho, Sem.run_bind, List.map_toArray, List.map_cons, List.map_nil, hx, hy, run_buildTab, Result.andThen_ok]
    exact hK _ _ h

theorem wpList_storeTab {ops : Array Oper} {rest : List Oper} {op : Oper} {a : Act} {w : World} {Q : Exit → Act → World → Prop} (hgd : op.guard = none) (x y : Operand) (ho : op.op = .store 59 x y)
    (g : Nat) (cells : Array Value) (hx : a.eval x = .pointer (some ⟨g, 0, none⟩)) (hy : a.eval y = .agg cells) (old : Array Value) (hg : w.heap[g]? = some (.cells old 59 (0, 0))) (hos : old.size = 62) (hcs : cells.size = 62) (h1 : cells.all (·.oneCell') = true)
    (h : wpList Tryd.prog ops Q rest (a.put op.dst undef) (w.setRow g cells)) : wpList Tryd.prog ops Q (op :: rest) a w :=
  wpList_store_row hgd 59 x y ho g cells hx hy 59 old hg (by rw [tabSize, hcs]) (by rw [hos, hcs]) h1 h

/-- The two results of tableOf, read where they lie. -/
theorem tableResults {tmps : Array Value} {w : World} {g : Nat} {t : TypeId} {cs : Array Value} {fr : Nat × Nat} {b : Bool} (hp : tmps.getD 2 undef = .pointer (some ⟨g, 0, none⟩)) (hb : tmps.getD 3 undef = .bool b)
    (hg : w.heap[g]? = some (.cells cs t fr)) (hs : cs.size = 62) : (results Tryd.f33 tmps).run Tryd.prog w = .ok (.tuple #[.agg cs, .bool b]) w := by
  rw [results_cell_tmp (Tryd.results33), hp, hb]
  have := run_loadVar_row (P := Tryd.prog) w g t 59 cs fr _ hg Tryd.underlying59 rfl (by rw [tabSize, hs])
  simp [asAddr, this]

theorem below_setRow {B g : Nat} {w0 w : World} (hb : Below B w0 w) (hBg : B ≤ g) (cs : Array Value) : Below B w0 (w.setRow g cs) :=
  hb.trans ⟨rfl, rfl, rfl, by simp, fun k hk => setRow_other w g k cs (by omega)⟩

set_option maxHeartbeats 1000000 in
set_option maxRecDepth 100000 in
theorem tableOf_no (major : Int) (g len cap : Nat) (w : World) (hl : len ≤ 1048576) (h : major < 1 ∨ 1000 < major ∨ 20 < len) :
    Calls Tryd.prog 33 #[.agg #[.int .i64 major, .slice (some ⟨g, 0, none⟩) len cap]] w fun e w' => e = .returned (.tuple #[.agg tabZ, .bool false]) ∧ Below w.heap.size w w' := by
  obtain ⟨T, hT⟩ : ∃ T, tabZ = T := ⟨_, rfl⟩
  have hs : T.size = 62 := by rw [← hT]; exact tabZ_size
  have ho : T.all (·.oneCell') = true := by rw [← hT]; exact tabZ_one
  have HT : Hid (tabZ = T) := hT
  clear hT
  by_cases h1 : major < 1
  · go_enter Tryd.func33, Tryd.ntmps33
    go_wp2_with (first | (refine wpList_allocTab rfl rfl (w.heap.size + 1) ?hN T HT.out ?_; (case hN => (rw [World.size_alloc]; done))) | (refine wpList_buildTab0 rfl rfl T HT.out ?_) | (refine wpList_storeTab rfl (.tmp 2) (.tmp 22) rfl (w.heap.size + 1) T (by rfl) (by rfl) T (by exact heap_alloc2_new _ _ _) hs hs ho ?_))
    refine bodyPost_ret (tableResults (cs := T) (b := false) (g := w.heap.size + 1) (t := 59) (fr := (0, 0)) rfl rfl ?_ hs) rfl ⟨by rw [HT.out], ?_⟩
    · exact setRow_heap _ _ T _ _ _ (heap_alloc2_new _ _ _)
    · exact below_setRow (by go_grown) (by omega) _
  by_cases h2 : 1000 < major
  · go_enter Tryd.func33, Tryd.ntmps33
    go_wp2_with (first | (refine wpList_allocTab rfl rfl (w.heap.size + 1) ?hN T HT.out ?_; (case hN => (rw [World.size_alloc]; done))) | (refine wpList_buildTab0 rfl rfl T HT.out ?_) | (refine wpList_storeTab rfl (.tmp 2) (.tmp 22) rfl (w.heap.size + 1) T (by rfl) (by rfl) T (by exact heap_alloc2_new _ _ _) hs hs ho ?_))
    refine bodyPost_ret (tableResults (cs := T) (b := false) (g := w.heap.size + 1) (t := 59) (fr := (0, 0)) rfl rfl ?_ hs) rfl ⟨by rw [HT.out], ?_⟩
    · exact setRow_heap _ _ T _ _ _ (heap_alloc2_new _ _ _)
    · exact below_setRow (by go_grown) (by omega) _
  have h3 : 20 < len := by omega
  go_enter Tryd.func33, Tryd.ntmps33
  go_wp2_with (first | (refine wpList_allocTab rfl rfl (w.heap.size + 1) ?hN T HT.out ?_; (case hN => (rw [World.size_alloc]; done))) | (refine wpList_buildTab0 rfl rfl T HT.out ?_) | (refine wpList_storeTab rfl (.tmp 2) (.tmp 22) rfl (w.heap.size + 1) T (by rfl) (by rfl) T (by exact heap_alloc2_new _ _ _) hs hs ho ?_))
  refine bodyPost_ret (tableResults (cs := T) (b := false) (g := w.heap.size + 1) (t := 59) (fr := (0, 0)) rfl rfl ?_ hs) rfl ⟨by rw [HT.out], ?_⟩
  · exact setRow_heap _ _ T _ _ _ (heap_alloc2_new _ _ _)
  · exact below_setRow (by go_grown) (by omega) _

/-- The table's cells when k windows are laid. -/
def tabF (m : Int) (n : Nat) (Z : Nat → Int) (k : Nat) (j : Nat) : Value :=
  if j = 0 then .int .i64 m else if j = 1 then .int .i64 n else if j - 2 < k * 3 then .int .i64 (Z (j - 2)) else .int .i64 0

theorem tab_start (w : World) (m : Int) (n : Nat) (Z : Nat → Int) : (w.alloc (.cells (tabH m n) 59)).rowIs w.heap.size 59 62 (tabF m n Z 0) := by
  have h := World.rowIs_alloc w (tabH m n) 59 (tabF m n Z 0) (fun i hi => by
    rw [tabH_size] at hi
    unfold tabH tabF
    by_cases e0 : i = 0
    · subst e0; simp
    by_cases e1 : i = 1
    · subst e1; simp
    rw [Array.getElem?_append_right (by simp; omega)]
    have : i - 2 < 60 := by omega
    simp [e0, e1, this])
  rwa [tabH_size] at h

theorem tab_step {wr : World} {g n k : Nat} {m : Int} {Z : Nat → Int} (h : wr.rowIs g 59 62 (tabF m n Z k)) :
    (((wr.setCell ⟨g, 2 + k * 3, none⟩ (.int .i64 (Z (k * 3)))).setCell ⟨g, 2 + k * 3 + 1, none⟩ (.int .i64 (Z (k * 3 + 1)))).setCell ⟨g, 2 + k * 3 + 2, none⟩ (.int .i64 (Z (k * 3 + 2)))).rowIs g 59 62 (tabF m n Z (k + 1)) := by
  refine (((h.set (2 + k * 3) _).set (2 + k * 3 + 1) _).set (2 + k * 3 + 2) _).congr ?_
  intro j _
  unfold tabF
  by_cases e2 : j = 2 + k * 3 + 2
  · subst e2; rw [if_pos rfl, if_neg (by omega), if_neg (by omega), if_pos (by omega), show 2 + k * 3 + 2 - 2 = k * 3 + 2 by omega]
  by_cases e1 : j = 2 + k * 3 + 1
  · subst e1; rw [if_neg (by omega), if_pos rfl, if_neg (by omega), if_neg (by omega), if_pos (by omega), show 2 + k * 3 + 1 - 2 = k * 3 + 1 by omega]
  by_cases e0 : j = 2 + k * 3
  · subst e0; rw [if_neg (by omega), if_neg (by omega), if_pos rfl, if_neg (by omega), if_neg (by omega), if_pos (by omega), show 2 + k * 3 - 2 = k * 3 by omega]
  rw [if_neg e2, if_neg e1, if_neg e0]
  by_cases j0 : j = 0
  · rw [if_pos j0, if_pos j0]
  by_cases j1 : j = 1
  · rw [if_neg j0, if_neg j0, if_pos j1, if_pos j1]
  rw [if_neg j0, if_neg j0, if_neg j1, if_neg j1]
  by_cases hj : j - 2 < k * 3
  · rw [if_pos hj, if_pos (by omega)]
  · rw [if_neg hj, if_neg (by omega)]

end Go.Proofs.YtlaeilcipibelaaDoor
