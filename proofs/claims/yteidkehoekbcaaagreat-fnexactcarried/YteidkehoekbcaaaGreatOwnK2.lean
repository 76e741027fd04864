/- What the proof leans on, part 2. -/
import Derived.Test.YteidkehoekbcaaaGreatOwnK1
import Derived.Deep.WholeRow
import Derived.Deep.RegionHeld3
import Derived.Deep.DrawnRows
import Derived.Great.FillDense
set_option maxRecDepth 100000
set_option maxHeartbeats 8000000
open Array renaming getElem?_eq_getElem->Qb
open Go renaming block_lt_of_cell->Le,bodyPost_ret->KT,heap_alloc2_new->Kq,setRow_heap->KU
open Go.Proofs.Tryz renaming func231->RF,prog->J3
open Go.Result renaming andThen_ok->QT
open Go.Sem renaming run_bind->QR
open Go.World renaming cell?_of_block->J1,size_alloc->RR
open List renaming getElem?_eq_getElem->Kz,getElem?_eq_some_iff->Lj,map_nil->QV,mem_of_getElem?->KA
open Nat renaming le_refl->Ki,succ_mul->Lh
open Option.some renaming inj->KC

namespace Go.Proofs.YteidkehoekbcaaaGreat
section
open Go.RowKit
def pJ (k:Int):Prop:=k=1∨k=2∨k=4∨k=5∨k=6∨k=11∨k=14∨k=15∨k=16
def mF (k:Int):Prop:=k=3∨k=7∨k=9∨k=12
def isText (k:Int):Prop:=k=10∨k=13
def bI (s:ByteArray):Bool:=s.toList.isEmpty
def mQ (k n m:Int) (s:ByteArray):Bool:=
 if k=1∨k=2∨k=4∨k=5∨k=6∨k=11∨k=14∨k=15∨k=16 then cv n 1 1000 && decide (m=0) && bI s
 else if k=3∨k=7∨k=9∨k=12 then cv n 1 1000 && cv m (-1) 1000 && bI s
 else if k=8 then cv n 1 1000 && cv m (-1) 1000 && bw s
 else if k=10∨k=13 then cv n 1 1000 && decide (m=0) && bw s
 else if k=17 then decide (n=0) && decide (m=0) && bI s
 else false
theorem Cr (k n m:Int) (s:ByteArray) (w:World) (hk:pJ k):
  Calls J3 170 #[.agg #[.int .i64 k,.int .i64 n,.int .i64 m,.string s]] w fun e w'=>e= .returned (.bool (mQ k n m s))∧Below w.heap.size w w':=by
 rcases hk with rfl | rfl | rfl | rfl | rfl | rfl | rfl | rfl | rfl
 all_goals
  simp only [mQ,Int.reduceEq,or_true,or_false,or_self,if_true,if_false]
  go_enter Tryz.func170,Tryz.ntmps170
  go_wp2_with (go_at_call 34; refine (dx _ _ _ _).mono ?_; rintro e w' ⟨rfl,rfl⟩)
  all_goals go_ret
  all_goals exact ⟨al (by simp_all [bI]),by go_grown⟩
theorem BH (k n m:Int) (s:ByteArray) (w:World) (hk:mF k):
  Calls J3 170 #[.agg #[.int .i64 k,.int .i64 n,.int .i64 m,.string s]] w fun e w'=>e= .returned (.bool (mQ k n m s))∧Below w.heap.size w w':=by
 rcases hk with rfl | rfl | rfl | rfl
 all_goals
  simp only [mQ,Int.reduceEq,or_true,or_false,or_self,if_true,if_false]
  go_enter Tryz.func170,Tryz.ntmps170
  go_wp2_with (go_at_call 34; refine (dx _ _ _ _).mono ?_; rintro e w' ⟨rfl,rfl⟩)
  all_goals go_ret
  all_goals exact ⟨al (by simp_all [bI]),by go_grown⟩
theorem Bu (k n m:Int) (s:ByteArray) (w:World) (hs:s.size≤1048576) (hk:isText k):
  Calls J3 170 #[.agg #[.int .i64 k,.int .i64 n,.int .i64 m,.string s]] w fun e w'=>e= .returned (.bool (mQ k n m s))∧Below w.heap.size w w':=by
 rcases hk with rfl | rfl
 all_goals
  simp only [mQ,Int.reduceEq,or_true,or_false,or_self,if_true,if_false]
  go_enter Tryz.func170,Tryz.ntmps170
  go_wp2_with (first | (go_at_call 34; refine (dx _ _ _ _).mono ?_; rintro e w' ⟨rfl,rfl⟩) | (go_at_call 140; refine (jC _ _ hs).mono ?_; rintro e w' ⟨rfl,rfl⟩))
  all_goals go_ret
  all_goals exact ⟨al (by simp_all),by go_grown⟩
theorem BZ (k n m:Int) (s:ByteArray) (w:World) (hs:s.size≤1048576) (hk:k=8∨k=17):
  Calls J3 170 #[.agg #[.int .i64 k,.int .i64 n,.int .i64 m,.string s]] w fun e w'=>e= .returned (.bool (mQ k n m s))∧Below w.heap.size w w':=by
 rcases hk with rfl | rfl
 all_goals
  simp only [mQ,Int.reduceEq,or_self,if_true,if_false]
  go_enter Tryz.func170,Tryz.ntmps170
  go_wp2_with (first | (go_at_call 34; refine (dx _ _ _ _).mono ?_; rintro e w' ⟨rfl,rfl⟩) | (go_at_call 140; refine (jC _ _ hs).mono ?_; rintro e w' ⟨rfl,rfl⟩))
  all_goals go_ret
  all_goals exact ⟨al (by simp_all [bI]),by go_grown⟩
theorem Bd {k n m:Int} {s:ByteArray} (h: ¬ (1≤k∧k≤17)):mQ k n m s=false:=by
 unfold mQ;rw [if_neg (by omega),if_neg (by omega),if_neg (by omega),if_neg (by omega),if_neg (by omega)]
theorem B9 (k n m:Int) (s:ByteArray) (w:World) (hk: ¬ (1≤k∧k≤17)):
  Calls J3 170 #[.agg #[.int .i64 k,.int .i64 n,.int .i64 m,.string s]] w fun e w'=>e= .returned (.bool (mQ k n m s))∧Below w.heap.size w w':=by
 rw [Bd hk];have e1:(k == 1)=false:=by simp; omega
 have e2:(k == 2)=false:=by simp; omega
 have e3:(k == 3)=false:=by simp; omega
 have e4:(k == 4)=false:=by simp; omega
 have e5:(k == 5)=false:=by simp; omega
 have e6:(k == 6)=false:=by simp; omega
 have e7:(k == 7)=false:=by simp; omega
 have e8:(k == 8)=false:=by simp; omega
 have e9:(k == 9)=false:=by simp; omega
 have Pn:(k == 10)=false:=by simp; omega
 have e11:(k == 11)=false:=by simp; omega
 have PF:(k == 12)=false:=by simp; omega
 have PG:(k == 13)=false:=by simp; omega
 have e14:(k == 14)=false:=by simp; omega
 have e15:(k == 15)=false:=by simp; omega
 have e16:(k == 16)=false:=by simp; omega
 have PH:(k == 17)=false:=by simp; omega
 go_enter Tryz.func170,Tryz.ntmps170
 go_wp2_with (go_at_call 34; refine (dx _ _ _ _).mono ?_; rintro e w' ⟨rfl,rfl⟩);go_ret;exact ⟨rfl,by go_grown⟩
theorem xZ (k n m:Int) (s:ByteArray) (w:World) (hs:s.size≤1048576):
  Calls J3 170 #[.agg #[.int .i64 k,.int .i64 n,.int .i64 m,.string s]] w fun e w'=>e= .returned (.bool (mQ k n m s))∧Below w.heap.size w w':=by
 by_cases h0:1≤k∧k≤17
 ·by_cases h1:pJ k
  ·exact Cr k n m s w h1
  by_cases h2:mF k
  ·exact BH k n m s w h2
  by_cases h3:isText k
  ·exact Bu k n m s w hs h3
  exact BZ k n m s w hs (by unfold pJ at h1; unfold mF at h2; unfold isText at h3; omega)
 ·exact B9 k n m s w h0
def tx:Array Value:=Array.replicate 62 (.int .i64 0)
def Tq (m n:Int):Array Value:= #[.int .i64 m,.int .i64 n] ++ Array.replicate 60 (.int .i64 0)
theorem ub:tx.size=62:=by simp [tx]
theorem E3 (m n:Int):(Tq m n).size=62:=by simp [Tq]
theorem Tn:tx.all (·.oneCell')=true:=by
 refine Array.all_eq_true_iff_forall_mem.2 fun v hv=> ?_
 obtain ⟨_,rfl⟩:=Array.mem_replicate.1 hv;rfl
theorem U3 (m n:Int):(Tq m n).all (·.oneCell')=true:=by
 refine Array.all_eq_true_iff_forall_mem.2 fun v hv=> ?_
 rcases Array.mem_append.1 hv with h | h
 ·simp at h
  rcases h with rfl | rfl <;> rfl
 ·obtain ⟨_,rfl⟩:=Array.mem_replicate.1 h
  rfl
theorem TI (w:World):(Instr.alloc 103 true (.tuple #[])).run J3 w= .ok (.pointer (some ⟨w.heap.size,0,none⟩)) (w.alloc (.cells tx 103)):=by kernel_rfl
theorem Tv (w:World):(Instr.build 103 #[]).run J3 w= .ok (.agg tx) w:=by kernel_rfl
theorem TE (m n:Int) (w:World):(Instr.build 103 #[(0,.int .i64 m),(1,.int .i64 n)]).run J3 w= .ok (.agg (Tq m n)) w:=by kernel_rfl
theorem Dw:(Tryz.prog.info? 103).map (·.size)=some 62:=by kernel_rfl
theorem gq {ops:Array Oper} {rest:List Oper} {op:Oper} {a:Act} {w:World} {Q:Exit→Act→World→Prop} (hgd:op.guard=none) (ho:op.op= .alloc 103) (N:Nat) (hN:w.heap.size=N) (T:Array Value) (hT:tx=T)
  (h:wpList J3 ops Q rest (a.put op.dst (.pointer (some ⟨N,0,none⟩))) (w.alloc (.cells T 103))):wpList J3 ops Q (op :: rest) a w:=
 wpList_plain hgd fun _ hK=>by
  subst hT;unfold Oper.wp execOp;simp only [ho,QR,TI,QT];rw [hN];exact hK _ _ h
theorem j3 {ops:Array Oper} {rest:List Oper} {op:Oper} {a:Act} {w:World} {Q:Exit→Act→World→Prop} (hgd:op.guard=none) (ho:op.op= .build 103 #[]) (T:Array Value) (hT:tx=T)
  (h:wpList J3 ops Q rest (a.put op.dst (.agg T)) w):wpList J3 ops Q (op :: rest) a w:=
 wpList_plain hgd fun _ hK=>by
  subst hT;unfold Oper.wp execOp;simp only [ho,QR,List.map_toArray,QV,Tv,QT];exact hK _ _ h
theorem Sc {ops:Array Oper} {rest:List Oper} {op:Oper} {a:Act} {w:World} {Q:Exit→Act→World→Prop} (hgd:op.guard=none) (x y:Operand) (ho:op.op= .build 103 #[(0,x),(1,y)])
  (m n:Int) (hx:a.eval x= .int .i64 m) (hy:a.eval y= .int .i64 n) (T:Array Value) (hT:Tq m n=T)
  (h:wpList J3 ops Q rest (a.put op.dst (.agg T)) w):wpList J3 ops Q (op :: rest) a w:=
 wpList_plain hgd fun _ hK=>by
  subst hT;unfold Oper.wp execOp;simp only [ho,QR,List.map_toArray,List.map_cons,QV,hx,hy,TE,QT];exact hK _ _ h
theorem fC {ops:Array Oper} {rest:List Oper} {op:Oper} {a:Act} {w:World} {Q:Exit→Act→World→Prop} (hgd:op.guard=none) (x y:Operand) (ho:op.op= .store 103 x y)
  (g:Nat) (cells:Array Value) (hx:a.eval x= .pointer (some ⟨g,0,none⟩)) (hy:a.eval y= .agg cells) (old:Array Value) (hg:w.heap[g]? =some (.cells old 103 (0,0))) (hos:old.size=62) (hcs:cells.size=62) (h1:cells.all (·.oneCell')=true)
  (h:wpList J3 ops Q rest (a.put op.dst undef) (w.setRow g cells)):wpList J3 ops Q (op :: rest) a w:=
 wpList_store_row hgd 103 x y ho g cells hx hy 103 old hg (by rw [Dw,hcs]) (by rw [hos,hcs]) h1 h
theorem ma {tmps:Array Value} {w:World} {g:Nat} {t:TypeId} {cs:Array Value} {fr:Nat × Nat} {b:Bool} (hp:tmps.getD 2 undef= .pointer (some ⟨g,0,none⟩)) (hb:tmps.getD 3 undef= .bool b)
  (hg:w.heap[g]? =some (.cells cs t fr)) (hs:cs.size=62):(results Tryz.f99 tmps).run J3 w= .ok (.tuple #[.agg cs,.bool b]) w:=by
 rw [results_cell_tmp (Tryz.results99),hp,hb]
 have:=run_loadVar_row (P:=J3) w g t 103 cs fr _ hg Tryz.underlying103 rfl (by rw [Dw,hs])
 simp [asAddr,this]
theorem kz {B g:Nat} {w0 w:World} (hb:Below B w0 w) (hBg:B≤g) (cs:Array Value):Below B w0 (w.setRow g cs):=
 hb.trans ⟨rfl,rfl,rfl,by simp,fun k hk=>setRow_other w g k cs (by omega)⟩
theorem Up (major:Int) (g len cap:Nat) (w:World) (hl:len≤1048576) (h:major < 1∨1000 < major∨20 < len):
  Calls J3 99 #[.agg #[.int .i64 major,.slice (some ⟨g,0,none⟩) len cap]] w fun e w'=>e= .returned (.tuple #[.agg tx,.bool false])∧Below w.heap.size w w':=by
 obtain ⟨T,hT⟩: ∃ T,tx=T:=⟨_,rfl⟩
 have hs:T.size=62:=by rw [← hT]; exact ub
 have ho:T.all (·.oneCell')=true:=by rw [← hT]; exact Tn
 have HT:Hid (tx=T):=hT;clear hT;by_cases h1:major < 1
 ·go_enter Tryz.func99,Tryz.ntmps99
  go_wp2_with (first | (refine gq rfl rfl (w.heap.size+1) ?hN T HT.I ?_; (case hN=>(rw [RR]; done))) | (refine j3 rfl rfl T HT.I ?_) | (refine fC rfl (.tmp 2) (.tmp 22) rfl (w.heap.size+1) T (by rfl) (by rfl) T (by exact Kq _ _ _) hs hs ho ?_));refine KT (ma (cs:=T) (b:=false) (g:=w.heap.size+1) (t:=103) (fr:=(0,0)) rfl rfl ?_ hs) rfl ⟨by rw [HT.I],?_⟩
  ·exact KU _ _ T _ _ _ (Kq _ _ _)
  ·exact kz (by go_grown) (by omega) _
 by_cases h2:1000 < major
 ·go_enter Tryz.func99,Tryz.ntmps99
  go_wp2_with (first | (refine gq rfl rfl (w.heap.size+1) ?hN T HT.I ?_; (case hN=>(rw [RR]; done))) | (refine j3 rfl rfl T HT.I ?_) | (refine fC rfl (.tmp 2) (.tmp 22) rfl (w.heap.size+1) T (by rfl) (by rfl) T (by exact Kq _ _ _) hs hs ho ?_));refine KT (ma (cs:=T) (b:=false) (g:=w.heap.size+1) (t:=103) (fr:=(0,0)) rfl rfl ?_ hs) rfl ⟨by rw [HT.I],?_⟩
  ·exact KU _ _ T _ _ _ (Kq _ _ _)
  ·exact kz (by go_grown) (by omega) _
 have h3:20 < len:=by omega
 go_enter Tryz.func99,Tryz.ntmps99
 go_wp2_with (first | (refine gq rfl rfl (w.heap.size+1) ?hN T HT.I ?_; (case hN=>(rw [RR]; done))) | (refine j3 rfl rfl T HT.I ?_) | (refine fC rfl (.tmp 2) (.tmp 22) rfl (w.heap.size+1) T (by rfl) (by rfl) T (by exact Kq _ _ _) hs hs ho ?_));refine KT (ma (cs:=T) (b:=false) (g:=w.heap.size+1) (t:=103) (fr:=(0,0)) rfl rfl ?_ hs) rfl ⟨by rw [HT.I],?_⟩
 ·exact KU _ _ T _ _ _ (Kq _ _ _)
 ·exact kz (by go_grown) (by omega) _
def va (m:Int) (n:Nat) (Z:Nat→Int) (k:Nat) (j:Nat):Value:=
 if j=0 then .int .i64 m else if j=1 then .int .i64 n else if j - 2 < k * 3 then .int .i64 (Z (j - 2)) else .int .i64 0
theorem UE (w:World) (m:Int) (n:Nat) (Z:Nat→Int):(w.alloc (.cells (Tq m n) 103)).rowIs w.heap.size 103 62 (va m n Z 0):=by
 have h:=World.rowIs_alloc w (Tq m n) 103 (va m n Z 0) (fun i hi=>by
  rw [E3] at hi;unfold Tq va;by_cases e0:i=0
  ·subst e0; simp
  by_cases e1:i=1
  ·subst e1; simp
  rw [Array.getElem?_append_right (by simp; omega)]
  have:i - 2 < 60:=by omega
  simp [e0,e1,this])
 rwa [E3] at h
theorem Vi {wr:World} {g n k:Nat} {m:Int} {Z:Nat→Int} (h:wr.rowIs g 103 62 (va m n Z k)):
  (((wr.setCell ⟨g,2+k * 3,none⟩ (.int .i64 (Z (k * 3)))).setCell ⟨g,2+k * 3+1,none⟩ (.int .i64 (Z (k * 3+1)))).setCell ⟨g,2+k * 3+2,none⟩ (.int .i64 (Z (k * 3+2)))).rowIs g 103 62 (va m n Z (k+1)):=by
 refine (((h.set (2+k * 3) _).set (2+k * 3+1) _).set (2+k * 3+2) _).congr ?_;intro j _;unfold va;by_cases e2:j=2+k * 3+2
 ·subst e2; rw [if_pos rfl,if_neg (by omega),if_neg (by omega),if_pos (by omega),show 2+k * 3+2 - 2=k * 3+2 by omega]
 by_cases e1:j=2+k * 3+1
 ·subst e1; rw [if_neg (by omega),if_pos rfl,if_neg (by omega),if_neg (by omega),if_pos (by omega),show 2+k * 3+1 - 2=k * 3+1 by omega]
 by_cases e0:j=2+k * 3
 ·subst e0; rw [if_neg (by omega),if_neg (by omega),if_pos rfl,if_neg (by omega),if_neg (by omega),if_pos (by omega),show 2+k * 3 - 2=k * 3 by omega]
 rw [if_neg e2,if_neg e1,if_neg e0];by_cases j0:j=0
 ·rw [if_pos j0,if_pos j0]
 by_cases j1:j=1
 ·rw [if_neg j0,if_neg j0,if_pos j1,if_pos j1]
 rw [if_neg j0,if_neg j0,if_neg j1,if_neg j1];by_cases hj:j - 2 < k * 3
 ·rw [if_pos hj,if_pos (by omega)]
 ·rw [if_neg hj,if_neg (by omega)]
abbrev dN:=Int × Int × Int × ByteArray
theorem eW (n:Int) (w:World):Calls J3 231 #[.int .i64 n] w fun e w'=>e= .returned (.bool (cv n 1 1000))∧w'=w:=by
 by_cases h1:1≤n
 ·by_cases h2:n≤1000
  ·go_enter RF,Tryz.ntmps231
   go_wp2;go_ret;exact ⟨al (eB h1 h2).symm,rfl⟩
  ·go_enter RF,Tryz.ntmps231
   go_wp2;go_ret;exact ⟨al (kR (by omega)).symm,rfl⟩
 ·go_enter RF,Tryz.ntmps231
  go_wp2;go_ret;exact ⟨al (mA (by omega)).symm,rfl⟩
theorem iX (n:Int) (w:World):Calls J3 269 #[.int .i64 n] w fun e w'=>e= .returned (.bool (cv n (-1) 1000))∧w'=w:=by
 by_cases h1: -1≤n
 ·by_cases h2:n≤1000
  ·go_enter Tryz.func269,Tryz.ntmps269
   go_wp2;go_ret;exact ⟨al (eB h1 h2).symm,rfl⟩
  ·go_enter Tryz.func269,Tryz.ntmps269
   go_wp2;go_ret;exact ⟨al (kR (by omega)).symm,rfl⟩
 ·go_enter Tryz.func269,Tryz.ntmps269
  go_wp2;go_ret;exact ⟨al (mA (by omega)).symm,rfl⟩
/-! ### Which form an interface value bears. -/
theorem ze (v:Value) (w:World):(Instr.typeAssert (.iface 373 v) 359 373 true).run J3 w= .ok (.tuple #[v,.bool true]) w:=by kernel_rfl
theorem uC (v:Value) (w:World):(Instr.typeAssert (.iface 365 v) 359 373 true).run J3 w= .ok (.tuple #[.agg #[.int .i64 0],.bool false]) w:=by kernel_rfl
theorem sG (v:Value) (w:World):(Instr.typeAssert (.iface 365 v) 359 365 true).run J3 w= .ok (.tuple #[v,.bool true]) w:=by kernel_rfl
theorem zv (v:Value) (w:World):(Instr.typeAssert (.iface 367 v) 359 373 true).run J3 w= .ok (.tuple #[.agg #[.int .i64 0],.bool false]) w:=by kernel_rfl
theorem uY (v:Value) (w:World):(Instr.typeAssert (.iface 367 v) 359 365 true).run J3 w= .ok (.tuple #[.agg #[.int .i64 0,.int .i64 0],.bool false]) w:=by kernel_rfl
theorem y8 (v:Value) (w:World):(Instr.typeAssert (.iface 367 v) 359 367 true).run J3 w= .ok (.tuple #[v,.bool true]) w:=by kernel_rfl
theorem zt (v:Value) (w:World):(Instr.typeAssert (.iface 369 v) 359 373 true).run J3 w= .ok (.tuple #[.agg #[.int .i64 0],.bool false]) w:=by kernel_rfl
theorem vh (v:Value) (w:World):(Instr.typeAssert (.iface 369 v) 359 365 true).run J3 w= .ok (.tuple #[.agg #[.int .i64 0,.int .i64 0],.bool false]) w:=by kernel_rfl
theorem yQ (v:Value) (w:World):(Instr.typeAssert (.iface 369 v) 359 367 true).run J3 w= .ok (.tuple #[.agg #[.int .i64 0,.int .i64 0,.int .i64 0],.bool false]) w:=by kernel_rfl
theorem yj (v:Value) (w:World):(Instr.typeAssert (.iface 369 v) 359 369 true).run J3 w= .ok (.tuple #[v,.bool true]) w:=by kernel_rfl
theorem zq (v:Value) (w:World):(Instr.typeAssert (.iface 371 v) 359 373 true).run J3 w= .ok (.tuple #[.agg #[.int .i64 0],.bool false]) w:=by kernel_rfl
theorem vy (v:Value) (w:World):(Instr.typeAssert (.iface 371 v) 359 365 true).run J3 w= .ok (.tuple #[.agg #[.int .i64 0,.int .i64 0],.bool false]) w:=by kernel_rfl
theorem yt (v:Value) (w:World):(Instr.typeAssert (.iface 371 v) 359 367 true).run J3 w= .ok (.tuple #[.agg #[.int .i64 0,.int .i64 0,.int .i64 0],.bool false]) w:=by kernel_rfl
theorem yM (v:Value) (w:World):(Instr.typeAssert (.iface 371 v) 359 369 true).run J3 w= .ok (.tuple #[.agg #[.int .i64 0,.int .i64 0,.int .i64 0,.string ByteArray.empty],.bool false]) w:=by kernel_rfl
theorem yU (v:Value) (w:World):(Instr.typeAssert (.iface 371 v) 359 371 true).run J3 w= .ok (.tuple #[v,.bool true]) w:=by kernel_rfl
theorem my (k:Int) (w:World):
  Calls J3 268 #[.iface 373 (.agg #[.int .i64 k])] w fun e w'=>e= .returned (.bool (true))∧Below w.heap.size w w':=by
 have yW:=ze (.agg #[.int .i64 k])
 go_enter Tryz.func268,Tryz.ntmps268
 go_wp2_with (first | (go_at_call 231; refine (eW _ _).mono ?_; rintro e w' ⟨rfl,rfl⟩) | (go_at_call 269; refine (iX _ _).mono ?_; rintro e w' ⟨rfl,rfl⟩))
 all_goals go_ret
 all_goals exact ⟨al (by simp_all),by go_grown⟩
theorem mC (k n:Int) (w:World):
  Calls J3 268 #[.iface 365 (.agg #[.int .i64 k,.int .i64 n])] w fun e w'=>e= .returned (.bool (cv n 1 1000))∧Below w.heap.size w w':=by
 have yW:=uC (.agg #[.int .i64 k,.int .i64 n]);have ur:=sG (.agg #[.int .i64 k,.int .i64 n])
 go_enter Tryz.func268,Tryz.ntmps268
 go_wp2_with (first | (go_at_call 231; refine (eW _ _).mono ?_; rintro e w' ⟨rfl,rfl⟩) | (go_at_call 269; refine (iX _ _).mono ?_; rintro e w' ⟨rfl,rfl⟩))
 all_goals go_ret
 all_goals exact ⟨al (by simp_all),by go_grown⟩
theorem sH (k n m:Int) (w:World):
  Calls J3 268 #[.iface 367 (.agg #[.int .i64 k,.int .i64 n,.int .i64 m])] w fun e w'=>e= .returned (.bool (cv n 1 1000 && cv m (-1) 1000))∧Below w.heap.size w w':=by
 have yW:=zv (.agg #[.int .i64 k,.int .i64 n,.int .i64 m]);have ur:=uY (.agg #[.int .i64 k,.int .i64 n,.int .i64 m]);have GI:=y8 (.agg #[.int .i64 k,.int .i64 n,.int .i64 m])
 go_enter Tryz.func268,Tryz.ntmps268
 go_wp2_with (first | (go_at_call 231; refine (eW _ _).mono ?_; rintro e w' ⟨rfl,rfl⟩) | (go_at_call 269; refine (iX _ _).mono ?_; rintro e w' ⟨rfl,rfl⟩))
 all_goals go_ret
 all_goals exact ⟨al (by simp_all),by go_grown⟩
theorem Bc (k n m:Int) (s:ByteArray) (w:World) (hs:s.size≤1048576):
  Calls J3 268 #[.iface 369 (.agg #[.int .i64 k,.int .i64 n,.int .i64 m,.string s])] w fun e w'=>e= .returned (.bool (cv n 1 1000 && cv m (-1) 1000 && bw s))∧Below w.heap.size w w':=by
 have yW:=zt (.agg #[.int .i64 k,.int .i64 n,.int .i64 m,.string s]);have ur:=vh (.agg #[.int .i64 k,.int .i64 n,.int .i64 m,.string s]);have GI:=yQ (.agg #[.int .i64 k,.int .i64 n,.int .i64 m,.string s]);have h_send:=yj (.agg #[.int .i64 k,.int .i64 n,.int .i64 m,.string s])
 go_enter Tryz.func268,Tryz.ntmps268
 go_wp2_with (first | (go_at_call 231; refine (eW _ _).mono ?_; rintro e w' ⟨rfl,rfl⟩) | (go_at_call 269; refine (iX _ _).mono ?_; rintro e w' ⟨rfl,rfl⟩) | (go_at_call 257; refine (iM _ _ hs).mono ?_; rintro e w' ⟨rfl,rfl⟩))
 all_goals go_ret
 all_goals exact ⟨al (by simp_all),by go_grown⟩
theorem sL (k n:Int) (s:ByteArray) (w:World) (hs:s.size≤1048576):
  Calls J3 268 #[.iface 371 (.agg #[.int .i64 k,.int .i64 n,.string s])] w fun e w'=>e= .returned (.bool (cv n 1 1000 && bw s))∧Below w.heap.size w w':=by
 have yW:=zq (.agg #[.int .i64 k,.int .i64 n,.string s]);have ur:=vy (.agg #[.int .i64 k,.int .i64 n,.string s]);have GI:=yt (.agg #[.int .i64 k,.int .i64 n,.string s]);have h_send:=yM (.agg #[.int .i64 k,.int .i64 n,.string s]);have h_text:=yU (.agg #[.int .i64 k,.int .i64 n,.string s])
 go_enter Tryz.func268,Tryz.ntmps268
 go_wp2_with (first | (go_at_call 231; refine (eW _ _).mono ?_; rintro e w' ⟨rfl,rfl⟩) | (go_at_call 269; refine (iX _ _).mono ?_; rintro e w' ⟨rfl,rfl⟩) | (go_at_call 257; refine (iM _ _ hs).mono ?_; rintro e w' ⟨rfl,rfl⟩))
 all_goals go_ret
 all_goals exact ⟨al (by simp_all),by go_grown⟩
def P2 (m:Int) (n:Nat) (Z:Nat→Int) (cs:Array Value):Prop:=cs.size=62∧ ∀ j,j < 62→cs[j]? =some (va m n Z n j)
theorem U5 (m:Int) (n:Nat) (Z:Nat→Int) (k j:Nat):(va m n Z k j).oneCell'=true:=by
 unfold va
 repeat' split
 all_goals rfl
theorem P2.one {m:Int} {n:Nat} {Z:Nat→Int} {cs:Array Value} (h:P2 m n Z cs):cs.all (·.oneCell')=true:=by
 refine Array.all_eq_true_iff_forall_mem.2 fun v hv=> ?_
 obtain ⟨i,hi,rfl⟩:=Array.getElem_of_mem hv
 have:=h.2 i (by have:=h.1; omega)
 rw [Qb hi] at this;rw [KC this];exact U5 _ _ _ _ _
theorem VN (w:World) (A B C:Obj):(((w.alloc A).alloc B).alloc C).heap[w.heap.size+1+1]? =some C:=by
 have h:=heap_alloc_new ((w.alloc A).alloc B) C
 rwa [RR,RR] at h
theorem Vy (w:World) (A B:Obj) (c c':Array Value) (t:TypeId):(((w.alloc A).alloc B).alloc (.cells c t)).setRow (w.heap.size+1+1) c'=((w.alloc A).alloc B).alloc (.cells c' t):=by
 have h:=World.setRow_alloc_new ((w.alloc A).alloc B) c c' t
 rwa [RR,RR] at h
theorem T4 (major:Int) (g len cap:Nat) (Z:Nat→Int) (w:World) (h1:1≤major) (h2:major≤1000) (h3:len≤20) (hz: ∀ j,-9223372036854775808≤Z j∧Z j≤9223372036854775807) (hr:lT w g len Z):
  Calls J3 99 #[.agg #[.int .i64 major,.slice (some ⟨g,0,none⟩) len cap]] w fun e w'=>
   (((∀ i,i < len→pn major Z i=true)∧ ∃ cs,e= .returned (.tuple #[.agg cs,.bool true])∧P2 major len Z cs)∨(¬ (∀ i,i < len→pn major Z i=true)∧e= .returned (.tuple #[.agg tx,.bool false])))∧Below w.heap.size w w':=by
 have k1: ¬ major < 1:=by omega
 have k2: ¬ 1000 < major:=by omega
 have k3: ¬ (20:Int) < len:=by omega
 have hgl:=hr.lt;obtain ⟨T,hT⟩: ∃ T,tx=T:=⟨_,rfl⟩
 have hs:T.size=62:=by rw [← hT]; exact ub
 have ho:T.all (·.oneCell')=true:=by rw [← hT]; exact Tn
 have HT:Hid (tx=T):=hT;clear hT;obtain ⟨U,hU⟩: ∃ U,Tq major len=U:=⟨_,rfl⟩
 have hs':U.size=62:=by rw [← hU]; exact E3 _ _
 have ho':U.all (·.oneCell')=true:=by rw [← hU]; exact U3 _ _
 have HU:Hid (Tq major len=U):=hU;clear hU
 go_enter Tryz.func99,Tryz.ntmps99
 go_wp2_with (first | (refine gq rfl rfl (w.heap.size+1) ?hN T HT.I ?_; (case hN=>(rw [RR]; done))) | (refine gq rfl rfl (w.heap.size+1+1) ?hN T HT.I ?_; (case hN=>rw [RR,RR])) | (refine Sc rfl (.tmp 24) (.tmp 27) rfl major len (by rfl) (by rfl) U HU.I ?_) | (refine fC rfl (.tmp 4) (.tmp 28) rfl (w.heap.size+1+1) U (by rfl) (by rfl) T (by exact VN _ _ _ _) hs hs' ho' ?_; rw [Vy]));obtain ⟨W0,hW0⟩: ∃ W0,(((w.alloc (Obj.cells #[Value.int IntKind.i64 major,Value.slice (some ⟨g,0,none⟩) len cap] 33)).alloc (Obj.cells T 103)).alloc (Obj.cells U 103))=W0:=⟨_,rfl⟩
 have b0:W0.heap.size=w.heap.size+3:=by rw [← hW0]; simp
 have b1:Below w.heap.size w W0:=by rw [← hW0]; go_grown
 have b2:W0.rowIs (w.heap.size+1+1) 103 62 (va major len Z 0):=by rw [← hW0,← HU.I]; have:=UE ((w.alloc (Obj.cells #[Value.int IntKind.i64 major,Value.slice (some ⟨g,0,none⟩) len cap] 33)).alloc (Obj.cells T 103)) major len Z; rwa [RR,RR] at this
 have b3:W0.heap[w.heap.size+1]? =some (.cells T 103 (0,0)):=by rw [← hW0,PU (by simp),Kq]
 have b4:W0.heap[w.heap.size]? =some (.cells #[Value.int IntKind.i64 major,Value.slice (some ⟨g,0,none⟩) len cap] 33 (0,0)):=by rw [← hW0,PU (by simp; omega),heap_alloc2_old]
 rw [hW0];clear hW0
 go_loopw [5,32] (fun t i wr=> ∃ k:Nat,k≤len∧i= .int .i64 k∧t= .int .i64 (o7 Z k)∧(∀ i,i < k→pn major Z i=true)∧wr.rowIs (w.heap.size+1+1) 103 62 (va major len Z k)∧Below (w.heap.size+1+1) W0 wr) (fun _ i _=>len - (intOf i).toNat)
 case atStart=>exact ⟨0,Nat.zero_le _,rfl,rfl,fun i hi=>by omega,b2,Below.refl _ _⟩
 case round=>
  obtain ⟨k,hk,rfl,rfl,hall,UF,kj⟩:=hrel;have HA:Hid (∀ i,i < k→pn major Z i=true):=hall;have he:=A4 k hall;clear hall;obtain ⟨he0,he1⟩:=he;have he1:=he1 h1;have hsz:w.heap.size+1+1 < wr.heap.size:=by have:=kj.size; omega
  have hsz0:w.heap.size < wr.heap.size:=by omega
  have hsz1:w.heap.size+1 < wr.heap.size:=by omega
  have hB:Below w.heap.size w wr:=b1.trans (kj.mono (by omega));have r4:wr.heap[w.heap.size]? =some (.cells #[Value.int IntKind.i64 major,Value.slice (some ⟨g,0,none⟩) len cap] 33 (0,0)):=(kj.block _ (by omega)).trans b4;have r3:wr.heap[w.heap.size+1]? =some (.cells T 103 (0,0)):=(kj.block _ (by omega)).trans b3;have m0:wr.cell? ⟨w.heap.size,0,none⟩=some (.int .i64 major):=by simp [World.cell?,r4]
  have ei:Hid (wr.heap[w.heap.size+1]? =some (.cells T 103 (0,0))):=r3;clear r3 r4;have HTab:Hid (wr.rowIs (w.heap.size+1+1) 103 62 (va major len Z k)):=UF;clear UF;by_cases hlt:k < len
  ·have Vo:lT wr g len Z:=hr.of_block (hB.block g hgl)
   have c0:wr.cell? ⟨g,k * 3,none⟩=some (.int .i64 (Z (k * 3))):=Vo.cell (by omega);have c1:wr.cell? ⟨g,k * 3+1,none⟩=some (.int .i64 (Z (k * 3+1))):=Vo.cell (by omega);have c2:wr.cell? ⟨g,k * 3+2,none⟩=some (.int .i64 (Z (k * 3+2))):=Vo.cell (by omega);clear Vo;have q0:=hz (k * 3);have q0':=hz (k * 3+1);have HST:Hid (∀ wx:World,wx.rowIs (w.heap.size+1+1) 103 62 (va major len Z k)→(((wx.setCell ⟨w.heap.size+1+1,2+k * 3,none⟩ (.int .i64 (Z (k * 3)))).setCell ⟨w.heap.size+1+1,2+k * 3+1,none⟩ (.int .i64 (Z (k * 3+1)))).setCell ⟨w.heap.size+1+1,2+k * 3+2,none⟩ (.int .i64 (Z (k * 3+2)))).rowIs (w.heap.size+1+1) 103 62 (va major len Z (k+1))):=fun wx hx=>Vi hx
   have HE:Hid (o7 Z (k+1)=Z (k * 3)+Z (k * 3+1)):=rfl;have HW:Hid (pn major Z k=BX major (o7 Z k) (Z (k * 3)) (Z (k * 3+1)) (Z (k * 3+2))):=rfl;generalize Z (k * 3)=a at *;generalize Z (k * 3+1)=l at *;generalize Z (k * 3+2)=p at *;generalize o7 Z k=en at *;clear hz hr;cases TX:BX major en a l p with
   | false=>
    go_wp2_with (first | (go_at_call 145; refine (C2 _ _ _ _ _ _ he0 h1 h2).mono ?_; rintro e w1 ⟨rfl,hb1⟩; rw [TX]; have z1:=hb1.size; have R1:=(hb1.block (w.heap.size+1) (by simp; omega)).trans ((PU (by omega)).trans ei.I); simp only [RR] at z1) | (refine j3 rfl rfl T HT.I ?_) | (refine fC rfl (.tmp 2) (.tmp 43) rfl (w.heap.size+1) T (by rfl) (by rfl) T (by assumption) hs hs ho ?_));refine KT (ma (cs:=T) (b:=false) (g:=w.heap.size+1) (t:=103) (fr:=(0,0)) rfl rfl ?_ hs) rfl ⟨.inr ⟨fun hh=> ?_,by rw [HT.I]⟩,?_⟩
    ·exact KU _ _ T _ _ _ R1
    ·have:=hh k hlt; rw [HW.I,TX] at this; cases this
    ·exact kz ((hB.alloc (by omega) _).trans (hb1.mono (by simp; omega))) (by omega) _
   | true=>
    have hwo:=TO TX;go_wp2_with fail;refine (C2 _ _ _ _ _ _ he0 h1 h2).mono ?_;rintro e w1 ⟨rfl,hb1⟩;rw [TX];have z1:=hb1.size;have hr1:w1.rowIs (w.heap.size+1+1) 103 62 (va major len Z k):=(HTab.I.alloc _).of_block (hb1.block _ (by simp; omega));have d0:=hr1.cell (i:=2+k * 3) (by omega);have d1:=hr1.cell (i:=2+k * 3+1) (by omega);have d2:=hr1.cell (i:=2+k * 3+2) (by omega);have f0:=hr1.frozen (2+k * 3);have f1:=hr1.frozen (2+k * 3+1);have f2:=hr1.frozen (2+k * 3+2);have e0:w1.cell? ⟨wr.heap.size,0,none⟩=some (.int .i64 a):=(hb1.cell (p:=⟨wr.heap.size,0,none⟩) (by simp)).trans (by simp);have e1:w1.cell? ⟨wr.heap.size,1,none⟩=some (.int .i64 l):=(hb1.cell (p:=⟨wr.heap.size,1,none⟩) (by simp)).trans (by simp);have e2:w1.cell? ⟨wr.heap.size,2,none⟩=some (.int .i64 p):=(hb1.cell (p:=⟨wr.heap.size,2,none⟩) (by simp)).trans (by simp);simp only [RR] at z1;have pG:Hid (w1.rowIs (w.heap.size+1+1) 103 62 (va major len Z k)):=hr1;have fQ:Hid (Below w.heap.size w w1∧Below (w.heap.size+1+1) W0 w1):=⟨(hB.alloc (by omega) _).trans (hb1.mono (by simp; omega)),(kj.alloc (by omega) _).trans (hb1.mono (by simp; omega))⟩
    clear hr1 hb1 kj hB;go_wp2;go_roundw
    case rel=>
     refine ⟨k+1,by omega,by go_num,by rw [HE.I],?_,HST.I _ pG.I,((fQ.I.2.setCell (Ki _) _).setCell (Ki _) _).setCell (Ki _) _⟩;intro i hi;by_cases e:i=k
     ·subst e; rw [HW.I]; exact TX
     ·exact HA.I i (by omega)
    case measure=>simp [intOf]; omega
  ·have e:k=len:=by omega
   subst e;obtain ⟨cs,hcs,VD,hcc⟩:=HTab.I;have UF:P2 major k Z cs:=⟨VD,hcc⟩
   have hcc1:=UF.one;have HI:Hid (P2 major k Z cs):=UF;have HC:Hid (wr.heap[w.heap.size+1+1]? =some (.cells cs 103 (0,0))):=hcs;clear UF hcc hcs hlt hz hr;go_wp2_with (first | (refine wpList_load_row rfl 103 (.tmp 4) rfl (w.heap.size+1+1) (by rfl) 103 cs (0,0) _ HC.I Tryz.underlying103 rfl (by rw [Dw,VD]) ?_) | (refine fC rfl (.tmp 2) (.tmp 54) rfl (w.heap.size+1) cs (by rfl) (by rfl) T ei.I hs VD hcc1 ?_));refine KT (ma (cs:=cs) (b:=true) (g:=w.heap.size+1) (t:=103) (fr:=(0,0)) rfl rfl ?_ VD) rfl ⟨.inl ⟨HA.I,cs,rfl,HI.I⟩,?_⟩
   ·exact KU _ _ T _ _ _ ei.I
   ·exact kz hB (by omega) _
theorem TV (major:Int) (g len cap:Nat) (Z:Nat→Int) (w:World) (hl:len≤1048576) (hz: ∀ j,-9223372036854775808≤Z j∧Z j≤9223372036854775807) (hr:lT w g len Z):
  Calls J3 99 #[.agg #[.int .i64 major,.slice (some ⟨g,0,none⟩) len cap]] w fun e w'=>
   ((nn major len Z=true∧ ∃ cs,e= .returned (.tuple #[.agg cs,.bool true])∧P2 major len Z cs)∨(nn major len Z=false∧e= .returned (.tuple #[.agg tx,.bool false])))∧Below w.heap.size w w':=by
 by_cases h:major < 1∨1000 < major∨20 < len
 ·refine (Up major g len cap w hl h).mono ?_
  rintro e w' ⟨rfl,hb⟩;exact ⟨.inr ⟨mm (by omega),rfl⟩,hb⟩
 ·refine (T4 major g len cap Z w (by omega) (by omega) (by omega) hz hr).mono ?_
  rintro e w' ⟨⟨ha,cs,rfl,hc⟩ | ⟨ha,rfl⟩,hb⟩
  ·exact ⟨.inl ⟨PE ⟨by omega,by omega,by omega,ha⟩,cs,rfl,hc⟩,hb⟩
  ·exact ⟨.inr ⟨mm (fun hh=>ha hh.2.2.2),rfl⟩,hb⟩
def Row (w:World) (a:Option Addr) (xs:List Value):Prop:= ∀ (j:Nat) (u:Value),xs[j]? =some u→ ∃ g,a=some ⟨g,0,none⟩∧w.cell? ⟨g,j,none⟩=some u
section
variable {w w':World} {a:Option Addr} {xs:List Value}
theorem Row.nothing (w:World) (a:Option Addr):Row w a [] :=fun j u h=>by simp at h
theorem Row.same (h:Row w a xs) (hs: ∀ g,a=some ⟨g,0,none⟩→w'.heap[g]? =w.heap[g]?):Row w' a xs:=fun j u hu=>by
 obtain ⟨g,e,hc⟩:=h j u hu;exact ⟨g,e,(J1 (w:=w) (a:=⟨g,j,none⟩) (hs g e)).trans hc⟩
theorem Row.below (h:Row w a xs) (hb:Below w.heap.size w w'):Row w' a xs:=fun j u hu=>by
 obtain ⟨g,e,hc⟩:=h j u hu;exact ⟨g,e,(hb.cell (p:=⟨g,j,none⟩) (Le hc)).trans hc⟩
theorem Row.low {base:Nat} (h:Row w a xs) (ha: ∀ q,a=some q→q.block < base) (hb:Below base w w'):Row w' a xs:=h.same fun g e=>hb.block g (ha _ e)
theorem Row.drew (h:Row w a xs):Row w.drew a xs:=h
end
def Src (w:World) (a:Option Addr) (xs:List Value):Prop:= ∀ (j:Nat) (u:Value),xs[j]? =some u→ ∃ b off,a=some ⟨b,off,none⟩∧w.cell? ⟨b,off+j,none⟩=some u
theorem Src.below {w w':World} {a:Option Addr} {xs:List Value} (h:Src w a xs) (hb:Below w.heap.size w w'):Src w' a xs:=fun j u hu=>by
 obtain ⟨b,off,e,hc⟩:=h j u hu;exact ⟨b,off,e,(hb.cell (p:=⟨b,off+j,none⟩) (Le hc)).trans hc⟩
structure Kind (α:Type) where
 n:Nat
 vals:α→List Value
 kids:α→List (Option Addr × List Value)
 pos:0 < n
 len: ∀ x,(vals x).length=n
section
variable {α:Type} (K:Kind α)
def Kind.flat (l:List α):List Value:=l.flatMap K.vals
theorem Kind.dM (l:List α):(K.flat l).length=l.length * K.n:=by
 induction l with
 | nil=>simp [Kind.flat]
 | cons x r ih=>
  show (K.vals x ++ K.flat r).length=_
  rw [List.length_append,ih,K.len,List.length_cons,Lh];omega
theorem Kind.jw {l:List α} {i:Nat} {x:α} (hx:l[i]? =some x) {j:Nat} (hj:j < K.n):(K.flat l)[i * K.n+j]? =(K.vals x)[j]? :=by
 induction l generalizing i with
 | nil=>simp at hx
 | cons y r ih=>
  show (K.vals y ++ K.flat r)[_]? =_
  cases i with
  | zero=>
   simp at hx;subst hx;rw [Nat.zero_mul,Nat.zero_add,List.getElem?_append_left (by rw [K.len]; exact hj)]
  | succ i=>
   have hx':r[i]? =some x:=by simpa using hx
   rw [List.getElem?_append_right (by rw [K.len,Lh]; omega),K.len,show (i+1) * K.n+j - K.n=i * K.n+j by rw [Lh]; omega];exact ih hx'
theorem Kind.dc (l r:List α):K.flat (l ++ r)=K.flat l ++ K.flat r:=List.flatMap_append
theorem Kind.GJ (x:α):K.flat [x] =K.vals x:=by simp [Kind.flat]
def Kind.bU (w:World) (a:Option Addr) (l:List α):Prop:=Row w a (K.flat l)∧ ∀ x∈l,∀ r∈K.kids x,Row w r.1 r.2
variable {K}
theorem Kind.bU.at {w:World} {a:Option Addr} {l:List α} (h:K.bU w a l) {i:Nat} {x:α} (hx:l[i]? =some x):
  ∃ g,a=some ⟨g,0,none⟩∧ ∀ (j:Nat) (u:Value),(K.vals x)[j]? =some u→w.cell? ⟨g,i * K.n+j,none⟩=some u:=by
 have h0: ∃ u,(K.vals x)[0]? =some u:=⟨_,Kz (by rw [K.len]; exact K.pos)⟩
 obtain ⟨u0,hu0⟩:=h0;obtain ⟨g,e,_⟩:=h.1 (i * K.n+0) u0 ((K.jw hx K.pos).trans hu0);refine ⟨g,e,fun j u hu=> ?_⟩;have hj:j < K.n:=by
  rw [← K.len x];exact (Lj.1 hu).1
 obtain ⟨g',e',hc⟩:=h.1 (i * K.n+j) u ((K.jw hx hj).trans hu);rw [e] at e';cases e';exact hc
theorem Kind.bU.bt {w:World} {a:Option Addr} {l:List α} (h:K.bU w a l) {i:Nat} {x:α} (hx:l[i]? =some x) {r:Option Addr × List Value} (hr:r∈K.kids x):Row w r.1 r.2:=h.2 x (KA hx) r hr
variable (K) in
def Kind.ep (w:World) (a:Option Addr) (l:List α):Prop:=Src w a (K.flat l)∧ ∀ x∈l,∀ r∈K.kids x,Src w r.1 r.2
theorem Kind.ep.at {w:World} {a:Option Addr} {l:List α} (h:K.ep w a l) {i:Nat} {x:α} (hx:l[i]? =some x):
  ∃ b off,a=some ⟨b,off,none⟩∧ ∀ (j:Nat) (u:Value),(K.vals x)[j]? =some u→w.cell? ⟨b,off+i * K.n+j,none⟩=some u:=by
 have h0: ∃ u,(K.vals x)[0]? =some u:=⟨_,Kz (by rw [K.len]; exact K.pos)⟩
 obtain ⟨u0,hu0⟩:=h0;obtain ⟨b,off,e,_⟩:=h.1 (i * K.n+0) u0 ((K.jw hx K.pos).trans hu0);refine ⟨b,off,e,fun j u hu=> ?_⟩;have hj:j < K.n:=by
  rw [← K.len x];exact (Lj.1 hu).1
 obtain ⟨b',off',e',hc⟩:=h.1 (i * K.n+j) u ((K.jw hx hj).trans hu);rw [e] at e';cases e';rw [Nat.add_assoc];exact hc
theorem Kind.ep.bt {w:World} {a:Option Addr} {l:List α} (h:K.ep w a l) {i:Nat} {x:α} (hx:l[i]? =some x) {r:Option Addr × List Value} (hr:r∈K.kids x):Src w r.1 r.2:=h.2 x (KA hx) r hr
theorem Kind.ep.below {w w':World} {a:Option Addr} {l:List α} (h:K.ep w a l) (hb:Below w.heap.size w w'):K.ep w' a l:=⟨h.1.below hb,fun x hx r hr=>(h.2 x hx r hr).below hb⟩
theorem Kind.bU.below {w w':World} {a:Option Addr} {l:List α} (h:K.bU w a l) (hb:Below w.heap.size w w'):K.bU w' a l:=⟨h.1.below hb,fun x hx r hr=>(h.2 x hx r hr).below hb⟩
end
def CC (o:dN):List Value:= [.int .i64 o.1,.int .i64 o.2.1,.int .i64 o.2.2.1,.string o.2.2.2]
def fk:Kind dN:=⟨4,CC,fun _=> [],by decide,fun _=>rfl⟩
def bT:Kind ByteArray:=⟨1,fun s=> [.string s],fun _=> [],by decide,fun _=>rfl⟩
def iG (w:World) (g len:Nat) (K N M:Nat→Int) (S:Nat→ByteArray):Prop:=g < w.heap.size∧ ∀ j,j < len * 4→w.cell? ⟨g,j,none⟩=some (xe K N M S j)
theorem iG.of_block {w w':World} {g len:Nat} {K N M:Nat→Int} {S:Nat→ByteArray} (h:iG w g len K N M S) (e:w'.heap[g]? =w.heap[g]?):iG w' g len K N M S:=by
 refine ⟨?_,fun j hj=>(J1 (w:=w) e).trans (h.2 j hj)⟩;have h1:=h.1;rw [Qb h1] at e;exact (Array.getElem?_eq_some_iff.1 e).1
theorem iG.below {w w':World} {g len:Nat} {K N M:Nat→Int} {S:Nat→ByteArray} (h:iG w g len K N M S) (hb:Below w.heap.size w w'):iG w' g len K N M S:=h.of_block (hb.block g h.1)
theorem iG.c0 {w:World} {g len:Nat} {K N M:Nat→Int} {S:Nat→ByteArray} (h:iG w g len K N M S) {i:Nat} (hi:i < len):w.cell? ⟨g,i * 4,none⟩=some (.int .i64 (K i)):=by rw [← opV_0 K N M S]; exact h.2 _ (by omega)
theorem iG.c1 {w:World} {g len:Nat} {K N M:Nat→Int} {S:Nat→ByteArray} (h:iG w g len K N M S) {i:Nat} (hi:i < len):w.cell? ⟨g,i * 4+1,none⟩=some (.int .i64 (N i)):=by rw [← opV_1 K N M S]; exact h.2 _ (by omega)
theorem iG.c2 {w:World} {g len:Nat} {K N M:Nat→Int} {S:Nat→ByteArray} (h:iG w g len K N M S) {i:Nat} (hi:i < len):w.cell? ⟨g,i * 4+2,none⟩=some (.int .i64 (M i)):=by rw [← opV_2 K N M S]; exact h.2 _ (by omega)
theorem iG.c3 {w:World} {g len:Nat} {K N M:Nat→Int} {S:Nat→ByteArray} (h:iG w g len K N M S) {i:Nat} (hi:i < len):w.cell? ⟨g,i * 4+3,none⟩=some (.string (S i)):=by rw [← opV_3 K N M S]; exact h.2 _ (by omega)
def j8 (K N M:Nat→Int) (S:Nat→ByteArray) (i:Nat):Bool:=mQ (K i) (N i) (M i) (S i)
def nq (len:Nat) (K N M:Nat→Int) (S:Nat→ByteArray):Bool:=decide (1≤len∧len≤20∧ ∀ i,i < len→j8 K N M S i=true)
theorem vM {len:Nat} {K N M:Nat→Int} {S:Nat→ByteArray} (h:1≤len∧len≤20∧ ∀ i,i < len→j8 K N M S i=true):nq len K N M S=true:=by simp only [nq]; exact decide_eq_true h
theorem iS {len:Nat} {K N M:Nat→Int} {S:Nat→ByteArray} (h: ¬ (1≤len∧len≤20∧ ∀ i,i < len→j8 K N M S i=true)):nq len K N M S=false:=by simp only [nq]; exact decide_eq_false h
end
section
open Go.RowKit
attribute [local go_sem ↓] Go.wp_at_zero Go.wp_at_succ
theorem pu (k:Int) (w:World):Calls J3 294 #[.agg #[.int .i64 k]] w fun e w'=>e= .returned (.agg #[.int .i64 k,.int .i64 0,.int .i64 0,.string ByteArray.empty])∧Below w.heap.size w w':=by
 go_enter Tryz.func294,Tryz.ntmps294
 go_wp2;exact KT (v:= .agg #[.int .i64 k,.int .i64 0,.int .i64 0,.string ByteArray.empty]) (by simp [results,Tryz.results294,go_sem]; try rfl) rfl ⟨rfl,by go_grown⟩
theorem oJ (k n:Int) (w:World):Calls J3 290 #[.agg #[.int .i64 k,.int .i64 n]] w fun e w'=>e= .returned (.agg #[.int .i64 k,.int .i64 n,.int .i64 0,.string ByteArray.empty])∧Below w.heap.size w w':=by
 go_enter Tryz.func290,Tryz.ntmps290
 go_wp2;exact KT (v:= .agg #[.int .i64 k,.int .i64 n,.int .i64 0,.string ByteArray.empty]) (by simp [results,Tryz.results290,go_sem]; try rfl) rfl ⟨rfl,by go_grown⟩
theorem xk (k n m:Int) (w:World):Calls J3 291 #[.agg #[.int .i64 k,.int .i64 n,.int .i64 m]] w fun e w'=>e= .returned (.agg #[.int .i64 k,.int .i64 n,.int .i64 m,.string ByteArray.empty])∧Below w.heap.size w w':=by
 go_enter Tryz.func291,Tryz.ntmps291
 go_wp2;exact KT (v:= .agg #[.int .i64 k,.int .i64 n,.int .i64 m,.string ByteArray.empty]) (by simp [results,Tryz.results291,go_sem]; try rfl) rfl ⟨rfl,by go_grown⟩
theorem Fc (k n m:Int) (s:ByteArray) (w:World):Calls J3 292 #[.agg #[.int .i64 k,.int .i64 n,.int .i64 m,.string s]] w fun e w'=>e= .returned (.agg #[.int .i64 k,.int .i64 n,.int .i64 m,.string s])∧Below w.heap.size w w':=by
 go_enter Tryz.func292,Tryz.ntmps292
 go_wp2;exact KT (v:= .agg #[.int .i64 k,.int .i64 n,.int .i64 m,.string s]) (by simp [results,Tryz.results292,go_sem]; try rfl) rfl ⟨rfl,by go_grown⟩
theorem xS (k n:Int) (s:ByteArray) (w:World):Calls J3 293 #[.agg #[.int .i64 k,.int .i64 n,.string s]] w fun e w'=>e= .returned (.agg #[.int .i64 k,.int .i64 n,.int .i64 0,.string s])∧Below w.heap.size w w':=by
 go_enter Tryz.func293,Tryz.ntmps293
 go_wp2;exact KT (v:= .agg #[.int .i64 k,.int .i64 n,.int .i64 0,.string s]) (by simp [results,Tryz.results293,go_sem]; try rfl) rfl ⟨rfl,by go_grown⟩
theorem DB (k n m:Int) (s:ByteArray) (w:World) (hk:pJ k):
  Calls J3 267 #[.agg #[.int .i64 k,.int .i64 n,.int .i64 m,.string s]] w fun e w'=>e= .returned (.tuple #[.iface 365 (.agg #[.int .i64 k,.int .i64 n]),.bool true])∧Below w.heap.size w w':=by
 rcases hk with rfl | rfl | rfl | rfl | rfl | rfl | rfl | rfl | rfl
 all_goals
  go_enter Tryz.func267,Tryz.ntmps267
  go_wp2;go_ret2;exact ⟨rfl,by go_grown⟩
theorem AC (k n m:Int) (s:ByteArray) (w:World) (hk:mF k):
  Calls J3 267 #[.agg #[.int .i64 k,.int .i64 n,.int .i64 m,.string s]] w fun e w'=>e= .returned (.tuple #[.iface 367 (.agg #[.int .i64 k,.int .i64 n,.int .i64 m]),.bool true])∧Below w.heap.size w w':=by
 rcases hk with rfl | rfl | rfl | rfl
 all_goals
  go_enter Tryz.func267,Tryz.ntmps267
  go_wp2;go_ret2;exact ⟨rfl,by go_grown⟩
theorem AE (k n m:Int) (s:ByteArray) (w:World) (hk:k=8):
  Calls J3 267 #[.agg #[.int .i64 k,.int .i64 n,.int .i64 m,.string s]] w fun e w'=>e= .returned (.tuple #[.iface 369 (.agg #[.int .i64 k,.int .i64 n,.int .i64 m,.string s]),.bool true])∧Below w.heap.size w w':=by
 rcases hk with rfl
 all_goals
  go_enter Tryz.func267,Tryz.ntmps267
  go_wp2;go_ret2;exact ⟨rfl,by go_grown⟩
theorem BJ (k n m:Int) (s:ByteArray) (w:World) (hk:isText k):
  Calls J3 267 #[.agg #[.int .i64 k,.int .i64 n,.int .i64 m,.string s]] w fun e w'=>e= .returned (.tuple #[.iface 371 (.agg #[.int .i64 k,.int .i64 n,.string s]),.bool true])∧Below w.heap.size w w':=by
 rcases hk with rfl | rfl
 all_goals
  go_enter Tryz.func267,Tryz.ntmps267
  go_wp2;go_ret2;exact ⟨rfl,by go_grown⟩
theorem Ag (k n m:Int) (s:ByteArray) (w:World) (hk:k=17):
  Calls J3 267 #[.agg #[.int .i64 k,.int .i64 n,.int .i64 m,.string s]] w fun e w'=>e= .returned (.tuple #[.iface 373 (.agg #[.int .i64 k]),.bool true])∧Below w.heap.size w w':=by
 rcases hk with rfl
 all_goals
  go_enter Tryz.func267,Tryz.ntmps267
  go_wp2;go_ret2;exact ⟨rfl,by go_grown⟩
theorem BR (k n m:Int) (s:ByteArray) (w:World) (hk: ¬ (1≤k∧k≤17)):
  Calls J3 267 #[.agg #[.int .i64 k,.int .i64 n,.int .i64 m,.string s]] w fun e w'=>e= .returned (.tuple #[.iface 373 (.agg #[.int .i64 0]),.bool false])∧Below w.heap.size w w':=by
 have e1:(k == 1)=false:=by simp; omega
 have e2:(k == 2)=false:=by simp; omega
 have e3:(k == 3)=false:=by simp; omega
 have e4:(k == 4)=false:=by simp; omega
 have e5:(k == 5)=false:=by simp; omega
 have e6:(k == 6)=false:=by simp; omega
 have e7:(k == 7)=false:=by simp; omega
 have e8:(k == 8)=false:=by simp; omega
 have e9:(k == 9)=false:=by simp; omega
 have Pn:(k == 10)=false:=by simp; omega
 have e11:(k == 11)=false:=by simp; omega
 have PF:(k == 12)=false:=by simp; omega
 have PG:(k == 13)=false:=by simp; omega
 have e14:(k == 14)=false:=by simp; omega
 have e15:(k == 15)=false:=by simp; omega
 have e16:(k == 16)=false:=by simp; omega
 have PH:(k == 17)=false:=by simp; omega
 go_enter Tryz.func267,Tryz.ntmps267
 go_wp2;go_ret2;exact ⟨rfl,by go_grown⟩
end
section
open Go.RowKit
def Tg:Array Value:=Array.replicate 63 (.int .i64 0) ++ #[.map none,.slice none 0 0]
def B3 (now:Int) (tab:Array Value) (b:Nat) (a:Option Addr) (n cap:Nat) (j:Nat):Value:=
 if j=0 then .int .i64 now else if j=64 then .slice a n cap else if j=63 then .map (some b) else (tab[j - 1]?).getD undef
theorem UV (parts:List (Nat × Value)):Tryz.prog.built 107 parts=Instr.fill (#[(0,1),(1,62),(63,1),(64,1)][·]?) Tg parts:=by kernel_rfl
theorem To {place:Nat→Option (Nat × Nat)} {cells:Array Value} {i off size:Nat} {v:Value} {rest:List (Nat × Value)} (hp:place i=some (off,size)) (h1:v.cells.size=size) (h2:off+v.cells.size≤cells.size):
  Instr.fill place cells ((i,v) :: rest)=Instr.fill place (v.cells.zipIdx.foldl (fun cs (x:Value × Nat)=>cs.setIfInBounds (off+x.2) x.1) cells) rest:=by
 rw [Instr.fill,hp];simp only;rw [if_neg (by simp [h1]; omega)]
theorem UH (m:Int) (T:Array Value) (b:Nat) (hT:T.size=62): ∃ cs,Tryz.prog.built 107 [(0,.int .i64 m),(1,.agg T),(2,.map (some b))] =some cs∧cs.size=65∧ ∀ j,j < 65→cs[j]? =some (B3 m T b none 0 0 j):=by
 obtain ⟨h1,h2⟩:=Go.Great.foldl_set 1 T.toList 0 (Tg.setIfInBounds 0 (.int .i64 m));have hz:Tg.size=65:=by simp [Tg]
 have e:T.zipIdx.foldl (fun cs (x:Value × Nat)=>cs.setIfInBounds (1+x.2) x.1) (Tg.setIfInBounds 0 (.int .i64 m))=(T.toList.zipIdx 0).foldl (fun cs (x:Value × Nat)=>cs.setIfInBounds (1+x.2) x.1) (Tg.setIfInBounds 0 (.int .i64 m)):=by
  rw [← Array.foldl_toList];simp
 refine ⟨((T.toList.zipIdx 0).foldl (fun cs (x:Value × Nat)=>cs.setIfInBounds (1+x.2) x.1) (Tg.setIfInBounds 0 (.int .i64 m))).setIfInBounds 63 (.map (some b)),?_,?_,?_⟩
 ·rw [UV]
  have hzs:(Tg.setIfInBounds 0 (.int .i64 m)).size=65:=by rw [Array.size_setIfInBounds,hz]
  rw [To (off:=0) (size:=1) (v:= .int .i64 m) rfl rfl (by rw [hz]; show 0+1≤65; decide)]
  show Instr.fill _ (Tg.setIfInBounds 0 (.int .i64 m)) _=_
  rw [To (off:=1) (size:=62) (v:= .agg T) rfl hT (by rw [hzs]; show 1+T.size≤65; omega)]
  show Instr.fill _ (T.zipIdx.foldl (fun cs (x:Value × Nat)=>cs.setIfInBounds (1+x.2) x.1) (Tg.setIfInBounds 0 (.int .i64 m))) _=_
  rw [e,To (off:=63) (size:=1) (v:= .map (some b)) rfl rfl (by rw [h1,hzs]; show 63+1≤65; decide)];rfl
 ·rw [Array.size_setIfInBounds,h1,Array.size_setIfInBounds,hz]
 ·intro j hj
  rw [Array.getElem?_setIfInBounds,h1,Array.size_setIfInBounds,hz];by_cases h63:63=j
  ·subst h63; simp [B3]
  rw [if_neg h63,h2 j,Array.size_setIfInBounds,hz,Array.length_toList,hT,Array.getElem?_setIfInBounds];by_cases h0:j=0
  ·subst h0; simp [B3,hz]
  by_cases h64:j=64
  ·subst h64; simp [B3,Tg]
  rw [if_pos (by omega)];have hl:j - (1+0) < T.toList.length:=by rw [Array.length_toList]; omega
  rw [Kz hl];unfold B3;rw [if_neg h0,if_neg h64,if_neg (Ne.symm h63)];rw [Qb (by omega)];simp
end
end Go.Proofs.YteidkehoekbcaaaGreat
