/- What the proof leans on, part 3. -/
import Derived.Test.YtkbcplnlehdjfaaGreatOwnP2
set_option maxRecDepth 100000
set_option maxHeartbeats 8000000
open Bool renaming and_eq_true->J7
open Go.Proofs.Tryz renaming func291->Ru,ntmps291->Rv,prog->J3

namespace Go.Proofs.YtkbcplnlehdjfaaGreat
open Go.RowKit
abbrev dN:=Int × Int × Int × ByteArray
def kc (o:dN):Bool:=mQ o.1 o.2.1 o.2.2.1 o.2.2.2
end Go.Proofs.YtkbcplnlehdjfaaGreat

namespace Go.Proofs.YtkbcplnlehdjfaaGreat
open Go.RowKit
theorem eW (n:Int) (w:World):Calls J3 164 #[.int .i64 n] w fun e w'=>e= .returned (.bool (cv n 1 1000))∧w'=w:=by
 by_cases h1:1≤n
 ·by_cases h2:n≤1000
  ·go_enter Tryz.func164,Tryz.ntmps164
   go_wp2;go_ret;exact ⟨al (eB h1 h2).symm,rfl⟩
  ·go_enter Tryz.func164,Tryz.ntmps164
   go_wp2;go_ret;exact ⟨al (kR (by omega)).symm,rfl⟩
 ·go_enter Tryz.func164,Tryz.ntmps164
  go_wp2;go_ret;exact ⟨al (mA (by omega)).symm,rfl⟩
theorem iX (n:Int) (w:World):Calls J3 292 #[.int .i64 n] w fun e w'=>e= .returned (.bool (cv n (-1) 1000))∧w'=w:=by
 by_cases h1: -1≤n
 ·by_cases h2:n≤1000
  ·go_enter Tryz.func292,Tryz.ntmps292
   go_wp2;go_ret;exact ⟨al (eB h1 h2).symm,rfl⟩
  ·go_enter Tryz.func292,Tryz.ntmps292
   go_wp2;go_ret;exact ⟨al (kR (by omega)).symm,rfl⟩
 ·go_enter Tryz.func292,Tryz.ntmps292
  go_wp2;go_ret;exact ⟨al (mA (by omega)).symm,rfl⟩
/-! ### Which form an interface value bears. -/
theorem ze (v:Value) (w:World):(Instr.typeAssert (.iface 338 v) 325 338 true).run J3 w= .ok (.tuple #[v,.bool true]) w:=by kernel_rfl
theorem uC (v:Value) (w:World):(Instr.typeAssert (.iface 330 v) 325 338 true).run J3 w= .ok (.tuple #[.agg #[.int .i64 0],.bool false]) w:=by kernel_rfl
theorem sG (v:Value) (w:World):(Instr.typeAssert (.iface 330 v) 325 330 true).run J3 w= .ok (.tuple #[v,.bool true]) w:=by kernel_rfl
theorem zv (v:Value) (w:World):(Instr.typeAssert (.iface 332 v) 325 338 true).run J3 w= .ok (.tuple #[.agg #[.int .i64 0],.bool false]) w:=by kernel_rfl
theorem uY (v:Value) (w:World):(Instr.typeAssert (.iface 332 v) 325 330 true).run J3 w= .ok (.tuple #[.agg #[.int .i64 0,.int .i64 0],.bool false]) w:=by kernel_rfl
theorem y8 (v:Value) (w:World):(Instr.typeAssert (.iface 332 v) 325 332 true).run J3 w= .ok (.tuple #[v,.bool true]) w:=by kernel_rfl
theorem zt (v:Value) (w:World):(Instr.typeAssert (.iface 334 v) 325 338 true).run J3 w= .ok (.tuple #[.agg #[.int .i64 0],.bool false]) w:=by kernel_rfl
theorem vh (v:Value) (w:World):(Instr.typeAssert (.iface 334 v) 325 330 true).run J3 w= .ok (.tuple #[.agg #[.int .i64 0,.int .i64 0],.bool false]) w:=by kernel_rfl
theorem yQ (v:Value) (w:World):(Instr.typeAssert (.iface 334 v) 325 332 true).run J3 w= .ok (.tuple #[.agg #[.int .i64 0,.int .i64 0,.int .i64 0],.bool false]) w:=by kernel_rfl
theorem yj (v:Value) (w:World):(Instr.typeAssert (.iface 334 v) 325 334 true).run J3 w= .ok (.tuple #[v,.bool true]) w:=by kernel_rfl
theorem zq (v:Value) (w:World):(Instr.typeAssert (.iface 336 v) 325 338 true).run J3 w= .ok (.tuple #[.agg #[.int .i64 0],.bool false]) w:=by kernel_rfl
theorem vy (v:Value) (w:World):(Instr.typeAssert (.iface 336 v) 325 330 true).run J3 w= .ok (.tuple #[.agg #[.int .i64 0,.int .i64 0],.bool false]) w:=by kernel_rfl
theorem yt (v:Value) (w:World):(Instr.typeAssert (.iface 336 v) 325 332 true).run J3 w= .ok (.tuple #[.agg #[.int .i64 0,.int .i64 0,.int .i64 0],.bool false]) w:=by kernel_rfl
theorem yM (v:Value) (w:World):(Instr.typeAssert (.iface 336 v) 325 334 true).run J3 w= .ok (.tuple #[.agg #[.int .i64 0,.int .i64 0,.int .i64 0,.string ByteArray.empty],.bool false]) w:=by kernel_rfl
theorem yU (v:Value) (w:World):(Instr.typeAssert (.iface 336 v) 325 336 true).run J3 w= .ok (.tuple #[v,.bool true]) w:=by kernel_rfl
theorem my (k:Int) (w:World):
  Calls J3 291 #[.iface 338 (.agg #[.int .i64 k])] w fun e w'=>e= .returned (.bool (true))∧Below w.heap.size w w':=by
 have yW:=ze (.agg #[.int .i64 k])
 go_enter Ru,Rv
 go_wp2_with (first | (go_at_call 164; refine (eW _ _).mono ?_; rintro e w' ⟨rfl,rfl⟩) | (go_at_call 292; refine (iX _ _).mono ?_; rintro e w' ⟨rfl,rfl⟩))
 all_goals go_ret
 all_goals exact ⟨al (by simp_all),by go_grown⟩
theorem mC (k n:Int) (w:World):
  Calls J3 291 #[.iface 330 (.agg #[.int .i64 k,.int .i64 n])] w fun e w'=>e= .returned (.bool (cv n 1 1000))∧Below w.heap.size w w':=by
 have yW:=uC (.agg #[.int .i64 k,.int .i64 n]);have ur:=sG (.agg #[.int .i64 k,.int .i64 n])
 go_enter Ru,Rv
 go_wp2_with (first | (go_at_call 164; refine (eW _ _).mono ?_; rintro e w' ⟨rfl,rfl⟩) | (go_at_call 292; refine (iX _ _).mono ?_; rintro e w' ⟨rfl,rfl⟩))
 all_goals go_ret
 all_goals exact ⟨al (by simp_all),by go_grown⟩
theorem sH (k n m:Int) (w:World):
  Calls J3 291 #[.iface 332 (.agg #[.int .i64 k,.int .i64 n,.int .i64 m])] w fun e w'=>e= .returned (.bool (cv n 1 1000 && cv m (-1) 1000))∧Below w.heap.size w w':=by
 have yW:=zv (.agg #[.int .i64 k,.int .i64 n,.int .i64 m]);have ur:=uY (.agg #[.int .i64 k,.int .i64 n,.int .i64 m]);have GI:=y8 (.agg #[.int .i64 k,.int .i64 n,.int .i64 m])
 go_enter Ru,Rv
 go_wp2_with (first | (go_at_call 164; refine (eW _ _).mono ?_; rintro e w' ⟨rfl,rfl⟩) | (go_at_call 292; refine (iX _ _).mono ?_; rintro e w' ⟨rfl,rfl⟩))
 all_goals go_ret
 all_goals exact ⟨al (by simp_all),by go_grown⟩
theorem Bc (k n m:Int) (s:ByteArray) (w:World) (hs:s.size≤1048576):
  Calls J3 291 #[.iface 334 (.agg #[.int .i64 k,.int .i64 n,.int .i64 m,.string s])] w fun e w'=>e= .returned (.bool (cv n 1 1000 && cv m (-1) 1000 && bw s))∧Below w.heap.size w w':=by
 have yW:=zt (.agg #[.int .i64 k,.int .i64 n,.int .i64 m,.string s]);have ur:=vh (.agg #[.int .i64 k,.int .i64 n,.int .i64 m,.string s]);have GI:=yQ (.agg #[.int .i64 k,.int .i64 n,.int .i64 m,.string s]);have h_send:=yj (.agg #[.int .i64 k,.int .i64 n,.int .i64 m,.string s])
 go_enter Ru,Rv
 go_wp2_with (first | (go_at_call 164; refine (eW _ _).mono ?_; rintro e w' ⟨rfl,rfl⟩) | (go_at_call 292; refine (iX _ _).mono ?_; rintro e w' ⟨rfl,rfl⟩) | (go_at_call 285; refine (iM _ _ hs).mono ?_; rintro e w' ⟨rfl,rfl⟩))
 all_goals go_ret
 all_goals exact ⟨al (by simp_all),by go_grown⟩
theorem sL (k n:Int) (s:ByteArray) (w:World) (hs:s.size≤1048576):
  Calls J3 291 #[.iface 336 (.agg #[.int .i64 k,.int .i64 n,.string s])] w fun e w'=>e= .returned (.bool (cv n 1 1000 && bw s))∧Below w.heap.size w w':=by
 have yW:=zq (.agg #[.int .i64 k,.int .i64 n,.string s]);have ur:=vy (.agg #[.int .i64 k,.int .i64 n,.string s]);have GI:=yt (.agg #[.int .i64 k,.int .i64 n,.string s]);have h_send:=yM (.agg #[.int .i64 k,.int .i64 n,.string s]);have h_text:=yU (.agg #[.int .i64 k,.int .i64 n,.string s])
 go_enter Ru,Rv
 go_wp2_with (first | (go_at_call 164; refine (eW _ _).mono ?_; rintro e w' ⟨rfl,rfl⟩) | (go_at_call 292; refine (iX _ _).mono ?_; rintro e w' ⟨rfl,rfl⟩) | (go_at_call 285; refine (iM _ _ hs).mono ?_; rintro e w' ⟨rfl,rfl⟩))
 all_goals go_ret
 all_goals exact ⟨al (by simp_all),by go_grown⟩
end Go.Proofs.YtkbcplnlehdjfaaGreat

namespace Go.Proofs.YtkbcplnlehdjfaaGreat
open Go.RowKit
def ME (k:Int):ByteArray:=
 if k=1 then ⟨#[114,117,110]⟩ else if k=2 then ⟨#[115,108,101,101,112]⟩ else if k=3 then ⟨#[119,97,105,116]⟩
 else if k=4 then ⟨#[115,105,103,110,97,108]⟩ else if k=5 then ⟨#[115,101,116]⟩ else if k=6 then ⟨#[114,101,115,101,116]⟩
 else if k=7 then ⟨#[97,119,97,105,116]⟩ else if k=8 then ⟨#[115,101,110,100]⟩ else if k=9 then ⟨#[116,97,107,101]⟩
 else if k=10 then ⟨#[115,104,111,119]⟩ else if k=11 then ⟨#[99,108,101,97,114]⟩ else if k=12 then ⟨#[114,101,97,100]⟩
 else if k=13 then ⟨#[119,114,105,116,101]⟩ else if k=14 then ⟨#[102,101,116,99,104]⟩ else if k=15 then ⟨#[115,116,97,114,116]⟩
 else if k=16 then ⟨#[115,116,111,112]⟩ else if k=17 then ⟨#[108,111,111,112]⟩ else ⟨#[]⟩
def MF (k n m:Int) (s:ByteArray):ByteArray:=
 if k=1∨k=2∨k=4∨k=5∨k=6∨k=11∨k=14∨k=15∨k=16 then ME k ++ ⟨#[32]⟩ ++ Ij n
 else if k=3∨k=7∨k=9∨k=12 then ME k ++ ⟨#[32]⟩ ++ Ij n ++ ⟨#[32]⟩ ++ Ij m
 else if k=8 then ME k ++ ⟨#[32]⟩ ++ Ij n ++ ⟨#[32]⟩ ++ Ij m ++ ⟨#[32]⟩ ++ s
 else if k=10∨k=13 then ME k ++ ⟨#[32]⟩ ++ Ij n ++ ⟨#[32]⟩ ++ s
 else ME k
def M3 (w:World) (g:Nat):Prop:=g < w.heap.size∧ ∀ k:Nat,k≤17→w.cell? ⟨g,k,none⟩=some (.string (ME k))
theorem M3.below {w w':World} {g:Nat} (h:M3 w g) (hb:Below w.heap.size w w'):M3 w' g:=
 ⟨Nat.lt_of_lt_of_le h.1 hb.size,fun k hk=>(hb.cell (p:=⟨g,k,none⟩) h.1).trans (h.2 k hk)⟩
theorem MG (w:World):Calls J3 228 #[] w fun e w'=>e= .returned (.slice (some ⟨w.heap.size,0,none⟩) 18 18)∧M3 w' w.heap.size∧Below w.heap.size w w':=by
 go_enter Tryz.func228,Tryz.ntmps228
 go_wp2;go_ret;refine ⟨rfl,⟨by simp,?_⟩,by go_grown⟩;intro k hk;have h:k=0∨k=1∨k=2∨k=3∨k=4∨k=5∨k=6∨k=7∨k=8∨k=9∨k=10∨k=11∨k=12∨k=13∨k=14∨k=15∨k=16∨k=17:=by omega
 rcases h with rfl | rfl | rfl | rfl | rfl | rfl | rfl | rfl | rfl | rfl | rfl | rfl | rfl | rfl | rfl | rfl | rfl | rfl <;> simp [ME]
theorem O1 {p:Prop} [Decidable p] {a b:ByteArray} {n:Nat} (ha:a.size≤n) (hb:b.size≤n):(if p then a else b).size≤n:=by split <;> assumption
theorem MH (k:Int):(ME k).size≤6:=by
 unfold ME
 repeat (first | decide | refine O1 (by decide) ?_)
theorem M3.one {w:World} {g:Nat} (h:M3 w g) (k:Nat) (hk:k≤17):w.cell? ⟨g,k,none⟩=some (.string (ME k)):=h.2 k hk
theorem OP {k n m:Int} {s:ByteArray} (h:mQ k n m s=true):k=1∨k=2∨k=3∨k=4∨k=5∨k=6∨k=7∨k=8∨k=9∨k=10∨k=11∨k=12∨k=13∨k=14∨k=15∨k=16∨k=17:=by
 unfold mQ at h
 split at h
 ·omega
 split at h
 ·omega
 split at h
 ·omega
 split at h
 ·omega
 split at h
 ·omega
 ·cases h
theorem MK {n lo hi:Int} (h:cv n lo hi=true):lo≤n∧n≤hi:=by simpa [cv] using h
theorem Nq {s:ByteArray} (h:bw s=true):s.size≤20:=by
 simp only [bw,J7,decide_eq_true_eq] at h;exact h.1
theorem ML {k n m:Int} {s:ByteArray} (hk:k=1∨k=2∨k=4∨k=5∨k=6∨k=11∨k=14∨k=15∨k=16) (h:mQ k n m s=true):1≤n∧n≤1000:=by
 unfold mQ at h;rw [if_pos hk] at h;simp only [J7] at h;exact MK h.1.1
theorem MZ {k n m:Int} {s:ByteArray} (hk:k=3∨k=7∨k=9∨k=12) (h:mQ k n m s=true):1≤n∧n≤1000∧ -1≤m∧m≤1000:=by
 unfold mQ at h;rw [if_neg (by omega),if_pos hk] at h;simp only [J7] at h;exact ⟨(MK h.1.1).1,(MK h.1.1).2,(MK h.1.2).1,(MK h.1.2).2⟩
theorem N0 {n m:Int} {s:ByteArray} (h:mQ 8 n m s=true):1≤n∧n≤1000∧ -1≤m∧m≤1000∧s.size≤20:=by
 unfold mQ at h;rw [if_neg (by omega),if_neg (by omega),if_pos rfl] at h;simp only [J7] at h;exact ⟨(MK h.1.1).1,(MK h.1.1).2,(MK h.1.2).1,(MK h.1.2).2,Nq h.2⟩
theorem NK {k n m:Int} {s:ByteArray} (hk:k=10∨k=13) (h:mQ k n m s=true):1≤n∧n≤1000∧s.size≤20:=by
 unfold mQ at h;rw [if_neg (by omega),if_neg (by omega),if_neg (by omega),if_pos hk] at h;simp only [J7] at h;exact ⟨(MK h.1.1).1,(MK h.1.1).2,Nq h.2⟩
end Go.Proofs.YtkbcplnlehdjfaaGreat
