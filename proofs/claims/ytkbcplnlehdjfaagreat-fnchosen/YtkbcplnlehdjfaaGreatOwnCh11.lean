/- What the proof leans on, part 11: PSpec1, OwnB, AlProc. -/
import Derived.Test.YtkbcplnlehdjfaaGreatOwnCh6
import Derived.Test.YtkbcplnlehdjfaaGreatOwnCh7
import Derived.Test.YtkbcplnlehdjfaaGreatOwnCh10
import Derived.Maps.RangeWalk
set_option maxRecDepth 100000
set_option maxHeartbeats 8000000

namespace Go.Proofs.YtkbcplnlehdjfaaGreat
open Go.RowKit
def ProcBox(W:World)(X:Nat)(x:ProcD):Prop:=W.heap[X]? =some(.cells #[.int .i64 x.id,.int .i64 x.prio,.slice x.progA x.prog.length x.progC,.int .i64 x.state,.int .i64 x.pc,.int .i64 x.left,.int .i64 x.wake,.int .i64 x.on,.string x.held,.string x.got,.int .i64 x.code,.int .i64 x.since] 43(0,0))
def PartBox(W:World)(B:Nat)(p:PartD):Prop:=W.heap[B]? =some(.cells #[.int .i64 p.id,.int .i64 p.next,.slice p.procA p.procs.length p.procC,.slice p.semA p.sems.length p.semC,.slice p.eventA p.events.length p.eventC,.slice p.boardA p.boards.length p.boardC,.slice p.bufferA p.buffers.length p.bufferC,.slice p.portA p.ports.length p.portC] 32(0,0))
theorem ProcBox.below {W W':World} {X:Nat} {x:ProcD} (h:ProcBox W X x)(hb:Below W.heap.size W W'):ProcBox W' X x:=(hb.block X(Array.getElem?_eq_some_iff.1 h).1).trans h
theorem PartBox.below {W W':World} {X:Nat} {x:PartD} (h:PartBox W X x)(hb:Below W.heap.size W W'):PartBox W' X x:=(hb.block X(Array.getElem?_eq_some_iff.1 h).1).trans h
theorem ProcBox.cells {W:World} {X:Nat} {x:ProcD} (h:ProcBox W X x):
  W.cell? ⟨X,0,none⟩=some(.int .i64 x.id)∧W.cell? ⟨X,1,none⟩=some(.int .i64 x.prio)∧W.cell? ⟨X,2,none⟩=some(.slice x.progA x.prog.length x.progC)∧W.cell? ⟨X,3,none⟩=some(.int .i64 x.state)∧W.cell? ⟨X,4,none⟩=some(.int .i64 x.pc)∧W.cell? ⟨X,5,none⟩=some(.int .i64 x.left)∧W.cell? ⟨X,6,none⟩=some(.int .i64 x.wake)∧W.cell? ⟨X,7,none⟩=some(.int .i64 x.on)∧W.cell? ⟨X,8,none⟩=some(.string x.held)∧W.cell? ⟨X,9,none⟩=some(.string x.got)∧W.cell? ⟨X,10,none⟩=some(.int .i64 x.code)∧W.cell? ⟨X,11,none⟩=some(.int .i64 x.since):=by
 unfold ProcBox at h
 simp [World.cell?,h]
theorem PartBox.cells {W:World} {X:Nat} {p:PartD} (h:PartBox W X p):
  W.cell? ⟨X,0,none⟩=some(.int .i64 p.id)∧W.cell? ⟨X,1,none⟩=some(.int .i64 p.next)∧W.cell? ⟨X,2,none⟩=some(.slice p.procA p.procs.length p.procC)∧W.cell? ⟨X,3,none⟩=some(.slice p.semA p.sems.length p.semC)∧W.cell? ⟨X,4,none⟩=some(.slice p.eventA p.events.length p.eventC)∧W.cell? ⟨X,5,none⟩=some(.slice p.boardA p.boards.length p.boardC)∧W.cell? ⟨X,6,none⟩=some(.slice p.bufferA p.buffers.length p.bufferC)∧W.cell? ⟨X,7,none⟩=some(.slice p.portA p.ports.length p.portC):=by
 unfold PartBox at h
 simp [World.cell?,h]
def procOkB(p:PartP)(x:ProcP):Bool:=inB x.id 1 1000 && procB x && turnB p.next x && waitB p x
structure ProcIn(w W:World)(P X:Nat)(p:PartD)(x:ProcD):Prop where
 part:PartBox W P p
 proc:ProcBox W X x
 at':PartD.At W p
 prog:Row W x.progA(opK.flat x.prog)
 bel:Below w.heap.size w W
theorem ProcIn.below {w W W':World} {P X:Nat} {p:PartD} {x:ProcD} (h:ProcIn w W P X p x)(hb:Below W.heap.size W W'):ProcIn w W' P X p x:=
 ⟨h.part.below hb,h.proc.below hb,h.at'.below hb,h.prog.below hb,h.bel.trans(hb.mono h.bel.size)⟩
theorem procIn_start {w:World} {p:PartD} {x:ProcD} (h:PartD.At w p)(hr:Row w x.progA(opK.flat x.prog)):ProcIn w((w.alloc(.cells p.cells 32)).alloc(.cells(procVs x)43))w.heap.size(w.heap.size+1)p x:=by
 have b1:Below w.heap.size w(w.alloc(.cells p.cells 32)):=(Below.refl _ _).alloc(Nat.le_refl _)_
 have b2:Below w.heap.size w((w.alloc(.cells p.cells 32)).alloc(.cells(procVs x)43)):=b1.alloc b1.size _
 exact⟨(heap_alloc_old _ _(by simp)).trans(heap_alloc_new _ _),heap_alloc2_new _ _ _,h.below b2,hr.below b2,b2⟩
theorem stateB_in {x:ProcP} (h:inB x.state 0 7=false):stateB x=false:=by
 have h':x.state < 0∨7 < x.state:=by
  have: ¬ (0≤x.state∧x.state≤7):=fun hh=>by rw [inB_true hh.1 hh.2] at h; cases h
  omega
 unfold stateB
 rw [if_neg(by omega),if_neg(by omega),if_neg(by omega),if_neg(by omega),if_neg(by omega)]
theorem left_spec {x:ProcP} {n:Nat} {o:OpD} (hp:progL x.prog=true)(hpc:x.pc=n)(ho:x.prog[n]? =some o):leftB x=(decide(x.left=0) || (decide(o.1=1) && inB x.left 1(o.2.1 - 1))):=by
 have e1:opAt x=o:=by
  unfold opAt
  rw [hpc,Int.toNat_natCast,ho]
  rfl
 have hn:o.1=1→1≤o.2.1:=fun h1=>by
  have hk:n < x.prog.length:=(List.getElem?_eq_some_iff.1 ho).1
  have hb:progB x.prog.length(kOf x.prog)(nOf x.prog)(mOf x.prog)(sOf x.prog)=true:=hp
  simp only [progB,decide_eq_true_eq] at hb
  have:=hb.2.2 n hk
  simp only [opAtB,kOf,nOf,ho,Option.getD_some,opB,h1] at this
  simp only [true_or,if_true,Bool.and_eq_true] at this
  have:=inB_iff.1 this.1.1
  omega
 simp only [leftB,e1]
 by_cases h1:o.1=1
 ·have:=hn h1
  simp only [h1,if_true,decide_true,Bool.true_and]
  by_cases h2:x.left=0
  ·simp [h2]; omega
  ·simp only [h2,decide_false,Bool.false_or,inB]
   by_cases h3:0≤x.left
   ·by_cases h4:x.left < o.2.1
    ·simp [h3,h4]; omega
    ·simp [h3,h4]; omega
   ·simp [h3]; omega
 ·simp [h1]
theorem state_op {x:ProcP} {b c:Bool} (h: ¬ x.state=0):(stateB x && b && c)=(hasOpB x && (stateB x && b && c)):=by
 cases ho:hasOpB x with
 | true=>simp
 | false=>
  have:stateB x=false:=by
   simp only [stateB,h,if_false,ho]
   simp
  simp [this]
theorem state_left {x:ProcP} (h0: ¬ x.state=0)(h1: ¬ x.state=1)(hl: ¬ x.left=0):stateB x=false:=by
 simp only [stateB,h0,h1,if_false,hl,decide_false]
 simp
theorem state_held {x:ProcP} (h0: ¬ x.state=0)(h1: ¬ x.state=1)(h5: ¬ x.state=5)(hl:emptyB x.held=false):stateB x=false:=by
 simp only [stateB,h0,h1,h5,if_false,hl]
 simp
theorem state_wait {p:PartP} {x:ProcP} (h0: ¬ x.state=0)(h1: ¬ x.state=1)(h2: ¬ x.state=2)(h5: ¬ x.state=5)(hb:0≤x.state∧x.state≤7)(ho:hasOpB x=true)(hl:x.left=0)(hh:emptyB x.held=true):(stateB x && waitB p x)=(wakeB x.wake && hasB p x.state x.on):=by
 have h4:x.state=3∨x.state=4∨x.state=6∨x.state=7:=by omega
 have h3:3≤x.state:=by omega
 simp only [stateB,waitB,h0,h1,h2,h5,if_false,h4,if_true,h3,ho,hl,hh]
 simp
theorem op_ge {l:List OpD} {n:Nat} {o:OpD} (hp:progL l=true)(ho:l[n]? =some o):o.1=1→1≤o.2.1∧o.2.1≤1000:=by
 intro h1
 ·have hk:n < l.length:=(List.getElem?_eq_some_iff.1 ho).1
  have hb:progB l.length(kOf l)(nOf l)(mOf l)(sOf l)=true:=hp
  simp only [progB,decide_eq_true_eq] at hb
  have:=hb.2.2 n hk
  simp only [opAtB,kOf,nOf,ho,Option.getD_some,opB,h1] at this
  simp only [true_or,if_true,Bool.and_eq_true] at this
  have:=inB_iff.1 this.1.1
  exact⟨by omega,by omega⟩
theorem l3ProcOk_any(p:PartD)(x:ProcD)(w:World)(hp:p.Short)(hx:x.Short)(h1:1≤p.next)(h2:p.next≤1000000000)(h:PartD.At w p)(hr:Row w x.progA(opK.flat x.prog)):
  Calls Tryz.prog 103 #[.agg p.cells,.agg(procVs x)] w fun e w'=>e= .returned(.bool(procOkB p.pure x.toProcP))∧Below w.heap.size w w':=by
 have H0:Hid(ProcIn w((w.alloc(.cells p.cells 32)).alloc(.cells(procVs x)43))w.heap.size(w.heap.size+1)p x):=procIn_start h hr
 have HS:Hid(p.Short∧x.Short):=⟨hp,hx⟩
 have HE:Hid(procOkB p.pure x.toProcP=(inB x.id 1 1000 && (inB x.prio 1 50 && progL x.prog && plainB x.held && plainB x.got && inB x.code 0 3 && stateB x.toProcP) && turnB p.next x.toProcP && waitB p.pure x.toProcP)):=rfl
 obtain⟨m0,m1,m2,m3,m4,m5,m6,m7⟩:=H0.out.part.cells
 obtain⟨k0,k1,k2,k3,k4,k5,k6,k7,k8,k9,k10,k11⟩:=H0.out.proc.cells
 have hpl:=hx.prog
 have hhs:=hx.held
 have hgs:=hx.got
 clear h hr hp hx
 unfold PartD.cells procVs at *
 go_enter Tryz.func103,Tryz.ntmps103
 go_wp2_with fail
 generalize (w.alloc(.cells p.row 32)).alloc(.cells x.row 43)=W at *
 have HP:Hid(ProcIn w W w.heap.size(w.heap.size+1)p x):=H0.out
 clear H0
 refine(l1In_any x.id 1 1000 _).mono ?_
 rintro e w9⟨rfl,hw9⟩
 rw [hw9]
 clear hw9 w9
 cases ha:inB x.id 1 1000
 ·have hz:True:=trivial
  have HV:Hid(procOkB p.pure x.toProcP=false):=by show procOkB _ _=false; rw [HE.out]; simp [ha]
  clear HE
  go_wp2
  go_ret
  exact⟨ret_bool(by rw [HV.out]),HP.out.bel⟩
 have HA:Hid(inB x.id 1 1000=true):=ha
 clear ha
 go_wp2_with fail
 refine(l1In_any x.prio 1 50 _).mono ?_
 rintro e w9⟨rfl,hw9⟩
 rw [hw9]
 clear hw9 w9
 cases hb:inB x.prio 1 50
 ·have hz:True:=trivial
  have HV:Hid(procOkB p.pure x.toProcP=false):=by show procOkB _ _=false; rw [HE.out]; simp [hb]
  clear HE
  go_wp2
  go_ret
  exact⟨ret_bool(by rw [HV.out]),HP.out.bel⟩
 have HB:Hid(inB x.prio 1 50=true):=hb
 clear hb
 go_wp2_with fail
 refine(specProgL_any x.progA x.prog x.progC _ hpl HS.out.2.ops HP.out.prog).mono ?_
 rintro e w3⟨rfl,hb3⟩
 have HP:Hid(ProcIn w w3 w.heap.size(w.heap.size+1)p x):=HP.out.below hb3
 clear hb3 m0 m1 m2 m3 m4 m5 m6 m7 k0 k1 k2 k3 k4 k5 k6 k7 k8 k9 k10 k11
 obtain⟨m0,m1,m2,m3,m4,m5,m6,m7⟩:=HP.out.part.cells
 obtain⟨k0,k1,k2,k3,k4,k5,k6,k7,k8,k9,k10,k11⟩:=HP.out.proc.cells
 cases hc:progL x.prog
 ·have hz:True:=trivial
  have HV:Hid(procOkB p.pure x.toProcP=false):=by show procOkB _ _=false; rw [HE.out]; simp [hc]
  clear HE
  go_wp2
  go_ret
  exact⟨ret_bool(by rw [HV.out]),HP.out.bel⟩
 have HC:Hid(progL x.prog=true):=hc
 clear hc
 go_wp2_with fail
 refine(l2Plain_any x.held _ hhs).mono ?_
 rintro e w9⟨rfl,hw9⟩
 rw [hw9]
 clear hw9 w9
 cases hd:plainB x.held
 ·have hz:True:=trivial
  have HV:Hid(procOkB p.pure x.toProcP=false):=by show procOkB _ _=false; rw [HE.out]; simp [hd]
  clear HE
  go_wp2
  go_ret
  exact⟨ret_bool(by rw [HV.out]),HP.out.bel⟩
 have HD:Hid(plainB x.held=true):=hd
 clear hd
 go_wp2_with fail
 refine(l2Plain_any x.got _ hgs).mono ?_
 rintro e w9⟨rfl,hw9⟩
 rw [hw9]
 clear hw9 w9
 cases hg:plainB x.got
 ·have hz:True:=trivial
  have HV:Hid(procOkB p.pure x.toProcP=false):=by show procOkB _ _=false; rw [HE.out]; simp [hg]
  clear HE
  go_wp2
  go_ret
  exact⟨ret_bool(by rw [HV.out]),HP.out.bel⟩
 have HG:Hid(plainB x.got=true):=hg
 clear hg
 go_wp2_with fail
 refine(l1In_any x.code 0 3 _).mono ?_
 rintro e w9⟨rfl,hw9⟩
 rw [hw9]
 clear hw9 w9
 cases hk:inB x.code 0 3
 ·have hz:True:=trivial
  have HV:Hid(procOkB p.pure x.toProcP=false):=by show procOkB _ _=false; rw [HE.out]; simp [hk]
  clear HE
  go_wp2
  go_ret
  exact⟨ret_bool(by rw [HV.out]),HP.out.bel⟩
 have HK:Hid(inB x.code 0 3=true):=hk
 clear hk
 go_wp2_with fail
 refine(l1In_any x.state 0 7 _).mono ?_
 rintro e w9⟨rfl,hw9⟩
 rw [hw9]
 clear hw9 w9
 cases hst:inB x.state 0 7
 ·have hz:True:=trivial
  have HV:Hid(procOkB p.pure x.toProcP=false):=by show procOkB _ _=false; rw [HE.out]; simp [stateB_in(x:=x.toProcP)hst]
  clear HE
  go_wp2
  go_ret
  exact⟨ret_bool(by rw [HV.out]),HP.out.bel⟩
 have HST:Hid(0≤x.state∧x.state≤7):=inB_iff.1 hst
 clear hst
 have HE:Hid(procOkB p.pure x.toProcP=(stateB x.toProcP && turnB p.next x.toProcP && waitB p.pure x.toProcP)):=by show procOkB _ _=_; rw [HE.out,HA.out,HB.out,HC.out,HD.out,HG.out,HK.out]; simp
 by_cases hs0:x.state=0
 ·have e0:(x.state == 0)=true:=by simp [hs0]
  have HE:Hid(procOkB p.pure x.toProcP=(decide(x.pc=0) && decide(x.left=0) && decide(x.wake=0) && decide(x.on=0) && decide(x.since=0) && emptyB x.held)):=by show procOkB _ _=_; rw [HE.out]; simp [stateB,turnB,waitB,hs0]
  clear hs0
  by_cases g0:x.pc=0
  rotate_left
  ·have g0':(x.pc == 0)=false:=by simp [g0]
   have HV:Hid(procOkB p.pure x.toProcP=false):=by show procOkB _ _=false; rw [HE.out]; simp [g0]
   clear HE
   go_wp2
   go_ret
   exact⟨ret_bool(by rw [HV.out]),HP.out.bel⟩
  have g0':(x.pc == 0)=true:=by simp [g0]
  have G0:Hid(x.pc=0):=g0
  clear g0
  by_cases g1:x.left=0
  rotate_left
  ·have g1':(x.left == 0)=false:=by simp [g1]
   have HV:Hid(procOkB p.pure x.toProcP=false):=by show procOkB _ _=false; rw [HE.out]; simp [g1]
   clear HE
   go_wp2
   go_ret
   exact⟨ret_bool(by rw [HV.out]),HP.out.bel⟩
  have g1':(x.left == 0)=true:=by simp [g1]
  have G1:Hid(x.left=0):=g1
  clear g1
  by_cases g2:x.wake=0
  rotate_left
  ·have g2':(x.wake == 0)=false:=by simp [g2]
   have HV:Hid(procOkB p.pure x.toProcP=false):=by show procOkB _ _=false; rw [HE.out]; simp [g2]
   clear HE
   go_wp2
   go_ret
   exact⟨ret_bool(by rw [HV.out]),HP.out.bel⟩
  have g2':(x.wake == 0)=true:=by simp [g2]
  have G2:Hid(x.wake=0):=g2
  clear g2
  by_cases g3:x.on=0
  rotate_left
  ·have g3':(x.on == 0)=false:=by simp [g3]
   have HV:Hid(procOkB p.pure x.toProcP=false):=by show procOkB _ _=false; rw [HE.out]; simp [g3]
   clear HE
   go_wp2
   go_ret
   exact⟨ret_bool(by rw [HV.out]),HP.out.bel⟩
  have g3':(x.on == 0)=true:=by simp [g3]
  have G3:Hid(x.on=0):=g3
  clear g3
  by_cases g4:x.held.toList= []
  rotate_left
  ·have g4': ¬ [] =x.held.toList:=fun h=>g4 h.symm
   have HV:Hid(procOkB p.pure x.toProcP=false):=by show procOkB _ _=false; rw [HE.out]; simp [emptyB_no g4]
   clear HE
   go_wp2
   go_ret
   exact⟨ret_bool(by rw [HV.out]),HP.out.bel⟩
  by_cases g5:x.since=0
  rotate_left
  ·have g5':(x.since == 0)=false:=by simp [g5]
   have HV:Hid(procOkB p.pure x.toProcP=false):=by show procOkB _ _=false; rw [HE.out]; simp [g5]
   clear HE
   go_wp2
   go_ret
   exact⟨ret_bool(by rw [HV.out]),HP.out.bel⟩
  have g5':(x.since == 0)=true:=by simp [g5]
  have HV:Hid(procOkB p.pure x.toProcP=true):=by show procOkB _ _=true; rw [HE.out]; simp [G0.out,G1.out,G2.out,G3.out,g5,emptyB_yes g4]
  clear HE
  go_wp2
  go_ret
  exact⟨ret_bool(by rw [HV.out]),HP.out.bel⟩
 have e0:(x.state == 0)=false:=by simp [hs0]
 have HZ:Hid(¬ x.state=0):=hs0
 clear hs0
 go_wp2_with fail
 refine(l1In_any x.pc 0((x.prog.length:Int) - 1)_).mono ?_
 rintro e w9⟨rfl,hw9⟩
 rw [hw9]
 clear hw9 w9
 have HE:Hid(procOkB p.pure x.toProcP=(hasOpB x.toProcP && (stateB x.toProcP && turnB p.next x.toProcP && waitB p.pure x.toProcP))):=by show procOkB _ _=_; rw [HE.out]; exact state_op HZ.out
 cases hop:inB x.pc 0((x.prog.length:Int) - 1)
 ·have hz:hasOpB x.toProcP=false:=hop
  have HV:Hid(procOkB p.pure x.toProcP=false):=by show procOkB _ _=false; rw [HE.out]; simp [hz]
  clear HE
  go_wp2
  go_ret
  exact⟨ret_bool(by rw [HV.out]),HP.out.bel⟩
 have HOP:Hid(hasOpB x.toProcP=true):=hop
 clear hop
 go_wp2_with fail
 refine(l1In_any x.since 1(p.next - 1)_).mono ?_
 rintro e w9⟨rfl,hw9⟩
 rw [hw9]
 clear hw9 w9
 cases hsi:inB x.since 1(p.next - 1)
 ·have hz:turnB p.next x.toProcP=false:=by simp [turnB,hsi,HZ.out]
  have HV:Hid(procOkB p.pure x.toProcP=false):=by show procOkB _ _=false; rw [HE.out]; simp [hz]
  clear HE
  go_wp2
  go_ret
  exact⟨ret_bool(by rw [HV.out]),HP.out.bel⟩
 have HTU:Hid(turnB p.next x.toProcP=true):=by show turnB _ _=true; simp [turnB,hsi]
 clear hsi
 have HE:Hid(procOkB p.pure x.toProcP=(stateB x.toProcP && waitB p.pure x.toProcP)):=by show procOkB _ _=_; rw [HE.out,HOP.out,HTU.out]; simp
 by_cases hs1:x.state=1
 ·have e1:(x.state == 1)=true:=by simp [hs1]
  obtain⟨n,hn,hnl,hno⟩:=hasOp_get HOP.out
  have HLS:Hid(leftB x.toProcP=(decide(x.left=0) || (decide((opAt x.toProcP).1=1) && inB x.left 1((opAt x.toProcP).2.1 - 1)))):=left_spec HC.out hn hno
  have HE:Hid(procOkB p.pure x.toProcP=(leftB x.toProcP && decide(x.wake=0) && decide(x.on=0) && emptyB x.held)):=by show procOkB _ _=_; rw [HE.out]; simp [stateB,waitB,hs1,HOP.out]
  have HN1:Hid((opAt x.toProcP).1=1→1≤(opAt x.toProcP).2.1∧(opAt x.toProcP).2.1≤1000):=op_ge HC.out hno
  obtain⟨g,hg,o0,o1,o2,o3⟩:=op_at HP.out.prog hno
  have hsz:w.heap.size+1 < w3.heap.size:=(Array.getElem?_eq_some_iff.1 HP.out.proc).1
  have i0:(0:Int)≤(n:Int):=by omega
  have i1:(n:Int) < (x.prog.length:Int):=by omega
  rw [hg] at k2
  have k4n:w3.cell? ⟨w.heap.size+1,4,none⟩=some(.int .i64(n:Int)):=by rw [k4]; exact congrArg(fun z=>some(Value.int .i64 z))hn
  clear k4
  generalize opAt x.toProcP=o at *
  clear hs1 hg hn hno
  by_cases g0:x.wake=0
  rotate_left
  ·have g0':(x.wake == 0)=false:=by simp [g0]
   have HV:Hid(procOkB p.pure x.toProcP=false):=by show procOkB _ _=false; rw [HE.out]; simp [g0]
   clear HE
   go_wp2
   go_ret
   exact⟨ret_bool(by rw [HV.out]),HP.out.bel.alloc HP.out.bel.size _⟩
  have g0':(x.wake == 0)=true:=by simp [g0]
  have G0:Hid(x.wake=0):=g0
  clear g0
  by_cases g1:x.on=0
  rotate_left
  ·have g1':(x.on == 0)=false:=by simp [g1]
   have HV:Hid(procOkB p.pure x.toProcP=false):=by show procOkB _ _=false; rw [HE.out]; simp [g1]
   clear HE
   go_wp2
   go_ret
   exact⟨ret_bool(by rw [HV.out]),HP.out.bel.alloc HP.out.bel.size _⟩
  have g1':(x.on == 0)=true:=by simp [g1]
  have G1:Hid(x.on=0):=g1
  clear g1
  by_cases g4:x.held.toList= []
  rotate_left
  ·have g4': ¬ [] =x.held.toList:=fun h=>g4 h.symm
   have HV:Hid(procOkB p.pure x.toProcP=false):=by show procOkB _ _=false; rw [HE.out]; simp [emptyB_no g4]
   clear HE
   go_wp2
   go_ret
   exact⟨ret_bool(by rw [HV.out]),HP.out.bel.alloc HP.out.bel.size _⟩
  have HE:Hid(procOkB p.pure x.toProcP=(decide(x.left=0) || (decide(o.1=1) && inB x.left 1(o.2.1 - 1)))):=by show procOkB _ _=_; rw [HE.out,HLS.out]; simp [G0.out,G1.out,emptyB_yes g4]
  by_cases g5:x.left=0
  ·have g5':(x.left == 0)=true:=by simp [g5]
   have HV:Hid(procOkB p.pure x.toProcP=true):=by show procOkB _ _=true; rw [HE.out]; simp [g5]
   clear HE
   go_wp2
   go_ret
   exact⟨ret_bool(by rw [HV.out]),HP.out.bel.alloc HP.out.bel.size _⟩
  have g5':(x.left == 0)=false:=by simp [g5]
  by_cases g6:o.1=1
  rotate_left
  ·have g6':(o.1 == 1)=false:=by simp [g6]
   have HV:Hid(procOkB p.pure x.toProcP=false):=by show procOkB _ _=false; rw [HE.out]; simp [g5,g6]
   clear HE
   go_wp2
   go_ret
   exact⟨ret_bool(by rw [HV.out]),HP.out.bel.alloc HP.out.bel.size _⟩
  have n1:=(HN1.out g6).1
  have n2:=(HN1.out g6).2
  have HE:Hid(procOkB p.pure x.toProcP=inB x.left 1(o.2.1 - 1)):=by show procOkB _ _=_; rw [HE.out]; simp [g5,g6]
  have g6':(o.1 == 1)=true:=by simp [g6]
  clear g6 g5
  go_wp2_with (go_at_call 78; refine(l1In_any x.left 1(o.2.1 - 1)_).mono ?_; rintro e w9⟨rfl,hw9⟩; rw [hw9]; clear hw9 w9)
  go_ret
  exact⟨ret_bool(by rw [HE.out]),HP.out.bel.alloc HP.out.bel.size _⟩
 have e1:(x.state == 1)=false:=by simp [hs1]
 by_cases gl:x.left=0
 rotate_left
 ·have gl':(x.left == 0)=false:=by simp [gl]
  have HSF:Hid(stateB x.toProcP=false):=state_left HZ.out hs1 gl
  have HV:Hid(procOkB p.pure x.toProcP=false):=by show procOkB _ _=false; rw [HE.out]; simp [HSF.out]
  clear HE
  go_wp2
  go_ret
  exact⟨ret_bool(by rw [HV.out]),HP.out.bel⟩
 have gl':(x.left != 0)=false:=by simp [gl]
 have HL0:Hid(x.left=0):=gl
 clear gl
 by_cases hs5:x.state=5
 ·have e5:(x.state != 5)=false:=by simp [hs5]
  have e2:(x.state == 2)=false:=by simp [hs5]
  have HE:Hid(procOkB p.pure x.toProcP=(wakeB x.wake && hasB p.pure x.state x.on)):=by show procOkB _ _=_; rw [HE.out]; simp [stateB,waitB,hs5,HOP.out,HL0.out]
  clear hs5
  go_wp2_with fail
  refine(l3Has_any p x.state x.on _ HS.out.1 HP.out.at').mono ?_
  rintro e w4⟨rfl,hb4⟩
  have HP4:Hid(ProcIn w w4 w.heap.size(w.heap.size+1)p x):=HP.out.below hb4
  clear hb4 m0 m1 m2 m3 m4 m5 m6 m7 k0 k1 k2 k3 k4 k5 k6 k7 k8 k9 k10 k11
  obtain⟨k0,k1,k2,k3,k4,k5,k6,k7,k8,k9,k10,k11⟩:=HP4.out.proc.cells
  cases hha:hasB p.pure x.state x.on
  ·have hz:True:=trivial
   have HV:Hid(procOkB p.pure x.toProcP=false):=by show procOkB _ _=false; rw [HE.out]; simp [hha]
   clear HE
   go_wp2
   go_ret
   exact⟨ret_bool(by rw [HV.out]),HP4.out.bel⟩
  have HHA:Hid(hasB p.pure x.state x.on=true):=hha
  clear hha
  have HE:Hid(procOkB p.pure x.toProcP=(inB x.wake 1 2000000000 || decide(x.wake= -1))):=by show procOkB _ _=_; rw [HE.out,HHA.out]; simp [wakeB]
  by_cases hm:x.wake= -1
  ·have hm':(x.wake == -1)=true:=by simp [hm]
   have HV:Hid(procOkB p.pure x.toProcP=true):=by show procOkB _ _=true; rw [HE.out]; simp [hm]
   clear HE
   go_wp2
   go_ret
   exact⟨ret_bool(by rw [HV.out]),HP4.out.bel⟩
  have hm':(x.wake == -1)=false:=by simp [hm]
  have HV:Hid(procOkB p.pure x.toProcP=inB x.wake 1 2000000000):=by show procOkB _ _=_; rw [HE.out]; simp [hm]
  clear HE hm
  go_wp2_with (go_at_call 78; refine(l1In_any x.wake 1 2000000000 _).mono ?_; rintro e w9⟨rfl,hw9⟩; rw [hw9]; clear hw9 w9)
  go_ret
  exact⟨ret_bool(by rw [HV.out]),HP4.out.bel⟩
 have e5:(x.state != 5)=true:=by simp [hs5]
 by_cases g4:x.held.toList= []
 rotate_left
 ·have g4': ¬ [] =x.held.toList:=fun h=>g4 h.symm
  have g4n:x.held.toList.isEmpty=false:=by simp [g4]
  have HSF:Hid(stateB x.toProcP=false):=state_held HZ.out hs1 hs5(emptyB_no g4)
  have HV:Hid(procOkB p.pure x.toProcP=false):=by show procOkB _ _=false; rw [HE.out]; simp [HSF.out]
  clear HE
  go_wp2
  go_ret
  exact⟨ret_bool(by rw [HV.out]),HP.out.bel⟩
 have HH0:Hid(emptyB x.held=true):=emptyB_yes g4
 by_cases hs2:x.state=2
 ·have e2:(x.state == 2)=true:=by simp [hs2]
  have HE:Hid(procOkB p.pure x.toProcP=(inB x.wake 1 2000000000 && decide(x.on=0))):=by show procOkB _ _=_; rw [HE.out]; simp [stateB,waitB,hs2,HOP.out,HL0.out,HH0.out]
  clear hs2
  by_cases go:x.on=0
  rotate_left
  ·have go':(x.on == 0)=false:=by simp [go]
   have HV:Hid(procOkB p.pure x.toProcP=false):=by show procOkB _ _=false; rw [HE.out]; simp [go]
   clear HE
   go_wp2
   go_ret
   exact⟨ret_bool(by rw [HV.out]),HP.out.bel⟩
  have go':(x.on == 0)=true:=by simp [go]
  have HV:Hid(procOkB p.pure x.toProcP=inB x.wake 1 2000000000):=by show procOkB _ _=_; rw [HE.out]; simp [go]
  clear HE go
  go_wp2_with (go_at_call 78; refine(l1In_any x.wake 1 2000000000 _).mono ?_; rintro e w9⟨rfl,hw9⟩; rw [hw9]; clear hw9 w9)
  go_ret
  exact⟨ret_bool(by rw [HV.out]),HP.out.bel⟩
 have e2:(x.state == 2)=false:=by simp [hs2]
 have HE:Hid(procOkB p.pure x.toProcP=(wakeB x.wake && hasB p.pure x.state x.on)):=by show procOkB _ _=_; rw [HE.out]; exact state_wait HZ.out hs1 hs2 hs5 HST.out HOP.out HL0.out HH0.out
 clear hs1 hs2 hs5
 go_wp2_with fail
 refine(l3Has_any p x.state x.on _ HS.out.1 HP.out.at').mono ?_
 rintro e w4⟨rfl,hb4⟩
 have HP4:Hid(ProcIn w w4 w.heap.size(w.heap.size+1)p x):=HP.out.below hb4
 clear hb4 m0 m1 m2 m3 m4 m5 m6 m7 k0 k1 k2 k3 k4 k5 k6 k7 k8 k9 k10 k11
 obtain⟨k0,k1,k2,k3,k4,k5,k6,k7,k8,k9,k10,k11⟩:=HP4.out.proc.cells
 cases hha:hasB p.pure x.state x.on
 ·have hz:True:=trivial
  have HV:Hid(procOkB p.pure x.toProcP=false):=by show procOkB _ _=false; rw [HE.out]; simp [hha]
  clear HE
  go_wp2
  go_ret
  exact⟨ret_bool(by rw [HV.out]),HP4.out.bel⟩
 have HHA:Hid(hasB p.pure x.state x.on=true):=hha
 clear hha
 have HE:Hid(procOkB p.pure x.toProcP=(inB x.wake 1 2000000000 || decide(x.wake= -1))):=by show procOkB _ _=_; rw [HE.out,HHA.out]; simp [wakeB]
 by_cases hm:x.wake= -1
 ·have hm':(x.wake == -1)=true:=by simp [hm]
  have HV:Hid(procOkB p.pure x.toProcP=true):=by show procOkB _ _=true; rw [HE.out]; simp [hm]
  clear HE
  go_wp2
  go_ret
  exact⟨ret_bool(by rw [HV.out]),HP4.out.bel⟩
 have hm':(x.wake == -1)=false:=by simp [hm]
 have HV:Hid(procOkB p.pure x.toProcP=inB x.wake 1 2000000000):=by show procOkB _ _=_; rw [HE.out]; simp [hm]
 clear HE hm
 go_wp2_with (go_at_call 78; refine(l1In_any x.wake 1 2000000000 _).mono ?_; rintro e w9⟨rfl,hw9⟩; rw [hw9]; clear hw9 w9)
 go_ret
 exact⟨ret_bool(by rw [HV.out]),HP4.out.bel⟩
end Go.Proofs.YtkbcplnlehdjfaaGreat

namespace Go.Proofs.YtkbcplnlehdjfaaGreat
open Go.RowKit Go.Maps
def upd {α:Type} (c:Nat)(f:α→α)(l:List(α × Nat)):List(α × Nat):=l.map fun p=>if p.2=c then (f p.1,p.2)else p
section
variable {α:Type} {vs:α→Array Value} {num:α→Int} {T:TypeId}
theorem upd_blocks(c:Nat)(f:α→α)(l:List(α × Nat)):(upd c f l).map(·.2)=l.map(·.2):=by
 simp only [upd,List.map_map]
 refine List.map_congr_left fun p _=> ?_
 simp only [Function.comp]
 split <;> rfl
theorem upd_keys {c:Nat} {f:α→α} {l:List(α × Nat)} (h: ∀ p∈l,p.2=c→num(f p.1)=num p.1):keysOf num(upd c f l)=keysOf num l:=by
 simp only [keysOf,upd,List.map_map]
 refine List.map_congr_left fun p hp=> ?_
 simp only [Function.comp]
 split
 ·rename_i e
  simp only [h p hp e]
 ·rfl
theorem mem_upd {c:Nat} {f:α→α} {l:List(α × Nat)} {p:α × Nat} :p∈upd c f l↔ ∃ q∈l,(if q.2=c then (f q.1,q.2)else q)=p:=by simp only [upd,List.mem_map]
theorem mem_upd_ne {c:Nat} {f:α→α} {l:List(α × Nat)} {p:α × Nat} (h: ¬ p.2=c):p∈upd c f l↔p∈l:=by
 rw [mem_upd]
 constructor
 ·rintro ⟨q,hq,rfl⟩
  split at h
  ·rename_i e; exact absurd e h
  ·rename_i e; rw [if_neg e]; exact hq
 ·intro hp
  exact⟨p,hp,if_neg h⟩
theorem mem_upd_eq {c:Nat} {f:α→α} {l:List(α × Nat)} {p:α × Nat} (h:p.2=c):p∈upd c f l↔ ∃ q∈l,q.2=c∧p=(f q.1,q.2):=by
 rw [mem_upd]
 constructor
 ·rintro ⟨q,hq,rfl⟩
  by_cases e:q.2=c
  ·exact⟨q,hq,e,by rw [if_pos e]⟩
  ·rw [if_neg e] at h; exact absurd h e
 ·rintro ⟨q,hq,e,rfl⟩
  exact⟨q,hq,if_pos e⟩
theorem Shelf.upd {w w':World} {base b c:Nat} {l:List(α × Nat)} {f:α→α} (h:Shelf vs num T w base b l)(hn: ∀ p∈l,p.2=c→num(f p.1)=num p.1)(hc: ∀ p∈l,p.2=c→w'.heap[c]? =some(.cells(vs(f p.1))T(0,0)))
  (hb:w'.heap[b]? =w.heap[b]?)(hs: ∀ g∈l.map(·.2),¬ g=c→w'.heap[g]? =w.heap[g]?):Shelf vs num T w' base b(YtkbcplnlehdjfaaGreat.upd c f l):=by
 refine⟨?_,fun p hp=> ?_,?_,?_⟩
 ·rw [upd_keys hn]
  exact h.map.same hb
 ·by_cases e:p.2=c
  ·obtain⟨q,hq,hqc,rfl⟩:=(mem_upd_eq e).1 hp
   have:=hc q hq hqc
   rw [← hqc] at this
   exact this
  ·have hp':=(mem_upd_ne e).1 hp
   exact(hs p.2(List.mem_map.2⟨p,hp',rfl⟩)e).trans(h.box p hp')
 ·rw [upd_blocks]; exact h.nodup
 ·rw [upd_blocks]; exact h.low
theorem Shelf.one {w:World} {base b:Nat} {l:List(α × Nat)} (h:Shelf vs num T w base b l) {p p':α × Nat} (hp:p∈l)(hp':p'∈l)(e:p.2=p'.2):p=p':=by
 have hn:=(List.nodup_cons.1 h.nodup).2
 clear h
 induction l with
 | nil=>cases hp
 | cons y r ih=>
  rw [List.map_cons,List.nodup_cons] at hn
  rcases List.mem_cons.1 hp with rfl | h1
  ·rcases List.mem_cons.1 hp' with rfl | h2
   ·rfl
   ·exact absurd(List.mem_map.2⟨p',h2,e.symm⟩)hn.1
  ·rcases List.mem_cons.1 hp' with rfl | h2
   ·exact absurd(List.mem_map.2⟨p,h1,e⟩)hn.1
   ·exact ih h1 h2 hn.2
theorem Shelf.ne {w:World} {base b:Nat} {l:List(α × Nat)} (h:Shelf vs num T w base b l) {p:α × Nat} (hp:p∈l): ¬ p.2=b:=fun e=>
 (List.nodup_cons.1 h.nodup).1(List.mem_map.2⟨p,hp,e⟩)
end
theorem wpList_append_run {P:Program} (w:World) {ops:Array Oper} {rest:List Oper} {o:Oper} {a:Act} {Q:Exit→Act→World→Prop} (hgd:o.guard=none)(s x:Operand)(t:TypeId)
  (ho:o.op= .call { callee:= .builtin .append,args:= #[s,x],argTypes:= #[t,t] })(v u r:Value)(w':World)(hs:a.eval s=v)(hx:a.eval x=u)(hr:(Builtin.append_ #[t,t] o.type #[v,u]).run P w= .ok r w')
  (h:wpList P ops Q rest(a.put o.dst r)w'):wpList P ops Q(o :: rest)a w:=by
 refine wpList_plain hgd fun K hK=> ?_
 unfold Oper.wp execOp
 simp only [ho,resolve,invoke,builtin,Sem.run_bind,Sem.run_pure,Result.andThen_ok,List.map_toArray,List.map_cons,List.map_nil,hs,hx,hr]
 exact hK _ _ h
structure Nest(α:Type)where
 vs:α→Array Value
 num:α→Int
 T:TypeId
 e:TypeId
 size:Nat
 ad:α→Option Addr
 cap:α→Nat
 len:α→Nat
 flat:α→List Value
 set:α→Option Addr→Nat→α
 num_set: ∀ x a c,num(set x a c)=num x
 len_set: ∀ x a c,len(set x a c)=len x
 flat_set: ∀ x a c,flat(set x a c)=flat x
 ad_set: ∀ x a c,ad(set x a c)=a
 cap_set: ∀ x a c,cap(set x a c)=c
 set_set: ∀ x a c a' c',set(set x a c)a' c'=set x a' c'
section
variable {α:Type} (N:Nest α)
def Nest.kid(x:α):Option Nat:=(N.ad x).map(·.block)
def Nest.Mine(w:World)(base:Nat)(x:α):Prop:=w.ownsRow base N.e N.size(.slice(N.ad x)(N.len x)(N.cap x))(N.len x)(N.flat x)
variable {N}
theorem Nest.Mine.same {w w':World} {base:Nat} {x:α} (h:N.Mine w base x)(hs: ∀ g,N.kid x=some g→w'.heap[g]? =w.heap[g]?):N.Mine w' base x:=by
 obtain⟨hl,h2⟩:=h
 refine⟨hl,?_⟩
 rcases h2 with h2 | ⟨g,cap,cur,hv,hb,hg,r⟩
 ·exact .inl h2
 ·have hk:N.kid x=some g:=by
   simp only [Value.slice.injEq] at hv
   simp [Nest.kid,hv.1]
  exact .inr⟨g,cap,cur,hv,hb,(hs g hk).trans hg,r⟩
theorem Nest.Mine.lt {w:World} {base:Nat} {x:α} (h:N.Mine w base x) {g:Nat} (hk:N.kid x=some g):base≤g∧g < w.heap.size:=by
 rcases h.2 with ⟨hv,-⟩ | ⟨g',cap,cur,hv,hb,hg,r⟩
 ·simp only [Value.slice.injEq] at hv
  simp [Nest.kid,hv.1] at hk
 ·simp only [Value.slice.injEq] at hv
  simp only [Nest.kid,hv.1,Option.map_some,Option.some.injEq] at hk
  subst hk
  exact⟨hb,(Array.getElem?_eq_some_iff.1 hg).1⟩
theorem Nest.Mine.low {w:World} {base base':Nat} {x:α} (h:N.Mine w base x)(hb:base'≤base):N.Mine w base' x:=own_low h hb
theorem Nest.Mine.row {w:World} {base:Nat} {x:α} (h:N.Mine w base x):Row w(N.ad x)(N.flat x):=by
 obtain⟨a,cap,e,hr⟩:=own_form h
 simp only [Value.slice.injEq] at e
 rw [e.1]
 exact hr
theorem Nest.mine_set {w:World} {base:Nat} {x:α} {a:Option Addr} {c:Nat} (h:w.ownsRow base N.e N.size(.slice a(N.len x)c)(N.len x)(N.flat x)):N.Mine w base(N.set x a c):=by
 unfold Nest.Mine
 rw [N.ad_set,N.len_set,N.cap_set,N.flat_set]
 exact h
variable (N)in
structure OwnIn(w0 wr:World)(base b:Nat)(l l':List(α × Nat))(left:Lit→Bool):Prop where
 shelf:Shelf N.vs N.num N.T wr base b l'
 alike:l'.map(fun p=>(N.set p.1 none 0,p.2))=l.map(fun p=>(N.set p.1 none 0,p.2))
 own: ∀ p∈l',left(.int .i64(N.num p.1))=false→N.Mine wr w0.heap.size p.1
 old: ∀ p∈l',left(.int .i64(N.num p.1))=true→p∈l
 apart: ∀ p∈l',∀ p'∈l',left(.int .i64(N.num p.1))=false→left(.int .i64(N.num p'.1))=false→ ∀ g,N.kid p.1=some g→N.kid p'.1=some g→p.2=p'.2
 os:wr.os=w0.os
 tape:wr.tape=w0.tape
 output:wr.output=w0.output
 size:w0.heap.size≤wr.heap.size
 same: ∀ g,g < w0.heap.size→g∉l.map(·.2)→wr.heap[g]? =w0.heap[g]?
theorem has_map(m:MapL) {p:Int × Nat} (hp:p∈m):Maps.has(mapD m)(.int .i64 p.1)=true:=by
 show (m.map encP).any(fun q=>q.1.sameKey(.int .i64 p.1))=true
 rw [List.any_eq_true]
 refine⟨encP p,List.mem_map.2⟨p,hp,rfl⟩,?_⟩
 have:(encP p).1.sameKey(.int .i64 p.1)=(p.1 == p.1):=sameKey_int _ _
 rw [this]
 simp
theorem OwnIn.start {w0 w1:World} {base b:Nat} {l:List(α × Nat)} (h:Shelf N.vs N.num N.T w0 base b l)(hg:w0.grownBy w1 none):OwnIn N w0 w1 base b l l(Maps.has(mapD(keysOf N.num l))):=by
 have hk: ∀ p∈l,Maps.has(mapD(keysOf N.num l))(.int .i64(N.num p.1))=true:=fun p hp=>has_map(keysOf N.num l)(p:=(N.num p.1,p.2))(List.mem_map.2⟨p,hp,rfl⟩)
 refine⟨h.same fun g hg'=>hg.block g(h.lt g hg')(by simp),rfl,fun p hp e=> ?_,fun p hp _=>hp,fun p hp p' _ e=> ?_,hg.os,hg.tape,hg.output,hg.size,fun g hg' _=>hg.block g hg'(by simp)⟩
 ·rw [hk p hp] at e; cases e
 ·rw [hk p hp] at e; cases e
theorem OwnIn.next {w0 wr w2:World} {base b r:Nat} {l l':List(α × Nat)} {left:Lit→Bool} (h:OwnIn N w0 wr base b l l' left)(hg:wr.grownBy w2(some r))(hl: ∀ g∈b :: l.map(·.2),g < w0.heap.size)(hr:w0.heap.size≤r)(hkid: ∀ p∈l',left(.int .i64(N.num p.1))=false→ ¬ N.kid p.1=some r):OwnIn N w0 w2 base b l l' left:=by
 have hbl:l'.map(·.2)=l.map(·.2):=by
  have:=congrArg(List.map(·.2))h.alike
  simp only [List.map_map,Function.comp_def] at this
  exact this
 refine⟨h.shelf.same fun g hg'=>hg.block g(h.shelf.lt g hg')(fun e=> ?_),h.alike,fun p hp e=>(h.own p hp e).same fun g hk=>hg.block g((h.own p hp e).lt hk).2(fun e'=>hkid p hp e(by rw [hk]; exact e')),h.old,h.apart,hg.os.trans h.os,hg.tape.trans h.tape,hg.output.trans h.output,Nat.le_trans h.size hg.size,fun g hg' hn=>(hg.block g(Nat.lt_of_lt_of_le hg' h.size)(fun e=> ?_)).trans(h.same g hg' hn)⟩
 ·rw [hbl] at hg'
  have:=hl g hg'
  have:=Option.some.inj e
  omega
 ·have:=Option.some.inj e
  omega
theorem OwnIn.blocks {w0 wr:World} {base b:Nat} {l l':List(α × Nat)} {left:Lit→Bool} (h:OwnIn N w0 wr base b l l' left):l'.map(·.2)=l.map(·.2):=by
 have:=congrArg(List.map(·.2))h.alike
 simp only [List.map_map,Function.comp_def] at this
 exact this
theorem OwnIn.keys {w0 wr:World} {base b:Nat} {l l':List(α × Nat)} {left:Lit→Bool} (h:OwnIn N w0 wr base b l l' left):keysOf N.num l'=keysOf N.num l:=by
 have:=congrArg(List.map(fun p=>(N.num p.1,p.2)))h.alike
 simp only [List.map_map,Function.comp_def,N.num_set] at this
 exact this
theorem OwnIn.step {w0 wr w3 w4:World} {base b:Nat} {l l':List(α × Nat)} {left:Lit→Bool} {p:α × Nat} {a:Option Addr} {cap:Nat} (h:OwnIn N w0 wr base b l l' left)(hl: ∀ g∈b :: l.map(·.2),g < w0.heap.size)(hp:p∈l')
  (ho:w3.ownsRow wr.heap.size N.e N.size(.slice a(N.len p.1)cap)(N.len p.1)(N.flat p.1))(hg:wr.grownBy w3 none)(hc:w4.heap[p.2]? =some(.cells(N.vs(N.set p.1 a cap))N.T(0,0)))(hs: ∀ g,¬ g=p.2→w4.heap[g]? =w3.heap[g]?)
  (h1:w4.os=w3.os)(h2:w4.tape=w3.tape)(h3:w4.output=w3.output)(h4:w4.heap.size=w3.heap.size):
  OwnIn N w0 w4 base b l(upd p.2(fun x=>N.set x a cap)l')(fun z=>left z && !z.sameKey(.int .i64(N.num p.1))):=by
 have hpl:p.2∈l.map(·.2):=by rw [← h.blocks]; exact List.mem_map.2⟨p,hp,rfl⟩
 have hlt:p.2 < w0.heap.size:=hl p.2(List.mem_cons_of_mem _ hpl)
 have hone: ∀ q∈l',q.2=p.2→q=p:=fun q hq e=>h.shelf.one hq hp e
 have hcell: ∀ q∈l',¬ q.2=p.2→ ¬ N.num q.1=N.num p.1:=fun q hq hne e=>hne(by
  have hr:=h.shelf.map.2
  have a1:=lookM_mem hr(p:=(N.num q.1,q.2))(List.mem_map.2⟨q,hq,rfl⟩)
  have a2:=lookM_mem hr(p:=(N.num p.1,p.2))(List.mem_map.2⟨p,hp,rfl⟩)
  simp only [e] at a1
  rw [a1] at a2
  exact Option.some.inj a2)
 have hleft: ∀ q∈l',¬ q.2=p.2→(left(.int .i64(N.num q.1)) && !(Lit.int .i64(N.num q.1)).sameKey(.int .i64(N.num p.1)))=left(.int .i64(N.num q.1)):=fun q hq hne=>by
  rw [sameKey_int]
  simp [hcell q hq hne]
 have hmine:N.Mine w3 wr.heap.size(N.set p.1 a cap):=Nest.mine_set ho
 have hblk: ∀ g,g < wr.heap.size→ ¬ g=p.2→w4.heap[g]? =wr.heap[g]? :=fun g hg' hne=>(hs g hne).trans(hg.block g hg'(by simp))
 have hkp: ∀ q∈l',left(.int .i64(N.num q.1))=false→ ∀ g,N.kid q.1=some g→ ¬ g=p.2:=fun q hq e g hk e'=>by
  have:=((h.own q hq e).lt hk).1
  omega
 refine⟨?_,?_,fun q hq e=> ?_,fun q hq e=> ?_,fun q hq q' hq' e e' g hk hk'=> ?_,h1.trans(hg.os.trans h.os),h2.trans(hg.tape.trans h.tape),h3.trans(hg.output.trans h.output),by rw [h4]; exact Nat.le_trans h.size hg.size,fun g hg' hn=> ?_⟩
 ·refine h.shelf.upd(fun q _ _=>N.num_set _ _ _)(fun q hq e=> ?_) ?_ fun g hg' hne=>hblk g(h.shelf.lt g(List.mem_cons_of_mem _ hg'))hne
  ·rw [hone q hq e]; exact hc
  ·exact hblk b h.shelf.map.lt(fun e=>h.shelf.ne hp e.symm)
 ·rw [← h.alike]
  simp only [upd,List.map_map]
  refine List.map_congr_left fun q _=> ?_
  simp only [Function.comp]
  split
  ·simp only [N.set_set]
  ·rfl
 ·by_cases e0:q.2=p.2
  ·obtain⟨q0,hq0,hq1,rfl⟩:=(mem_upd_eq e0).1 hq
   rw [hone q0 hq0 hq1]
   refine(hmine.low h.size).same fun g hk=>hs g(fun e'=> ?_)
   have:=(hmine.lt hk).1
   have:=h.size
   omega
  ·have hq0:=(mem_upd_ne e0).1 hq
   rw [hleft q hq0 e0] at e
   exact(h.own q hq0 e).same fun g hk=>hblk g((h.own q hq0 e).lt hk).2(hkp q hq0 e g hk)
 ·by_cases e0:q.2=p.2
  ·obtain⟨q0,hq0,hq1,rfl⟩:=(mem_upd_eq e0).1 hq
   rw [hone q0 hq0 hq1] at e
   simp only [N.num_set] at e
   rw [sameKey_int] at e
   simp at e
  ·have hq0:=(mem_upd_ne e0).1 hq
   rw [hleft q hq0 e0] at e
   exact h.old q hq0 e
 ·by_cases e0:q.2=p.2
  ·by_cases e1:q'.2=p.2
   ·rw [e0,e1]
   ·obtain⟨q0,hq0,hq1,rfl⟩:=(mem_upd_eq e0).1 hq
    have hq2:=(mem_upd_ne e1).1 hq'
    rw [hleft q' hq2 e1] at e'
    rw [hone q0 hq0 hq1] at hk
    have:=((h.own q' hq2 e').lt hk').2
    have:=(hmine.lt hk).1
    omega
  ·have hq0:=(mem_upd_ne e0).1 hq
   rw [hleft q hq0 e0] at e
   by_cases e1:q'.2=p.2
   ·obtain⟨q2,hq2,hq3,rfl⟩:=(mem_upd_eq e1).1 hq'
    rw [hone q2 hq2 hq3] at hk'
    have:=((h.own q hq0 e).lt hk).2
    have:=(hmine.lt hk').1
    omega
   ·have hq2:=(mem_upd_ne e1).1 hq'
    rw [hleft q' hq2 e1] at e'
    exact h.apart q hq0 q' hq2 e e' g hk hk'
 ·have hne: ¬ g=p.2:=fun e=>hn(by rw [e]; exact hpl)
  exact(hblk g(Nat.lt_of_lt_of_le hg' h.size)hne).trans(h.same g hg' hn)
theorem grown_setCell(w:World)(c i:Nat)(v:Value):w.grownBy(w.setCell⟨c,i,none⟩v)(some c):=
 ⟨rfl,rfl,rfl,by simp [World.setCell],fun k _ hne=>Below.heap_setCell w _ v k(fun e=>hne(by rw [e]))⟩
theorem OwnIn.pick {w0 wr:World} {base b c:Nat} {l l':List(α × Nat)} {left:Lit→Bool} {x:Int} {kl:Lit} {y:DataW Unit × List MemPlace} (h:OwnIn N w0 wr base b l l' left)(hkey:keyOf Tryz.prog 2(.int .i64 x)=some kl)(hv:ptrR(ptrV c)=some y)
  (hat: ∀ zd,(mapD(keysOf N.num l)).atKey kl zd=y.1): ∃ p∈l',N.num p.1=x∧p.2=c∧kl= .int .i64 x:=by
 obtain⟨x',e,rfl,-⟩:=keyOf_int_inv Tryz.underlying2 hkey
 cases e
 obtain⟨g,e,rfl⟩:=ptrR_inv hv
 have e:g=c:=by
  simp only [ptrV,Value.pointer.injEq,Option.some.injEq,Addr.mk.injEq] at e
  exact e.1.symm
 subst e
 have h1:=hat .nil
 rw [atKey_map] at h1
 cases hl:lookM(keysOf N.num l)x with
 | none=>rw [hl] at h1; cases h1
 | some g'=>
  rw [hl] at h1
  simp only [DataW.lit.injEq,Lit.int.injEq,Int.natCast_inj,true_and] at h1
  subst h1
  have hm:=mem_of_lookM hl
  rw [← h.keys] at hm
  obtain⟨p,hp,e⟩:=List.mem_map.1 hm
  simp only [Prod.mk.injEq] at e
  exact⟨p,hp,e.1,e.2,rfl⟩
theorem OwnIn.turn {w0 wr w2 w3:World} {base b r n cnt cnt' i:Nat} {l l':List(α × Nat)} {left:Lit→Bool} {D:DataW Unit} {p:α × Nat} {a:Option Addr} {cap:Nat} (h:OwnIn N w0 wr base b l l' left)(hrg:wr.ranges Tryz.prog 2 ptrR b r n D left cnt)
  (hgr:wr.grownBy w2(some r))(hrg2:w2.ranges Tryz.prog 2 ptrR b r n D(fun z=>left z && !z.sameKey(.int .i64(N.num p.1)))cnt')(hl: ∀ g∈b :: l.map(·.2),g < w0.heap.size)(hr:w0.heap.size≤r)(hp:p∈l')
  (ho:w3.ownsRow w2.heap.size N.e N.size(.slice a(N.len p.1)cap)(N.len p.1)(N.flat p.1))(hg:w2.grownBy w3 none)(hvs:(N.vs p.1).setIfInBounds i(.slice a(N.len p.1)cap)=N.vs(N.set p.1 a cap)):
  OwnIn N w0(w3.setCell⟨p.2,i,none⟩(.slice a(N.len p.1)cap))base b l(upd p.2(fun x=>N.set x a cap)l')(fun z=>left z && !z.sameKey(.int .i64(N.num p.1)))∧
   (w3.setCell⟨p.2,i,none⟩(.slice a(N.len p.1)cap)).ranges Tryz.prog 2 ptrR b r n D(fun z=>left z && !z.sameKey(.int .i64(N.num p.1)))cnt':=by
 have hpl:p.2∈l.map(·.2):=by rw [← h.blocks]; exact List.mem_map.2⟨p,hp,rfl⟩
 have hlt:p.2 < w0.heap.size:=hl p.2(List.mem_cons_of_mem _ hpl)
 have h2:OwnIn N w0 w2 base b l l' left:=h.next hgr hl hr fun q hq e hk=>by
  obtain⟨es,clock,since,seen,c0,_,_,_,_,hit,_⟩:=hrg
  rcases(h.own q hq e).2 with ⟨hv,-⟩ | ⟨g',cap',cur,hv,hb,hg',-⟩
  ·simp only [Value.slice.injEq] at hv
   simp [Nest.kid,hv.1] at hk
  ·simp only [Value.slice.injEq] at hv
   simp only [Nest.kid,hv.1,Option.map_some,Option.some.injEq] at hk
   subst hk
   rw [hit] at hg'
   cases hg'
 have hbox:=(hg.block p.2(Nat.lt_of_lt_of_le hlt h2.size)(by simp)).trans(h2.shelf.box p hp)
 have hc:=heap_setCell_same w3 p.2 i _ _(.slice a(N.len p.1)cap)hbox
 rw [hvs] at hc
 refine⟨h2.step hl hp ho hg hc(fun g hne=>Below.heap_setCell w3 _ _ g hne)rfl rfl rfl(by simp [World.setCell]),?_⟩
 refine(hrg2.kept hg(by simp)(by simp)).kept(grown_setCell w3 p.2 i _)(fun e=> ?_)(fun e=> ?_)
 ·exact h2.shelf.ne hp(Option.some.inj e).symm
 ·have:=Option.some.inj e
  omega
def kids(N:Nest α)(l:List(α × Nat)):List Nat:=l.filterMap fun p=>N.kid p.1
theorem OwnIn.nodup {w0 wr:World} {base b:Nat} {l l':List(α × Nat)} {left:Lit→Bool} (h:OwnIn N w0 wr base b l l' left)(hd: ∀ kl,left kl=false):(kids N l').Nodup:=by
 have hn:=(List.nodup_cons.1 h.shelf.nodup).2
 have ha:=h.apart
 clear h
 induction l' with
 | nil=>exact List.nodup_nil
 | cons y r ih=>
  rw [List.map_cons,List.nodup_cons] at hn
  have ihr:=ih hn.2(fun p hp p' hp'=>ha p(List.mem_cons_of_mem _ hp)p'(List.mem_cons_of_mem _ hp'))
  unfold kids at ihr ⊢
  rw [List.filterMap_cons]
  split
  ·exact ihr
  ·rename_i g hg
   refine List.nodup_cons.2⟨fun hm=> ?_,ihr⟩
   obtain⟨p,hp,hk⟩:=List.mem_filterMap.1 hm
   exact hn.1(List.mem_map.2⟨p,hp,(ha y(by simp)p(by simp [hp])(hd _)(hd _)g hg hk).symm⟩)
end
end Go.Proofs.YtkbcplnlehdjfaaGreat

namespace Go.Proofs.YtkbcplnlehdjfaaGreat
open Go.RowKit Go.Maps Go.Sort Go.Shelf
theorem keysProc_call(mb:Option Nat)(W:World):Calls Tryz.prog 221 #[.map mb] W fun e w'=>e= .returned(.func(.func 232) #[] #[.pointer(some⟨W.heap.size,0,none⟩)])∧w'=W.alloc(.cells #[.map mb] 108):=
 (callsIn_wide(n:=5)).1(AnyZI.keys_in Tryz.keysProc Fence.wide 5 trivial rfl mb W)
theorem sortedKeysProc_any(Bm b:Nat)(m:MapL)(W:World)(hBm:Bm < W.heap.size)(hc:W.cell? ⟨Bm,0,none⟩=some(.map(some b)))(h:MapIs W b m)(hm:m.length≤1048576):
  Calls Tryz.prog 220 #[.func(.func 232) #[] #[.pointer(some⟨Bm,0,none⟩)]] W fun e w'=> ∃ v:Value,e= .returned v∧w'.ownsRow W.heap.size 2 1 v m.length(m.map fun p=> .int .i64 p.1)∧Below W.heap.size W w':=by
 have hsz:Maps.size(mapD m)=m.length:=size_map m
 have hseq:SeqGives Fence.wide 2 Tryz.prog 232 #[.pointer(some⟨Bm,0,none⟩)] encZ(fun ss=>ss.Perm(intKeys(mapD m)))(Maps.size(mapD m))W:=
  AnyZI.keys_gives(ρ:=Tryz.keysProc_ren) { Tryz.keysProc with } Fence.wide _ trivial rfl(by omega)Bm b m.length(mapD m)W hBm hc h.1
 have cS:=AnyZI.sorted_in Tryz.sortedA Fence.wide 5 trivial trivial trivial trivial rfl(by omega)(Tryz.sortsA _)(enters_of Tryz.func231(by kernel_rfl)rfl)232 #[.pointer(some⟨Bm,0,none⟩)] trivial(enters_of Tryz.func232(by kernel_rfl)rfl)_ _(by rw [hsz]; unfold maxLen; omega)(by rw [hsz]; omega)_ hseq
 change CallsIn _ _ Tryz.prog 220 _ _ _ at cS
 refine(callsIn_wide.1 cS).mono ?_
 rintro e w'⟨v,ss,rfl,hS,hrow,hnil,hbel⟩
 refine⟨v,rfl,?_,hbel⟩
 rw [keys_sorted h.2 hS] at hrow
 have hl:ss.length=m.length:=by
  rw [hS.length_eq,keys_int,List.length_map]
 rw [hl,List.map_map] at hrow
 exact hrow
theorem ptrInfoProc:(Tryz.prog.info? 102).map(fun i=>(i.zero,i.size,i.bytes))=some(some(.pointer none),1,8):=by kernel_rfl
theorem allProc_any(most:Int)(b:Nat)(m:MapL)(w:World)(h:MapIs w b m)(hm:m.length≤1048576)(hwf: ∀ p∈m,(Lit.int .i64 p.1).wf=true):
  Calls Tryz.prog 202 #[.agg #[.int .i64 most,.map(some b)]] w fun e w'=> ∃ a cap,e= .returned(.slice a m.length cap)∧w'.ownsRow w.heap.size 102 1(.slice a m.length cap)m.length(m.map fun p=>ptrV p.2)∧Below w.heap.size w w':=by
 obtain⟨i0,hi,e0⟩:=Option.map_eq_some_iff.1 ptrInfoProc
 simp only [Prod.mk.injEq] at e0
 have HI:Hid(Tryz.prog.info? 102=some i0∧i0.zero=some(.pointer none)∧i0.size=1∧i0.bytes=8):=⟨hi,e0⟩
 have HM:Hid(MapIs w b m∧ ∀ p∈m,(Lit.int .i64 p.1).wf=true):=⟨h,hwf⟩
 have hbl:b < w.heap.size:=h.lt
 clear hi e0 h hwf
 go_enter Tryz.func202,Tryz.ntmps202
 go_wp2_with (go_at_call 221; refine(keysProc_call _ _).mono ?_; rintro e w'⟨rfl,rfl⟩)
 refine(sortedKeysProc_any(w.heap.size+1)b m _(by simp)(by simp)(HM.out.1.below(((Below.refl _ w).alloc(Nat.le_refl _)_).alloc(by simp)_))hm).mono ?_
 rintro e w2⟨v,rfl,hown,hb2⟩
 have HB2:Hid(Below w.heap.size w w2):=(((Below.refl _ w).alloc(Nat.le_refl _)_).alloc(by simp)_).trans(hb2.mono(by simp; omega))
 have HS:Hid(w2.heap[w.heap.size]? =some(.cells #[.int .i64 most,.map(some b)] 110(0,0))):=(hb2.block _(by simp; omega)).trans((heap_alloc_old _ _(by simp)).trans(heap_alloc_new _ _))
 obtain⟨a,cap,hv,hrow⟩:=own_form hown
 have HR:Hid(Row w2 a(m.map fun p=> .int .i64 p.1)):=hrow
 rw [hv]
 clear hv hown hrow hb2 v
 go_wp2_with fail
 go_loopw [3,11] (fun l i wr=> ∃ k:Nat,k≤m.length∧i= .int .i64 k∧ ∃ a' cap',l= .slice a' k cap'∧Hid(wr.ownsRow w2.heap.size 102 1(.slice a' k cap')k((m.take k).map fun p=>ptrV p.2)∧Below w2.heap.size w2 wr))(fun _ i _=>m.length - (intOf i).toNat)
 case atStart=>exact⟨0,Nat.zero_le _,rfl,none,0,rfl,⟨World.ownsRow_nil _ _ _ _,Below.refl _ _⟩⟩
 case round=>
  obtain⟨k,hk,rfl,a',cap',rfl,HO⟩:=hrel
  by_cases hlt:k < m.length
  ·have i0':(0:Int)≤(k:Int):=by omega
   have i1:(k:Int) < (m.length:Int):=by omega
   obtain⟨p,hp⟩: ∃ p,m[k]? =some p:=⟨_,List.getElem?_eq_getElem hlt⟩
   have hpm:=List.mem_of_getElem? hp
   obtain⟨g,ha,hc⟩:=(HR.out.below HO.out.2)k(.int .i64 p.1)(by simp [hp])
   subst ha
   have hsz2:=HB2.out.size
   have hsz3:=HO.out.2.size
   have hmw:MapIs wr b m:=HM.out.1.below(HB2.out.trans(HO.out.2.mono hsz2))
   have hlk:=hmw.look Tryz.underlying108(zeroPtrProc wr)(HM.out.2 p hpm)false
   rw [lookM_mem hmw.2 hpm] at hlk
   have hsw:wr.heap[w.heap.size]? =some(.cells #[.int .i64 most,.map(some b)] 110(0,0)):=(HO.out.2.block _(Array.getElem?_eq_some_iff.1 HS.out).1).trans HS.out
   have s1:wr.cell? ⟨w.heap.size,1,none⟩=some(.map(some b)):=by simp [World.cell?,hsw]
   have HP:Hid(m[k]? =some p):=hp
   simp only [ptrO,ptrV,Bool.false_eq_true,if_false] at hlk
   clear hp hpm hmw hsw
   go_wp2_with (at_builtin; refine wpList_append_own_at _ rfl _ _ 204 rfl w2.heap.size 102 i0(.pointer none)1 8 Tryz.underlying204 HI.out.1 HI.out.2.1 HI.out.2.2.1 HI.out.2.2.2 rfl(by decide)(.slice a' k cap')k((m.take k).map fun p=>ptrV p.2)rfl(HO.out.1.alloc _)⟨wr.heap.size,0,none⟩1 1 [.pointer(some⟨p.2,0,none⟩)] (by rfl)rfl(World.news_of_block(cs:= #[.pointer(some⟨p.2,0,none⟩)])(t:=102)(fr:=(0,0))(heap_alloc_new wr _))(by simp [Value.oneCell'])(by unfold maxLen; omega)(by omega)(by simp; omega) ?_; intro v' w5 hown' hgrow hnil hloc; obtain⟨a5,cap5,rfl,-⟩:=own_form hown'; have HN:Hid(w5.ownsRow w2.heap.size 102 1(.slice a5(k+1)cap5)(k+1)((m.take(k+1)).map fun p=>ptrV p.2)∧Below w2.heap.size w2 w5):=⟨by rw [take_up HP.out,List.map_append]; exact hown',(HO.out.2.alloc hsz3 _).grown hgrow(by simp; omega)(fun q hq=>(HO.out.1.lt q hq).1)⟩; clear hown' hgrow hnil hloc)
   go_roundw
   case rel=>exact⟨k+1,by omega,by go_num,a5,cap5,rfl,HN⟩
   case measure=>simp [intOf]; omega
  ·have i1: ¬ (k:Int) < (m.length:Int):=by omega
   have e:k=m.length:=by omega
   subst e
   go_wp2
   go_ret
   refine⟨a',cap',rfl,?_,HB2.out.trans(HO.out.2.mono HB2.out.size)⟩
   have:=own_low HO.out.1 HB2.out.size
   rwa [List.take_length] at this
end Go.Proofs.YtkbcplnlehdjfaaGreat
