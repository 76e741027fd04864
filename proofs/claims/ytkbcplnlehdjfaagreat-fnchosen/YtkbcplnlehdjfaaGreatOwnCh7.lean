/- What the proof leans on, part 7: StProc, LyPort, LyBuffer, LyBoard, KeysB, OpenB. -/
import Derived.Test.YtkbcplnlehdjfaaGreatOwnCh0
import Derived.Test.YtkbcplnlehdjfaaGreatOwnCh1
import Derived.Test.YtkbcplnlehdjfaaGreatOwnCh6
import Derived.Maps.AppendAt
import Derived.Deep.AppendLies
set_option maxRecDepth 100000
set_option maxHeartbeats 8000000

namespace Go.Proofs.YtkbcplnlehdjfaaGreat
open Go.RowKit
structure StIn(w W:World)(x:ProcD):Prop where
 box:W.heap[w.heap.size]? =some(.cells(procVs x)43(0,0))
 fit:ProcFit W x
 bel:Below w.heap.size w W
theorem StIn.below {w W W':World} {x:ProcD} (h:StIn w W x)(hb:Below W.heap.size W W'):StIn w W' x:=
 ⟨(hb.block _(Array.getElem?_eq_some_iff.1 h.box).1).trans h.box,h.fit.below hb,h.bel.trans(hb.mono h.bel.size)⟩
theorem StIn.start {w:World} {x:ProcD} (h:ProcFit w x):StIn w(w.alloc(.cells(procVs x)43))x:=by
 have b1:Below w.heap.size w(w.alloc(.cells(procVs x)43)):=(Below.refl _ _).alloc(Nat.le_refl _)_
 exact⟨heap_alloc_new _ _,h.below b1,b1⟩
theorem emptyB_yes {s:ByteArray} (h:s.toList= []):emptyB s=true:=by simp [emptyB,h]
theorem emptyB_no {s:ByteArray} (h: ¬ s.toList= []):emptyB s=false:=by simp [emptyB,h]
theorem hided {p:Prop} (h:p):Hid p:=h
theorem beq_dec(a b:Int):(a == b)=decide(a=b):=by rw [Bool.eq_iff_iff]; simp
theorem ways4(a b c d:Bool):a=false∨(a=true∧b=false)∨(a=true∧b=true∧c=false)∨(a=true∧b=true∧c=true∧d=false)∨(a=true∧b=true∧c=true∧d=true):=by
 revert a b c d
 decide
theorem ways5(a b c d e:Bool):a=false∨(a=true∧b=false)∨(a=true∧b=true∧c=false)∨(a=true∧b=true∧c=true∧d=false)∨(a=true∧b=true∧c=true∧d=true∧e=false)∨(a=true∧b=true∧c=true∧d=true∧e=true):=by
 revert a b c d e
 decide
theorem ways_or(a b c d:Bool):a=false∨(a=true∧b=false)∨(a=true∧b=true∧c=true)∨(a=true∧b=true∧c=false∧d=false)∨(a=true∧b=true∧c=false∧d=true):=by
 revert a b c d
 decide
theorem state0 {x:ProcP} (h:x.state=0):stateB x=((x.pc == 0) && (x.left == 0) && (x.wake == 0) && (x.on == 0) && (x.since == 0) && emptyB x.held):=by simp [stateB,h,beq_dec]
theorem stateOk_s0(x:ProcD)(w:World)(hf:ProcFit w x)(hs:x.state=0):Calls Tryz.prog 286 #[.agg(procVs x)] w fun e w'=>e= .returned(.bool(stateB x.toProcP))∧Below w.heap.size w w':=by
 have HE:=hided(state0 hs)
 have HI:=hided(StIn.start hf)
 clear hf
 obtain⟨⟨id,prio,prog,state,pc,left,wake,on,held,got,code,since⟩,progA,progC⟩:=x
 replace hs:state=0:=hs
 subst hs
 obtain⟨v0,h0⟩: ∃ v,(pc == 0)=v:=⟨_,rfl⟩
 obtain⟨v1,h1⟩: ∃ v,(left == 0)=v:=⟨_,rfl⟩
 obtain⟨v2,h2⟩: ∃ v,(wake == 0)=v:=⟨_,rfl⟩
 obtain⟨v3,h3⟩: ∃ v,(on == 0)=v:=⟨_,rfl⟩
 obtain⟨v4,h4⟩: ∃ v,(since == 0)=v:=⟨_,rfl⟩
 have HE:=hided(HE.out.trans(show _=(v0 && v1 && v2 && v3 && v4 && emptyB held)by simp only [h0,h1,h2,h3,h4]))
 obtain⟨c0,c1,c2,c3,c4,c5,c6,c7,c8,c9,c10,c11⟩:=proc_cells HI.out.box
 unfold procVs at *
 rcases ways5 v0 v1 v2 v3 v4 with rfl | ⟨rfl,rfl⟩ | ⟨rfl,rfl,rfl⟩ | ⟨rfl,rfl,rfl,rfl⟩ | ⟨rfl,rfl,rfl,rfl,rfl⟩ | ⟨rfl,rfl,rfl,rfl,rfl⟩
 all_goals
  go_enter Tryz.func286,Tryz.ntmps286
  go_wp2
  go_ret
  exact⟨ret_bool(by rw [HE.out]; simp [emptyB]),HI.out.bel⟩
theorem state1 {x:ProcP} (h:x.state=1):stateB x=(hasOpB x && leftB x && (x.wake == 0) && (x.on == 0) && emptyB x.held):=by simp [stateB,h,beq_dec]
theorem stateOk_s1(x:ProcD)(w:World)(hf:ProcFit w x)(hs:x.state=1):Calls Tryz.prog 286 #[.agg(procVs x)] w fun e w'=>e= .returned(.bool(stateB x.toProcP))∧Below w.heap.size w w':=by
 have HE:=hided(state1 hs)
 have HI:=hided(StIn.start hf)
 clear hf
 obtain⟨⟨id,prio,prog,state,pc,left,wake,on,held,got,code,since⟩,progA,progC⟩:=x
 replace hs:state=1:=hs
 subst hs
 obtain⟨v0,h0⟩: ∃ v,hasOpB⟨id,prio,prog,1,pc,left,wake,on,held,got,code,since⟩=v:=⟨_,rfl⟩
 obtain⟨v1,h1⟩: ∃ v,leftB⟨id,prio,prog,1,pc,left,wake,on,held,got,code,since⟩=v:=⟨_,rfl⟩
 obtain⟨v2,h2⟩: ∃ v,(wake == 0)=v:=⟨_,rfl⟩
 obtain⟨v3,h3⟩: ∃ v,(on == 0)=v:=⟨_,rfl⟩
 have HE:=hided(HE.out.trans(show _=(v0 && v1 && v2 && v3 && emptyB held)by simp only [h0,h1,h2,h3]))
 have HOP:=hided h0
 clear h0
 have HLF:=hided h1
 clear h1
 obtain⟨c0,c1,c2,c3,c4,c5,c6,c7,c8,c9,c10,c11⟩:=proc_cells HI.out.box
 unfold procVs at *
 rcases ways4 v0 v1 v2 v3 with rfl | ⟨rfl,rfl⟩ | ⟨rfl,rfl,rfl⟩ | ⟨rfl,rfl,rfl,rfl⟩ | ⟨rfl,rfl,rfl,rfl⟩
 all_goals
  go_enter Tryz.func286,Tryz.ntmps286
  go_wp2_with (first | (go_at_call 229; refine(hasOp_any _ _ HI.out.fit.1.prog).mono ?_; rintro e w1⟨rfl,hb1⟩; have HI:=hided(HI.out.below hb1); obtain⟨c0,c1,c2,c3,c4,c5,c6,c7,c8,c9,c10,c11⟩:=proc_cells HI.out.box; clear hb1; rw [HOP.out]) | (go_at_call 288; refine(leftOk_any _ _ HI.out.fit HOP.out).mono ?_; rintro e w1⟨rfl,hb1⟩; have HI:=hided(HI.out.below hb1); obtain⟨c0,c1,c2,c3,c4,c5,c6,c7,c8,c9,c10,c11⟩:=proc_cells HI.out.box; clear hb1; rw [HLF.out]))
  go_ret
  exact⟨ret_bool(by rw [HE.out]; simp [emptyB]),HI.out.bel⟩
theorem state2 {x:ProcP} (h:x.state=2):stateB x=(hasOpB x && (x.left == 0) && inB x.wake 1 2000000000 && (x.on == 0) && emptyB x.held):=by simp [stateB,h,beq_dec]
theorem stateOk_s2(x:ProcD)(w:World)(hf:ProcFit w x)(hs:x.state=2):Calls Tryz.prog 286 #[.agg(procVs x)] w fun e w'=>e= .returned(.bool(stateB x.toProcP))∧Below w.heap.size w w':=by
 have HE:=hided(state2 hs)
 have HI:=hided(StIn.start hf)
 clear hf
 obtain⟨⟨id,prio,prog,state,pc,left,wake,on,held,got,code,since⟩,progA,progC⟩:=x
 replace hs:state=2:=hs
 subst hs
 obtain⟨v0,h0⟩: ∃ v,hasOpB⟨id,prio,prog,2,pc,left,wake,on,held,got,code,since⟩=v:=⟨_,rfl⟩
 obtain⟨v1,h1⟩: ∃ v,(left == 0)=v:=⟨_,rfl⟩
 obtain⟨v2,h2⟩: ∃ v,inB wake 1 2000000000=v:=⟨_,rfl⟩
 obtain⟨v3,h3⟩: ∃ v,(on == 0)=v:=⟨_,rfl⟩
 have HE:=hided(HE.out.trans(show _=(v0 && v1 && v2 && v3 && emptyB held)by simp only [h0,h1,h2,h3]))
 have HOP:=hided h0
 clear h0
 have HWK:=hided h2
 clear h2
 obtain⟨c0,c1,c2,c3,c4,c5,c6,c7,c8,c9,c10,c11⟩:=proc_cells HI.out.box
 unfold procVs at *
 rcases ways4 v0 v1 v2 v3 with rfl | ⟨rfl,rfl⟩ | ⟨rfl,rfl,rfl⟩ | ⟨rfl,rfl,rfl,rfl⟩ | ⟨rfl,rfl,rfl,rfl⟩
 all_goals
  go_enter Tryz.func286,Tryz.ntmps286
  go_wp2_with (first | (go_at_call 229; refine(hasOp_any _ _ HI.out.fit.1.prog).mono ?_; rintro e w1⟨rfl,hb1⟩; have HI:=hided(HI.out.below hb1); obtain⟨c0,c1,c2,c3,c4,c5,c6,c7,c8,c9,c10,c11⟩:=proc_cells HI.out.box; clear hb1; rw [HOP.out]) | (go_at_call 289; refine(isWake_any wake _).mono ?_; rintro e w1⟨rfl,hw1⟩; rw [HWK.out,hw1]; clear hw1 w1))
  go_ret
  exact⟨ret_bool(by rw [HE.out]; simp [emptyB]),HI.out.bel⟩
theorem state3 {x:ProcP} (h:x.state=3):stateB x=(hasOpB x && (x.left == 0) && (inB x.wake 1 2000000000 || (x.wake == -1)) && emptyB x.held):=by simp [stateB,h,beq_dec,wakeB]
theorem stateOk_s3(x:ProcD)(w:World)(hf:ProcFit w x)(hs:x.state=3):Calls Tryz.prog 286 #[.agg(procVs x)] w fun e w'=>e= .returned(.bool(stateB x.toProcP))∧Below w.heap.size w w':=by
 have HE:=hided(state3 hs)
 have HI:=hided(StIn.start hf)
 clear hf
 obtain⟨⟨id,prio,prog,state,pc,left,wake,on,held,got,code,since⟩,progA,progC⟩:=x
 replace hs:state=3:=hs
 subst hs
 obtain⟨v0,h0⟩: ∃ v,hasOpB⟨id,prio,prog,3,pc,left,wake,on,held,got,code,since⟩=v:=⟨_,rfl⟩
 obtain⟨v1,h1⟩: ∃ v,(left == 0)=v:=⟨_,rfl⟩
 obtain⟨v2,h2⟩: ∃ v,inB wake 1 2000000000=v:=⟨_,rfl⟩
 obtain⟨v3,h3⟩: ∃ v,(wake == -1)=v:=⟨_,rfl⟩
 have HE:=hided(HE.out.trans(show _=(v0 && v1 && (v2 || v3) && emptyB held)by simp only [h0,h1,h2,h3]))
 have HOP:=hided h0
 clear h0
 have HWK:=hided h2
 clear h2
 obtain⟨c0,c1,c2,c3,c4,c5,c6,c7,c8,c9,c10,c11⟩:=proc_cells HI.out.box
 unfold procVs at *
 rcases ways_or v0 v1 v2 v3 with rfl | ⟨rfl,rfl⟩ | ⟨rfl,rfl,rfl⟩ | ⟨rfl,rfl,rfl,rfl⟩ | ⟨rfl,rfl,rfl,rfl⟩
 all_goals
  go_enter Tryz.func286,Tryz.ntmps286
  go_wp2_with (first | (go_at_call 229; refine(hasOp_any _ _ HI.out.fit.1.prog).mono ?_; rintro e w1⟨rfl,hb1⟩; have HI:=hided(HI.out.below hb1); obtain⟨c0,c1,c2,c3,c4,c5,c6,c7,c8,c9,c10,c11⟩:=proc_cells HI.out.box; clear hb1; rw [HOP.out]) | (go_at_call 289; refine(isWake_any wake _).mono ?_; rintro e w1⟨rfl,hw1⟩; rw [HWK.out,hw1]; clear hw1 w1))
  go_ret
  exact⟨ret_bool(by rw [HE.out]; simp [emptyB]),HI.out.bel⟩
theorem state4 {x:ProcP} (h:x.state=4):stateB x=(hasOpB x && (x.left == 0) && (inB x.wake 1 2000000000 || (x.wake == -1)) && emptyB x.held):=by simp [stateB,h,beq_dec,wakeB]
theorem stateOk_s4(x:ProcD)(w:World)(hf:ProcFit w x)(hs:x.state=4):Calls Tryz.prog 286 #[.agg(procVs x)] w fun e w'=>e= .returned(.bool(stateB x.toProcP))∧Below w.heap.size w w':=by
 have HE:=hided(state4 hs)
 have HI:=hided(StIn.start hf)
 clear hf
 obtain⟨⟨id,prio,prog,state,pc,left,wake,on,held,got,code,since⟩,progA,progC⟩:=x
 replace hs:state=4:=hs
 subst hs
 obtain⟨v0,h0⟩: ∃ v,hasOpB⟨id,prio,prog,4,pc,left,wake,on,held,got,code,since⟩=v:=⟨_,rfl⟩
 obtain⟨v1,h1⟩: ∃ v,(left == 0)=v:=⟨_,rfl⟩
 obtain⟨v2,h2⟩: ∃ v,inB wake 1 2000000000=v:=⟨_,rfl⟩
 obtain⟨v3,h3⟩: ∃ v,(wake == -1)=v:=⟨_,rfl⟩
 have HE:=hided(HE.out.trans(show _=(v0 && v1 && (v2 || v3) && emptyB held)by simp only [h0,h1,h2,h3]))
 have HOP:=hided h0
 clear h0
 have HWK:=hided h2
 clear h2
 obtain⟨c0,c1,c2,c3,c4,c5,c6,c7,c8,c9,c10,c11⟩:=proc_cells HI.out.box
 unfold procVs at *
 rcases ways_or v0 v1 v2 v3 with rfl | ⟨rfl,rfl⟩ | ⟨rfl,rfl,rfl⟩ | ⟨rfl,rfl,rfl,rfl⟩ | ⟨rfl,rfl,rfl,rfl⟩
 all_goals
  go_enter Tryz.func286,Tryz.ntmps286
  go_wp2_with (first | (go_at_call 229; refine(hasOp_any _ _ HI.out.fit.1.prog).mono ?_; rintro e w1⟨rfl,hb1⟩; have HI:=hided(HI.out.below hb1); obtain⟨c0,c1,c2,c3,c4,c5,c6,c7,c8,c9,c10,c11⟩:=proc_cells HI.out.box; clear hb1; rw [HOP.out]) | (go_at_call 289; refine(isWake_any wake _).mono ?_; rintro e w1⟨rfl,hw1⟩; rw [HWK.out,hw1]; clear hw1 w1))
  go_ret
  exact⟨ret_bool(by rw [HE.out]; simp [emptyB]),HI.out.bel⟩
theorem state5 {x:ProcP} (h:x.state=5):stateB x=(hasOpB x && (x.left == 0) && (inB x.wake 1 2000000000 || (x.wake == -1))):=by simp [stateB,h,beq_dec,wakeB]
theorem stateOk_s5(x:ProcD)(w:World)(hf:ProcFit w x)(hs:x.state=5):Calls Tryz.prog 286 #[.agg(procVs x)] w fun e w'=>e= .returned(.bool(stateB x.toProcP))∧Below w.heap.size w w':=by
 have HE:=hided(state5 hs)
 have HI:=hided(StIn.start hf)
 clear hf
 obtain⟨⟨id,prio,prog,state,pc,left,wake,on,held,got,code,since⟩,progA,progC⟩:=x
 replace hs:state=5:=hs
 subst hs
 obtain⟨v0,h0⟩: ∃ v,hasOpB⟨id,prio,prog,5,pc,left,wake,on,held,got,code,since⟩=v:=⟨_,rfl⟩
 obtain⟨v1,h1⟩: ∃ v,(left == 0)=v:=⟨_,rfl⟩
 obtain⟨v2,h2⟩: ∃ v,inB wake 1 2000000000=v:=⟨_,rfl⟩
 obtain⟨v3,h3⟩: ∃ v,(wake == -1)=v:=⟨_,rfl⟩
 have HE:=hided(HE.out.trans(show _=(v0 && v1 && (v2 || v3))by simp only [h0,h1,h2,h3]))
 have HOP:=hided h0
 clear h0
 have HWK:=hided h2
 clear h2
 obtain⟨c0,c1,c2,c3,c4,c5,c6,c7,c8,c9,c10,c11⟩:=proc_cells HI.out.box
 unfold procVs at *
 rcases ways_or v0 v1 v2 v3 with rfl | ⟨rfl,rfl⟩ | ⟨rfl,rfl,rfl⟩ | ⟨rfl,rfl,rfl,rfl⟩ | ⟨rfl,rfl,rfl,rfl⟩
 all_goals
  go_enter Tryz.func286,Tryz.ntmps286
  go_wp2_with (first | (go_at_call 229; refine(hasOp_any _ _ HI.out.fit.1.prog).mono ?_; rintro e w1⟨rfl,hb1⟩; have HI:=hided(HI.out.below hb1); obtain⟨c0,c1,c2,c3,c4,c5,c6,c7,c8,c9,c10,c11⟩:=proc_cells HI.out.box; clear hb1; rw [HOP.out]) | (go_at_call 289; refine(isWake_any wake _).mono ?_; rintro e w1⟨rfl,hw1⟩; rw [HWK.out,hw1]; clear hw1 w1))
  go_ret
  exact⟨ret_bool(by rw [HE.out]; simp),HI.out.bel⟩
theorem state6 {x:ProcP} (h:x.state=6):stateB x=(hasOpB x && (x.left == 0) && (inB x.wake 1 2000000000 || (x.wake == -1)) && emptyB x.held):=by simp [stateB,h,beq_dec,wakeB]
theorem stateOk_s6(x:ProcD)(w:World)(hf:ProcFit w x)(hs:x.state=6):Calls Tryz.prog 286 #[.agg(procVs x)] w fun e w'=>e= .returned(.bool(stateB x.toProcP))∧Below w.heap.size w w':=by
 have HE:=hided(state6 hs)
 have HI:=hided(StIn.start hf)
 clear hf
 obtain⟨⟨id,prio,prog,state,pc,left,wake,on,held,got,code,since⟩,progA,progC⟩:=x
 replace hs:state=6:=hs
 subst hs
 obtain⟨v0,h0⟩: ∃ v,hasOpB⟨id,prio,prog,6,pc,left,wake,on,held,got,code,since⟩=v:=⟨_,rfl⟩
 obtain⟨v1,h1⟩: ∃ v,(left == 0)=v:=⟨_,rfl⟩
 obtain⟨v2,h2⟩: ∃ v,inB wake 1 2000000000=v:=⟨_,rfl⟩
 obtain⟨v3,h3⟩: ∃ v,(wake == -1)=v:=⟨_,rfl⟩
 have HE:=hided(HE.out.trans(show _=(v0 && v1 && (v2 || v3) && emptyB held)by simp only [h0,h1,h2,h3]))
 have HOP:=hided h0
 clear h0
 have HWK:=hided h2
 clear h2
 obtain⟨c0,c1,c2,c3,c4,c5,c6,c7,c8,c9,c10,c11⟩:=proc_cells HI.out.box
 unfold procVs at *
 rcases ways_or v0 v1 v2 v3 with rfl | ⟨rfl,rfl⟩ | ⟨rfl,rfl,rfl⟩ | ⟨rfl,rfl,rfl,rfl⟩ | ⟨rfl,rfl,rfl,rfl⟩
 all_goals
  go_enter Tryz.func286,Tryz.ntmps286
  go_wp2_with (first | (go_at_call 229; refine(hasOp_any _ _ HI.out.fit.1.prog).mono ?_; rintro e w1⟨rfl,hb1⟩; have HI:=hided(HI.out.below hb1); obtain⟨c0,c1,c2,c3,c4,c5,c6,c7,c8,c9,c10,c11⟩:=proc_cells HI.out.box; clear hb1; rw [HOP.out]) | (go_at_call 289; refine(isWake_any wake _).mono ?_; rintro e w1⟨rfl,hw1⟩; rw [HWK.out,hw1]; clear hw1 w1))
  go_ret
  exact⟨ret_bool(by rw [HE.out]; simp [emptyB]),HI.out.bel⟩
theorem state7 {x:ProcP} (h:x.state=7):stateB x=(hasOpB x && (x.left == 0) && (inB x.wake 1 2000000000 || (x.wake == -1)) && emptyB x.held):=by simp [stateB,h,beq_dec,wakeB]
theorem stateOk_s7(x:ProcD)(w:World)(hf:ProcFit w x)(hs:x.state=7):Calls Tryz.prog 286 #[.agg(procVs x)] w fun e w'=>e= .returned(.bool(stateB x.toProcP))∧Below w.heap.size w w':=by
 have HE:=hided(state7 hs)
 have HI:=hided(StIn.start hf)
 clear hf
 obtain⟨⟨id,prio,prog,state,pc,left,wake,on,held,got,code,since⟩,progA,progC⟩:=x
 replace hs:state=7:=hs
 subst hs
 obtain⟨v0,h0⟩: ∃ v,hasOpB⟨id,prio,prog,7,pc,left,wake,on,held,got,code,since⟩=v:=⟨_,rfl⟩
 obtain⟨v1,h1⟩: ∃ v,(left == 0)=v:=⟨_,rfl⟩
 obtain⟨v2,h2⟩: ∃ v,inB wake 1 2000000000=v:=⟨_,rfl⟩
 obtain⟨v3,h3⟩: ∃ v,(wake == -1)=v:=⟨_,rfl⟩
 have HE:=hided(HE.out.trans(show _=(v0 && v1 && (v2 || v3) && emptyB held)by simp only [h0,h1,h2,h3]))
 have HOP:=hided h0
 clear h0
 have HWK:=hided h2
 clear h2
 obtain⟨c0,c1,c2,c3,c4,c5,c6,c7,c8,c9,c10,c11⟩:=proc_cells HI.out.box
 unfold procVs at *
 rcases ways_or v0 v1 v2 v3 with rfl | ⟨rfl,rfl⟩ | ⟨rfl,rfl,rfl⟩ | ⟨rfl,rfl,rfl,rfl⟩ | ⟨rfl,rfl,rfl,rfl⟩
 all_goals
  go_enter Tryz.func286,Tryz.ntmps286
  go_wp2_with (first | (go_at_call 229; refine(hasOp_any _ _ HI.out.fit.1.prog).mono ?_; rintro e w1⟨rfl,hb1⟩; have HI:=hided(HI.out.below hb1); obtain⟨c0,c1,c2,c3,c4,c5,c6,c7,c8,c9,c10,c11⟩:=proc_cells HI.out.box; clear hb1; rw [HOP.out]) | (go_at_call 289; refine(isWake_any wake _).mono ?_; rintro e w1⟨rfl,hw1⟩; rw [HWK.out,hw1]; clear hw1 w1))
  go_ret
  exact⟨ret_bool(by rw [HE.out]; simp [emptyB]),HI.out.bel⟩
theorem stateOk_none(x:ProcD)(w:World)(h0: ¬ x.state=0)(h1: ¬ x.state=1)(h2: ¬ x.state=2)(h3: ¬ x.state=3)(h4: ¬ x.state=4)(h5: ¬ x.state=5)(h6: ¬ x.state=6)(h7: ¬ x.state=7):Calls Tryz.prog 286 #[.agg(procVs x)] w fun e w'=>e= .returned(.bool(stateB x.toProcP))∧Below w.heap.size w w':=by
 have HV:Hid(stateB x.toProcP=false):=by show stateB x.toProcP=false; simp [stateB,h0,h1,h2,h3,h4,h5,h6,h7]
 have s0:(x.state == 0)=false:=by simp [h0]
 have s1:(x.state == 1)=false:=by simp [h1]
 have s2:(x.state == 2)=false:=by simp [h2]
 have s3:(x.state == 3)=false:=by simp [h3]
 have s4:(x.state == 4)=false:=by simp [h4]
 have s5:(x.state == 5)=false:=by simp [h5]
 have s6:(x.state == 6)=false:=by simp [h6]
 have s7:(x.state == 7)=false:=by simp [h7]
 clear h0 h1 h2 h3 h4 h5 h6 h7
 unfold procVs
 go_enter Tryz.func286,Tryz.ntmps286
 go_wp2
 go_ret
 exact⟨ret_bool HV.out.symm,(Below.refl _ _).alloc(Nat.le_refl _)_⟩
theorem stateOk_any(x:ProcD)(w:World)(hf:ProcFit w x):Calls Tryz.prog 286 #[.agg(procVs x)] w fun e w'=>e= .returned(.bool(stateB x.toProcP))∧Below w.heap.size w w':=by
 by_cases h0:x.state=0
 ·exact stateOk_s0 x w hf h0
 by_cases h1:x.state=1
 ·exact stateOk_s1 x w hf h1
 by_cases h2:x.state=2
 ·exact stateOk_s2 x w hf h2
 by_cases h3:x.state=3
 ·exact stateOk_s3 x w hf h3
 by_cases h4:x.state=4
 ·exact stateOk_s4 x w hf h4
 by_cases h5:x.state=5
 ·exact stateOk_s5 x w hf h5
 by_cases h6:x.state=6
 ·exact stateOk_s6 x w hf h6
 by_cases h7:x.state=7
 ·exact stateOk_s7 x w hf h7
 exact stateOk_none x w h0 h1 h2 h3 h4 h5 h6 h7
end Go.Proofs.YtkbcplnlehdjfaaGreat

namespace Go.Proofs.YtkbcplnlehdjfaaGreat
open Go.RowKit
attribute [local go_sem ↓] Go.wp_at_zero Go.wp_at_succ
def LaySPort(w:World)(b:Nat)(m:MapL)(most:Int)(x:PortD)(w':World):Prop:=(w'.cell? ⟨w.heap.size,0,none⟩=some(.int .i64 most)∧w'.cell? ⟨w.heap.size,1,none⟩=some(.map(some b))∧(∀ ty,(Builtin.len_ #[123] ty #[.map(some b)]).run Tryz.prog w'= .ok(.int .i64(m.length:Int))w')∧w'.cell? ⟨w.heap.size+1,0,none⟩=some(.int .i64 x.id)∧w'.cell? ⟨w.heap.size+1,1,none⟩=some(.bool x.out)∧w'.cell? ⟨w.heap.size+1,2,none⟩=some(.bool x.queue)∧w'.cell? ⟨w.heap.size+1,3,none⟩=some(.int .i64 x.max)∧w'.cell? ⟨w.heap.size+1,4,none⟩=some(.slice x.itemsA x.items.length x.itemsC))∧Hid(LayIn w w' w.heap.size(w.heap.size+1)b m most(portVs x)61 125)∧Hid(PortFit w' x)
theorem laySPort_of {w w':World} {b:Nat} {m:MapL} {most:Int} {x:PortD} (h:LayIn w w' w.heap.size(w.heap.size+1)b m most(portVs x)61 125)(hf:PortFit w' x):LaySPort w b m most x w':=
 ⟨⟨h.cells.1,h.cells.2,fun ty=>h.mp.len Tryz.underlying123 ty,port_cells h.bx⟩,h,hf⟩
theorem layPort_any(most:Int)(b:Nat)(m:MapL)(x:PortD)(w:World)(h:MapIs w b m)(hw:(Lit.int .i64 x.id).wf=true)(hm:m.length≤1048576)(hf:PortFit w x):
  Calls Tryz.prog 94 #[.agg #[.int .i64 most,.map(some b)],.agg(portVs x)] w fun e w'=>LayEnds w b m(layB most m x.id(portB x.toPortP))x.id(portVs x)61 e w':=by
 have HF:Hid(LayIn w((w.alloc(.cells #[.int .i64 most,.map(some b)] 125)).alloc(.cells(portVs x)61))w.heap.size(w.heap.size+1)b m most(portVs x)61 125):=LayIn.start w h most _ _ _
 have HW:Hid((Lit.int .i64 x.id).wf=true∧ ¬ w.heap.size+1=b∧m.length≤1048576):=⟨hw,by have:=h.lt; omega,hm⟩
 have HI:Hid(PortFit((w.alloc(.cells #[.int .i64 most,.map(some b)] 125)).alloc(.cells(portVs x)61))x):=hf.below((((Below.refl _ w).alloc(Nat.le_refl _)_)).alloc(by simp)_)
 have hmn:=meth_numberPort
 have hmr:=meth_rightPort
 obtain⟨s0,s1⟩:=HF.out.cells
 obtain⟨c0,c1,c2,c3,c4⟩:=port_cells HF.out.bx
 clear h hw hf hm
 unfold portVs at *
 go_enter Tryz.func94,Tryz.ntmps94
 go_wp2_with fail
 clear s0 s1 c0 c1 c2 c3 c4
 obtain⟨vA,hA⟩: ∃ v,(lookM m x.id).isSome=v:=⟨_,rfl⟩
 obtain⟨vB,hBd⟩: ∃ v,decide(most≤(m.length:Int))=v:=⟨_,rfl⟩
 obtain⟨vC,hC⟩: ∃ v,inB x.id 1 1000=v:=⟨_,rfl⟩
 obtain⟨vD,hD⟩: ∃ v,portB x.toPortP=v:=⟨_,rfl⟩
 have HL:Hid(layB most m x.id(portB x.toPortP)=(!vA && !vB && vC && vD)∧(vA=false→lookM m x.id=none)):=⟨layB_of hA hBd hC hD,fun e=>Option.isNone_iff_eq_none.1(Option.isSome_eq_false_iff.1(hA.trans e))⟩
 have HA:Hid(Ending.returned(.bool(lookM m x.id).isSome)= .returned(.bool vA)):=ret_bool hA
 have HC:Hid(Ending.returned(.bool(inB x.id 1 1000))= .returned(.bool vC)):=ret_bool hC
 have HD:Hid(Ending.returned(.bool(portB x.toPortP))= .returned(.bool vD)):=ret_bool hD
 clear hA hC hD
 refine tame_region(LaySPort w b m most x)(by kernel_rfl)(laySPort_of HF.out.drew(HI.out.below(Below.refl _ _).drew)) ?_
 iterate 3(refine yl(v:= ?_) ?_ ?_; rotate_left; (intro w0 hS0; obtain⟨⟨q0,q1,q2,q3,q4,q5,q6,q7⟩,hH⟩:=hS0; go_simp; try with_reducible rfl); simp only [pt,sb,s0,s1])
 (refine cl(.int .i64 x.id)297 #[.agg #[.int .i64 x.id,.bool x.out,.bool x.queue,.int .i64 x.max,.slice x.itemsA x.items.length x.itemsC]] ?_ ?_ ?_; (intro w0 hS0; obtain⟨⟨q0,q1,q2,q3,q4,q5,q6,q7⟩,hH⟩:=hS0; go_simp; try with_reducible rfl); (intro w0 hS0; refine(numberPort_any x w0).mono ?_; rintro e w2⟨rfl,hb2⟩; exact⟨rfl,laySPort_of(hS0.2.1.out.below hb2)(hS0.2.2.out.below hb2)⟩); simp only [pt,sb,s0,s1])
 (refine cl(.bool vA)179 #[.agg #[.int .i64 most,.map(some b)],.int .i64 x.id] ?_ ?_ ?_; (intro w0 hS0; obtain⟨⟨q0,q1,q2,q3,q4,q5,q6,q7⟩,hH⟩:=hS0; go_simp; try with_reducible rfl); (intro w0 hS0; refine(hasPort_any most b m x.id w0 hS0.2.1.out.mp HW.out.1).mono ?_; rintro e w2⟨rfl,hb2⟩; exact⟨HA.out,laySPort_of(hS0.2.1.out.below hb2)(hS0.2.2.out.below hb2)⟩); simp only [pt,sb,s0,s1])
 (refine yl(v:= ?_) ?_ ?_; rotate_left; (intro w0 hS0; obtain⟨⟨q0,q1,q2,q3,q4,q5,q6,q7⟩,hH⟩:=hS0; go_simp; try with_reducible rfl); simp only [pt,sb,s0,s1])
 rcases vA.eq_false_or_eq_true with rfl | rfl
 focus iterate 6(refine nl ?_; simp only [pt,sb,s0,s1])
 rotate_left
 focus iterate 6(refine yl(v:= ?_) ?_ ?_; rotate_left; (intro w0 hS0; obtain⟨⟨q0,q1,q2,q3,q4,q5,q6,q7⟩,hH⟩:=hS0; go_simp; try with_reducible rfl); simp only [pt,sb,s0,s1])
 all_goals iterate 2(refine yl(v:= ?_) ?_ ?_; rotate_left; (intro w0 hS0; obtain⟨⟨q0,q1,q2,q3,q4,q5,q6,q7⟩,hH⟩:=hS0; go_simp; try with_reducible rfl); simp only [pt,sb,s0,s1])
 rcases vB.eq_false_or_eq_true with rfl | rfl
 focus iterate 5(refine nl ?_; simp only [pt,sb,s0,s1])
 rotate_left
 focus
  iterate 2(refine yl(v:= ?_) ?_ ?_; rotate_left; (intro w0 hS0; obtain⟨⟨q0,q1,q2,q3,q4,q5,q6,q7⟩,hH⟩:=hS0; go_simp; try with_reducible rfl); simp only [pt,sb,s0,s1])
  (refine cl(.int .i64 x.id)297 #[.agg #[.int .i64 x.id,.bool x.out,.bool x.queue,.int .i64 x.max,.slice x.itemsA x.items.length x.itemsC]] ?_ ?_ ?_; (intro w0 hS0; obtain⟨⟨q0,q1,q2,q3,q4,q5,q6,q7⟩,hH⟩:=hS0; go_simp; try with_reducible rfl); (intro w0 hS0; refine(numberPort_any x w0).mono ?_; rintro e w2⟨rfl,hb2⟩; exact⟨rfl,laySPort_of(hS0.2.1.out.below hb2)(hS0.2.2.out.below hb2)⟩); simp only [pt,sb,s0,s1])
  (refine cl(.bool vC)164 #[.int .i64 x.id] ?_ ?_ ?_; (intro w0 hS0; obtain⟨⟨q0,q1,q2,q3,q4,q5,q6,q7⟩,hH⟩:=hS0; go_simp; try with_reducible rfl); (intro w0 hS0; refine(isNumber_any x.id w0).mono ?_; rintro e w2⟨rfl,rfl⟩; exact⟨HC.out,hS0⟩); simp only [pt,sb,s0,s1])
  (refine yl(v:= ?_) ?_ ?_; rotate_left; (intro w0 hS0; obtain⟨⟨q0,q1,q2,q3,q4,q5,q6,q7⟩,hH⟩:=hS0; go_simp; try with_reducible rfl); simp only [pt,sb,s0,s1])
 rotate_left
 focus iterate 5(refine nl ?_; simp only [pt,sb,s0,s1])
 all_goals iterate 2(refine yl(v:= ?_) ?_ ?_; rotate_left; (intro w0 hS0; obtain⟨⟨q0,q1,q2,q3,q4,q5,q6,q7⟩,hH⟩:=hS0; go_simp; try with_reducible rfl); simp only [pt,sb,s0,s1])
 rotate_right
 rcases vC.eq_false_or_eq_true with rfl | rfl
 focus
  iterate 2(refine yl(v:= ?_) ?_ ?_; rotate_left; (intro w0 hS0; obtain⟨⟨q0,q1,q2,q3,q4,q5,q6,q7⟩,hH⟩:=hS0; go_simp; try with_reducible rfl); simp only [pt,sb,s0,s1])
  (refine cl(.bool vD)298 #[.agg #[.int .i64 x.id,.bool x.out,.bool x.queue,.int .i64 x.max,.slice x.itemsA x.items.length x.itemsC]] ?_ ?_ ?_; (intro w0 hS0; obtain⟨⟨q0,q1,q2,q3,q4,q5,q6,q7⟩,hH⟩:=hS0; go_simp; try with_reducible rfl); (intro w0 hS0; refine(rightPort_any x w0 hS0.2.2.out).mono ?_; rintro e w2⟨rfl,hb2⟩; exact⟨HD.out,laySPort_of(hS0.2.1.out.below hb2)(hS0.2.2.out.below hb2)⟩); simp only [pt,sb,s0,s1])
  (refine yl(v:= ?_) ?_ ?_; rotate_left; (intro w0 hS0; obtain⟨⟨q0,q1,q2,q3,q4,q5,q6,q7⟩,hH⟩:=hS0; go_simp; try with_reducible rfl); simp only [pt,sb,s0,s1])
 rotate_left
 focus iterate 4(refine nl ?_; simp only [pt,sb,s0,s1])
 rotate_left
 focus iterate 4(refine nl ?_; simp only [pt,sb,s0,s1])
 rotate_left
 focus iterate 4(refine nl ?_; simp only [pt,sb,s0,s1])
 rotate_left
 all_goals (refine yl(v:= ?_) ?_ ?_; rotate_left; (intro w0 hS0; obtain⟨⟨q0,q1,q2,q3,q4,q5,q6,q7⟩,hH⟩:=hS0; go_simp; try with_reducible rfl); simp only [pt,sb,s0,s1])
 all_goals refine tame_done(by kernel_rfl) ?_ _
 all_goals intro w1 hS1
 rcases vD.eq_false_or_eq_true with rfl | rfl
 rotate_left
 iterate 4
  go_wp2
  go_ret
  exact layEnds_no HL.out.1 hS1.2.1.out.bel
 go_wp2_with fail
 refine last_region(LaySPort w b m most x)5(by kernel_rfl)(laySPort_of hS1.2.1.out.drew(hS1.2.2.out.below(Below.refl _ _).drew)) ?_
 iterate 4(refine ly 6(v:= ?_)(some _)rfl rfl(by kernel_rfl)(fun _ _ _ h=>h)(does_yield(by kernel_rfl) ?_) ?_; rotate_left; (intro w0 hS0; obtain⟨⟨q0,q1,q2,q3,q4,q5,q6,q7⟩,hH⟩:=hS0; go_simp; try with_reducible rfl); simp only [pt,sb,s0,s1])
 refine ly 6(v:= .int .i64 x.id)(some _)rfl rfl(by kernel_rfl)(fun _ _ _ h=>h)(does_call(f:=297)(args:= #[.agg #[.int .i64 x.id,.bool x.out,.bool x.queue,.int .i64 x.max,.slice x.itemsA x.items.length x.itemsC]])(by kernel_rfl) ?_ ?_) ?_
 ·intro w0 hS0
  obtain⟨⟨q0,q1,q2,q3,q4,q5,q6,q7⟩,hH⟩:=hS0
  go_simp
  try with_reducible rfl
 ·intro w0 hS0
  refine(numberPort_any x w0).mono ?_
  rintro e w2⟨rfl,hb2⟩
  exact⟨rfl,laySPort_of(hS0.2.1.out.below hb2)(hS0.2.2.out.below hb2)⟩
 simp only [pt,sb,s0,s1]
 refine last_done rfl(by kernel_rfl)(by kernel_rfl)(by kernel_rfl) ?_
 intro w1 hS1
 obtain⟨w2,hput,hend⟩:=hS1.2.1.out.put(by omega)Tryz.underlying123 HW.out.1(HL.out.2(by trivial))HW.out.2.2 HW.out.2.1
 have HE:Hid(LayEnds w b m true x.id(portVs x)61(.returned(.bool true))w2):=hend
 clear hend hS1
 go_simp
 go_wp2
 go_ret
 rw [HL.out.1]
 exact HE.out
end Go.Proofs.YtkbcplnlehdjfaaGreat

namespace Go.Proofs.YtkbcplnlehdjfaaGreat
open Go.RowKit
attribute [local go_sem ↓] Go.wp_at_zero Go.wp_at_succ
def LaySBuffer(w:World)(b:Nat)(m:MapL)(most:Int)(x:BufferD)(w':World):Prop:=(w'.cell? ⟨w.heap.size,0,none⟩=some(.int .i64 most)∧w'.cell? ⟨w.heap.size,1,none⟩=some(.map(some b))∧(∀ ty,(Builtin.len_ #[120] ty #[.map(some b)]).run Tryz.prog w'= .ok(.int .i64(m.length:Int))w')∧w'.cell? ⟨w.heap.size+1,0,none⟩=some(.int .i64 x.id)∧w'.cell? ⟨w.heap.size+1,1,none⟩=some(.int .i64 x.max)∧w'.cell? ⟨w.heap.size+1,2,none⟩=some(.slice x.itemsA x.items.length x.itemsC))∧Hid(LayIn w w' w.heap.size(w.heap.size+1)b m most(bufferVs x)144 122)∧Hid(BufferFit w' x)
theorem laySBuffer_of {w w':World} {b:Nat} {m:MapL} {most:Int} {x:BufferD} (h:LayIn w w' w.heap.size(w.heap.size+1)b m most(bufferVs x)144 122)(hf:BufferFit w' x):LaySBuffer w b m most x w':=
 ⟨⟨h.cells.1,h.cells.2,fun ty=>h.mp.len Tryz.underlying120 ty,buffer_cells h.bx⟩,h,hf⟩
theorem layBuffer_any(most:Int)(b:Nat)(m:MapL)(x:BufferD)(w:World)(h:MapIs w b m)(hw:(Lit.int .i64 x.id).wf=true)(hm:m.length≤1048576)(hf:BufferFit w x):
  Calls Tryz.prog 92 #[.agg #[.int .i64 most,.map(some b)],.agg(bufferVs x)] w fun e w'=>LayEnds w b m(layB most m x.id(bufferB x.toBufferP))x.id(bufferVs x)144 e w':=by
 have HF:Hid(LayIn w((w.alloc(.cells #[.int .i64 most,.map(some b)] 122)).alloc(.cells(bufferVs x)144))w.heap.size(w.heap.size+1)b m most(bufferVs x)144 122):=LayIn.start w h most _ _ _
 have HW:Hid((Lit.int .i64 x.id).wf=true∧ ¬ w.heap.size+1=b∧m.length≤1048576):=⟨hw,by have:=h.lt; omega,hm⟩
 have HI:Hid(BufferFit((w.alloc(.cells #[.int .i64 most,.map(some b)] 122)).alloc(.cells(bufferVs x)144))x):=hf.below((((Below.refl _ w).alloc(Nat.le_refl _)_)).alloc(by simp)_)
 have hmn:=meth_numberBuffer
 have hmr:=meth_rightBuffer
 obtain⟨s0,s1⟩:=HF.out.cells
 obtain⟨c0,c1,c2⟩:=buffer_cells HF.out.bx
 clear h hw hf hm
 unfold bufferVs at *
 go_enter Tryz.func92,Tryz.ntmps92
 go_wp2_with fail
 clear s0 s1 c0 c1 c2
 obtain⟨vA,hA⟩: ∃ v,(lookM m x.id).isSome=v:=⟨_,rfl⟩
 obtain⟨vB,hBd⟩: ∃ v,decide(most≤(m.length:Int))=v:=⟨_,rfl⟩
 obtain⟨vC,hC⟩: ∃ v,inB x.id 1 1000=v:=⟨_,rfl⟩
 obtain⟨vD,hD⟩: ∃ v,bufferB x.toBufferP=v:=⟨_,rfl⟩
 have HL:Hid(layB most m x.id(bufferB x.toBufferP)=(!vA && !vB && vC && vD)∧(vA=false→lookM m x.id=none)):=⟨layB_of hA hBd hC hD,fun e=>Option.isNone_iff_eq_none.1(Option.isSome_eq_false_iff.1(hA.trans e))⟩
 have HA:Hid(Ending.returned(.bool(lookM m x.id).isSome)= .returned(.bool vA)):=ret_bool hA
 have HC:Hid(Ending.returned(.bool(inB x.id 1 1000))= .returned(.bool vC)):=ret_bool hC
 have HD:Hid(Ending.returned(.bool(bufferB x.toBufferP))= .returned(.bool vD)):=ret_bool hD
 clear hA hC hD
 refine tame_region(LaySBuffer w b m most x)(by kernel_rfl)(laySBuffer_of HF.out.drew(HI.out.below(Below.refl _ _).drew)) ?_
 iterate 3(refine yl(v:= ?_) ?_ ?_; rotate_left; (intro w0 hS0; obtain⟨⟨q0,q1,q2,q3,q4,q5⟩,hH⟩:=hS0; go_simp; try with_reducible rfl); simp only [pt,sb,s0,s1])
 (refine cl(.int .i64 x.id)313 #[.agg #[.int .i64 x.id,.int .i64 x.max,.slice x.itemsA x.items.length x.itemsC]] ?_ ?_ ?_; (intro w0 hS0; obtain⟨⟨q0,q1,q2,q3,q4,q5⟩,hH⟩:=hS0; go_simp; try with_reducible rfl); (intro w0 hS0; refine(numberBuffer_any x w0).mono ?_; rintro e w2⟨rfl,hb2⟩; exact⟨rfl,laySBuffer_of(hS0.2.1.out.below hb2)(hS0.2.2.out.below hb2)⟩); simp only [pt,sb,s0,s1])
 (refine cl(.bool vA)178 #[.agg #[.int .i64 most,.map(some b)],.int .i64 x.id] ?_ ?_ ?_; (intro w0 hS0; obtain⟨⟨q0,q1,q2,q3,q4,q5⟩,hH⟩:=hS0; go_simp; try with_reducible rfl); (intro w0 hS0; refine(hasBuffer_any most b m x.id w0 hS0.2.1.out.mp HW.out.1).mono ?_; rintro e w2⟨rfl,hb2⟩; exact⟨HA.out,laySBuffer_of(hS0.2.1.out.below hb2)(hS0.2.2.out.below hb2)⟩); simp only [pt,sb,s0,s1])
 (refine yl(v:= ?_) ?_ ?_; rotate_left; (intro w0 hS0; obtain⟨⟨q0,q1,q2,q3,q4,q5⟩,hH⟩:=hS0; go_simp; try with_reducible rfl); simp only [pt,sb,s0,s1])
 rcases vA.eq_false_or_eq_true with rfl | rfl
 focus iterate 6(refine nl ?_; simp only [pt,sb,s0,s1])
 rotate_left
 focus iterate 6(refine yl(v:= ?_) ?_ ?_; rotate_left; (intro w0 hS0; obtain⟨⟨q0,q1,q2,q3,q4,q5⟩,hH⟩:=hS0; go_simp; try with_reducible rfl); simp only [pt,sb,s0,s1])
 all_goals iterate 2(refine yl(v:= ?_) ?_ ?_; rotate_left; (intro w0 hS0; obtain⟨⟨q0,q1,q2,q3,q4,q5⟩,hH⟩:=hS0; go_simp; try with_reducible rfl); simp only [pt,sb,s0,s1])
 rcases vB.eq_false_or_eq_true with rfl | rfl
 focus iterate 5(refine nl ?_; simp only [pt,sb,s0,s1])
 rotate_left
 focus
  iterate 2(refine yl(v:= ?_) ?_ ?_; rotate_left; (intro w0 hS0; obtain⟨⟨q0,q1,q2,q3,q4,q5⟩,hH⟩:=hS0; go_simp; try with_reducible rfl); simp only [pt,sb,s0,s1])
  (refine cl(.int .i64 x.id)313 #[.agg #[.int .i64 x.id,.int .i64 x.max,.slice x.itemsA x.items.length x.itemsC]] ?_ ?_ ?_; (intro w0 hS0; obtain⟨⟨q0,q1,q2,q3,q4,q5⟩,hH⟩:=hS0; go_simp; try with_reducible rfl); (intro w0 hS0; refine(numberBuffer_any x w0).mono ?_; rintro e w2⟨rfl,hb2⟩; exact⟨rfl,laySBuffer_of(hS0.2.1.out.below hb2)(hS0.2.2.out.below hb2)⟩); simp only [pt,sb,s0,s1])
  (refine cl(.bool vC)164 #[.int .i64 x.id] ?_ ?_ ?_; (intro w0 hS0; obtain⟨⟨q0,q1,q2,q3,q4,q5⟩,hH⟩:=hS0; go_simp; try with_reducible rfl); (intro w0 hS0; refine(isNumber_any x.id w0).mono ?_; rintro e w2⟨rfl,rfl⟩; exact⟨HC.out,hS0⟩); simp only [pt,sb,s0,s1])
  (refine yl(v:= ?_) ?_ ?_; rotate_left; (intro w0 hS0; obtain⟨⟨q0,q1,q2,q3,q4,q5⟩,hH⟩:=hS0; go_simp; try with_reducible rfl); simp only [pt,sb,s0,s1])
 rotate_left
 focus iterate 5(refine nl ?_; simp only [pt,sb,s0,s1])
 all_goals iterate 2(refine yl(v:= ?_) ?_ ?_; rotate_left; (intro w0 hS0; obtain⟨⟨q0,q1,q2,q3,q4,q5⟩,hH⟩:=hS0; go_simp; try with_reducible rfl); simp only [pt,sb,s0,s1])
 rotate_right
 rcases vC.eq_false_or_eq_true with rfl | rfl
 focus
  iterate 2(refine yl(v:= ?_) ?_ ?_; rotate_left; (intro w0 hS0; obtain⟨⟨q0,q1,q2,q3,q4,q5⟩,hH⟩:=hS0; go_simp; try with_reducible rfl); simp only [pt,sb,s0,s1])
  (refine cl(.bool vD)314 #[.agg #[.int .i64 x.id,.int .i64 x.max,.slice x.itemsA x.items.length x.itemsC]] ?_ ?_ ?_; (intro w0 hS0; obtain⟨⟨q0,q1,q2,q3,q4,q5⟩,hH⟩:=hS0; go_simp; try with_reducible rfl); (intro w0 hS0; refine(rightBuffer_any x w0 hS0.2.2.out).mono ?_; rintro e w2⟨rfl,hb2⟩; exact⟨HD.out,laySBuffer_of(hS0.2.1.out.below hb2)(hS0.2.2.out.below hb2)⟩); simp only [pt,sb,s0,s1])
  (refine yl(v:= ?_) ?_ ?_; rotate_left; (intro w0 hS0; obtain⟨⟨q0,q1,q2,q3,q4,q5⟩,hH⟩:=hS0; go_simp; try with_reducible rfl); simp only [pt,sb,s0,s1])
 rotate_left
 focus iterate 4(refine nl ?_; simp only [pt,sb,s0,s1])
 rotate_left
 focus iterate 4(refine nl ?_; simp only [pt,sb,s0,s1])
 rotate_left
 focus iterate 4(refine nl ?_; simp only [pt,sb,s0,s1])
 rotate_left
 all_goals (refine yl(v:= ?_) ?_ ?_; rotate_left; (intro w0 hS0; obtain⟨⟨q0,q1,q2,q3,q4,q5⟩,hH⟩:=hS0; go_simp; try with_reducible rfl); simp only [pt,sb,s0,s1])
 all_goals refine tame_done(by kernel_rfl) ?_ _
 all_goals intro w1 hS1
 rcases vD.eq_false_or_eq_true with rfl | rfl
 rotate_left
 iterate 4
  go_wp2
  go_ret
  exact layEnds_no HL.out.1 hS1.2.1.out.bel
 go_wp2_with fail
 refine last_region(LaySBuffer w b m most x)5(by kernel_rfl)(laySBuffer_of hS1.2.1.out.drew(hS1.2.2.out.below(Below.refl _ _).drew)) ?_
 iterate 4(refine ly 6(v:= ?_)(some _)rfl rfl(by kernel_rfl)(fun _ _ _ h=>h)(does_yield(by kernel_rfl) ?_) ?_; rotate_left; (intro w0 hS0; obtain⟨⟨q0,q1,q2,q3,q4,q5⟩,hH⟩:=hS0; go_simp; try with_reducible rfl); simp only [pt,sb,s0,s1])
 refine ly 6(v:= .int .i64 x.id)(some _)rfl rfl(by kernel_rfl)(fun _ _ _ h=>h)(does_call(f:=313)(args:= #[.agg #[.int .i64 x.id,.int .i64 x.max,.slice x.itemsA x.items.length x.itemsC]])(by kernel_rfl) ?_ ?_) ?_
 ·intro w0 hS0
  obtain⟨⟨q0,q1,q2,q3,q4,q5⟩,hH⟩:=hS0
  go_simp
  try with_reducible rfl
 ·intro w0 hS0
  refine(numberBuffer_any x w0).mono ?_
  rintro e w2⟨rfl,hb2⟩
  exact⟨rfl,laySBuffer_of(hS0.2.1.out.below hb2)(hS0.2.2.out.below hb2)⟩
 simp only [pt,sb,s0,s1]
 refine last_done rfl(by kernel_rfl)(by kernel_rfl)(by kernel_rfl) ?_
 intro w1 hS1
 obtain⟨w2,hput,hend⟩:=hS1.2.1.out.put(by omega)Tryz.underlying120 HW.out.1(HL.out.2(by trivial))HW.out.2.2 HW.out.2.1
 have HE:Hid(LayEnds w b m true x.id(bufferVs x)144(.returned(.bool true))w2):=hend
 clear hend hS1
 go_simp
 go_wp2
 go_ret
 rw [HL.out.1]
 exact HE.out
end Go.Proofs.YtkbcplnlehdjfaaGreat

namespace Go.Proofs.YtkbcplnlehdjfaaGreat
open Go.RowKit
attribute [local go_sem ↓] Go.wp_at_zero Go.wp_at_succ
def LaySBoard(w:World)(b:Nat)(m:MapL)(most:Int)(x:BoardD)(w':World):Prop:=(w'.cell? ⟨w.heap.size,0,none⟩=some(.int .i64 most)∧w'.cell? ⟨w.heap.size,1,none⟩=some(.map(some b))∧(∀ ty,(Builtin.len_ #[117] ty #[.map(some b)]).run Tryz.prog w'= .ok(.int .i64(m.length:Int))w')∧w'.cell? ⟨w.heap.size+1,0,none⟩=some(.int .i64 x.id)∧w'.cell? ⟨w.heap.size+1,1,none⟩=some(.bool x.shown)∧w'.cell? ⟨w.heap.size+1,2,none⟩=some(.string x.text))∧Hid(LayIn w w' w.heap.size(w.heap.size+1)b m most(boardVs x)141 119)∧Hid(BoardFit w' x)
theorem laySBoard_of {w w':World} {b:Nat} {m:MapL} {most:Int} {x:BoardD} (h:LayIn w w' w.heap.size(w.heap.size+1)b m most(boardVs x)141 119)(hf:BoardFit w' x):LaySBoard w b m most x w':=
 ⟨⟨h.cells.1,h.cells.2,fun ty=>h.mp.len Tryz.underlying117 ty,board_cells h.bx⟩,h,hf⟩
theorem layBoard_any(most:Int)(b:Nat)(m:MapL)(x:BoardD)(w:World)(h:MapIs w b m)(hw:(Lit.int .i64 x.id).wf=true)(hm:m.length≤1048576)(hf:BoardFit w x):
  Calls Tryz.prog 91 #[.agg #[.int .i64 most,.map(some b)],.agg(boardVs x)] w fun e w'=>LayEnds w b m(layB most m x.id(boardB x))x.id(boardVs x)141 e w':=by
 have HF:Hid(LayIn w((w.alloc(.cells #[.int .i64 most,.map(some b)] 119)).alloc(.cells(boardVs x)141))w.heap.size(w.heap.size+1)b m most(boardVs x)141 119):=LayIn.start w h most _ _ _
 have HW:Hid((Lit.int .i64 x.id).wf=true∧ ¬ w.heap.size+1=b∧m.length≤1048576):=⟨hw,by have:=h.lt; omega,hm⟩
 have HI:Hid(BoardFit((w.alloc(.cells #[.int .i64 most,.map(some b)] 119)).alloc(.cells(boardVs x)141))x):=hf.below((((Below.refl _ w).alloc(Nat.le_refl _)_)).alloc(by simp)_)
 have hmn:=meth_numberBoard
 have hmr:=meth_rightBoard
 obtain⟨s0,s1⟩:=HF.out.cells
 obtain⟨c0,c1,c2⟩:=board_cells HF.out.bx
 clear h hw hf hm
 unfold boardVs at *
 go_enter Tryz.func91,Tryz.ntmps91
 go_wp2_with fail
 clear s0 s1 c0 c1 c2
 obtain⟨vA,hA⟩: ∃ v,(lookM m x.id).isSome=v:=⟨_,rfl⟩
 obtain⟨vB,hBd⟩: ∃ v,decide(most≤(m.length:Int))=v:=⟨_,rfl⟩
 obtain⟨vC,hC⟩: ∃ v,inB x.id 1 1000=v:=⟨_,rfl⟩
 obtain⟨vD,hD⟩: ∃ v,boardB x=v:=⟨_,rfl⟩
 have HL:Hid(layB most m x.id(boardB x)=(!vA && !vB && vC && vD)∧(vA=false→lookM m x.id=none)):=⟨layB_of hA hBd hC hD,fun e=>Option.isNone_iff_eq_none.1(Option.isSome_eq_false_iff.1(hA.trans e))⟩
 have HA:Hid(Ending.returned(.bool(lookM m x.id).isSome)= .returned(.bool vA)):=ret_bool hA
 have HC:Hid(Ending.returned(.bool(inB x.id 1 1000))= .returned(.bool vC)):=ret_bool hC
 have HD:Hid(Ending.returned(.bool(boardB x))= .returned(.bool vD)):=ret_bool hD
 clear hA hC hD
 refine tame_region(LaySBoard w b m most x)(by kernel_rfl)(laySBoard_of HF.out.drew(HI.out.below(Below.refl _ _).drew)) ?_
 iterate 3(refine yl(v:= ?_) ?_ ?_; rotate_left; (intro w0 hS0; obtain⟨⟨q0,q1,q2,q3,q4,q5⟩,hH⟩:=hS0; go_simp; try with_reducible rfl); simp only [pt,sb,s0,s1])
 (refine cl(.int .i64 x.id)310 #[.agg #[.int .i64 x.id,.bool x.shown,.string x.text]] ?_ ?_ ?_; (intro w0 hS0; obtain⟨⟨q0,q1,q2,q3,q4,q5⟩,hH⟩:=hS0; go_simp; try with_reducible rfl); (intro w0 hS0; refine(numberBoard_any x w0).mono ?_; rintro e w2⟨rfl,hb2⟩; exact⟨rfl,laySBoard_of(hS0.2.1.out.below hb2)(hS0.2.2.out.below hb2)⟩); simp only [pt,sb,s0,s1])
 (refine cl(.bool vA)177 #[.agg #[.int .i64 most,.map(some b)],.int .i64 x.id] ?_ ?_ ?_; (intro w0 hS0; obtain⟨⟨q0,q1,q2,q3,q4,q5⟩,hH⟩:=hS0; go_simp; try with_reducible rfl); (intro w0 hS0; refine(hasBoard_any most b m x.id w0 hS0.2.1.out.mp HW.out.1).mono ?_; rintro e w2⟨rfl,hb2⟩; exact⟨HA.out,laySBoard_of(hS0.2.1.out.below hb2)(hS0.2.2.out.below hb2)⟩); simp only [pt,sb,s0,s1])
 (refine yl(v:= ?_) ?_ ?_; rotate_left; (intro w0 hS0; obtain⟨⟨q0,q1,q2,q3,q4,q5⟩,hH⟩:=hS0; go_simp; try with_reducible rfl); simp only [pt,sb,s0,s1])
 rcases vA.eq_false_or_eq_true with rfl | rfl
 focus iterate 6(refine nl ?_; simp only [pt,sb,s0,s1])
 rotate_left
 focus iterate 6(refine yl(v:= ?_) ?_ ?_; rotate_left; (intro w0 hS0; obtain⟨⟨q0,q1,q2,q3,q4,q5⟩,hH⟩:=hS0; go_simp; try with_reducible rfl); simp only [pt,sb,s0,s1])
 all_goals iterate 2(refine yl(v:= ?_) ?_ ?_; rotate_left; (intro w0 hS0; obtain⟨⟨q0,q1,q2,q3,q4,q5⟩,hH⟩:=hS0; go_simp; try with_reducible rfl); simp only [pt,sb,s0,s1])
 rcases vB.eq_false_or_eq_true with rfl | rfl
 focus iterate 5(refine nl ?_; simp only [pt,sb,s0,s1])
 rotate_left
 focus
  iterate 2(refine yl(v:= ?_) ?_ ?_; rotate_left; (intro w0 hS0; obtain⟨⟨q0,q1,q2,q3,q4,q5⟩,hH⟩:=hS0; go_simp; try with_reducible rfl); simp only [pt,sb,s0,s1])
  (refine cl(.int .i64 x.id)310 #[.agg #[.int .i64 x.id,.bool x.shown,.string x.text]] ?_ ?_ ?_; (intro w0 hS0; obtain⟨⟨q0,q1,q2,q3,q4,q5⟩,hH⟩:=hS0; go_simp; try with_reducible rfl); (intro w0 hS0; refine(numberBoard_any x w0).mono ?_; rintro e w2⟨rfl,hb2⟩; exact⟨rfl,laySBoard_of(hS0.2.1.out.below hb2)(hS0.2.2.out.below hb2)⟩); simp only [pt,sb,s0,s1])
  (refine cl(.bool vC)164 #[.int .i64 x.id] ?_ ?_ ?_; (intro w0 hS0; obtain⟨⟨q0,q1,q2,q3,q4,q5⟩,hH⟩:=hS0; go_simp; try with_reducible rfl); (intro w0 hS0; refine(isNumber_any x.id w0).mono ?_; rintro e w2⟨rfl,rfl⟩; exact⟨HC.out,hS0⟩); simp only [pt,sb,s0,s1])
  (refine yl(v:= ?_) ?_ ?_; rotate_left; (intro w0 hS0; obtain⟨⟨q0,q1,q2,q3,q4,q5⟩,hH⟩:=hS0; go_simp; try with_reducible rfl); simp only [pt,sb,s0,s1])
 rotate_left
 focus iterate 5(refine nl ?_; simp only [pt,sb,s0,s1])
 all_goals iterate 2(refine yl(v:= ?_) ?_ ?_; rotate_left; (intro w0 hS0; obtain⟨⟨q0,q1,q2,q3,q4,q5⟩,hH⟩:=hS0; go_simp; try with_reducible rfl); simp only [pt,sb,s0,s1])
 rotate_right
 rcases vC.eq_false_or_eq_true with rfl | rfl
 focus
  iterate 2(refine yl(v:= ?_) ?_ ?_; rotate_left; (intro w0 hS0; obtain⟨⟨q0,q1,q2,q3,q4,q5⟩,hH⟩:=hS0; go_simp; try with_reducible rfl); simp only [pt,sb,s0,s1])
  (refine cl(.bool vD)311 #[.agg #[.int .i64 x.id,.bool x.shown,.string x.text]] ?_ ?_ ?_; (intro w0 hS0; obtain⟨⟨q0,q1,q2,q3,q4,q5⟩,hH⟩:=hS0; go_simp; try with_reducible rfl); (intro w0 hS0; refine(rightBoard_any x w0 hS0.2.2.out).mono ?_; rintro e w2⟨rfl,hb2⟩; exact⟨HD.out,laySBoard_of(hS0.2.1.out.below hb2)(hS0.2.2.out.below hb2)⟩); simp only [pt,sb,s0,s1])
  (refine yl(v:= ?_) ?_ ?_; rotate_left; (intro w0 hS0; obtain⟨⟨q0,q1,q2,q3,q4,q5⟩,hH⟩:=hS0; go_simp; try with_reducible rfl); simp only [pt,sb,s0,s1])
 rotate_left
 focus iterate 4(refine nl ?_; simp only [pt,sb,s0,s1])
 rotate_left
 focus iterate 4(refine nl ?_; simp only [pt,sb,s0,s1])
 rotate_left
 focus iterate 4(refine nl ?_; simp only [pt,sb,s0,s1])
 rotate_left
 all_goals (refine yl(v:= ?_) ?_ ?_; rotate_left; (intro w0 hS0; obtain⟨⟨q0,q1,q2,q3,q4,q5⟩,hH⟩:=hS0; go_simp; try with_reducible rfl); simp only [pt,sb,s0,s1])
 all_goals refine tame_done(by kernel_rfl) ?_ _
 all_goals intro w1 hS1
 rcases vD.eq_false_or_eq_true with rfl | rfl
 rotate_left
 iterate 4
  go_wp2
  go_ret
  exact layEnds_no HL.out.1 hS1.2.1.out.bel
 go_wp2_with fail
 refine last_region(LaySBoard w b m most x)5(by kernel_rfl)(laySBoard_of hS1.2.1.out.drew(hS1.2.2.out.below(Below.refl _ _).drew)) ?_
 iterate 4(refine ly 6(v:= ?_)(some _)rfl rfl(by kernel_rfl)(fun _ _ _ h=>h)(does_yield(by kernel_rfl) ?_) ?_; rotate_left; (intro w0 hS0; obtain⟨⟨q0,q1,q2,q3,q4,q5⟩,hH⟩:=hS0; go_simp; try with_reducible rfl); simp only [pt,sb,s0,s1])
 refine ly 6(v:= .int .i64 x.id)(some _)rfl rfl(by kernel_rfl)(fun _ _ _ h=>h)(does_call(f:=310)(args:= #[.agg #[.int .i64 x.id,.bool x.shown,.string x.text]])(by kernel_rfl) ?_ ?_) ?_
 ·intro w0 hS0
  obtain⟨⟨q0,q1,q2,q3,q4,q5⟩,hH⟩:=hS0
  go_simp
  try with_reducible rfl
 ·intro w0 hS0
  refine(numberBoard_any x w0).mono ?_
  rintro e w2⟨rfl,hb2⟩
  exact⟨rfl,laySBoard_of(hS0.2.1.out.below hb2)(hS0.2.2.out.below hb2)⟩
 simp only [pt,sb,s0,s1]
 refine last_done rfl(by kernel_rfl)(by kernel_rfl)(by kernel_rfl) ?_
 intro w1 hS1
 obtain⟨w2,hput,hend⟩:=hS1.2.1.out.put(by omega)Tryz.underlying117 HW.out.1(HL.out.2(by trivial))HW.out.2.2 HW.out.2.1
 have HE:Hid(LayEnds w b m true x.id(boardVs x)141(.returned(.bool true))w2):=hend
 clear hend hS1
 go_simp
 go_wp2
 go_ret
 rw [HL.out.1]
 exact HE.out
end Go.Proofs.YtkbcplnlehdjfaaGreat

namespace Go.Proofs
open Go.RowKit Go.Maps Go.Sort Go.Shelf
theorem Tryz.sortsA (m : Nat) : AnyZI.SortsIn Tryz.prog Tryz.sortedA_ren Fence.wide m :=
  ⟨fun blk off cap ss W hH hblk hsz => callsIn_wide.2 (AnyM.slices_Sort_int Tryz.sortA blk off cap ss W hH hblk hsz),
   fun p cap W => callsIn_wide.2 (AnyM.slices_Sort_int_none Tryz.sortA p cap W)⟩
namespace YtkbcplnlehdjfaaGreat
theorem perm_sorted_eq : ∀ {l1 l2 : List Int}, l1.Perm l2 → l1.Pairwise (· ≤ ·) → l2.Pairwise (· ≤ ·) → l1 = l2
  | [], l2, hp, _, _ => (List.nil_perm.1 hp).symm
  | a :: t, [], hp, _, _ => absurd (List.perm_nil.1 hp) (by simp)
  | a :: t, b :: s, hp, h1, h2 => by
    obtain ⟨ha, ht⟩ := List.pairwise_cons.1 h1
    obtain ⟨hb, hs⟩ := List.pairwise_cons.1 h2
    have hab : a = b := by
      have m1 : a ∈ b :: s := hp.mem_iff.1 (by simp)
      have m2 : b ∈ a :: t := hp.mem_iff.2 (by simp)
      rcases List.mem_cons.1 m1 with e | m1
      · exact e
      · rcases List.mem_cons.1 m2 with e | m2
        · exact e.symm
        · have := ha b m2
          have := hb a m1
          omega
    subst hab
    rw [perm_sorted_eq (List.perm_cons a |>.1 hp) ht hs]
theorem keys_int (m : MapL) : intKeys (mapD m) = m.map (·.1) := by
  simp only [intKeys, mapD, List.map_map]
  rfl
theorem keys_sorted {m : MapL} (h : Rises m) {ss : List Int} (hp : ss.Perm (intKeys (mapD m))) : ss.mergeSort (fun x y => decide (x ≤ y)) = m.map (·.1) := by
  rw [keys_int] at hp
  refine perm_sorted_eq ((List.mergeSort_perm _ _).trans hp) ?_ ?_
  · have := List.pairwise_mergeSort (le := fun x y : Int => decide (x ≤ y)) (fun a b c h1 h2 => by simp at *; omega) (fun a b => by simp; omega) ss
    exact this.imp (fun {a b} h => by simpa using h)
  · rw [List.pairwise_map]
    exact List.Pairwise.imp (fun {a b} h => by omega) h
theorem own_form {w : World} {base n size : Nat} {e : TypeId} {v : Value} {xs : List Value} (h : w.ownsRow base e size v n xs) : ∃ a cap, v = .slice a n cap ∧ Row w a xs := by
  obtain ⟨hl, h2⟩ := h
  rcases h2 with ⟨rfl, rfl⟩ | ⟨g, cap, cur, rfl, hb, hg, h3, h4, h5, h6⟩
  · have : xs = [] := List.eq_nil_of_length_eq_zero (by simpa using hl)
    subst this
    exact ⟨none, 0, rfl, Row.nothing _ _⟩
  · refine ⟨some ⟨g, 0, none⟩, cap, rfl, fun j u hu => ⟨g, rfl, ?_⟩⟩
    rw [cell_of_row w g j cur e (0, 0) hg]
    rw [← h6, List.getElem?_take] at hu
    split at hu
    · simpa using hu
    · cases hu
theorem own_low {w : World} {base base' n size : Nat} {e : TypeId} {v : Value} {xs : List Value} (h : w.ownsRow base e size v n xs) (hb : base' ≤ base) : w.ownsRow base' e size v n xs := by
  obtain ⟨hl, h2⟩ := h
  refine ⟨hl, ?_⟩
  rcases h2 with h2 | ⟨g, cap, cur, h1, h3, h4⟩
  · exact .inl h2
  · exact .inr ⟨g, cap, cur, h1, by omega, h4⟩
end YtkbcplnlehdjfaaGreat
end Go.Proofs

namespace Go.Proofs.YtkbcplnlehdjfaaGreat
open Go.RowKit
structure Opn where
 id:Int
 next:Int
 bp:Nat
 bs:Nat
 be:Nat
 bb:Nat
 bf:Nat
 bq:Nat
def Opn.cells(q:Opn):Array Value:= #[.int .i64 q.id,.int .i64 q.next,.int .i64 6,.map(some q.bp),.int .i64 5,.map(some q.bs),.int .i64 5,.map(some q.be),.int .i64 5,.map(some q.bb),.int .i64 5,.map(some q.bf),.int .i64 5,.map(some q.bq)]
def OpenBox(W:World)(o:Nat)(q:Opn):Prop:=W.heap[o]? =some(.cells q.cells 127(0,0))
theorem OpenBox.below {W W':World} {o:Nat} {q:Opn} (h:OpenBox W o q)(hb:Below W.heap.size W W'):OpenBox W' o q:=(hb.block o(Array.getElem?_eq_some_iff.1 h).1).trans h
theorem OpenBox.cell {W:World} {o:Nat} {q:Opn} (h:OpenBox W o q)(i:Nat):W.cell? ⟨o,i,none⟩=q.cells[i]? :=by
 unfold OpenBox at h
 simp [World.cell?,h]
structure HasIn(w W:World)(o X:Nat)(q:Opn)(x:ProcD)(ms me mb mf:MapL):Prop where
 opn:OpenBox W o q
 box:W.heap[X]? =some(.cells(procVs x)43(0,0))
 ms:MapIs W q.bs ms
 me:MapIs W q.be me
 mb:MapIs W q.bb mb
 mf:MapIs W q.bf mf
 bel:Below w.heap.size w W
theorem HasIn.below {w W W':World} {o X:Nat} {q:Opn} {x:ProcD} {ms me mb mf:MapL} (h:HasIn w W o X q x ms me mb mf)(hb:Below W.heap.size W W'):HasIn w W' o X q x ms me mb mf:=
 ⟨h.opn.below hb,(hb.block _(Array.getElem?_eq_some_iff.1 h.box).1).trans h.box,h.ms.below hb,h.me.below hb,h.mb.below hb,h.mf.below hb,h.bel.trans(hb.mono h.bel.size)⟩
theorem HasIn.drew {w W:World} {o X:Nat} {q:Opn} {x:ProcD} {ms me mb mf:MapL} (h:HasIn w W o X q x ms me mb mf):HasIn w W.drew o X q x ms me mb mf:=h.below(Below.refl _ _).drew
def waitK(ms me mb mf:MapL)(x:ProcD):Bool:=
 if x.state=3 then (lookM ms x.on).isSome else if x.state=4 then (lookM me x.on).isSome else if x.state=5∨x.state=6 then (lookM mf x.on).isSome else if x.state=7 then (lookM mb x.on).isSome else true
end Go.Proofs.YtkbcplnlehdjfaaGreat
