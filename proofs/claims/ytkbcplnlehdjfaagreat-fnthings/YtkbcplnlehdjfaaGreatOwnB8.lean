/- What the proof leans on, part 8: StProc, LyPort, LyBuffer, LyBoard, KeysB, OpenB. -/
import Derived.Test.YtkbcplnlehdjfaaGreatOwnB0
import Derived.Test.YtkbcplnlehdjfaaGreatOwnB2
import Derived.Test.YtkbcplnlehdjfaaGreatOwnB7
import Derived.Maps.AppendAt
import Derived.Deep.AppendLies
set_option maxRecDepth 100000
set_option maxHeartbeats 8000000

namespace Go.Proofs.YtkbcplnlehdjfaaGreat
open Go.RowKit
structure oV (w W:World) (x:ao):Prop where
 box:W.heap[w.heap.size]? =some (.cells (aX x) 43 (0,0))
 fit:eL W x
 cd:Below w.heap.size w W
theorem oV.below {w W W':World} {x:ao} (h:oV w W x) (hb:Below W.heap.size W W'):oV w W' x:=
 ⟨(hb.block _ (Array.getElem?_eq_some_iff.1 h.box).1).trans h.box,h.fit.below hb,h.cd.trans (hb.mono h.cd.size)⟩
theorem oV.start {w:World} {x:ao} (h:eL w x):oV w (w.alloc (.cells (aX x) 43)) x:=by
 have b1:Below w.heap.size w (w.alloc (.cells (aX x) 43)):=(Below.refl _ _).alloc (Nat.le_refl _) _
 exact ⟨heap_alloc_new _ _,h.below b1,b1⟩
theorem p9 {s:ByteArray} (h:s.toList= []):bI s=true:=by simp [bI,h]
theorem sf {s:ByteArray} (h: ¬ s.toList= []):bI s=false:=by simp [bI,h]
theorem aA {p:Prop} (h:p):Hid p:=h
theorem mu (a b:Int):(a == b)=decide (a=b):=by rw [Bool.eq_iff_iff]; simp
theorem Jh (a b c d:Bool):a=false∨(a=true∧b=false)∨(a=true∧b=true∧c=false)∨(a=true∧b=true∧c=true∧d=false)∨(a=true∧b=true∧c=true∧d=true):=by
 revert a b c d
 decide
theorem ways5 (a b c d e:Bool):a=false∨(a=true∧b=false)∨(a=true∧b=true∧c=false)∨(a=true∧b=true∧c=true∧d=false)∨(a=true∧b=true∧c=true∧d=true∧e=false)∨(a=true∧b=true∧c=true∧d=true∧e=true):=by
 revert a b c d e
 decide
theorem qL (a b c d:Bool):a=false∨(a=true∧b=false)∨(a=true∧b=true∧c=true)∨(a=true∧b=true∧c=false∧d=false)∨(a=true∧b=true∧c=false∧d=true):=by
 revert a b c d
 decide
theorem state0 {x:aD} (h:x.state=0):bO x=((x.pc == 0) && (x.left == 0) && (x.wake == 0) && (x.on == 0) && (x.since == 0) && bI x.held):=by simp [bO,h,mu]
theorem Da (x:ao) (w:World) (hf:eL w x) (hs:x.state=0):Calls Tryz.prog 286 #[.agg (aX x)] w fun e w'=>e= .returned (.bool (bO x.toaD))∧Below w.heap.size w w':=by
 have HE:=aA (state0 hs)
 have HI:=aA (oV.start hf)
 clear hf
 obtain ⟨⟨id,prio,prog,state,pc,left,wake,on,held,got,code,since⟩,aY,bH⟩:=x
 replace hs:state=0:=hs
 subst hs
 obtain ⟨v0,h0⟩: ∃ v,(pc == 0)=v:=⟨_,rfl⟩
 obtain ⟨v1,h1⟩: ∃ v,(left == 0)=v:=⟨_,rfl⟩
 obtain ⟨v2,h2⟩: ∃ v,(wake == 0)=v:=⟨_,rfl⟩
 obtain ⟨v3,h3⟩: ∃ v,(on == 0)=v:=⟨_,rfl⟩
 obtain ⟨v4,h4⟩: ∃ v,(since == 0)=v:=⟨_,rfl⟩
 have HE:=aA (HE.out.trans (show _=(v0 && v1 && v2 && v3 && v4 && bI held) by simp only [h0,h1,h2,h3,h4]))
 obtain ⟨c0,c1,c2,c3,c4,c5,c6,c7,c8,c9,qF,pe⟩:=bo HI.out.box
 unfold aX at *
 rcases ways5 v0 v1 v2 v3 v4 with rfl | ⟨rfl,rfl⟩ | ⟨rfl,rfl,rfl⟩ | ⟨rfl,rfl,rfl,rfl⟩ | ⟨rfl,rfl,rfl,rfl,rfl⟩ | ⟨rfl,rfl,rfl,rfl,rfl⟩
 all_goals
  go_enter Tryz.func286,Tryz.ntmps286
  go_wp2
  go_ret
  exact ⟨al (by rw [HE.out]; simp [bI]),HI.out.cd⟩
theorem state1 {x:aD} (h:x.state=1):bO x=(dU x && jJ x && (x.wake == 0) && (x.on == 0) && bI x.held):=by simp [bO,h,mu]
theorem CL (x:ao) (w:World) (hf:eL w x) (hs:x.state=1):Calls Tryz.prog 286 #[.agg (aX x)] w fun e w'=>e= .returned (.bool (bO x.toaD))∧Below w.heap.size w w':=by
 have HE:=aA (state1 hs)
 have HI:=aA (oV.start hf)
 clear hf
 obtain ⟨⟨id,prio,prog,state,pc,left,wake,on,held,got,code,since⟩,aY,bH⟩:=x
 replace hs:state=1:=hs
 subst hs
 obtain ⟨v0,h0⟩: ∃ v,dU ⟨id,prio,prog,1,pc,left,wake,on,held,got,code,since⟩=v:=⟨_,rfl⟩
 obtain ⟨v1,h1⟩: ∃ v,jJ ⟨id,prio,prog,1,pc,left,wake,on,held,got,code,since⟩=v:=⟨_,rfl⟩
 obtain ⟨v2,h2⟩: ∃ v,(wake == 0)=v:=⟨_,rfl⟩
 obtain ⟨v3,h3⟩: ∃ v,(on == 0)=v:=⟨_,rfl⟩
 have HE:=aA (HE.out.trans (show _=(v0 && v1 && v2 && v3 && bI held) by simp only [h0,h1,h2,h3]))
 have tc:=aA h0
 clear h0
 have I8:=aA h1
 clear h1
 obtain ⟨c0,c1,c2,c3,c4,c5,c6,c7,c8,c9,qF,pe⟩:=bo HI.out.box
 unfold aX at *
 rcases Jh v0 v1 v2 v3 with rfl | ⟨rfl,rfl⟩ | ⟨rfl,rfl,rfl⟩ | ⟨rfl,rfl,rfl,rfl⟩ | ⟨rfl,rfl,rfl,rfl⟩
 all_goals
  go_enter Tryz.func286,Tryz.ntmps286
  go_wp2_with (first | (go_at_call 229; refine (kn _ _ HI.out.fit.1.prog).mono ?_; rintro e w1 ⟨rfl,hb1⟩; have HI:=aA (HI.out.below hb1); obtain ⟨c0,c1,c2,c3,c4,c5,c6,c7,c8,c9,qF,pe⟩:=bo HI.out.box; clear hb1; rw [tc.out]) | (go_at_call 288; refine (CP _ _ HI.out.fit tc.out).mono ?_; rintro e w1 ⟨rfl,hb1⟩; have HI:=aA (HI.out.below hb1); obtain ⟨c0,c1,c2,c3,c4,c5,c6,c7,c8,c9,qF,pe⟩:=bo HI.out.box; clear hb1; rw [I8.out]))
  go_ret
  exact ⟨al (by rw [HE.out]; simp [bI]),HI.out.cd⟩
theorem state2 {x:aD} (h:x.state=2):bO x=(dU x && (x.left == 0) && cv x.wake 1 2000000000 && (x.on == 0) && bI x.held):=by simp [bO,h,mu]
theorem Cw (x:ao) (w:World) (hf:eL w x) (hs:x.state=2):Calls Tryz.prog 286 #[.agg (aX x)] w fun e w'=>e= .returned (.bool (bO x.toaD))∧Below w.heap.size w w':=by
 have HE:=aA (state2 hs)
 have HI:=aA (oV.start hf)
 clear hf
 obtain ⟨⟨id,prio,prog,state,pc,left,wake,on,held,got,code,since⟩,aY,bH⟩:=x
 replace hs:state=2:=hs
 subst hs
 obtain ⟨v0,h0⟩: ∃ v,dU ⟨id,prio,prog,2,pc,left,wake,on,held,got,code,since⟩=v:=⟨_,rfl⟩
 obtain ⟨v1,h1⟩: ∃ v,(left == 0)=v:=⟨_,rfl⟩
 obtain ⟨v2,h2⟩: ∃ v,cv wake 1 2000000000=v:=⟨_,rfl⟩
 obtain ⟨v3,h3⟩: ∃ v,(on == 0)=v:=⟨_,rfl⟩
 have HE:=aA (HE.out.trans (show _=(v0 && v1 && v2 && v3 && bI held) by simp only [h0,h1,h2,h3]))
 have tc:=aA h0
 clear h0
 have Hd:=aA h2
 clear h2
 obtain ⟨c0,c1,c2,c3,c4,c5,c6,c7,c8,c9,qF,pe⟩:=bo HI.out.box
 unfold aX at *
 rcases Jh v0 v1 v2 v3 with rfl | ⟨rfl,rfl⟩ | ⟨rfl,rfl,rfl⟩ | ⟨rfl,rfl,rfl,rfl⟩ | ⟨rfl,rfl,rfl,rfl⟩
 all_goals
  go_enter Tryz.func286,Tryz.ntmps286
  go_wp2_with (first | (go_at_call 229; refine (kn _ _ HI.out.fit.1.prog).mono ?_; rintro e w1 ⟨rfl,hb1⟩; have HI:=aA (HI.out.below hb1); obtain ⟨c0,c1,c2,c3,c4,c5,c6,c7,c8,c9,qF,pe⟩:=bo HI.out.box; clear hb1; rw [tc.out]) | (go_at_call 289; refine (kb wake _).mono ?_; rintro e w1 ⟨rfl,hw1⟩; rw [Hd.out,hw1]; clear hw1 w1))
  go_ret
  exact ⟨al (by rw [HE.out]; simp [bI]),HI.out.cd⟩
theorem state3 {x:aD} (h:x.state=3):bO x=(dU x && (x.left == 0) && (cv x.wake 1 2000000000 || (x.wake == -1)) && bI x.held):=by simp [bO,h,mu,lh]
theorem CU (x:ao) (w:World) (hf:eL w x) (hs:x.state=3):Calls Tryz.prog 286 #[.agg (aX x)] w fun e w'=>e= .returned (.bool (bO x.toaD))∧Below w.heap.size w w':=by
 have HE:=aA (state3 hs)
 have HI:=aA (oV.start hf)
 clear hf
 obtain ⟨⟨id,prio,prog,state,pc,left,wake,on,held,got,code,since⟩,aY,bH⟩:=x
 replace hs:state=3:=hs
 subst hs
 obtain ⟨v0,h0⟩: ∃ v,dU ⟨id,prio,prog,3,pc,left,wake,on,held,got,code,since⟩=v:=⟨_,rfl⟩
 obtain ⟨v1,h1⟩: ∃ v,(left == 0)=v:=⟨_,rfl⟩
 obtain ⟨v2,h2⟩: ∃ v,cv wake 1 2000000000=v:=⟨_,rfl⟩
 obtain ⟨v3,h3⟩: ∃ v,(wake == -1)=v:=⟨_,rfl⟩
 have HE:=aA (HE.out.trans (show _=(v0 && v1 && (v2 || v3) && bI held) by simp only [h0,h1,h2,h3]))
 have tc:=aA h0
 clear h0
 have Hd:=aA h2
 clear h2
 obtain ⟨c0,c1,c2,c3,c4,c5,c6,c7,c8,c9,qF,pe⟩:=bo HI.out.box
 unfold aX at *
 rcases qL v0 v1 v2 v3 with rfl | ⟨rfl,rfl⟩ | ⟨rfl,rfl,rfl⟩ | ⟨rfl,rfl,rfl,rfl⟩ | ⟨rfl,rfl,rfl,rfl⟩
 all_goals
  go_enter Tryz.func286,Tryz.ntmps286
  go_wp2_with (first | (go_at_call 229; refine (kn _ _ HI.out.fit.1.prog).mono ?_; rintro e w1 ⟨rfl,hb1⟩; have HI:=aA (HI.out.below hb1); obtain ⟨c0,c1,c2,c3,c4,c5,c6,c7,c8,c9,qF,pe⟩:=bo HI.out.box; clear hb1; rw [tc.out]) | (go_at_call 289; refine (kb wake _).mono ?_; rintro e w1 ⟨rfl,hw1⟩; rw [Hd.out,hw1]; clear hw1 w1))
  go_ret
  exact ⟨al (by rw [HE.out]; simp [bI]),HI.out.cd⟩
theorem state4 {x:aD} (h:x.state=4):bO x=(dU x && (x.left == 0) && (cv x.wake 1 2000000000 || (x.wake == -1)) && bI x.held):=by simp [bO,h,mu,lh]
theorem Cv (x:ao) (w:World) (hf:eL w x) (hs:x.state=4):Calls Tryz.prog 286 #[.agg (aX x)] w fun e w'=>e= .returned (.bool (bO x.toaD))∧Below w.heap.size w w':=by
 have HE:=aA (state4 hs)
 have HI:=aA (oV.start hf)
 clear hf
 obtain ⟨⟨id,prio,prog,state,pc,left,wake,on,held,got,code,since⟩,aY,bH⟩:=x
 replace hs:state=4:=hs
 subst hs
 obtain ⟨v0,h0⟩: ∃ v,dU ⟨id,prio,prog,4,pc,left,wake,on,held,got,code,since⟩=v:=⟨_,rfl⟩
 obtain ⟨v1,h1⟩: ∃ v,(left == 0)=v:=⟨_,rfl⟩
 obtain ⟨v2,h2⟩: ∃ v,cv wake 1 2000000000=v:=⟨_,rfl⟩
 obtain ⟨v3,h3⟩: ∃ v,(wake == -1)=v:=⟨_,rfl⟩
 have HE:=aA (HE.out.trans (show _=(v0 && v1 && (v2 || v3) && bI held) by simp only [h0,h1,h2,h3]))
 have tc:=aA h0
 clear h0
 have Hd:=aA h2
 clear h2
 obtain ⟨c0,c1,c2,c3,c4,c5,c6,c7,c8,c9,qF,pe⟩:=bo HI.out.box
 unfold aX at *
 rcases qL v0 v1 v2 v3 with rfl | ⟨rfl,rfl⟩ | ⟨rfl,rfl,rfl⟩ | ⟨rfl,rfl,rfl,rfl⟩ | ⟨rfl,rfl,rfl,rfl⟩
 all_goals
  go_enter Tryz.func286,Tryz.ntmps286
  go_wp2_with (first | (go_at_call 229; refine (kn _ _ HI.out.fit.1.prog).mono ?_; rintro e w1 ⟨rfl,hb1⟩; have HI:=aA (HI.out.below hb1); obtain ⟨c0,c1,c2,c3,c4,c5,c6,c7,c8,c9,qF,pe⟩:=bo HI.out.box; clear hb1; rw [tc.out]) | (go_at_call 289; refine (kb wake _).mono ?_; rintro e w1 ⟨rfl,hw1⟩; rw [Hd.out,hw1]; clear hw1 w1))
  go_ret
  exact ⟨al (by rw [HE.out]; simp [bI]),HI.out.cd⟩
theorem state5 {x:aD} (h:x.state=5):bO x=(dU x && (x.left == 0) && (cv x.wake 1 2000000000 || (x.wake == -1))):=by simp [bO,h,mu,lh]
theorem Dp (x:ao) (w:World) (hf:eL w x) (hs:x.state=5):Calls Tryz.prog 286 #[.agg (aX x)] w fun e w'=>e= .returned (.bool (bO x.toaD))∧Below w.heap.size w w':=by
 have HE:=aA (state5 hs)
 have HI:=aA (oV.start hf)
 clear hf
 obtain ⟨⟨id,prio,prog,state,pc,left,wake,on,held,got,code,since⟩,aY,bH⟩:=x
 replace hs:state=5:=hs
 subst hs
 obtain ⟨v0,h0⟩: ∃ v,dU ⟨id,prio,prog,5,pc,left,wake,on,held,got,code,since⟩=v:=⟨_,rfl⟩
 obtain ⟨v1,h1⟩: ∃ v,(left == 0)=v:=⟨_,rfl⟩
 obtain ⟨v2,h2⟩: ∃ v,cv wake 1 2000000000=v:=⟨_,rfl⟩
 obtain ⟨v3,h3⟩: ∃ v,(wake == -1)=v:=⟨_,rfl⟩
 have HE:=aA (HE.out.trans (show _=(v0 && v1 && (v2 || v3)) by simp only [h0,h1,h2,h3]))
 have tc:=aA h0
 clear h0
 have Hd:=aA h2
 clear h2
 obtain ⟨c0,c1,c2,c3,c4,c5,c6,c7,c8,c9,qF,pe⟩:=bo HI.out.box
 unfold aX at *
 rcases qL v0 v1 v2 v3 with rfl | ⟨rfl,rfl⟩ | ⟨rfl,rfl,rfl⟩ | ⟨rfl,rfl,rfl,rfl⟩ | ⟨rfl,rfl,rfl,rfl⟩
 all_goals
  go_enter Tryz.func286,Tryz.ntmps286
  go_wp2_with (first | (go_at_call 229; refine (kn _ _ HI.out.fit.1.prog).mono ?_; rintro e w1 ⟨rfl,hb1⟩; have HI:=aA (HI.out.below hb1); obtain ⟨c0,c1,c2,c3,c4,c5,c6,c7,c8,c9,qF,pe⟩:=bo HI.out.box; clear hb1; rw [tc.out]) | (go_at_call 289; refine (kb wake _).mono ?_; rintro e w1 ⟨rfl,hw1⟩; rw [Hd.out,hw1]; clear hw1 w1))
  go_ret
  exact ⟨al (by rw [HE.out]; simp),HI.out.cd⟩
theorem state6 {x:aD} (h:x.state=6):bO x=(dU x && (x.left == 0) && (cv x.wake 1 2000000000 || (x.wake == -1)) && bI x.held):=by simp [bO,h,mu,lh]
theorem DC (x:ao) (w:World) (hf:eL w x) (hs:x.state=6):Calls Tryz.prog 286 #[.agg (aX x)] w fun e w'=>e= .returned (.bool (bO x.toaD))∧Below w.heap.size w w':=by
 have HE:=aA (state6 hs)
 have HI:=aA (oV.start hf)
 clear hf
 obtain ⟨⟨id,prio,prog,state,pc,left,wake,on,held,got,code,since⟩,aY,bH⟩:=x
 replace hs:state=6:=hs
 subst hs
 obtain ⟨v0,h0⟩: ∃ v,dU ⟨id,prio,prog,6,pc,left,wake,on,held,got,code,since⟩=v:=⟨_,rfl⟩
 obtain ⟨v1,h1⟩: ∃ v,(left == 0)=v:=⟨_,rfl⟩
 obtain ⟨v2,h2⟩: ∃ v,cv wake 1 2000000000=v:=⟨_,rfl⟩
 obtain ⟨v3,h3⟩: ∃ v,(wake == -1)=v:=⟨_,rfl⟩
 have HE:=aA (HE.out.trans (show _=(v0 && v1 && (v2 || v3) && bI held) by simp only [h0,h1,h2,h3]))
 have tc:=aA h0
 clear h0
 have Hd:=aA h2
 clear h2
 obtain ⟨c0,c1,c2,c3,c4,c5,c6,c7,c8,c9,qF,pe⟩:=bo HI.out.box
 unfold aX at *
 rcases qL v0 v1 v2 v3 with rfl | ⟨rfl,rfl⟩ | ⟨rfl,rfl,rfl⟩ | ⟨rfl,rfl,rfl,rfl⟩ | ⟨rfl,rfl,rfl,rfl⟩
 all_goals
  go_enter Tryz.func286,Tryz.ntmps286
  go_wp2_with (first | (go_at_call 229; refine (kn _ _ HI.out.fit.1.prog).mono ?_; rintro e w1 ⟨rfl,hb1⟩; have HI:=aA (HI.out.below hb1); obtain ⟨c0,c1,c2,c3,c4,c5,c6,c7,c8,c9,qF,pe⟩:=bo HI.out.box; clear hb1; rw [tc.out]) | (go_at_call 289; refine (kb wake _).mono ?_; rintro e w1 ⟨rfl,hw1⟩; rw [Hd.out,hw1]; clear hw1 w1))
  go_ret
  exact ⟨al (by rw [HE.out]; simp [bI]),HI.out.cd⟩
theorem state7 {x:aD} (h:x.state=7):bO x=(dU x && (x.left == 0) && (cv x.wake 1 2000000000 || (x.wake == -1)) && bI x.held):=by simp [bO,h,mu,lh]
theorem Db (x:ao) (w:World) (hf:eL w x) (hs:x.state=7):Calls Tryz.prog 286 #[.agg (aX x)] w fun e w'=>e= .returned (.bool (bO x.toaD))∧Below w.heap.size w w':=by
 have HE:=aA (state7 hs)
 have HI:=aA (oV.start hf)
 clear hf
 obtain ⟨⟨id,prio,prog,state,pc,left,wake,on,held,got,code,since⟩,aY,bH⟩:=x
 replace hs:state=7:=hs
 subst hs
 obtain ⟨v0,h0⟩: ∃ v,dU ⟨id,prio,prog,7,pc,left,wake,on,held,got,code,since⟩=v:=⟨_,rfl⟩
 obtain ⟨v1,h1⟩: ∃ v,(left == 0)=v:=⟨_,rfl⟩
 obtain ⟨v2,h2⟩: ∃ v,cv wake 1 2000000000=v:=⟨_,rfl⟩
 obtain ⟨v3,h3⟩: ∃ v,(wake == -1)=v:=⟨_,rfl⟩
 have HE:=aA (HE.out.trans (show _=(v0 && v1 && (v2 || v3) && bI held) by simp only [h0,h1,h2,h3]))
 have tc:=aA h0
 clear h0
 have Hd:=aA h2
 clear h2
 obtain ⟨c0,c1,c2,c3,c4,c5,c6,c7,c8,c9,qF,pe⟩:=bo HI.out.box
 unfold aX at *
 rcases qL v0 v1 v2 v3 with rfl | ⟨rfl,rfl⟩ | ⟨rfl,rfl,rfl⟩ | ⟨rfl,rfl,rfl,rfl⟩ | ⟨rfl,rfl,rfl,rfl⟩
 all_goals
  go_enter Tryz.func286,Tryz.ntmps286
  go_wp2_with (first | (go_at_call 229; refine (kn _ _ HI.out.fit.1.prog).mono ?_; rintro e w1 ⟨rfl,hb1⟩; have HI:=aA (HI.out.below hb1); obtain ⟨c0,c1,c2,c3,c4,c5,c6,c7,c8,c9,qF,pe⟩:=bo HI.out.box; clear hb1; rw [tc.out]) | (go_at_call 289; refine (kb wake _).mono ?_; rintro e w1 ⟨rfl,hw1⟩; rw [Hd.out,hw1]; clear hw1 w1))
  go_ret
  exact ⟨al (by rw [HE.out]; simp [bI]),HI.out.cd⟩
theorem zu (x:ao) (w:World) (h0: ¬ x.state=0) (h1: ¬ x.state=1) (h2: ¬ x.state=2) (h3: ¬ x.state=3) (h4: ¬ x.state=4) (h5: ¬ x.state=5) (h6: ¬ x.state=6) (h7: ¬ x.state=7):Calls Tryz.prog 286 #[.agg (aX x)] w fun e w'=>e= .returned (.bool (bO x.toaD))∧Below w.heap.size w w':=by
 have HV:Hid (bO x.toaD=false):=by show bO x.toaD=false; simp [bO,h0,h1,h2,h3,h4,h5,h6,h7]
 have s0:(x.state == 0)=false:=by simp [h0]
 have s1:(x.state == 1)=false:=by simp [h1]
 have s2:(x.state == 2)=false:=by simp [h2]
 have s3:(x.state == 3)=false:=by simp [h3]
 have s4:(x.state == 4)=false:=by simp [h4]
 have s5:(x.state == 5)=false:=by simp [h5]
 have s6:(x.state == 6)=false:=by simp [h6]
 have s7:(x.state == 7)=false:=by simp [h7]
 clear h0 h1 h2 h3 h4 h5 h6 h7
 unfold aX
 go_enter Tryz.func286,Tryz.ntmps286
 go_wp2
 go_ret
 exact ⟨al HV.out.symm,(Below.refl _ _).alloc (Nat.le_refl _) _⟩
theorem Am (x:ao) (w:World) (hf:eL w x):Calls Tryz.prog 286 #[.agg (aX x)] w fun e w'=>e= .returned (.bool (bO x.toaD))∧Below w.heap.size w w':=by
 by_cases h0:x.state=0
 ·exact Da x w hf h0
 by_cases h1:x.state=1
 ·exact CL x w hf h1
 by_cases h2:x.state=2
 ·exact Cw x w hf h2
 by_cases h3:x.state=3
 ·exact CU x w hf h3
 by_cases h4:x.state=4
 ·exact Cv x w hf h4
 by_cases h5:x.state=5
 ·exact Dp x w hf h5
 by_cases h6:x.state=6
 ·exact DC x w hf h6
 by_cases h7:x.state=7
 ·exact Db x w hf h7
 exact zu x w h0 h1 h2 h3 h4 h5 h6 h7
end Go.Proofs.YtkbcplnlehdjfaaGreat

namespace Go.Proofs.YtkbcplnlehdjfaaGreat
open Go.RowKit
attribute [local go_sem ↓] Go.wp_at_zero Go.wp_at_succ
def vk (w:World) (b:Nat) (m:df) (most:Int) (x:aM) (w':World):Prop:=(w'.cell? ⟨w.heap.size,0,none⟩=some (.int .i64 most)∧w'.cell? ⟨w.heap.size,1,none⟩=some (.map (some b))∧(∀ ty,(Builtin.len_ #[123] ty #[.map (some b)]).run Tryz.prog w'= .ok (.int .i64 (m.length:Int)) w')∧w'.cell? ⟨w.heap.size+1,0,none⟩=some (.int .i64 x.id)∧w'.cell? ⟨w.heap.size+1,1,none⟩=some (.bool x.out)∧w'.cell? ⟨w.heap.size+1,2,none⟩=some (.bool x.queue)∧w'.cell? ⟨w.heap.size+1,3,none⟩=some (.int .i64 x.max)∧w'.cell? ⟨w.heap.size+1,4,none⟩=some (.slice x.ak x.items.length x.aq))∧Hid (fe w w' w.heap.size (w.heap.size+1) b m most (cW x) 61 125)∧Hid (jf w' x)
theorem iW {w w':World} {b:Nat} {m:df} {most:Int} {x:aM} (h:fe w w' w.heap.size (w.heap.size+1) b m most (cW x) 61 125) (hf:jf w' x):vk w b m most x w':=
 ⟨⟨h.cells.1,h.cells.2,fun ty=>h.mp.len Tryz.underlying123 ty,gE h.bx⟩,h,hf⟩
theorem tb (most:Int) (b:Nat) (m:df) (x:aM) (w:World) (h:cF w b m) (hw:(Lit.int .i64 x.id).wf=true) (hm:m.length≤1048576) (hf:jf w x):
  Calls Tryz.prog 94 #[.agg #[.int .i64 most,.map (some b)],.agg (cW x)] w fun e w'=>dD w b m (iI most m x.id (dj x.todS)) x.id (cW x) 61 e w':=by
 have HF:Hid (fe w ((w.alloc (.cells #[.int .i64 most,.map (some b)] 125)).alloc (.cells (cW x) 61)) w.heap.size (w.heap.size+1) b m most (cW x) 61 125):=fe.start w h most _ _ _
 have HW:Hid ((Lit.int .i64 x.id).wf=true∧ ¬ w.heap.size+1=b∧m.length≤1048576):=⟨hw,by have:=h.lt; omega,hm⟩
 have HI:Hid (jf ((w.alloc (.cells #[.int .i64 most,.map (some b)] 125)).alloc (.cells (cW x) 61)) x):=hf.below ((((Below.refl _ w).alloc (Nat.le_refl _) _)).alloc (by simp) _)
 have hmn:=nY
 have hmr:=vZ
 obtain ⟨s0,s1⟩:=HF.out.cells
 obtain ⟨c0,c1,c2,c3,c4⟩:=gE HF.out.bx
 clear h hw hf hm
 unfold cW at *
 go_enter Tryz.func94,Tryz.ntmps94
 go_wp2_with fail
 clear s0 s1 c0 c1 c2 c3 c4
 obtain ⟨vA,hA⟩: ∃ v,(cz m x.id).isSome=v:=⟨_,rfl⟩
 obtain ⟨vB,F6⟩: ∃ v,decide (most≤(m.length:Int))=v:=⟨_,rfl⟩
 obtain ⟨vC,hC⟩: ∃ v,cv x.id 1 1000=v:=⟨_,rfl⟩
 obtain ⟨vD,hD⟩: ∃ v,dj x.todS=v:=⟨_,rfl⟩
 have HL:Hid (iI most m x.id (dj x.todS)=(!vA && !vB && vC && vD)∧(vA=false→cz m x.id=none)):=⟨pi hA F6 hC hD,fun e=>Option.isNone_iff_eq_none.1 (Option.isSome_eq_false_iff.1 (hA.trans e))⟩
 have HA:Hid (Ending.returned (.bool (cz m x.id).isSome)= .returned (.bool vA)):=al hA
 have HC:Hid (Ending.returned (.bool (cv x.id 1 1000))= .returned (.bool vC)):=al hC
 have HD:Hid (Ending.returned (.bool (dj x.todS))= .returned (.bool vD)):=al hD
 clear hA hC hD
 refine aT (vk w b m most x) (by kernel_rfl) (iW HF.out.drew (HI.out.below (Below.refl _ _).drew)) ?_
 iterate 3 (refine yl (v:= ?_) ?_ ?_; rotate_left; (intro w0 hS0; obtain ⟨⟨q0,q1,q2,q3,q4,q5,q6,q7⟩,hH⟩:=hS0; go_simp; try with_reducible rfl); simp only [pt,sb,s0,s1])
 (refine cl (.int .i64 x.id) 297 #[.agg #[.int .i64 x.id,.bool x.out,.bool x.queue,.int .i64 x.max,.slice x.ak x.items.length x.aq]] ?_ ?_ ?_; (intro w0 hS0; obtain ⟨⟨q0,q1,q2,q3,q4,q5,q6,q7⟩,hH⟩:=hS0; go_simp; try with_reducible rfl); (intro w0 hS0; refine (iN x w0).mono ?_; rintro e w2 ⟨rfl,hb2⟩; exact ⟨rfl,iW (hS0.2.1.out.below hb2) (hS0.2.2.out.below hb2)⟩); simp only [pt,sb,s0,s1])
 (refine cl (.bool vA) 179 #[.agg #[.int .i64 most,.map (some b)],.int .i64 x.id] ?_ ?_ ?_; (intro w0 hS0; obtain ⟨⟨q0,q1,q2,q3,q4,q5,q6,q7⟩,hH⟩:=hS0; go_simp; try with_reducible rfl); (intro w0 hS0; refine (Bb most b m x.id w0 hS0.2.1.out.mp HW.out.1).mono ?_; rintro e w2 ⟨rfl,hb2⟩; exact ⟨HA.out,iW (hS0.2.1.out.below hb2) (hS0.2.2.out.below hb2)⟩); simp only [pt,sb,s0,s1])
 (refine yl (v:= ?_) ?_ ?_; rotate_left; (intro w0 hS0; obtain ⟨⟨q0,q1,q2,q3,q4,q5,q6,q7⟩,hH⟩:=hS0; go_simp; try with_reducible rfl); simp only [pt,sb,s0,s1])
 rcases vA.eq_false_or_eq_true with rfl | rfl
 focus iterate 6 (refine nl ?_; simp only [pt,sb,s0,s1])
 rotate_left
 focus iterate 6 (refine yl (v:= ?_) ?_ ?_; rotate_left; (intro w0 hS0; obtain ⟨⟨q0,q1,q2,q3,q4,q5,q6,q7⟩,hH⟩:=hS0; go_simp; try with_reducible rfl); simp only [pt,sb,s0,s1])
 all_goals iterate 2 (refine yl (v:= ?_) ?_ ?_; rotate_left; (intro w0 hS0; obtain ⟨⟨q0,q1,q2,q3,q4,q5,q6,q7⟩,hH⟩:=hS0; go_simp; try with_reducible rfl); simp only [pt,sb,s0,s1])
 rcases vB.eq_false_or_eq_true with rfl | rfl
 focus iterate 5 (refine nl ?_; simp only [pt,sb,s0,s1])
 rotate_left
 focus
  iterate 2 (refine yl (v:= ?_) ?_ ?_; rotate_left; (intro w0 hS0; obtain ⟨⟨q0,q1,q2,q3,q4,q5,q6,q7⟩,hH⟩:=hS0; go_simp; try with_reducible rfl); simp only [pt,sb,s0,s1])
  (refine cl (.int .i64 x.id) 297 #[.agg #[.int .i64 x.id,.bool x.out,.bool x.queue,.int .i64 x.max,.slice x.ak x.items.length x.aq]] ?_ ?_ ?_; (intro w0 hS0; obtain ⟨⟨q0,q1,q2,q3,q4,q5,q6,q7⟩,hH⟩:=hS0; go_simp; try with_reducible rfl); (intro w0 hS0; refine (iN x w0).mono ?_; rintro e w2 ⟨rfl,hb2⟩; exact ⟨rfl,iW (hS0.2.1.out.below hb2) (hS0.2.2.out.below hb2)⟩); simp only [pt,sb,s0,s1])
  (refine cl (.bool vC) 164 #[.int .i64 x.id] ?_ ?_ ?_; (intro w0 hS0; obtain ⟨⟨q0,q1,q2,q3,q4,q5,q6,q7⟩,hH⟩:=hS0; go_simp; try with_reducible rfl); (intro w0 hS0; refine (eW x.id w0).mono ?_; rintro e w2 ⟨rfl,rfl⟩; exact ⟨HC.out,hS0⟩); simp only [pt,sb,s0,s1])
  (refine yl (v:= ?_) ?_ ?_; rotate_left; (intro w0 hS0; obtain ⟨⟨q0,q1,q2,q3,q4,q5,q6,q7⟩,hH⟩:=hS0; go_simp; try with_reducible rfl); simp only [pt,sb,s0,s1])
 rotate_left
 focus iterate 5 (refine nl ?_; simp only [pt,sb,s0,s1])
 all_goals iterate 2 (refine yl (v:= ?_) ?_ ?_; rotate_left; (intro w0 hS0; obtain ⟨⟨q0,q1,q2,q3,q4,q5,q6,q7⟩,hH⟩:=hS0; go_simp; try with_reducible rfl); simp only [pt,sb,s0,s1])
 rotate_right
 rcases vC.eq_false_or_eq_true with rfl | rfl
 focus
  iterate 2 (refine yl (v:= ?_) ?_ ?_; rotate_left; (intro w0 hS0; obtain ⟨⟨q0,q1,q2,q3,q4,q5,q6,q7⟩,hH⟩:=hS0; go_simp; try with_reducible rfl); simp only [pt,sb,s0,s1])
  (refine cl (.bool vD) 298 #[.agg #[.int .i64 x.id,.bool x.out,.bool x.queue,.int .i64 x.max,.slice x.ak x.items.length x.aq]] ?_ ?_ ?_; (intro w0 hS0; obtain ⟨⟨q0,q1,q2,q3,q4,q5,q6,q7⟩,hH⟩:=hS0; go_simp; try with_reducible rfl); (intro w0 hS0; refine (wG x w0 hS0.2.2.out).mono ?_; rintro e w2 ⟨rfl,hb2⟩; exact ⟨HD.out,iW (hS0.2.1.out.below hb2) (hS0.2.2.out.below hb2)⟩); simp only [pt,sb,s0,s1])
  (refine yl (v:= ?_) ?_ ?_; rotate_left; (intro w0 hS0; obtain ⟨⟨q0,q1,q2,q3,q4,q5,q6,q7⟩,hH⟩:=hS0; go_simp; try with_reducible rfl); simp only [pt,sb,s0,s1])
 rotate_left
 focus iterate 4 (refine nl ?_; simp only [pt,sb,s0,s1])
 rotate_left
 focus iterate 4 (refine nl ?_; simp only [pt,sb,s0,s1])
 rotate_left
 focus iterate 4 (refine nl ?_; simp only [pt,sb,s0,s1])
 rotate_left
 all_goals (refine yl (v:= ?_) ?_ ?_; rotate_left; (intro w0 hS0; obtain ⟨⟨q0,q1,q2,q3,q4,q5,q6,q7⟩,hH⟩:=hS0; go_simp; try with_reducible rfl); simp only [pt,sb,s0,s1])
 all_goals refine bk (by kernel_rfl) ?_ _
 all_goals intro w1 cm
 rcases vD.eq_false_or_eq_true with rfl | rfl
 rotate_left
 iterate 4
  go_wp2
  go_ret
  exact ki HL.out.1 cm.2.1.out.cd
 go_wp2_with fail
 refine eD (vk w b m most x) 5 (by kernel_rfl) (iW cm.2.1.out.drew (cm.2.2.out.below (Below.refl _ _).drew)) ?_
 iterate 4 (refine ly 6 (v:= ?_) (some _) rfl rfl (by kernel_rfl) (fun _ _ _ h=>h) (bV (by kernel_rfl) ?_) ?_; rotate_left; (intro w0 hS0; obtain ⟨⟨q0,q1,q2,q3,q4,q5,q6,q7⟩,hH⟩:=hS0; go_simp; try with_reducible rfl); simp only [pt,sb,s0,s1])
 refine ly 6 (v:= .int .i64 x.id) (some _) rfl rfl (by kernel_rfl) (fun _ _ _ h=>h) (iZ (f:=297) (args:= #[.agg #[.int .i64 x.id,.bool x.out,.bool x.queue,.int .i64 x.max,.slice x.ak x.items.length x.aq]]) (by kernel_rfl) ?_ ?_) ?_
 ·intro w0 hS0
  obtain ⟨⟨q0,q1,q2,q3,q4,q5,q6,q7⟩,hH⟩:=hS0
  go_simp
  try with_reducible rfl
 ·intro w0 hS0
  refine (iN x w0).mono ?_
  rintro e w2 ⟨rfl,hb2⟩
  exact ⟨rfl,iW (hS0.2.1.out.below hb2) (hS0.2.2.out.below hb2)⟩
 simp only [pt,sb,s0,s1]
 refine fL rfl (by kernel_rfl) (by kernel_rfl) (by kernel_rfl) ?_
 intro w1 cm
 obtain ⟨w2,hput,hend⟩:=cm.2.1.out.put (by omega) Tryz.underlying123 HW.out.1 (HL.out.2 (by trivial)) HW.out.2.2 HW.out.2.1
 have HE:Hid (dD w b m true x.id (cW x) 61 (.returned (.bool true)) w2):=hend
 clear hend cm
 go_simp
 go_wp2
 go_ret
 rw [HL.out.1]
 exact HE.out
end Go.Proofs.YtkbcplnlehdjfaaGreat

namespace Go.Proofs.YtkbcplnlehdjfaaGreat
open Go.RowKit
attribute [local go_sem ↓] Go.wp_at_zero Go.wp_at_succ
def qq (w:World) (b:Nat) (m:df) (most:Int) (x:au) (w':World):Prop:=(w'.cell? ⟨w.heap.size,0,none⟩=some (.int .i64 most)∧w'.cell? ⟨w.heap.size,1,none⟩=some (.map (some b))∧(∀ ty,(Builtin.len_ #[120] ty #[.map (some b)]).run Tryz.prog w'= .ok (.int .i64 (m.length:Int)) w')∧w'.cell? ⟨w.heap.size+1,0,none⟩=some (.int .i64 x.id)∧w'.cell? ⟨w.heap.size+1,1,none⟩=some (.int .i64 x.max)∧w'.cell? ⟨w.heap.size+1,2,none⟩=some (.slice x.ak x.items.length x.aq))∧Hid (fe w w' w.heap.size (w.heap.size+1) b m most (bQ x) 144 122)∧Hid (fM w' x)
theorem gB {w w':World} {b:Nat} {m:df} {most:Int} {x:au} (h:fe w w' w.heap.size (w.heap.size+1) b m most (bQ x) 144 122) (hf:fM w' x):qq w b m most x w':=
 ⟨⟨h.cells.1,h.cells.2,fun ty=>h.mp.len Tryz.underlying120 ty,ia h.bx⟩,h,hf⟩
theorem pV (most:Int) (b:Nat) (m:df) (x:au) (w:World) (h:cF w b m) (hw:(Lit.int .i64 x.id).wf=true) (hm:m.length≤1048576) (hf:fM w x):
  Calls Tryz.prog 92 #[.agg #[.int .i64 most,.map (some b)],.agg (bQ x)] w fun e w'=>dD w b m (iI most m x.id (ct x.toci)) x.id (bQ x) 144 e w':=by
 have HF:Hid (fe w ((w.alloc (.cells #[.int .i64 most,.map (some b)] 122)).alloc (.cells (bQ x) 144)) w.heap.size (w.heap.size+1) b m most (bQ x) 144 122):=fe.start w h most _ _ _
 have HW:Hid ((Lit.int .i64 x.id).wf=true∧ ¬ w.heap.size+1=b∧m.length≤1048576):=⟨hw,by have:=h.lt; omega,hm⟩
 have HI:Hid (fM ((w.alloc (.cells #[.int .i64 most,.map (some b)] 122)).alloc (.cells (bQ x) 144)) x):=hf.below ((((Below.refl _ w).alloc (Nat.le_refl _) _)).alloc (by simp) _)
 have hmn:=mc
 have hmr:=se
 obtain ⟨s0,s1⟩:=HF.out.cells
 obtain ⟨c0,c1,c2⟩:=ia HF.out.bx
 clear h hw hf hm
 unfold bQ at *
 go_enter Tryz.func92,Tryz.ntmps92
 go_wp2_with fail
 clear s0 s1 c0 c1 c2
 obtain ⟨vA,hA⟩: ∃ v,(cz m x.id).isSome=v:=⟨_,rfl⟩
 obtain ⟨vB,F6⟩: ∃ v,decide (most≤(m.length:Int))=v:=⟨_,rfl⟩
 obtain ⟨vC,hC⟩: ∃ v,cv x.id 1 1000=v:=⟨_,rfl⟩
 obtain ⟨vD,hD⟩: ∃ v,ct x.toci=v:=⟨_,rfl⟩
 have HL:Hid (iI most m x.id (ct x.toci)=(!vA && !vB && vC && vD)∧(vA=false→cz m x.id=none)):=⟨pi hA F6 hC hD,fun e=>Option.isNone_iff_eq_none.1 (Option.isSome_eq_false_iff.1 (hA.trans e))⟩
 have HA:Hid (Ending.returned (.bool (cz m x.id).isSome)= .returned (.bool vA)):=al hA
 have HC:Hid (Ending.returned (.bool (cv x.id 1 1000))= .returned (.bool vC)):=al hC
 have HD:Hid (Ending.returned (.bool (ct x.toci))= .returned (.bool vD)):=al hD
 clear hA hC hD
 refine aT (qq w b m most x) (by kernel_rfl) (gB HF.out.drew (HI.out.below (Below.refl _ _).drew)) ?_
 iterate 3 (refine yl (v:= ?_) ?_ ?_; rotate_left; (intro w0 hS0; obtain ⟨⟨q0,q1,q2,q3,q4,q5⟩,hH⟩:=hS0; go_simp; try with_reducible rfl); simp only [pt,sb,s0,s1])
 (refine cl (.int .i64 x.id) 313 #[.agg #[.int .i64 x.id,.int .i64 x.max,.slice x.ak x.items.length x.aq]] ?_ ?_ ?_; (intro w0 hS0; obtain ⟨⟨q0,q1,q2,q3,q4,q5⟩,hH⟩:=hS0; go_simp; try with_reducible rfl); (intro w0 hS0; refine (gP x w0).mono ?_; rintro e w2 ⟨rfl,hb2⟩; exact ⟨rfl,gB (hS0.2.1.out.below hb2) (hS0.2.2.out.below hb2)⟩); simp only [pt,sb,s0,s1])
 (refine cl (.bool vA) 178 #[.agg #[.int .i64 most,.map (some b)],.int .i64 x.id] ?_ ?_ ?_; (intro w0 hS0; obtain ⟨⟨q0,q1,q2,q3,q4,q5⟩,hH⟩:=hS0; go_simp; try with_reducible rfl); (intro w0 hS0; refine (mE most b m x.id w0 hS0.2.1.out.mp HW.out.1).mono ?_; rintro e w2 ⟨rfl,hb2⟩; exact ⟨HA.out,gB (hS0.2.1.out.below hb2) (hS0.2.2.out.below hb2)⟩); simp only [pt,sb,s0,s1])
 (refine yl (v:= ?_) ?_ ?_; rotate_left; (intro w0 hS0; obtain ⟨⟨q0,q1,q2,q3,q4,q5⟩,hH⟩:=hS0; go_simp; try with_reducible rfl); simp only [pt,sb,s0,s1])
 rcases vA.eq_false_or_eq_true with rfl | rfl
 focus iterate 6 (refine nl ?_; simp only [pt,sb,s0,s1])
 rotate_left
 focus iterate 6 (refine yl (v:= ?_) ?_ ?_; rotate_left; (intro w0 hS0; obtain ⟨⟨q0,q1,q2,q3,q4,q5⟩,hH⟩:=hS0; go_simp; try with_reducible rfl); simp only [pt,sb,s0,s1])
 all_goals iterate 2 (refine yl (v:= ?_) ?_ ?_; rotate_left; (intro w0 hS0; obtain ⟨⟨q0,q1,q2,q3,q4,q5⟩,hH⟩:=hS0; go_simp; try with_reducible rfl); simp only [pt,sb,s0,s1])
 rcases vB.eq_false_or_eq_true with rfl | rfl
 focus iterate 5 (refine nl ?_; simp only [pt,sb,s0,s1])
 rotate_left
 focus
  iterate 2 (refine yl (v:= ?_) ?_ ?_; rotate_left; (intro w0 hS0; obtain ⟨⟨q0,q1,q2,q3,q4,q5⟩,hH⟩:=hS0; go_simp; try with_reducible rfl); simp only [pt,sb,s0,s1])
  (refine cl (.int .i64 x.id) 313 #[.agg #[.int .i64 x.id,.int .i64 x.max,.slice x.ak x.items.length x.aq]] ?_ ?_ ?_; (intro w0 hS0; obtain ⟨⟨q0,q1,q2,q3,q4,q5⟩,hH⟩:=hS0; go_simp; try with_reducible rfl); (intro w0 hS0; refine (gP x w0).mono ?_; rintro e w2 ⟨rfl,hb2⟩; exact ⟨rfl,gB (hS0.2.1.out.below hb2) (hS0.2.2.out.below hb2)⟩); simp only [pt,sb,s0,s1])
  (refine cl (.bool vC) 164 #[.int .i64 x.id] ?_ ?_ ?_; (intro w0 hS0; obtain ⟨⟨q0,q1,q2,q3,q4,q5⟩,hH⟩:=hS0; go_simp; try with_reducible rfl); (intro w0 hS0; refine (eW x.id w0).mono ?_; rintro e w2 ⟨rfl,rfl⟩; exact ⟨HC.out,hS0⟩); simp only [pt,sb,s0,s1])
  (refine yl (v:= ?_) ?_ ?_; rotate_left; (intro w0 hS0; obtain ⟨⟨q0,q1,q2,q3,q4,q5⟩,hH⟩:=hS0; go_simp; try with_reducible rfl); simp only [pt,sb,s0,s1])
 rotate_left
 focus iterate 5 (refine nl ?_; simp only [pt,sb,s0,s1])
 all_goals iterate 2 (refine yl (v:= ?_) ?_ ?_; rotate_left; (intro w0 hS0; obtain ⟨⟨q0,q1,q2,q3,q4,q5⟩,hH⟩:=hS0; go_simp; try with_reducible rfl); simp only [pt,sb,s0,s1])
 rotate_right
 rcases vC.eq_false_or_eq_true with rfl | rfl
 focus
  iterate 2 (refine yl (v:= ?_) ?_ ?_; rotate_left; (intro w0 hS0; obtain ⟨⟨q0,q1,q2,q3,q4,q5⟩,hH⟩:=hS0; go_simp; try with_reducible rfl); simp only [pt,sb,s0,s1])
  (refine cl (.bool vD) 314 #[.agg #[.int .i64 x.id,.int .i64 x.max,.slice x.ak x.items.length x.aq]] ?_ ?_ ?_; (intro w0 hS0; obtain ⟨⟨q0,q1,q2,q3,q4,q5⟩,hH⟩:=hS0; go_simp; try with_reducible rfl); (intro w0 hS0; refine (tt x w0 hS0.2.2.out).mono ?_; rintro e w2 ⟨rfl,hb2⟩; exact ⟨HD.out,gB (hS0.2.1.out.below hb2) (hS0.2.2.out.below hb2)⟩); simp only [pt,sb,s0,s1])
  (refine yl (v:= ?_) ?_ ?_; rotate_left; (intro w0 hS0; obtain ⟨⟨q0,q1,q2,q3,q4,q5⟩,hH⟩:=hS0; go_simp; try with_reducible rfl); simp only [pt,sb,s0,s1])
 rotate_left
 focus iterate 4 (refine nl ?_; simp only [pt,sb,s0,s1])
 rotate_left
 focus iterate 4 (refine nl ?_; simp only [pt,sb,s0,s1])
 rotate_left
 focus iterate 4 (refine nl ?_; simp only [pt,sb,s0,s1])
 rotate_left
 all_goals (refine yl (v:= ?_) ?_ ?_; rotate_left; (intro w0 hS0; obtain ⟨⟨q0,q1,q2,q3,q4,q5⟩,hH⟩:=hS0; go_simp; try with_reducible rfl); simp only [pt,sb,s0,s1])
 all_goals refine bk (by kernel_rfl) ?_ _
 all_goals intro w1 cm
 rcases vD.eq_false_or_eq_true with rfl | rfl
 rotate_left
 iterate 4
  go_wp2
  go_ret
  exact ki HL.out.1 cm.2.1.out.cd
 go_wp2_with fail
 refine eD (qq w b m most x) 5 (by kernel_rfl) (gB cm.2.1.out.drew (cm.2.2.out.below (Below.refl _ _).drew)) ?_
 iterate 4 (refine ly 6 (v:= ?_) (some _) rfl rfl (by kernel_rfl) (fun _ _ _ h=>h) (bV (by kernel_rfl) ?_) ?_; rotate_left; (intro w0 hS0; obtain ⟨⟨q0,q1,q2,q3,q4,q5⟩,hH⟩:=hS0; go_simp; try with_reducible rfl); simp only [pt,sb,s0,s1])
 refine ly 6 (v:= .int .i64 x.id) (some _) rfl rfl (by kernel_rfl) (fun _ _ _ h=>h) (iZ (f:=313) (args:= #[.agg #[.int .i64 x.id,.int .i64 x.max,.slice x.ak x.items.length x.aq]]) (by kernel_rfl) ?_ ?_) ?_
 ·intro w0 hS0
  obtain ⟨⟨q0,q1,q2,q3,q4,q5⟩,hH⟩:=hS0
  go_simp
  try with_reducible rfl
 ·intro w0 hS0
  refine (gP x w0).mono ?_
  rintro e w2 ⟨rfl,hb2⟩
  exact ⟨rfl,gB (hS0.2.1.out.below hb2) (hS0.2.2.out.below hb2)⟩
 simp only [pt,sb,s0,s1]
 refine fL rfl (by kernel_rfl) (by kernel_rfl) (by kernel_rfl) ?_
 intro w1 cm
 obtain ⟨w2,hput,hend⟩:=cm.2.1.out.put (by omega) Tryz.underlying120 HW.out.1 (HL.out.2 (by trivial)) HW.out.2.2 HW.out.2.1
 have HE:Hid (dD w b m true x.id (bQ x) 144 (.returned (.bool true)) w2):=hend
 clear hend cm
 go_simp
 go_wp2
 go_ret
 rw [HL.out.1]
 exact HE.out
end Go.Proofs.YtkbcplnlehdjfaaGreat

namespace Go.Proofs.YtkbcplnlehdjfaaGreat
open Go.RowKit
attribute [local go_sem ↓] Go.wp_at_zero Go.wp_at_succ
def rP (w:World) (b:Nat) (m:df) (most:Int) (x:az) (w':World):Prop:=(w'.cell? ⟨w.heap.size,0,none⟩=some (.int .i64 most)∧w'.cell? ⟨w.heap.size,1,none⟩=some (.map (some b))∧(∀ ty,(Builtin.len_ #[117] ty #[.map (some b)]).run Tryz.prog w'= .ok (.int .i64 (m.length:Int)) w')∧w'.cell? ⟨w.heap.size+1,0,none⟩=some (.int .i64 x.id)∧w'.cell? ⟨w.heap.size+1,1,none⟩=some (.bool x.shown)∧w'.cell? ⟨w.heap.size+1,2,none⟩=some (.string x.text))∧Hid (fe w w' w.heap.size (w.heap.size+1) b m most (cI x) 141 119)∧Hid (gX w' x)
theorem ii {w w':World} {b:Nat} {m:df} {most:Int} {x:az} (h:fe w w' w.heap.size (w.heap.size+1) b m most (cI x) 141 119) (hf:gX w' x):rP w b m most x w':=
 ⟨⟨h.cells.1,h.cells.2,fun ty=>h.mp.len Tryz.underlying117 ty,kJ h.bx⟩,h,hf⟩
theorem rr (most:Int) (b:Nat) (m:df) (x:az) (w:World) (h:cF w b m) (hw:(Lit.int .i64 x.id).wf=true) (hm:m.length≤1048576) (hf:gX w x):
  Calls Tryz.prog 91 #[.agg #[.int .i64 most,.map (some b)],.agg (cI x)] w fun e w'=>dD w b m (iI most m x.id (cU x)) x.id (cI x) 141 e w':=by
 have HF:Hid (fe w ((w.alloc (.cells #[.int .i64 most,.map (some b)] 119)).alloc (.cells (cI x) 141)) w.heap.size (w.heap.size+1) b m most (cI x) 141 119):=fe.start w h most _ _ _
 have HW:Hid ((Lit.int .i64 x.id).wf=true∧ ¬ w.heap.size+1=b∧m.length≤1048576):=⟨hw,by have:=h.lt; omega,hm⟩
 have HI:Hid (gX ((w.alloc (.cells #[.int .i64 most,.map (some b)] 119)).alloc (.cells (cI x) 141)) x):=hf.below ((((Below.refl _ w).alloc (Nat.le_refl _) _)).alloc (by simp) _)
 have hmn:=nr
 have hmr:=tq
 obtain ⟨s0,s1⟩:=HF.out.cells
 obtain ⟨c0,c1,c2⟩:=kJ HF.out.bx
 clear h hw hf hm
 unfold cI at *
 go_enter Tryz.func91,Tryz.ntmps91
 go_wp2_with fail
 clear s0 s1 c0 c1 c2
 obtain ⟨vA,hA⟩: ∃ v,(cz m x.id).isSome=v:=⟨_,rfl⟩
 obtain ⟨vB,F6⟩: ∃ v,decide (most≤(m.length:Int))=v:=⟨_,rfl⟩
 obtain ⟨vC,hC⟩: ∃ v,cv x.id 1 1000=v:=⟨_,rfl⟩
 obtain ⟨vD,hD⟩: ∃ v,cU x=v:=⟨_,rfl⟩
 have HL:Hid (iI most m x.id (cU x)=(!vA && !vB && vC && vD)∧(vA=false→cz m x.id=none)):=⟨pi hA F6 hC hD,fun e=>Option.isNone_iff_eq_none.1 (Option.isSome_eq_false_iff.1 (hA.trans e))⟩
 have HA:Hid (Ending.returned (.bool (cz m x.id).isSome)= .returned (.bool vA)):=al hA
 have HC:Hid (Ending.returned (.bool (cv x.id 1 1000))= .returned (.bool vC)):=al hC
 have HD:Hid (Ending.returned (.bool (cU x))= .returned (.bool vD)):=al hD
 clear hA hC hD
 refine aT (rP w b m most x) (by kernel_rfl) (ii HF.out.drew (HI.out.below (Below.refl _ _).drew)) ?_
 iterate 3 (refine yl (v:= ?_) ?_ ?_; rotate_left; (intro w0 hS0; obtain ⟨⟨q0,q1,q2,q3,q4,q5⟩,hH⟩:=hS0; go_simp; try with_reducible rfl); simp only [pt,sb,s0,s1])
 (refine cl (.int .i64 x.id) 310 #[.agg #[.int .i64 x.id,.bool x.shown,.string x.text]] ?_ ?_ ?_; (intro w0 hS0; obtain ⟨⟨q0,q1,q2,q3,q4,q5⟩,hH⟩:=hS0; go_simp; try with_reducible rfl); (intro w0 hS0; refine (iq x w0).mono ?_; rintro e w2 ⟨rfl,hb2⟩; exact ⟨rfl,ii (hS0.2.1.out.below hb2) (hS0.2.2.out.below hb2)⟩); simp only [pt,sb,s0,s1])
 (refine cl (.bool vA) 177 #[.agg #[.int .i64 most,.map (some b)],.int .i64 x.id] ?_ ?_ ?_; (intro w0 hS0; obtain ⟨⟨q0,q1,q2,q3,q4,q5⟩,hH⟩:=hS0; go_simp; try with_reducible rfl); (intro w0 hS0; refine (qM most b m x.id w0 hS0.2.1.out.mp HW.out.1).mono ?_; rintro e w2 ⟨rfl,hb2⟩; exact ⟨HA.out,ii (hS0.2.1.out.below hb2) (hS0.2.2.out.below hb2)⟩); simp only [pt,sb,s0,s1])
 (refine yl (v:= ?_) ?_ ?_; rotate_left; (intro w0 hS0; obtain ⟨⟨q0,q1,q2,q3,q4,q5⟩,hH⟩:=hS0; go_simp; try with_reducible rfl); simp only [pt,sb,s0,s1])
 rcases vA.eq_false_or_eq_true with rfl | rfl
 focus iterate 6 (refine nl ?_; simp only [pt,sb,s0,s1])
 rotate_left
 focus iterate 6 (refine yl (v:= ?_) ?_ ?_; rotate_left; (intro w0 hS0; obtain ⟨⟨q0,q1,q2,q3,q4,q5⟩,hH⟩:=hS0; go_simp; try with_reducible rfl); simp only [pt,sb,s0,s1])
 all_goals iterate 2 (refine yl (v:= ?_) ?_ ?_; rotate_left; (intro w0 hS0; obtain ⟨⟨q0,q1,q2,q3,q4,q5⟩,hH⟩:=hS0; go_simp; try with_reducible rfl); simp only [pt,sb,s0,s1])
 rcases vB.eq_false_or_eq_true with rfl | rfl
 focus iterate 5 (refine nl ?_; simp only [pt,sb,s0,s1])
 rotate_left
 focus
  iterate 2 (refine yl (v:= ?_) ?_ ?_; rotate_left; (intro w0 hS0; obtain ⟨⟨q0,q1,q2,q3,q4,q5⟩,hH⟩:=hS0; go_simp; try with_reducible rfl); simp only [pt,sb,s0,s1])
  (refine cl (.int .i64 x.id) 310 #[.agg #[.int .i64 x.id,.bool x.shown,.string x.text]] ?_ ?_ ?_; (intro w0 hS0; obtain ⟨⟨q0,q1,q2,q3,q4,q5⟩,hH⟩:=hS0; go_simp; try with_reducible rfl); (intro w0 hS0; refine (iq x w0).mono ?_; rintro e w2 ⟨rfl,hb2⟩; exact ⟨rfl,ii (hS0.2.1.out.below hb2) (hS0.2.2.out.below hb2)⟩); simp only [pt,sb,s0,s1])
  (refine cl (.bool vC) 164 #[.int .i64 x.id] ?_ ?_ ?_; (intro w0 hS0; obtain ⟨⟨q0,q1,q2,q3,q4,q5⟩,hH⟩:=hS0; go_simp; try with_reducible rfl); (intro w0 hS0; refine (eW x.id w0).mono ?_; rintro e w2 ⟨rfl,rfl⟩; exact ⟨HC.out,hS0⟩); simp only [pt,sb,s0,s1])
  (refine yl (v:= ?_) ?_ ?_; rotate_left; (intro w0 hS0; obtain ⟨⟨q0,q1,q2,q3,q4,q5⟩,hH⟩:=hS0; go_simp; try with_reducible rfl); simp only [pt,sb,s0,s1])
 rotate_left
 focus iterate 5 (refine nl ?_; simp only [pt,sb,s0,s1])
 all_goals iterate 2 (refine yl (v:= ?_) ?_ ?_; rotate_left; (intro w0 hS0; obtain ⟨⟨q0,q1,q2,q3,q4,q5⟩,hH⟩:=hS0; go_simp; try with_reducible rfl); simp only [pt,sb,s0,s1])
 rotate_right
 rcases vC.eq_false_or_eq_true with rfl | rfl
 focus
  iterate 2 (refine yl (v:= ?_) ?_ ?_; rotate_left; (intro w0 hS0; obtain ⟨⟨q0,q1,q2,q3,q4,q5⟩,hH⟩:=hS0; go_simp; try with_reducible rfl); simp only [pt,sb,s0,s1])
  (refine cl (.bool vD) 311 #[.agg #[.int .i64 x.id,.bool x.shown,.string x.text]] ?_ ?_ ?_; (intro w0 hS0; obtain ⟨⟨q0,q1,q2,q3,q4,q5⟩,hH⟩:=hS0; go_simp; try with_reducible rfl); (intro w0 hS0; refine (wd x w0 hS0.2.2.out).mono ?_; rintro e w2 ⟨rfl,hb2⟩; exact ⟨HD.out,ii (hS0.2.1.out.below hb2) (hS0.2.2.out.below hb2)⟩); simp only [pt,sb,s0,s1])
  (refine yl (v:= ?_) ?_ ?_; rotate_left; (intro w0 hS0; obtain ⟨⟨q0,q1,q2,q3,q4,q5⟩,hH⟩:=hS0; go_simp; try with_reducible rfl); simp only [pt,sb,s0,s1])
 rotate_left
 focus iterate 4 (refine nl ?_; simp only [pt,sb,s0,s1])
 rotate_left
 focus iterate 4 (refine nl ?_; simp only [pt,sb,s0,s1])
 rotate_left
 focus iterate 4 (refine nl ?_; simp only [pt,sb,s0,s1])
 rotate_left
 all_goals (refine yl (v:= ?_) ?_ ?_; rotate_left; (intro w0 hS0; obtain ⟨⟨q0,q1,q2,q3,q4,q5⟩,hH⟩:=hS0; go_simp; try with_reducible rfl); simp only [pt,sb,s0,s1])
 all_goals refine bk (by kernel_rfl) ?_ _
 all_goals intro w1 cm
 rcases vD.eq_false_or_eq_true with rfl | rfl
 rotate_left
 iterate 4
  go_wp2
  go_ret
  exact ki HL.out.1 cm.2.1.out.cd
 go_wp2_with fail
 refine eD (rP w b m most x) 5 (by kernel_rfl) (ii cm.2.1.out.drew (cm.2.2.out.below (Below.refl _ _).drew)) ?_
 iterate 4 (refine ly 6 (v:= ?_) (some _) rfl rfl (by kernel_rfl) (fun _ _ _ h=>h) (bV (by kernel_rfl) ?_) ?_; rotate_left; (intro w0 hS0; obtain ⟨⟨q0,q1,q2,q3,q4,q5⟩,hH⟩:=hS0; go_simp; try with_reducible rfl); simp only [pt,sb,s0,s1])
 refine ly 6 (v:= .int .i64 x.id) (some _) rfl rfl (by kernel_rfl) (fun _ _ _ h=>h) (iZ (f:=310) (args:= #[.agg #[.int .i64 x.id,.bool x.shown,.string x.text]]) (by kernel_rfl) ?_ ?_) ?_
 ·intro w0 hS0
  obtain ⟨⟨q0,q1,q2,q3,q4,q5⟩,hH⟩:=hS0
  go_simp
  try with_reducible rfl
 ·intro w0 hS0
  refine (iq x w0).mono ?_
  rintro e w2 ⟨rfl,hb2⟩
  exact ⟨rfl,ii (hS0.2.1.out.below hb2) (hS0.2.2.out.below hb2)⟩
 simp only [pt,sb,s0,s1]
 refine fL rfl (by kernel_rfl) (by kernel_rfl) (by kernel_rfl) ?_
 intro w1 cm
 obtain ⟨w2,hput,hend⟩:=cm.2.1.out.put (by omega) Tryz.underlying117 HW.out.1 (HL.out.2 (by trivial)) HW.out.2.2 HW.out.2.1
 have HE:Hid (dD w b m true x.id (cI x) 141 (.returned (.bool true)) w2):=hend
 clear hend cm
 go_simp
 go_wp2
 go_ret
 rw [HL.out.1]
 exact HE.out
end Go.Proofs.YtkbcplnlehdjfaaGreat

namespace Go.Proofs
open Go.RowKit Go.Maps Go.Sort Go.Shelf
theorem Tryz.sortsA (m : Nat) : AnyZI.SortsIn Tryz.prog Tryz.sortedA_ren Fence.wide m :=
  ⟨fun blk off cap ss W hH hblk hsz => callsIn_wide.2 (AnyM.slices_Sort_int Tryz.sortA blk off cap ss W hH hblk hsz),
   fun p cap W => callsIn_wide.2 (AnyM.slices_Sort_int_none Tryz.sortA p cap W)⟩
namespace YtkbcplnlehdjfaaGreat
theorem oA : ∀ {l1 l2 : List Int}, l1.Perm l2 → l1.Pairwise (· ≤ ·) → l2.Pairwise (· ≤ ·) → l1 = l2
  | [], l2, hp, _, _ => (List.nil_perm.1 hp).symm
  | a :: t, [], hp, _, _ => absurd (List.perm_nil.1 hp) (by simp)
  | a :: t, b :: s, hp, h1, h2 => by
    obtain ⟨ha, ht⟩ := List.pairwise_cons.1 h1
    obtain ⟨hb, hs⟩ := List.pairwise_cons.1 h2
    have hab : a = b := by
      have m1 : a ∈ b :: s := hp.mem_iff.1 (by simp)
      have m2 : b ∈ a :: t := hp.mem_iff.2 (by simp)
      rcases List.mem_cons.1 m1 with e | m1
      · exact e
      · rcases List.mem_cons.1 m2 with e | m2
        · exact e.symm
        · have := ha b m2
          have := hb a m1
          omega
    subst hab
    rw [oA (List.perm_cons a |>.1 hp) ht hs]
theorem lU (m : df) : intKeys (gA m) = m.map (·.1) := by
  simp only [intKeys, gA, List.map_map]
  rfl
theorem jG {m : df} (h : zP m) {ss : List Int} (hp : ss.Perm (intKeys (gA m))) : ss.mergeSort (fun x y => decide (x ≤ y)) = m.map (·.1) := by
  rw [lU] at hp
  refine oA ((List.mergeSort_perm _ _).trans hp) ?_ ?_
  · have := List.pairwise_mergeSort (le := fun x y : Int => decide (x ≤ y)) (fun a b c h1 h2 => by simp at *; omega) (fun a b => by simp; omega) ss
    exact this.imp (fun {a b} h => by simpa using h)
  · rw [List.pairwise_map]
    exact List.Pairwise.imp (fun {a b} h => by omega) h
theorem cr {w : World} {base n size : Nat} {e : TypeId} {v : Value} {xs : List Value} (h : w.ownsRow base e size v n xs) : ∃ a cap, v = .slice a n cap ∧ Row w a xs := by
  obtain ⟨hl, h2⟩ := h
  rcases h2 with ⟨rfl, rfl⟩ | ⟨g, cap, cur, rfl, hb, hg, h3, h4, h5, h6⟩
  · have : xs = [] := List.eq_nil_of_length_eq_zero (by simpa using hl)
    subst this
    exact ⟨none, 0, rfl, Row.nothing _ _⟩
  · refine ⟨some ⟨g, 0, none⟩, cap, rfl, fun j u hu => ⟨g, rfl, ?_⟩⟩
    rw [cell_of_row w g j cur e (0, 0) hg]
    rw [← h6, List.getElem?_take] at hu
    split at hu
    · simpa using hu
    · cases hu
theorem cq {w : World} {base base' n size : Nat} {e : TypeId} {v : Value} {xs : List Value} (h : w.ownsRow base e size v n xs) (hb : base' ≤ base) : w.ownsRow base' e size v n xs := by
  obtain ⟨hl, h2⟩ := h
  refine ⟨hl, ?_⟩
  rcases h2 with h2 | ⟨g, cap, cur, h1, h3, h4⟩
  · exact .inl h2
  · exact .inr ⟨g, cap, cur, h1, by omega, h4⟩
end YtkbcplnlehdjfaaGreat
end Go.Proofs

namespace Go.Proofs.YtkbcplnlehdjfaaGreat
open Go.RowKit
structure ol where
 id:Int
 next:Int
 bp:Nat
 bs:Nat
 be:Nat
 bb:Nat
 bf:Nat
 bq:Nat
def ol.cells (q:ol):Array Value:= #[.int .i64 q.id,.int .i64 q.next,.int .i64 6,.map (some q.bp),.int .i64 5,.map (some q.bs),.int .i64 5,.map (some q.be),.int .i64 5,.map (some q.bb),.int .i64 5,.map (some q.bf),.int .i64 5,.map (some q.bq)]
def fa (W:World) (o:Nat) (q:ol):Prop:=W.heap[o]? =some (.cells q.cells 127 (0,0))
theorem fa.below {W W':World} {o:Nat} {q:ol} (h:fa W o q) (hb:Below W.heap.size W W'):fa W' o q:=(hb.block o (Array.getElem?_eq_some_iff.1 h).1).trans h
theorem fa.cell {W:World} {o:Nat} {q:ol} (h:fa W o q) (i:Nat):W.cell? ⟨o,i,none⟩=q.cells[i]? :=by
 unfold fa at h
 simp [World.cell?,h]
structure fu (w W:World) (o X:Nat) (q:ol) (x:ao) (ms me mb mf:df):Prop where
 opn:fa W o q
 box:W.heap[X]? =some (.cells (aX x) 43 (0,0))
 ms:cF W q.bs ms
 me:cF W q.be me
 mb:cF W q.bb mb
 mf:cF W q.bf mf
 cd:Below w.heap.size w W
theorem fu.below {w W W':World} {o X:Nat} {q:ol} {x:ao} {ms me mb mf:df} (h:fu w W o X q x ms me mb mf) (hb:Below W.heap.size W W'):fu w W' o X q x ms me mb mf:=
 ⟨h.opn.below hb,(hb.block _ (Array.getElem?_eq_some_iff.1 h.box).1).trans h.box,h.ms.below hb,h.me.below hb,h.mb.below hb,h.mf.below hb,h.cd.trans (hb.mono h.cd.size)⟩
theorem fu.drew {w W:World} {o X:Nat} {q:ol} {x:ao} {ms me mb mf:df} (h:fu w W o X q x ms me mb mf):fu w W.drew o X q x ms me mb mf:=h.below (Below.refl _ _).drew
def fw (ms me mb mf:df) (x:ao):Bool:=
 if x.state=3 then (cz ms x.on).isSome else if x.state=4 then (cz me x.on).isSome else if x.state=5∨x.state=6 then (cz mf x.on).isSome else if x.state=7 then (cz mb x.on).isSome else true
end Go.Proofs.YtkbcplnlehdjfaaGreat
