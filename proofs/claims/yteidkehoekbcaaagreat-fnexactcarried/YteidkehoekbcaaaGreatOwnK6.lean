/- What the proof leans on, part 6. -/
import Derived.Test.YteidkehoekbcaaaGreatOwnK5
set_option maxRecDepth 100000
set_option maxHeartbeats 8000000
open Array renaming getElem?_eq_some_iff->J2
open Go.Proofs.Tryz renaming prog->J3
open Go.RowKit.Below renaming refl->Kp
open Nat renaming le_refl->Ki
open Option renaming isNone_iff_eq_none->PX,isSome_eq_false_iff->PY

namespace Go.Proofs.YteidkehoekbcaaaGreat
section
open Go.RowKit
structure oV (w W:World) (x:ao):Prop where
 box:W.heap[w.heap.size]? =some (.cells (aX x) 148 (0,0))
 fit:eL W x
 cd:Below w.heap.size w W
theorem oV.below {w W W':World} {x:ao} (h:oV w W x) (hb:Below W.heap.size W W'):oV w W' x:=
 ⟨(hb.block _ (J2.1 h.box).1).trans h.box,h.fit.below hb,h.cd.trans (hb.mono h.cd.size)⟩
theorem oV.start {w:World} {x:ao} (h:eL w x):oV w (w.alloc (.cells (aX x) 148)) x:=by
 have b1:Below w.heap.size w (w.alloc (.cells (aX x) 148)):=(Kp _ _).alloc (Ki _) _;exact ⟨heap_alloc_new _ _,h.below b1,b1⟩
theorem p9 {s:ByteArray} (h:s.toList= []):bI s=true:=by simp [bI,h]
theorem sf {s:ByteArray} (h: ¬ s.toList= []):bI s=false:=by simp [bI,h]
theorem aA {p:Prop} (h:p):Hid p:=h
theorem mu (a b:Int):(a == b)=decide (a=b):=by rw [Bool.eq_iff_iff]; simp
theorem Jh (a b c d:Bool):a=false∨(a=true∧b=false)∨(a=true∧b=true∧c=false)∨(a=true∧b=true∧c=true∧d=false)∨(a=true∧b=true∧c=true∧d=true):=by
 revert a b c d
 decide
theorem ways5 (a b c d e:Bool):a=false∨(a=true∧b=false)∨(a=true∧b=true∧c=false)∨(a=true∧b=true∧c=true∧d=false)∨(a=true∧b=true∧c=true∧d=true∧e=false)∨(a=true∧b=true∧c=true∧d=true∧e=true):=by
 revert a b c d e
 decide
theorem qL (a b c d:Bool):a=false∨(a=true∧b=false)∨(a=true∧b=true∧c=true)∨(a=true∧b=true∧c=false∧d=false)∨(a=true∧b=true∧c=false∧d=true):=by
 revert a b c d
 decide
theorem state0 {x:aD} (h:x.Md=0):bO x=((x.pc == 0) && (x.left == 0) && (x.Mg == 0) && (x.on == 0) && (x.RU == 0) && bI x.held):=by simp [bO,h,mu]
theorem Da (x:ao) (w:World) (hf:eL w x) (hs:x.Md=0):Calls J3 263 #[.agg (aX x)] w fun e w'=>e= .returned (.bool (bO x.toaD))∧Below w.heap.size w w':=by
 have HE:=aA (state0 hs);have HI:=aA (oV.start hf);clear hf;obtain ⟨⟨id,RX,prog,Md,pc,left,Mg,on,held,got,code,RU⟩,aY,bH⟩:=x;replace hs:Md=0:=hs;subst hs;obtain ⟨v0,h0⟩: ∃ v,(pc == 0)=v:=⟨_,rfl⟩
 obtain ⟨v1,h1⟩: ∃ v,(left == 0)=v:=⟨_,rfl⟩
 obtain ⟨v2,h2⟩: ∃ v,(Mg == 0)=v:=⟨_,rfl⟩
 obtain ⟨v3,h3⟩: ∃ v,(on == 0)=v:=⟨_,rfl⟩
 obtain ⟨v4,h4⟩: ∃ v,(RU == 0)=v:=⟨_,rfl⟩
 have HE:=aA (HE.I.trans (show _=(v0 && v1 && v2 && v3 && v4 && bI held) by simp only [h0,h1,h2,h3,h4]));obtain ⟨c0,c1,c2,c3,c4,c5,c6,c7,c8,c9,qF,pe⟩:=bo HI.I.box;unfold aX at *;rcases ways5 v0 v1 v2 v3 v4 with rfl | ⟨rfl,rfl⟩ | ⟨rfl,rfl,rfl⟩ | ⟨rfl,rfl,rfl,rfl⟩ | ⟨rfl,rfl,rfl,rfl,rfl⟩ | ⟨rfl,rfl,rfl,rfl,rfl⟩
 all_goals
  go_enter Tryz.func263,Tryz.ntmps263
  go_wp2;go_ret;exact ⟨al (by rw [HE.I]; simp [bI]),HI.I.cd⟩
theorem state1 {x:aD} (h:x.Md=1):bO x=(dU x && jJ x && (x.Mg == 0) && (x.on == 0) && bI x.held):=by simp [bO,h,mu]
theorem CL (x:ao) (w:World) (hf:eL w x) (hs:x.Md=1):Calls J3 263 #[.agg (aX x)] w fun e w'=>e= .returned (.bool (bO x.toaD))∧Below w.heap.size w w':=by
 have HE:=aA (state1 hs);have HI:=aA (oV.start hf);clear hf;obtain ⟨⟨id,RX,prog,Md,pc,left,Mg,on,held,got,code,RU⟩,aY,bH⟩:=x;replace hs:Md=1:=hs;subst hs;obtain ⟨v0,h0⟩: ∃ v,dU ⟨id,RX,prog,1,pc,left,Mg,on,held,got,code,RU⟩=v:=⟨_,rfl⟩
 obtain ⟨v1,h1⟩: ∃ v,jJ ⟨id,RX,prog,1,pc,left,Mg,on,held,got,code,RU⟩=v:=⟨_,rfl⟩
 obtain ⟨v2,h2⟩: ∃ v,(Mg == 0)=v:=⟨_,rfl⟩
 obtain ⟨v3,h3⟩: ∃ v,(on == 0)=v:=⟨_,rfl⟩
 have HE:=aA (HE.I.trans (show _=(v0 && v1 && v2 && v3 && bI held) by simp only [h0,h1,h2,h3]));have tc:=aA h0;clear h0;have I8:=aA h1;clear h1;obtain ⟨c0,c1,c2,c3,c4,c5,c6,c7,c8,c9,qF,pe⟩:=bo HI.I.box;unfold aX at *;rcases Jh v0 v1 v2 v3 with rfl | ⟨rfl,rfl⟩ | ⟨rfl,rfl,rfl⟩ | ⟨rfl,rfl,rfl,rfl⟩ | ⟨rfl,rfl,rfl,rfl⟩
 all_goals
  go_enter Tryz.func263,Tryz.ntmps263
  go_wp2_with (first | (go_at_call 259; refine (kn _ _ HI.I.fit.1.prog).mono ?_; rintro e w1 ⟨rfl,hb1⟩; have HI:=aA (HI.I.below hb1); obtain ⟨c0,c1,c2,c3,c4,c5,c6,c7,c8,c9,qF,pe⟩:=bo HI.I.box; clear hb1; rw [tc.I]) | (go_at_call 265; refine (CP _ _ HI.I.fit tc.I).mono ?_; rintro e w1 ⟨rfl,hb1⟩; have HI:=aA (HI.I.below hb1); obtain ⟨c0,c1,c2,c3,c4,c5,c6,c7,c8,c9,qF,pe⟩:=bo HI.I.box; clear hb1; rw [I8.I]));go_ret;exact ⟨al (by rw [HE.I]; simp [bI]),HI.I.cd⟩
theorem state2 {x:aD} (h:x.Md=2):bO x=(dU x && (x.left == 0) && cv x.Mg 1 2000000000 && (x.on == 0) && bI x.held):=by simp [bO,h,mu]
theorem Cw (x:ao) (w:World) (hf:eL w x) (hs:x.Md=2):Calls J3 263 #[.agg (aX x)] w fun e w'=>e= .returned (.bool (bO x.toaD))∧Below w.heap.size w w':=by
 have HE:=aA (state2 hs);have HI:=aA (oV.start hf);clear hf;obtain ⟨⟨id,RX,prog,Md,pc,left,Mg,on,held,got,code,RU⟩,aY,bH⟩:=x;replace hs:Md=2:=hs;subst hs;obtain ⟨v0,h0⟩: ∃ v,dU ⟨id,RX,prog,2,pc,left,Mg,on,held,got,code,RU⟩=v:=⟨_,rfl⟩
 obtain ⟨v1,h1⟩: ∃ v,(left == 0)=v:=⟨_,rfl⟩
 obtain ⟨v2,h2⟩: ∃ v,cv Mg 1 2000000000=v:=⟨_,rfl⟩
 obtain ⟨v3,h3⟩: ∃ v,(on == 0)=v:=⟨_,rfl⟩
 have HE:=aA (HE.I.trans (show _=(v0 && v1 && v2 && v3 && bI held) by simp only [h0,h1,h2,h3]));have tc:=aA h0;clear h0;have Hd:=aA h2;clear h2;obtain ⟨c0,c1,c2,c3,c4,c5,c6,c7,c8,c9,qF,pe⟩:=bo HI.I.box;unfold aX at *;rcases Jh v0 v1 v2 v3 with rfl | ⟨rfl,rfl⟩ | ⟨rfl,rfl,rfl⟩ | ⟨rfl,rfl,rfl,rfl⟩ | ⟨rfl,rfl,rfl,rfl⟩
 all_goals
  go_enter Tryz.func263,Tryz.ntmps263
  go_wp2_with (first | (go_at_call 259; refine (kn _ _ HI.I.fit.1.prog).mono ?_; rintro e w1 ⟨rfl,hb1⟩; have HI:=aA (HI.I.below hb1); obtain ⟨c0,c1,c2,c3,c4,c5,c6,c7,c8,c9,qF,pe⟩:=bo HI.I.box; clear hb1; rw [tc.I]) | (go_at_call 266; refine (kb Mg _).mono ?_; rintro e w1 ⟨rfl,hw1⟩; rw [Hd.I,hw1]; clear hw1 w1));go_ret;exact ⟨al (by rw [HE.I]; simp [bI]),HI.I.cd⟩
theorem state3 {x:aD} (h:x.Md=3):bO x=(dU x && (x.left == 0) && (cv x.Mg 1 2000000000 || (x.Mg == -1)) && bI x.held):=by simp [bO,h,mu,lh]
theorem CU (x:ao) (w:World) (hf:eL w x) (hs:x.Md=3):Calls J3 263 #[.agg (aX x)] w fun e w'=>e= .returned (.bool (bO x.toaD))∧Below w.heap.size w w':=by
 have HE:=aA (state3 hs);have HI:=aA (oV.start hf);clear hf;obtain ⟨⟨id,RX,prog,Md,pc,left,Mg,on,held,got,code,RU⟩,aY,bH⟩:=x;replace hs:Md=3:=hs;subst hs;obtain ⟨v0,h0⟩: ∃ v,dU ⟨id,RX,prog,3,pc,left,Mg,on,held,got,code,RU⟩=v:=⟨_,rfl⟩
 obtain ⟨v1,h1⟩: ∃ v,(left == 0)=v:=⟨_,rfl⟩
 obtain ⟨v2,h2⟩: ∃ v,cv Mg 1 2000000000=v:=⟨_,rfl⟩
 obtain ⟨v3,h3⟩: ∃ v,(Mg == -1)=v:=⟨_,rfl⟩
 have HE:=aA (HE.I.trans (show _=(v0 && v1 && (v2 || v3) && bI held) by simp only [h0,h1,h2,h3]));have tc:=aA h0;clear h0;have Hd:=aA h2;clear h2;obtain ⟨c0,c1,c2,c3,c4,c5,c6,c7,c8,c9,qF,pe⟩:=bo HI.I.box;unfold aX at *;rcases qL v0 v1 v2 v3 with rfl | ⟨rfl,rfl⟩ | ⟨rfl,rfl,rfl⟩ | ⟨rfl,rfl,rfl,rfl⟩ | ⟨rfl,rfl,rfl,rfl⟩
 all_goals
  go_enter Tryz.func263,Tryz.ntmps263
  go_wp2_with (first | (go_at_call 259; refine (kn _ _ HI.I.fit.1.prog).mono ?_; rintro e w1 ⟨rfl,hb1⟩; have HI:=aA (HI.I.below hb1); obtain ⟨c0,c1,c2,c3,c4,c5,c6,c7,c8,c9,qF,pe⟩:=bo HI.I.box; clear hb1; rw [tc.I]) | (go_at_call 266; refine (kb Mg _).mono ?_; rintro e w1 ⟨rfl,hw1⟩; rw [Hd.I,hw1]; clear hw1 w1));go_ret;exact ⟨al (by rw [HE.I]; simp [bI]),HI.I.cd⟩
theorem state4 {x:aD} (h:x.Md=4):bO x=(dU x && (x.left == 0) && (cv x.Mg 1 2000000000 || (x.Mg == -1)) && bI x.held):=by simp [bO,h,mu,lh]
theorem Cv (x:ao) (w:World) (hf:eL w x) (hs:x.Md=4):Calls J3 263 #[.agg (aX x)] w fun e w'=>e= .returned (.bool (bO x.toaD))∧Below w.heap.size w w':=by
 have HE:=aA (state4 hs);have HI:=aA (oV.start hf);clear hf;obtain ⟨⟨id,RX,prog,Md,pc,left,Mg,on,held,got,code,RU⟩,aY,bH⟩:=x;replace hs:Md=4:=hs;subst hs;obtain ⟨v0,h0⟩: ∃ v,dU ⟨id,RX,prog,4,pc,left,Mg,on,held,got,code,RU⟩=v:=⟨_,rfl⟩
 obtain ⟨v1,h1⟩: ∃ v,(left == 0)=v:=⟨_,rfl⟩
 obtain ⟨v2,h2⟩: ∃ v,cv Mg 1 2000000000=v:=⟨_,rfl⟩
 obtain ⟨v3,h3⟩: ∃ v,(Mg == -1)=v:=⟨_,rfl⟩
 have HE:=aA (HE.I.trans (show _=(v0 && v1 && (v2 || v3) && bI held) by simp only [h0,h1,h2,h3]));have tc:=aA h0;clear h0;have Hd:=aA h2;clear h2;obtain ⟨c0,c1,c2,c3,c4,c5,c6,c7,c8,c9,qF,pe⟩:=bo HI.I.box;unfold aX at *;rcases qL v0 v1 v2 v3 with rfl | ⟨rfl,rfl⟩ | ⟨rfl,rfl,rfl⟩ | ⟨rfl,rfl,rfl,rfl⟩ | ⟨rfl,rfl,rfl,rfl⟩
 all_goals
  go_enter Tryz.func263,Tryz.ntmps263
  go_wp2_with (first | (go_at_call 259; refine (kn _ _ HI.I.fit.1.prog).mono ?_; rintro e w1 ⟨rfl,hb1⟩; have HI:=aA (HI.I.below hb1); obtain ⟨c0,c1,c2,c3,c4,c5,c6,c7,c8,c9,qF,pe⟩:=bo HI.I.box; clear hb1; rw [tc.I]) | (go_at_call 266; refine (kb Mg _).mono ?_; rintro e w1 ⟨rfl,hw1⟩; rw [Hd.I,hw1]; clear hw1 w1));go_ret;exact ⟨al (by rw [HE.I]; simp [bI]),HI.I.cd⟩
theorem state5 {x:aD} (h:x.Md=5):bO x=(dU x && (x.left == 0) && (cv x.Mg 1 2000000000 || (x.Mg == -1))):=by simp [bO,h,mu,lh]
theorem Dp (x:ao) (w:World) (hf:eL w x) (hs:x.Md=5):Calls J3 263 #[.agg (aX x)] w fun e w'=>e= .returned (.bool (bO x.toaD))∧Below w.heap.size w w':=by
 have HE:=aA (state5 hs);have HI:=aA (oV.start hf);clear hf;obtain ⟨⟨id,RX,prog,Md,pc,left,Mg,on,held,got,code,RU⟩,aY,bH⟩:=x;replace hs:Md=5:=hs;subst hs;obtain ⟨v0,h0⟩: ∃ v,dU ⟨id,RX,prog,5,pc,left,Mg,on,held,got,code,RU⟩=v:=⟨_,rfl⟩
 obtain ⟨v1,h1⟩: ∃ v,(left == 0)=v:=⟨_,rfl⟩
 obtain ⟨v2,h2⟩: ∃ v,cv Mg 1 2000000000=v:=⟨_,rfl⟩
 obtain ⟨v3,h3⟩: ∃ v,(Mg == -1)=v:=⟨_,rfl⟩
 have HE:=aA (HE.I.trans (show _=(v0 && v1 && (v2 || v3)) by simp only [h0,h1,h2,h3]));have tc:=aA h0;clear h0;have Hd:=aA h2;clear h2;obtain ⟨c0,c1,c2,c3,c4,c5,c6,c7,c8,c9,qF,pe⟩:=bo HI.I.box;unfold aX at *;rcases qL v0 v1 v2 v3 with rfl | ⟨rfl,rfl⟩ | ⟨rfl,rfl,rfl⟩ | ⟨rfl,rfl,rfl,rfl⟩ | ⟨rfl,rfl,rfl,rfl⟩
 all_goals
  go_enter Tryz.func263,Tryz.ntmps263
  go_wp2_with (first | (go_at_call 259; refine (kn _ _ HI.I.fit.1.prog).mono ?_; rintro e w1 ⟨rfl,hb1⟩; have HI:=aA (HI.I.below hb1); obtain ⟨c0,c1,c2,c3,c4,c5,c6,c7,c8,c9,qF,pe⟩:=bo HI.I.box; clear hb1; rw [tc.I]) | (go_at_call 266; refine (kb Mg _).mono ?_; rintro e w1 ⟨rfl,hw1⟩; rw [Hd.I,hw1]; clear hw1 w1));go_ret;exact ⟨al (by rw [HE.I]; simp),HI.I.cd⟩
theorem state6 {x:aD} (h:x.Md=6):bO x=(dU x && (x.left == 0) && (cv x.Mg 1 2000000000 || (x.Mg == -1)) && bI x.held):=by simp [bO,h,mu,lh]
theorem DC (x:ao) (w:World) (hf:eL w x) (hs:x.Md=6):Calls J3 263 #[.agg (aX x)] w fun e w'=>e= .returned (.bool (bO x.toaD))∧Below w.heap.size w w':=by
 have HE:=aA (state6 hs);have HI:=aA (oV.start hf);clear hf;obtain ⟨⟨id,RX,prog,Md,pc,left,Mg,on,held,got,code,RU⟩,aY,bH⟩:=x;replace hs:Md=6:=hs;subst hs;obtain ⟨v0,h0⟩: ∃ v,dU ⟨id,RX,prog,6,pc,left,Mg,on,held,got,code,RU⟩=v:=⟨_,rfl⟩
 obtain ⟨v1,h1⟩: ∃ v,(left == 0)=v:=⟨_,rfl⟩
 obtain ⟨v2,h2⟩: ∃ v,cv Mg 1 2000000000=v:=⟨_,rfl⟩
 obtain ⟨v3,h3⟩: ∃ v,(Mg == -1)=v:=⟨_,rfl⟩
 have HE:=aA (HE.I.trans (show _=(v0 && v1 && (v2 || v3) && bI held) by simp only [h0,h1,h2,h3]));have tc:=aA h0;clear h0;have Hd:=aA h2;clear h2;obtain ⟨c0,c1,c2,c3,c4,c5,c6,c7,c8,c9,qF,pe⟩:=bo HI.I.box;unfold aX at *;rcases qL v0 v1 v2 v3 with rfl | ⟨rfl,rfl⟩ | ⟨rfl,rfl,rfl⟩ | ⟨rfl,rfl,rfl,rfl⟩ | ⟨rfl,rfl,rfl,rfl⟩
 all_goals
  go_enter Tryz.func263,Tryz.ntmps263
  go_wp2_with (first | (go_at_call 259; refine (kn _ _ HI.I.fit.1.prog).mono ?_; rintro e w1 ⟨rfl,hb1⟩; have HI:=aA (HI.I.below hb1); obtain ⟨c0,c1,c2,c3,c4,c5,c6,c7,c8,c9,qF,pe⟩:=bo HI.I.box; clear hb1; rw [tc.I]) | (go_at_call 266; refine (kb Mg _).mono ?_; rintro e w1 ⟨rfl,hw1⟩; rw [Hd.I,hw1]; clear hw1 w1));go_ret;exact ⟨al (by rw [HE.I]; simp [bI]),HI.I.cd⟩
theorem state7 {x:aD} (h:x.Md=7):bO x=(dU x && (x.left == 0) && (cv x.Mg 1 2000000000 || (x.Mg == -1)) && bI x.held):=by simp [bO,h,mu,lh]
theorem Db (x:ao) (w:World) (hf:eL w x) (hs:x.Md=7):Calls J3 263 #[.agg (aX x)] w fun e w'=>e= .returned (.bool (bO x.toaD))∧Below w.heap.size w w':=by
 have HE:=aA (state7 hs);have HI:=aA (oV.start hf);clear hf;obtain ⟨⟨id,RX,prog,Md,pc,left,Mg,on,held,got,code,RU⟩,aY,bH⟩:=x;replace hs:Md=7:=hs;subst hs;obtain ⟨v0,h0⟩: ∃ v,dU ⟨id,RX,prog,7,pc,left,Mg,on,held,got,code,RU⟩=v:=⟨_,rfl⟩
 obtain ⟨v1,h1⟩: ∃ v,(left == 0)=v:=⟨_,rfl⟩
 obtain ⟨v2,h2⟩: ∃ v,cv Mg 1 2000000000=v:=⟨_,rfl⟩
 obtain ⟨v3,h3⟩: ∃ v,(Mg == -1)=v:=⟨_,rfl⟩
 have HE:=aA (HE.I.trans (show _=(v0 && v1 && (v2 || v3) && bI held) by simp only [h0,h1,h2,h3]));have tc:=aA h0;clear h0;have Hd:=aA h2;clear h2;obtain ⟨c0,c1,c2,c3,c4,c5,c6,c7,c8,c9,qF,pe⟩:=bo HI.I.box;unfold aX at *;rcases qL v0 v1 v2 v3 with rfl | ⟨rfl,rfl⟩ | ⟨rfl,rfl,rfl⟩ | ⟨rfl,rfl,rfl,rfl⟩ | ⟨rfl,rfl,rfl,rfl⟩
 all_goals
  go_enter Tryz.func263,Tryz.ntmps263
  go_wp2_with (first | (go_at_call 259; refine (kn _ _ HI.I.fit.1.prog).mono ?_; rintro e w1 ⟨rfl,hb1⟩; have HI:=aA (HI.I.below hb1); obtain ⟨c0,c1,c2,c3,c4,c5,c6,c7,c8,c9,qF,pe⟩:=bo HI.I.box; clear hb1; rw [tc.I]) | (go_at_call 266; refine (kb Mg _).mono ?_; rintro e w1 ⟨rfl,hw1⟩; rw [Hd.I,hw1]; clear hw1 w1));go_ret;exact ⟨al (by rw [HE.I]; simp [bI]),HI.I.cd⟩
theorem zu (x:ao) (w:World) (h0: ¬ x.Md=0) (h1: ¬ x.Md=1) (h2: ¬ x.Md=2) (h3: ¬ x.Md=3) (h4: ¬ x.Md=4) (h5: ¬ x.Md=5) (h6: ¬ x.Md=6) (h7: ¬ x.Md=7):Calls J3 263 #[.agg (aX x)] w fun e w'=>e= .returned (.bool (bO x.toaD))∧Below w.heap.size w w':=by
 have HV:Hid (bO x.toaD=false):=by show bO x.toaD=false; simp [bO,h0,h1,h2,h3,h4,h5,h6,h7]
 have s0:(x.Md == 0)=false:=by simp [h0]
 have s1:(x.Md == 1)=false:=by simp [h1]
 have s2:(x.Md == 2)=false:=by simp [h2]
 have s3:(x.Md == 3)=false:=by simp [h3]
 have s4:(x.Md == 4)=false:=by simp [h4]
 have s5:(x.Md == 5)=false:=by simp [h5]
 have s6:(x.Md == 6)=false:=by simp [h6]
 have s7:(x.Md == 7)=false:=by simp [h7]
 clear h0 h1 h2 h3 h4 h5 h6 h7;unfold aX
 go_enter Tryz.func263,Tryz.ntmps263
 go_wp2;go_ret;exact ⟨al HV.I.symm,(Kp _ _).alloc (Ki _) _⟩
theorem Am (x:ao) (w:World) (hf:eL w x):Calls J3 263 #[.agg (aX x)] w fun e w'=>e= .returned (.bool (bO x.toaD))∧Below w.heap.size w w':=by
 by_cases h0:x.Md=0
 ·exact Da x w hf h0
 by_cases h1:x.Md=1
 ·exact CL x w hf h1
 by_cases h2:x.Md=2
 ·exact Cw x w hf h2
 by_cases h3:x.Md=3
 ·exact CU x w hf h3
 by_cases h4:x.Md=4
 ·exact Cv x w hf h4
 by_cases h5:x.Md=5
 ·exact Dp x w hf h5
 by_cases h6:x.Md=6
 ·exact DC x w hf h6
 by_cases h7:x.Md=7
 ·exact Db x w hf h7
 exact zu x w h0 h1 h2 h3 h4 h5 h6 h7
end
section
open Go.RowKit
attribute [local go_sem ↓] Go.wp_at_zero Go.wp_at_succ
def vk (w:World) (b:Nat) (m:df) (Me:Int) (x:aM) (w':World):Prop:=(w'.cell? ⟨w.heap.size,0,none⟩=some (.int .i64 Me)∧w'.cell? ⟨w.heap.size,1,none⟩=some (.map (some b))∧(∀ ty,(Builtin.len_ #[176] ty #[.map (some b)]).run J3 w'= .ok (.int .i64 (m.length:Int)) w')∧w'.cell? ⟨w.heap.size+1,0,none⟩=some (.int .i64 x.id)∧w'.cell? ⟨w.heap.size+1,1,none⟩=some (.bool x.I)∧w'.cell? ⟨w.heap.size+1,2,none⟩=some (.bool x.Mf)∧w'.cell? ⟨w.heap.size+1,3,none⟩=some (.int .i64 x.max)∧w'.cell? ⟨w.heap.size+1,4,none⟩=some (.slice x.ak x.Ma.length x.aq))∧Hid (fe w w' w.heap.size (w.heap.size+1) b m Me (cW x) 85 178)∧Hid (jf w' x)
theorem iW {w w':World} {b:Nat} {m:df} {Me:Int} {x:aM} (h:fe w w' w.heap.size (w.heap.size+1) b m Me (cW x) 85 178) (hf:jf w' x):vk w b m Me x w':=
 ⟨⟨h.cells.1,h.cells.2,fun ty=>h.mp.len Tryz.underlying176 ty,gE h.bx⟩,h,hf⟩
theorem tb (Me:Int) (b:Nat) (m:df) (x:aM) (w:World) (h:cF w b m) (hw:(Lit.int .i64 x.id).wf=true) (hm:m.length≤1048576) (hf:jf w x):
  Calls J3 215 #[.agg #[.int .i64 Me,.map (some b)],.agg (cW x)] w fun e w'=>dD w b m (iI Me m x.id (dj x.todS)) x.id (cW x) 85 e w':=by
 have HF:Hid (fe w ((w.alloc (.cells #[.int .i64 Me,.map (some b)] 178)).alloc (.cells (cW x) 85)) w.heap.size (w.heap.size+1) b m Me (cW x) 85 178):=fe.start w h Me _ _ _;have HW:Hid ((Lit.int .i64 x.id).wf=true∧ ¬ w.heap.size+1=b∧m.length≤1048576):=⟨hw,by have:=h.lt; omega,hm⟩
 have HI:Hid (jf ((w.alloc (.cells #[.int .i64 Me,.map (some b)] 178)).alloc (.cells (cW x) 85)) x):=hf.below ((((Kp _ w).alloc (Ki _) _)).alloc (by simp) _);have hmn:=nY;have hmr:=vZ;obtain ⟨s0,s1⟩:=HF.I.cells;obtain ⟨c0,c1,c2,c3,c4⟩:=gE HF.I.bx;clear h hw hf hm;unfold cW at *
 go_enter Tryz.func215,Tryz.ntmps215
 go_wp2_with fail;clear s0 s1 c0 c1 c2 c3 c4;obtain ⟨vA,hA⟩: ∃ v,(cz m x.id).isSome=v:=⟨_,rfl⟩
 obtain ⟨vB,F6⟩: ∃ v,decide (Me≤(m.length:Int))=v:=⟨_,rfl⟩
 obtain ⟨vC,hC⟩: ∃ v,cv x.id 1 1000=v:=⟨_,rfl⟩
 obtain ⟨vD,hD⟩: ∃ v,dj x.todS=v:=⟨_,rfl⟩
 have HL:Hid (iI Me m x.id (dj x.todS)=(!vA && !vB && vC && vD)∧(vA=false→cz m x.id=none)):=⟨pi hA F6 hC hD,fun e=>PX.1 (PY.1 (hA.trans e))⟩
 have HA:Hid (Ending.returned (.bool (cz m x.id).isSome)= .returned (.bool vA)):=al hA;have HC:Hid (Ending.returned (.bool (cv x.id 1 1000))= .returned (.bool vC)):=al hC;have HD:Hid (Ending.returned (.bool (dj x.todS))= .returned (.bool vD)):=al hD;clear hA hC hD;refine aT (vk w b m Me x) (by kernel_rfl) (iW HF.I.drew (HI.I.below (Kp _ _).drew)) ?_
 iterate 3 (refine PI ?_ (hy:=fun w0 hS0=>by obtain ⟨⟨q0,q1,q2,q3,q4,q5,q6,q7⟩,hH⟩:=hS0; go_simp; try with_reducible rfl))
 (refine cl (.int .i64 x.id) 254 #[.agg #[.int .i64 x.id,.bool x.I,.bool x.Mf,.int .i64 x.max,.slice x.ak x.Ma.length x.aq]] ?_ ?_ ?_; (intro w0 hS0; obtain ⟨⟨q0,q1,q2,q3,q4,q5,q6,q7⟩,hH⟩:=hS0; go_simp; try with_reducible rfl); (intro w0 hS0; refine (iN x w0).mono ?_; rintro e w2 ⟨rfl,hb2⟩; exact ⟨rfl,iW (hS0.2.1.I.below hb2) (hS0.2.2.I.below hb2)⟩); simp only [pt,sb,s0,s1])
 (refine cl (.bool vA) 236 #[.agg #[.int .i64 Me,.map (some b)],.int .i64 x.id] ?_ ?_ ?_; (intro w0 hS0; obtain ⟨⟨q0,q1,q2,q3,q4,q5,q6,q7⟩,hH⟩:=hS0; go_simp; try with_reducible rfl); (intro w0 hS0; refine (Bb Me b m x.id w0 hS0.2.1.I.mp HW.I.1).mono ?_; rintro e w2 ⟨rfl,hb2⟩; exact ⟨HA.I,iW (hS0.2.1.I.below hb2) (hS0.2.2.I.below hb2)⟩); simp only [pt,sb,s0,s1])
 (refine PI ?_ (hy:=fun w0 hS0=>by obtain ⟨⟨q0,q1,q2,q3,q4,q5,q6,q7⟩,hH⟩:=hS0; go_simp; try with_reducible rfl))
 rcases vA.eq_false_or_eq_true with rfl | rfl
 focus iterate 6 (refine nl ?_; simp only [pt,sb,s0,s1])
 rotate_left
 focus iterate 6 (refine PI ?_ (hy:=fun w0 hS0=>by obtain ⟨⟨q0,q1,q2,q3,q4,q5,q6,q7⟩,hH⟩:=hS0; go_simp; try with_reducible rfl))
 all_goals iterate 2 (refine PI ?_ (hy:=fun w0 hS0=>by obtain ⟨⟨q0,q1,q2,q3,q4,q5,q6,q7⟩,hH⟩:=hS0; go_simp; try with_reducible rfl))
 rcases vB.eq_false_or_eq_true with rfl | rfl
 focus iterate 5 (refine nl ?_; simp only [pt,sb,s0,s1])
 rotate_left
 focus
  iterate 2 (refine PI ?_ (hy:=fun w0 hS0=>by obtain ⟨⟨q0,q1,q2,q3,q4,q5,q6,q7⟩,hH⟩:=hS0; go_simp; try with_reducible rfl))
  (refine cl (.int .i64 x.id) 254 #[.agg #[.int .i64 x.id,.bool x.I,.bool x.Mf,.int .i64 x.max,.slice x.ak x.Ma.length x.aq]] ?_ ?_ ?_; (intro w0 hS0; obtain ⟨⟨q0,q1,q2,q3,q4,q5,q6,q7⟩,hH⟩:=hS0; go_simp; try with_reducible rfl); (intro w0 hS0; refine (iN x w0).mono ?_; rintro e w2 ⟨rfl,hb2⟩; exact ⟨rfl,iW (hS0.2.1.I.below hb2) (hS0.2.2.I.below hb2)⟩); simp only [pt,sb,s0,s1])
  (refine cl (.bool vC) 231 #[.int .i64 x.id] ?_ ?_ ?_; (intro w0 hS0; obtain ⟨⟨q0,q1,q2,q3,q4,q5,q6,q7⟩,hH⟩:=hS0; go_simp; try with_reducible rfl); (intro w0 hS0; refine (eW x.id w0).mono ?_; rintro e w2 ⟨rfl,rfl⟩; exact ⟨HC.I,hS0⟩); simp only [pt,sb,s0,s1])
  (refine PI ?_ (hy:=fun w0 hS0=>by obtain ⟨⟨q0,q1,q2,q3,q4,q5,q6,q7⟩,hH⟩:=hS0; go_simp; try with_reducible rfl))
 rotate_left
 focus iterate 5 (refine nl ?_; simp only [pt,sb,s0,s1])
 all_goals iterate 2 (refine PI ?_ (hy:=fun w0 hS0=>by obtain ⟨⟨q0,q1,q2,q3,q4,q5,q6,q7⟩,hH⟩:=hS0; go_simp; try with_reducible rfl))
 rotate_right
 rcases vC.eq_false_or_eq_true with rfl | rfl
 focus
  iterate 2 (refine PI ?_ (hy:=fun w0 hS0=>by obtain ⟨⟨q0,q1,q2,q3,q4,q5,q6,q7⟩,hH⟩:=hS0; go_simp; try with_reducible rfl))
  (refine cl (.bool vD) 255 #[.agg #[.int .i64 x.id,.bool x.I,.bool x.Mf,.int .i64 x.max,.slice x.ak x.Ma.length x.aq]] ?_ ?_ ?_; (intro w0 hS0; obtain ⟨⟨q0,q1,q2,q3,q4,q5,q6,q7⟩,hH⟩:=hS0; go_simp; try with_reducible rfl); (intro w0 hS0; refine (wG x w0 hS0.2.2.I).mono ?_; rintro e w2 ⟨rfl,hb2⟩; exact ⟨HD.I,iW (hS0.2.1.I.below hb2) (hS0.2.2.I.below hb2)⟩); simp only [pt,sb,s0,s1])
  (refine PI ?_ (hy:=fun w0 hS0=>by obtain ⟨⟨q0,q1,q2,q3,q4,q5,q6,q7⟩,hH⟩:=hS0; go_simp; try with_reducible rfl))
 rotate_left
 focus iterate 4 (refine nl ?_; simp only [pt,sb,s0,s1])
 rotate_left
 focus iterate 4 (refine nl ?_; simp only [pt,sb,s0,s1])
 rotate_left
 focus iterate 4 (refine nl ?_; simp only [pt,sb,s0,s1])
 rotate_left
 all_goals (refine PI ?_ (hy:=fun w0 hS0=>by obtain ⟨⟨q0,q1,q2,q3,q4,q5,q6,q7⟩,hH⟩:=hS0; go_simp; try with_reducible rfl))
 all_goals refine bk (by kernel_rfl) ?_ _
 all_goals intro w1 cm
 rcases vD.eq_false_or_eq_true with rfl | rfl;rotate_left
 iterate 4
  go_wp2;go_ret;exact ki HL.I.1 cm.2.1.I.cd
 go_wp2_with fail;refine eD (vk w b m Me x) 5 (by kernel_rfl) (iW cm.2.1.I.drew (cm.2.2.I.below (Kp _ _).drew)) ?_
 iterate 4 (refine ly 6 (v:= ?_) (some _) rfl rfl (by kernel_rfl) (fun _ _ _ h=>h) (bV (by kernel_rfl) ?_) ?_; rotate_left; (intro w0 hS0; obtain ⟨⟨q0,q1,q2,q3,q4,q5,q6,q7⟩,hH⟩:=hS0; go_simp; try with_reducible rfl); simp only [pt,sb,s0,s1])
 refine ly 6 (v:= .int .i64 x.id) (some _) rfl rfl (by kernel_rfl) (fun _ _ _ h=>h) (iZ (f:=254) (args:= #[.agg #[.int .i64 x.id,.bool x.I,.bool x.Mf,.int .i64 x.max,.slice x.ak x.Ma.length x.aq]]) (by kernel_rfl) ?_ ?_) ?_
 ·intro w0 hS0
  obtain ⟨⟨q0,q1,q2,q3,q4,q5,q6,q7⟩,hH⟩:=hS0
  go_simp
  try with_reducible rfl
 ·intro w0 hS0
  refine (iN x w0).mono ?_;rintro e w2 ⟨rfl,hb2⟩;exact ⟨rfl,iW (hS0.2.1.I.below hb2) (hS0.2.2.I.below hb2)⟩
 simp only [pt,sb,s0,s1];refine fL rfl (by kernel_rfl) (by kernel_rfl) (by kernel_rfl) ?_;intro w1 cm;obtain ⟨w2,hput,hend⟩:=cm.2.1.I.put (by omega) Tryz.underlying176 HW.I.1 (HL.I.2 (by trivial)) HW.I.2.2 HW.I.2.1;have HE:Hid (dD w b m true x.id (cW x) 85 (.returned (.bool true)) w2):=hend;clear hend cm
 go_simp
 go_wp2;go_ret;rw [HL.I.1];exact HE.I
def qq (w:World) (b:Nat) (m:df) (Me:Int) (x:au) (w':World):Prop:=(w'.cell? ⟨w.heap.size,0,none⟩=some (.int .i64 Me)∧w'.cell? ⟨w.heap.size,1,none⟩=some (.map (some b))∧(∀ ty,(Builtin.len_ #[173] ty #[.map (some b)]).run J3 w'= .ok (.int .i64 (m.length:Int)) w')∧w'.cell? ⟨w.heap.size+1,0,none⟩=some (.int .i64 x.id)∧w'.cell? ⟨w.heap.size+1,1,none⟩=some (.int .i64 x.max)∧w'.cell? ⟨w.heap.size+1,2,none⟩=some (.slice x.ak x.Ma.length x.aq))∧Hid (fe w w' w.heap.size (w.heap.size+1) b m Me (bQ x) 160 175)∧Hid (fM w' x)
theorem gB {w w':World} {b:Nat} {m:df} {Me:Int} {x:au} (h:fe w w' w.heap.size (w.heap.size+1) b m Me (bQ x) 160 175) (hf:fM w' x):qq w b m Me x w':=
 ⟨⟨h.cells.1,h.cells.2,fun ty=>h.mp.len Tryz.underlying173 ty,ia h.bx⟩,h,hf⟩
theorem pV (Me:Int) (b:Nat) (m:df) (x:au) (w:World) (h:cF w b m) (hw:(Lit.int .i64 x.id).wf=true) (hm:m.length≤1048576) (hf:fM w x):
  Calls J3 214 #[.agg #[.int .i64 Me,.map (some b)],.agg (bQ x)] w fun e w'=>dD w b m (iI Me m x.id (ct x.toci)) x.id (bQ x) 160 e w':=by
 have HF:Hid (fe w ((w.alloc (.cells #[.int .i64 Me,.map (some b)] 175)).alloc (.cells (bQ x) 160)) w.heap.size (w.heap.size+1) b m Me (bQ x) 160 175):=fe.start w h Me _ _ _;have HW:Hid ((Lit.int .i64 x.id).wf=true∧ ¬ w.heap.size+1=b∧m.length≤1048576):=⟨hw,by have:=h.lt; omega,hm⟩
 have HI:Hid (fM ((w.alloc (.cells #[.int .i64 Me,.map (some b)] 175)).alloc (.cells (bQ x) 160)) x):=hf.below ((((Kp _ w).alloc (Ki _) _)).alloc (by simp) _);have hmn:=mc;have hmr:=se;obtain ⟨s0,s1⟩:=HF.I.cells;obtain ⟨c0,c1,c2⟩:=ia HF.I.bx;clear h hw hf hm;unfold bQ at *
 go_enter Tryz.func214,Tryz.ntmps214
 go_wp2_with fail;clear s0 s1 c0 c1 c2;obtain ⟨vA,hA⟩: ∃ v,(cz m x.id).isSome=v:=⟨_,rfl⟩
 obtain ⟨vB,F6⟩: ∃ v,decide (Me≤(m.length:Int))=v:=⟨_,rfl⟩
 obtain ⟨vC,hC⟩: ∃ v,cv x.id 1 1000=v:=⟨_,rfl⟩
 obtain ⟨vD,hD⟩: ∃ v,ct x.toci=v:=⟨_,rfl⟩
 have HL:Hid (iI Me m x.id (ct x.toci)=(!vA && !vB && vC && vD)∧(vA=false→cz m x.id=none)):=⟨pi hA F6 hC hD,fun e=>PX.1 (PY.1 (hA.trans e))⟩
 have HA:Hid (Ending.returned (.bool (cz m x.id).isSome)= .returned (.bool vA)):=al hA;have HC:Hid (Ending.returned (.bool (cv x.id 1 1000))= .returned (.bool vC)):=al hC;have HD:Hid (Ending.returned (.bool (ct x.toci))= .returned (.bool vD)):=al hD;clear hA hC hD;refine aT (qq w b m Me x) (by kernel_rfl) (gB HF.I.drew (HI.I.below (Kp _ _).drew)) ?_
 iterate 3 (refine PI ?_ (hy:=fun w0 hS0=>by obtain ⟨⟨q0,q1,q2,q3,q4,q5⟩,hH⟩:=hS0; go_simp; try with_reducible rfl))
 (refine cl (.int .i64 x.id) 271 #[.agg #[.int .i64 x.id,.int .i64 x.max,.slice x.ak x.Ma.length x.aq]] ?_ ?_ ?_; (intro w0 hS0; obtain ⟨⟨q0,q1,q2,q3,q4,q5⟩,hH⟩:=hS0; go_simp; try with_reducible rfl); (intro w0 hS0; refine (gP x w0).mono ?_; rintro e w2 ⟨rfl,hb2⟩; exact ⟨rfl,gB (hS0.2.1.I.below hb2) (hS0.2.2.I.below hb2)⟩); simp only [pt,sb,s0,s1])
 (refine cl (.bool vA) 235 #[.agg #[.int .i64 Me,.map (some b)],.int .i64 x.id] ?_ ?_ ?_; (intro w0 hS0; obtain ⟨⟨q0,q1,q2,q3,q4,q5⟩,hH⟩:=hS0; go_simp; try with_reducible rfl); (intro w0 hS0; refine (mE Me b m x.id w0 hS0.2.1.I.mp HW.I.1).mono ?_; rintro e w2 ⟨rfl,hb2⟩; exact ⟨HA.I,gB (hS0.2.1.I.below hb2) (hS0.2.2.I.below hb2)⟩); simp only [pt,sb,s0,s1])
 (refine PI ?_ (hy:=fun w0 hS0=>by obtain ⟨⟨q0,q1,q2,q3,q4,q5⟩,hH⟩:=hS0; go_simp; try with_reducible rfl))
 rcases vA.eq_false_or_eq_true with rfl | rfl
 focus iterate 6 (refine nl ?_; simp only [pt,sb,s0,s1])
 rotate_left
 focus iterate 6 (refine PI ?_ (hy:=fun w0 hS0=>by obtain ⟨⟨q0,q1,q2,q3,q4,q5⟩,hH⟩:=hS0; go_simp; try with_reducible rfl))
 all_goals iterate 2 (refine PI ?_ (hy:=fun w0 hS0=>by obtain ⟨⟨q0,q1,q2,q3,q4,q5⟩,hH⟩:=hS0; go_simp; try with_reducible rfl))
 rcases vB.eq_false_or_eq_true with rfl | rfl
 focus iterate 5 (refine nl ?_; simp only [pt,sb,s0,s1])
 rotate_left
 focus
  iterate 2 (refine PI ?_ (hy:=fun w0 hS0=>by obtain ⟨⟨q0,q1,q2,q3,q4,q5⟩,hH⟩:=hS0; go_simp; try with_reducible rfl))
  (refine cl (.int .i64 x.id) 271 #[.agg #[.int .i64 x.id,.int .i64 x.max,.slice x.ak x.Ma.length x.aq]] ?_ ?_ ?_; (intro w0 hS0; obtain ⟨⟨q0,q1,q2,q3,q4,q5⟩,hH⟩:=hS0; go_simp; try with_reducible rfl); (intro w0 hS0; refine (gP x w0).mono ?_; rintro e w2 ⟨rfl,hb2⟩; exact ⟨rfl,gB (hS0.2.1.I.below hb2) (hS0.2.2.I.below hb2)⟩); simp only [pt,sb,s0,s1])
  (refine cl (.bool vC) 231 #[.int .i64 x.id] ?_ ?_ ?_; (intro w0 hS0; obtain ⟨⟨q0,q1,q2,q3,q4,q5⟩,hH⟩:=hS0; go_simp; try with_reducible rfl); (intro w0 hS0; refine (eW x.id w0).mono ?_; rintro e w2 ⟨rfl,rfl⟩; exact ⟨HC.I,hS0⟩); simp only [pt,sb,s0,s1])
  (refine PI ?_ (hy:=fun w0 hS0=>by obtain ⟨⟨q0,q1,q2,q3,q4,q5⟩,hH⟩:=hS0; go_simp; try with_reducible rfl))
 rotate_left
 focus iterate 5 (refine nl ?_; simp only [pt,sb,s0,s1])
 all_goals iterate 2 (refine PI ?_ (hy:=fun w0 hS0=>by obtain ⟨⟨q0,q1,q2,q3,q4,q5⟩,hH⟩:=hS0; go_simp; try with_reducible rfl))
 rotate_right
 rcases vC.eq_false_or_eq_true with rfl | rfl
 focus
  iterate 2 (refine PI ?_ (hy:=fun w0 hS0=>by obtain ⟨⟨q0,q1,q2,q3,q4,q5⟩,hH⟩:=hS0; go_simp; try with_reducible rfl))
  (refine cl (.bool vD) 272 #[.agg #[.int .i64 x.id,.int .i64 x.max,.slice x.ak x.Ma.length x.aq]] ?_ ?_ ?_; (intro w0 hS0; obtain ⟨⟨q0,q1,q2,q3,q4,q5⟩,hH⟩:=hS0; go_simp; try with_reducible rfl); (intro w0 hS0; refine (Sr x w0 hS0.2.2.I).mono ?_; rintro e w2 ⟨rfl,hb2⟩; exact ⟨HD.I,gB (hS0.2.1.I.below hb2) (hS0.2.2.I.below hb2)⟩); simp only [pt,sb,s0,s1])
  (refine PI ?_ (hy:=fun w0 hS0=>by obtain ⟨⟨q0,q1,q2,q3,q4,q5⟩,hH⟩:=hS0; go_simp; try with_reducible rfl))
 rotate_left
 focus iterate 4 (refine nl ?_; simp only [pt,sb,s0,s1])
 rotate_left
 focus iterate 4 (refine nl ?_; simp only [pt,sb,s0,s1])
 rotate_left
 focus iterate 4 (refine nl ?_; simp only [pt,sb,s0,s1])
 rotate_left
 all_goals (refine PI ?_ (hy:=fun w0 hS0=>by obtain ⟨⟨q0,q1,q2,q3,q4,q5⟩,hH⟩:=hS0; go_simp; try with_reducible rfl))
 all_goals refine bk (by kernel_rfl) ?_ _
 all_goals intro w1 cm
 rcases vD.eq_false_or_eq_true with rfl | rfl;rotate_left
 iterate 4
  go_wp2;go_ret;exact ki HL.I.1 cm.2.1.I.cd
 go_wp2_with fail;refine eD (qq w b m Me x) 5 (by kernel_rfl) (gB cm.2.1.I.drew (cm.2.2.I.below (Kp _ _).drew)) ?_
 iterate 4 (refine ly 6 (v:= ?_) (some _) rfl rfl (by kernel_rfl) (fun _ _ _ h=>h) (bV (by kernel_rfl) ?_) ?_; rotate_left; (intro w0 hS0; obtain ⟨⟨q0,q1,q2,q3,q4,q5⟩,hH⟩:=hS0; go_simp; try with_reducible rfl); simp only [pt,sb,s0,s1])
 refine ly 6 (v:= .int .i64 x.id) (some _) rfl rfl (by kernel_rfl) (fun _ _ _ h=>h) (iZ (f:=271) (args:= #[.agg #[.int .i64 x.id,.int .i64 x.max,.slice x.ak x.Ma.length x.aq]]) (by kernel_rfl) ?_ ?_) ?_
 ·intro w0 hS0
  obtain ⟨⟨q0,q1,q2,q3,q4,q5⟩,hH⟩:=hS0
  go_simp
  try with_reducible rfl
 ·intro w0 hS0
  refine (gP x w0).mono ?_;rintro e w2 ⟨rfl,hb2⟩;exact ⟨rfl,gB (hS0.2.1.I.below hb2) (hS0.2.2.I.below hb2)⟩
 simp only [pt,sb,s0,s1];refine fL rfl (by kernel_rfl) (by kernel_rfl) (by kernel_rfl) ?_;intro w1 cm;obtain ⟨w2,hput,hend⟩:=cm.2.1.I.put (by omega) Tryz.underlying173 HW.I.1 (HL.I.2 (by trivial)) HW.I.2.2 HW.I.2.1;have HE:Hid (dD w b m true x.id (bQ x) 160 (.returned (.bool true)) w2):=hend;clear hend cm
 go_simp
 go_wp2;go_ret;rw [HL.I.1];exact HE.I
def yk (w:World) (b:Nat) (m:df) (Me:Int) (x:bD) (w':World):Prop:=(w'.cell? ⟨w.heap.size,0,none⟩=some (.int .i64 Me)∧w'.cell? ⟨w.heap.size,1,none⟩=some (.map (some b))∧(∀ ty,(Builtin.len_ #[164] ty #[.map (some b)]).run J3 w'= .ok (.int .i64 (m.length:Int)) w')∧w'.cell? ⟨w.heap.size+1,0,none⟩=some (.int .i64 x.id)∧w'.cell? ⟨w.heap.size+1,1,none⟩=some (.int .i64 x.n)∧w'.cell? ⟨w.heap.size+1,2,none⟩=some (.int .i64 x.max))∧Hid (fe w w' w.heap.size (w.heap.size+1) b m Me (eH x) 184 166)∧Hid (kU w' x)
theorem jz {w w':World} {b:Nat} {m:df} {Me:Int} {x:bD} (h:fe w w' w.heap.size (w.heap.size+1) b m Me (eH x) 184 166) (hf:kU w' x):yk w b m Me x w':=
 ⟨⟨h.cells.1,h.cells.2,fun ty=>h.mp.len Tryz.underlying164 ty,gm h.bx⟩,h,hf⟩
theorem tU (Me:Int) (b:Nat) (m:df) (x:bD) (w:World) (h:cF w b m) (hw:(Lit.int .i64 x.id).wf=true) (hm:m.length≤1048576) (hf:kU w x):
  Calls J3 211 #[.agg #[.int .i64 Me,.map (some b)],.agg (eH x)] w fun e w'=>dD w b m (iI Me m x.id (gw x)) x.id (eH x) 184 e w':=by
 have HF:Hid (fe w ((w.alloc (.cells #[.int .i64 Me,.map (some b)] 166)).alloc (.cells (eH x) 184)) w.heap.size (w.heap.size+1) b m Me (eH x) 184 166):=fe.start w h Me _ _ _;have HW:Hid ((Lit.int .i64 x.id).wf=true∧ ¬ w.heap.size+1=b∧m.length≤1048576):=⟨hw,by have:=h.lt; omega,hm⟩
 have HI:Hid (kU ((w.alloc (.cells #[.int .i64 Me,.map (some b)] 166)).alloc (.cells (eH x) 184)) x):=hf.below ((((Kp _ w).alloc (Ki _) _)).alloc (by simp) _);have hmn:=pb;have hmr:=wW;obtain ⟨s0,s1⟩:=HF.I.cells;obtain ⟨c0,c1,c2⟩:=gm HF.I.bx;clear h hw hf hm;unfold eH at *
 go_enter Tryz.func211,Tryz.ntmps211
 go_wp2_with fail;clear s0 s1 c0 c1 c2;obtain ⟨vA,hA⟩: ∃ v,(cz m x.id).isSome=v:=⟨_,rfl⟩
 obtain ⟨vB,F6⟩: ∃ v,decide (Me≤(m.length:Int))=v:=⟨_,rfl⟩
 obtain ⟨vC,hC⟩: ∃ v,cv x.id 1 1000=v:=⟨_,rfl⟩
 obtain ⟨vD,hD⟩: ∃ v,gw x=v:=⟨_,rfl⟩
 have HL:Hid (iI Me m x.id (gw x)=(!vA && !vB && vC && vD)∧(vA=false→cz m x.id=none)):=⟨pi hA F6 hC hD,fun e=>PX.1 (PY.1 (hA.trans e))⟩
 have HA:Hid (Ending.returned (.bool (cz m x.id).isSome)= .returned (.bool vA)):=al hA;have HC:Hid (Ending.returned (.bool (cv x.id 1 1000))= .returned (.bool vC)):=al hC;have HD:Hid (Ending.returned (.bool (gw x))= .returned (.bool vD)):=al hD;clear hA hC hD;refine aT (yk w b m Me x) (by kernel_rfl) (jz HF.I.drew (HI.I.below (Kp _ _).drew)) ?_
 iterate 3 (refine PI ?_ (hy:=fun w0 hS0=>by obtain ⟨⟨q0,q1,q2,q3,q4,q5⟩,hH⟩:=hS0; go_simp; try with_reducible rfl))
 (refine cl (.int .i64 x.id) 280 #[.agg #[.int .i64 x.id,.int .i64 x.n,.int .i64 x.max]] ?_ ?_ ?_; (intro w0 hS0; obtain ⟨⟨q0,q1,q2,q3,q4,q5⟩,hH⟩:=hS0; go_simp; try with_reducible rfl); (intro w0 hS0; refine (jv x w0).mono ?_; rintro e w2 ⟨rfl,hb2⟩; exact ⟨rfl,jz (hS0.2.1.I.below hb2) (hS0.2.2.I.below hb2)⟩); simp only [pt,sb,s0,s1])
 (refine cl (.bool vA) 232 #[.agg #[.int .i64 Me,.map (some b)],.int .i64 x.id] ?_ ?_ ?_; (intro w0 hS0; obtain ⟨⟨q0,q1,q2,q3,q4,q5⟩,hH⟩:=hS0; go_simp; try with_reducible rfl); (intro w0 hS0; refine (tZ Me b m x.id w0 hS0.2.1.I.mp HW.I.1).mono ?_; rintro e w2 ⟨rfl,hb2⟩; exact ⟨HA.I,jz (hS0.2.1.I.below hb2) (hS0.2.2.I.below hb2)⟩); simp only [pt,sb,s0,s1])
 (refine PI ?_ (hy:=fun w0 hS0=>by obtain ⟨⟨q0,q1,q2,q3,q4,q5⟩,hH⟩:=hS0; go_simp; try with_reducible rfl))
 rcases vA.eq_false_or_eq_true with rfl | rfl
 focus iterate 6 (refine nl ?_; simp only [pt,sb,s0,s1])
 rotate_left
 focus iterate 6 (refine PI ?_ (hy:=fun w0 hS0=>by obtain ⟨⟨q0,q1,q2,q3,q4,q5⟩,hH⟩:=hS0; go_simp; try with_reducible rfl))
 all_goals iterate 2 (refine PI ?_ (hy:=fun w0 hS0=>by obtain ⟨⟨q0,q1,q2,q3,q4,q5⟩,hH⟩:=hS0; go_simp; try with_reducible rfl))
 rcases vB.eq_false_or_eq_true with rfl | rfl
 focus iterate 5 (refine nl ?_; simp only [pt,sb,s0,s1])
 rotate_left
 focus
  iterate 2 (refine PI ?_ (hy:=fun w0 hS0=>by obtain ⟨⟨q0,q1,q2,q3,q4,q5⟩,hH⟩:=hS0; go_simp; try with_reducible rfl))
  (refine cl (.int .i64 x.id) 280 #[.agg #[.int .i64 x.id,.int .i64 x.n,.int .i64 x.max]] ?_ ?_ ?_; (intro w0 hS0; obtain ⟨⟨q0,q1,q2,q3,q4,q5⟩,hH⟩:=hS0; go_simp; try with_reducible rfl); (intro w0 hS0; refine (jv x w0).mono ?_; rintro e w2 ⟨rfl,hb2⟩; exact ⟨rfl,jz (hS0.2.1.I.below hb2) (hS0.2.2.I.below hb2)⟩); simp only [pt,sb,s0,s1])
  (refine cl (.bool vC) 231 #[.int .i64 x.id] ?_ ?_ ?_; (intro w0 hS0; obtain ⟨⟨q0,q1,q2,q3,q4,q5⟩,hH⟩:=hS0; go_simp; try with_reducible rfl); (intro w0 hS0; refine (eW x.id w0).mono ?_; rintro e w2 ⟨rfl,rfl⟩; exact ⟨HC.I,hS0⟩); simp only [pt,sb,s0,s1])
  (refine PI ?_ (hy:=fun w0 hS0=>by obtain ⟨⟨q0,q1,q2,q3,q4,q5⟩,hH⟩:=hS0; go_simp; try with_reducible rfl))
 rotate_left
 focus iterate 5 (refine nl ?_; simp only [pt,sb,s0,s1])
 all_goals iterate 2 (refine PI ?_ (hy:=fun w0 hS0=>by obtain ⟨⟨q0,q1,q2,q3,q4,q5⟩,hH⟩:=hS0; go_simp; try with_reducible rfl))
 rotate_right
 rcases vC.eq_false_or_eq_true with rfl | rfl
 focus
  iterate 2 (refine PI ?_ (hy:=fun w0 hS0=>by obtain ⟨⟨q0,q1,q2,q3,q4,q5⟩,hH⟩:=hS0; go_simp; try with_reducible rfl))
  (refine cl (.bool vD) 281 #[.agg #[.int .i64 x.id,.int .i64 x.n,.int .i64 x.max]] ?_ ?_ ?_; (intro w0 hS0; obtain ⟨⟨q0,q1,q2,q3,q4,q5⟩,hH⟩:=hS0; go_simp; try with_reducible rfl); (intro w0 hS0; refine (ye x w0 hS0.2.2.I).mono ?_; rintro e w2 ⟨rfl,hb2⟩; exact ⟨HD.I,jz (hS0.2.1.I.below hb2) (hS0.2.2.I.below hb2)⟩); simp only [pt,sb,s0,s1])
  (refine PI ?_ (hy:=fun w0 hS0=>by obtain ⟨⟨q0,q1,q2,q3,q4,q5⟩,hH⟩:=hS0; go_simp; try with_reducible rfl))
 rotate_left
 focus iterate 4 (refine nl ?_; simp only [pt,sb,s0,s1])
 rotate_left
 focus iterate 4 (refine nl ?_; simp only [pt,sb,s0,s1])
 rotate_left
 focus iterate 4 (refine nl ?_; simp only [pt,sb,s0,s1])
 rotate_left
 all_goals (refine PI ?_ (hy:=fun w0 hS0=>by obtain ⟨⟨q0,q1,q2,q3,q4,q5⟩,hH⟩:=hS0; go_simp; try with_reducible rfl))
 all_goals refine bk (by kernel_rfl) ?_ _
 all_goals intro w1 cm
 rcases vD.eq_false_or_eq_true with rfl | rfl;rotate_left
 iterate 4
  go_wp2;go_ret;exact ki HL.I.1 cm.2.1.I.cd
 go_wp2_with fail;refine eD (yk w b m Me x) 5 (by kernel_rfl) (jz cm.2.1.I.drew (cm.2.2.I.below (Kp _ _).drew)) ?_
 iterate 4 (refine ly 6 (v:= ?_) (some _) rfl rfl (by kernel_rfl) (fun _ _ _ h=>h) (bV (by kernel_rfl) ?_) ?_; rotate_left; (intro w0 hS0; obtain ⟨⟨q0,q1,q2,q3,q4,q5⟩,hH⟩:=hS0; go_simp; try with_reducible rfl); simp only [pt,sb,s0,s1])
 refine ly 6 (v:= .int .i64 x.id) (some _) rfl rfl (by kernel_rfl) (fun _ _ _ h=>h) (iZ (f:=280) (args:= #[.agg #[.int .i64 x.id,.int .i64 x.n,.int .i64 x.max]]) (by kernel_rfl) ?_ ?_) ?_
 ·intro w0 hS0
  obtain ⟨⟨q0,q1,q2,q3,q4,q5⟩,hH⟩:=hS0
  go_simp
  try with_reducible rfl
 ·intro w0 hS0
  refine (jv x w0).mono ?_;rintro e w2 ⟨rfl,hb2⟩;exact ⟨rfl,jz (hS0.2.1.I.below hb2) (hS0.2.2.I.below hb2)⟩
 simp only [pt,sb,s0,s1];refine fL rfl (by kernel_rfl) (by kernel_rfl) (by kernel_rfl) ?_;intro w1 cm;obtain ⟨w2,hput,hend⟩:=cm.2.1.I.put (by omega) Tryz.underlying164 HW.I.1 (HL.I.2 (by trivial)) HW.I.2.2 HW.I.2.1;have HE:Hid (dD w b m true x.id (eH x) 184 (.returned (.bool true)) w2):=hend;clear hend cm
 go_simp
 go_wp2;go_ret;rw [HL.I.1];exact HE.I
def rP (w:World) (b:Nat) (m:df) (Me:Int) (x:az) (w':World):Prop:=(w'.cell? ⟨w.heap.size,0,none⟩=some (.int .i64 Me)∧w'.cell? ⟨w.heap.size,1,none⟩=some (.map (some b))∧(∀ ty,(Builtin.len_ #[170] ty #[.map (some b)]).run J3 w'= .ok (.int .i64 (m.length:Int)) w')∧w'.cell? ⟨w.heap.size+1,0,none⟩=some (.int .i64 x.id)∧w'.cell? ⟨w.heap.size+1,1,none⟩=some (.bool x.shown)∧w'.cell? ⟨w.heap.size+1,2,none⟩=some (.string x.text))∧Hid (fe w w' w.heap.size (w.heap.size+1) b m Me (cI x) 190 172)∧Hid (gX w' x)
theorem ii {w w':World} {b:Nat} {m:df} {Me:Int} {x:az} (h:fe w w' w.heap.size (w.heap.size+1) b m Me (cI x) 190 172) (hf:gX w' x):rP w b m Me x w':=
 ⟨⟨h.cells.1,h.cells.2,fun ty=>h.mp.len Tryz.underlying170 ty,kJ h.bx⟩,h,hf⟩
theorem rr (Me:Int) (b:Nat) (m:df) (x:az) (w:World) (h:cF w b m) (hw:(Lit.int .i64 x.id).wf=true) (hm:m.length≤1048576) (hf:gX w x):
  Calls J3 213 #[.agg #[.int .i64 Me,.map (some b)],.agg (cI x)] w fun e w'=>dD w b m (iI Me m x.id (cU x)) x.id (cI x) 190 e w':=by
 have HF:Hid (fe w ((w.alloc (.cells #[.int .i64 Me,.map (some b)] 172)).alloc (.cells (cI x) 190)) w.heap.size (w.heap.size+1) b m Me (cI x) 190 172):=fe.start w h Me _ _ _;have HW:Hid ((Lit.int .i64 x.id).wf=true∧ ¬ w.heap.size+1=b∧m.length≤1048576):=⟨hw,by have:=h.lt; omega,hm⟩
 have HI:Hid (gX ((w.alloc (.cells #[.int .i64 Me,.map (some b)] 172)).alloc (.cells (cI x) 190)) x):=hf.below ((((Kp _ w).alloc (Ki _) _)).alloc (by simp) _);have hmn:=nr;have hmr:=tq;obtain ⟨s0,s1⟩:=HF.I.cells;obtain ⟨c0,c1,c2⟩:=kJ HF.I.bx;clear h hw hf hm;unfold cI at *
 go_enter Tryz.func213,Tryz.ntmps213
 go_wp2_with fail;clear s0 s1 c0 c1 c2;obtain ⟨vA,hA⟩: ∃ v,(cz m x.id).isSome=v:=⟨_,rfl⟩
 obtain ⟨vB,F6⟩: ∃ v,decide (Me≤(m.length:Int))=v:=⟨_,rfl⟩
 obtain ⟨vC,hC⟩: ∃ v,cv x.id 1 1000=v:=⟨_,rfl⟩
 obtain ⟨vD,hD⟩: ∃ v,cU x=v:=⟨_,rfl⟩
 have HL:Hid (iI Me m x.id (cU x)=(!vA && !vB && vC && vD)∧(vA=false→cz m x.id=none)):=⟨pi hA F6 hC hD,fun e=>PX.1 (PY.1 (hA.trans e))⟩
 have HA:Hid (Ending.returned (.bool (cz m x.id).isSome)= .returned (.bool vA)):=al hA;have HC:Hid (Ending.returned (.bool (cv x.id 1 1000))= .returned (.bool vC)):=al hC;have HD:Hid (Ending.returned (.bool (cU x))= .returned (.bool vD)):=al hD;clear hA hC hD;refine aT (rP w b m Me x) (by kernel_rfl) (ii HF.I.drew (HI.I.below (Kp _ _).drew)) ?_
 iterate 3 (refine PI ?_ (hy:=fun w0 hS0=>by obtain ⟨⟨q0,q1,q2,q3,q4,q5⟩,hH⟩:=hS0; go_simp; try with_reducible rfl))
 (refine cl (.int .i64 x.id) 286 #[.agg #[.int .i64 x.id,.bool x.shown,.string x.text]] ?_ ?_ ?_; (intro w0 hS0; obtain ⟨⟨q0,q1,q2,q3,q4,q5⟩,hH⟩:=hS0; go_simp; try with_reducible rfl); (intro w0 hS0; refine (iq x w0).mono ?_; rintro e w2 ⟨rfl,hb2⟩; exact ⟨rfl,ii (hS0.2.1.I.below hb2) (hS0.2.2.I.below hb2)⟩); simp only [pt,sb,s0,s1])
 (refine cl (.bool vA) 234 #[.agg #[.int .i64 Me,.map (some b)],.int .i64 x.id] ?_ ?_ ?_; (intro w0 hS0; obtain ⟨⟨q0,q1,q2,q3,q4,q5⟩,hH⟩:=hS0; go_simp; try with_reducible rfl); (intro w0 hS0; refine (qM Me b m x.id w0 hS0.2.1.I.mp HW.I.1).mono ?_; rintro e w2 ⟨rfl,hb2⟩; exact ⟨HA.I,ii (hS0.2.1.I.below hb2) (hS0.2.2.I.below hb2)⟩); simp only [pt,sb,s0,s1])
 (refine PI ?_ (hy:=fun w0 hS0=>by obtain ⟨⟨q0,q1,q2,q3,q4,q5⟩,hH⟩:=hS0; go_simp; try with_reducible rfl))
 rcases vA.eq_false_or_eq_true with rfl | rfl
 focus iterate 6 (refine nl ?_; simp only [pt,sb,s0,s1])
 rotate_left
 focus iterate 6 (refine PI ?_ (hy:=fun w0 hS0=>by obtain ⟨⟨q0,q1,q2,q3,q4,q5⟩,hH⟩:=hS0; go_simp; try with_reducible rfl))
 all_goals iterate 2 (refine PI ?_ (hy:=fun w0 hS0=>by obtain ⟨⟨q0,q1,q2,q3,q4,q5⟩,hH⟩:=hS0; go_simp; try with_reducible rfl))
 rcases vB.eq_false_or_eq_true with rfl | rfl
 focus iterate 5 (refine nl ?_; simp only [pt,sb,s0,s1])
 rotate_left
 focus
  iterate 2 (refine PI ?_ (hy:=fun w0 hS0=>by obtain ⟨⟨q0,q1,q2,q3,q4,q5⟩,hH⟩:=hS0; go_simp; try with_reducible rfl))
  (refine cl (.int .i64 x.id) 286 #[.agg #[.int .i64 x.id,.bool x.shown,.string x.text]] ?_ ?_ ?_; (intro w0 hS0; obtain ⟨⟨q0,q1,q2,q3,q4,q5⟩,hH⟩:=hS0; go_simp; try with_reducible rfl); (intro w0 hS0; refine (iq x w0).mono ?_; rintro e w2 ⟨rfl,hb2⟩; exact ⟨rfl,ii (hS0.2.1.I.below hb2) (hS0.2.2.I.below hb2)⟩); simp only [pt,sb,s0,s1])
  (refine cl (.bool vC) 231 #[.int .i64 x.id] ?_ ?_ ?_; (intro w0 hS0; obtain ⟨⟨q0,q1,q2,q3,q4,q5⟩,hH⟩:=hS0; go_simp; try with_reducible rfl); (intro w0 hS0; refine (eW x.id w0).mono ?_; rintro e w2 ⟨rfl,rfl⟩; exact ⟨HC.I,hS0⟩); simp only [pt,sb,s0,s1])
  (refine PI ?_ (hy:=fun w0 hS0=>by obtain ⟨⟨q0,q1,q2,q3,q4,q5⟩,hH⟩:=hS0; go_simp; try with_reducible rfl))
 rotate_left
 focus iterate 5 (refine nl ?_; simp only [pt,sb,s0,s1])
 all_goals iterate 2 (refine PI ?_ (hy:=fun w0 hS0=>by obtain ⟨⟨q0,q1,q2,q3,q4,q5⟩,hH⟩:=hS0; go_simp; try with_reducible rfl))
 rotate_right
 rcases vC.eq_false_or_eq_true with rfl | rfl
 focus
  iterate 2 (refine PI ?_ (hy:=fun w0 hS0=>by obtain ⟨⟨q0,q1,q2,q3,q4,q5⟩,hH⟩:=hS0; go_simp; try with_reducible rfl))
  (refine cl (.bool vD) 287 #[.agg #[.int .i64 x.id,.bool x.shown,.string x.text]] ?_ ?_ ?_; (intro w0 hS0; obtain ⟨⟨q0,q1,q2,q3,q4,q5⟩,hH⟩:=hS0; go_simp; try with_reducible rfl); (intro w0 hS0; refine (wd x w0 hS0.2.2.I).mono ?_; rintro e w2 ⟨rfl,hb2⟩; exact ⟨HD.I,ii (hS0.2.1.I.below hb2) (hS0.2.2.I.below hb2)⟩); simp only [pt,sb,s0,s1])
  (refine PI ?_ (hy:=fun w0 hS0=>by obtain ⟨⟨q0,q1,q2,q3,q4,q5⟩,hH⟩:=hS0; go_simp; try with_reducible rfl))
 rotate_left
 focus iterate 4 (refine nl ?_; simp only [pt,sb,s0,s1])
 rotate_left
 focus iterate 4 (refine nl ?_; simp only [pt,sb,s0,s1])
 rotate_left
 focus iterate 4 (refine nl ?_; simp only [pt,sb,s0,s1])
 rotate_left
 all_goals (refine PI ?_ (hy:=fun w0 hS0=>by obtain ⟨⟨q0,q1,q2,q3,q4,q5⟩,hH⟩:=hS0; go_simp; try with_reducible rfl))
 all_goals refine bk (by kernel_rfl) ?_ _
 all_goals intro w1 cm
 rcases vD.eq_false_or_eq_true with rfl | rfl;rotate_left
 iterate 4
  go_wp2;go_ret;exact ki HL.I.1 cm.2.1.I.cd
 go_wp2_with fail;refine eD (rP w b m Me x) 5 (by kernel_rfl) (ii cm.2.1.I.drew (cm.2.2.I.below (Kp _ _).drew)) ?_
 iterate 4 (refine ly 6 (v:= ?_) (some _) rfl rfl (by kernel_rfl) (fun _ _ _ h=>h) (bV (by kernel_rfl) ?_) ?_; rotate_left; (intro w0 hS0; obtain ⟨⟨q0,q1,q2,q3,q4,q5⟩,hH⟩:=hS0; go_simp; try with_reducible rfl); simp only [pt,sb,s0,s1])
 refine ly 6 (v:= .int .i64 x.id) (some _) rfl rfl (by kernel_rfl) (fun _ _ _ h=>h) (iZ (f:=286) (args:= #[.agg #[.int .i64 x.id,.bool x.shown,.string x.text]]) (by kernel_rfl) ?_ ?_) ?_
 ·intro w0 hS0
  obtain ⟨⟨q0,q1,q2,q3,q4,q5⟩,hH⟩:=hS0
  go_simp
  try with_reducible rfl
 ·intro w0 hS0
  refine (iq x w0).mono ?_;rintro e w2 ⟨rfl,hb2⟩;exact ⟨rfl,ii (hS0.2.1.I.below hb2) (hS0.2.2.I.below hb2)⟩
 simp only [pt,sb,s0,s1];refine fL rfl (by kernel_rfl) (by kernel_rfl) (by kernel_rfl) ?_;intro w1 cm;obtain ⟨w2,hput,hend⟩:=cm.2.1.I.put (by omega) Tryz.underlying170 HW.I.1 (HL.I.2 (by trivial)) HW.I.2.2 HW.I.2.1;have HE:Hid (dD w b m true x.id (cI x) 190 (.returned (.bool true)) w2):=hend;clear hend cm
 go_simp
 go_wp2;go_ret;rw [HL.I.1];exact HE.I
end
section
open Go.RowKit
structure ol where
 id:Int
 next:Int
 bp:Nat
 bs:Nat
 be:Nat
 bb:Nat
 bf:Nat
 bq:Nat
def ol.cells (q:ol):Array Value:= #[.int .i64 q.id,.int .i64 q.next,.int .i64 6,.map (some q.bp),.int .i64 5,.map (some q.bs),.int .i64 5,.map (some q.be),.int .i64 5,.map (some q.bb),.int .i64 5,.map (some q.bf),.int .i64 5,.map (some q.bq)]
def fa (W:World) (o:Nat) (q:ol):Prop:=W.heap[o]? =some (.cells q.cells 180 (0,0))
theorem fa.below {W W':World} {o:Nat} {q:ol} (h:fa W o q) (hb:Below W.heap.size W W'):fa W' o q:=(hb.block o (J2.1 h).1).trans h
theorem fa.cell {W:World} {o:Nat} {q:ol} (h:fa W o q) (i:Nat):W.cell? ⟨o,i,none⟩=q.cells[i]? :=by
 unfold fa at h;simp [World.cell?,h]
structure fu (w W:World) (o X:Nat) (q:ol) (x:ao) (ms me mb mf:df):Prop where
 opn:fa W o q
 box:W.heap[X]? =some (.cells (aX x) 148 (0,0))
 ms:cF W q.bs ms
 me:cF W q.be me
 mb:cF W q.bb mb
 mf:cF W q.bf mf
 cd:Below w.heap.size w W
theorem fu.below {w W W':World} {o X:Nat} {q:ol} {x:ao} {ms me mb mf:df} (h:fu w W o X q x ms me mb mf) (hb:Below W.heap.size W W'):fu w W' o X q x ms me mb mf:=
 ⟨h.opn.below hb,(hb.block _ (J2.1 h.box).1).trans h.box,h.ms.below hb,h.me.below hb,h.mb.below hb,h.mf.below hb,h.cd.trans (hb.mono h.cd.size)⟩
theorem fu.drew {w W:World} {o X:Nat} {q:ol} {x:ao} {ms me mb mf:df} (h:fu w W o X q x ms me mb mf):fu w W.drew o X q x ms me mb mf:=h.below (Kp _ _).drew
def fw (ms me mb mf:df) (x:ao):Bool:=
 if x.Md=3 then (cz ms x.on).isSome else if x.Md=4 then (cz me x.on).isSome else if x.Md=5∨x.Md=6 then (cz mf x.on).isSome else if x.Md=7 then (cz mb x.on).isSome else true
end
end Go.Proofs.YteidkehoekbcaaaGreat
