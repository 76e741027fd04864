/- Ends of proofs that stand more than once. -/
import Derived.BigQuiet
import Derived.Deep.AppendLies
import Derived.Deep.AppendSrc
import Derived.Deep.CutRange
import Derived.Deep.DrawnRows
import Derived.Deep.OwnRows
import Derived.Deep.RegionHeld3
import Derived.Deep.RegionLaw
import Derived.Handy
import Derived.LaidMore
import Derived.Laws.CopyOwn
import Derived.Lib.ItoaNum
import Derived.Lib.SliceRun
import Derived.Maps.RangeWalk
import Derived.OpenVars
import Derived.ProofKit
import Derived.Shelf.SlIterI.Nil
import Derived.Shelf.SortM.Plain
import Derived.Shelf.SortM.SortNone
import Derived.ShutString
import Derived.Stop.Asserts
import Derived.Stop.Joined
import Derived.Stop.LaidTwo
namespace Go.Proofs.YtfncpmaefninjaaGreatDoor
theorem aa {P:Prop} (h:P:=by
 obtain ⟨v1,h1⟩: ∃ v,(left == 0)=v:=⟨_,rfl⟩
 obtain ⟨v2,h2⟩: ∃ v,cv Mg 1 2000000000=v:=⟨_,rfl⟩
 obtain ⟨v3,h3⟩: ∃ v,(Mg == -1)=v:=⟨_,rfl⟩
 have HE:=aA (HE.I.trans (show _=(v0 && v1 && (v2 || v3) && bI held) by simp only [h0,h1,h2,h3]));have tc:=aA h0;clear h0;have Hd:=aA h2;clear h2;obtain ⟨c0,c1,c2,c3,c4,c5,c6,c7,c8,c9,qF,pe⟩:=bo HI.I.box;unfold aX at *;rcases qL v0 v1 v2 v3 with rfl | ⟨rfl,rfl⟩ | ⟨rfl,rfl,rfl⟩ | ⟨rfl,rfl,rfl,rfl⟩ | ⟨rfl,rfl,rfl,rfl⟩
 all_goals
  go_enter func239,ntmps239
  go_wp2_with (first | (go_at_call 137; refine (kn _ _ HI.I.fit.1.prog).mono ?_; rintro e w1 ⟨rfl,hb1⟩; have HI:=aA (HI.I.below hb1); obtain ⟨c0,c1,c2,c3,c4,c5,c6,c7,c8,c9,qF,pe⟩:=bo HI.I.box; clear hb1; rw [tc.I]) | (go_at_call 242; refine (kb Mg _).mono ?_; rintro e w1 ⟨rfl,hw1⟩; rw [Hd.I,hw1]; clear hw1 w1));go_ret;exact ⟨al (by rw [HE.I]; simp [bI]),HI.I.cd⟩):P:=h
theorem ab {P:Prop} (h:P:=by
 clear hp hs;go_wp2_with fail;refine aT (fun w'=>w'=w.drew) (by kernel_rfl) rfl ?_
 iterate 9 (refine agj ?_)
 refine bk (by kernel_rfl) ?_ _;intro w1 cm;subst cm;go_wp2_with fail;refine aT (fun w'=>w'=w.drew.drew) (by kernel_rfl) rfl ?_
 iterate 10 (refine agj ?_)
 refine bk (by kernel_rfl) ?_ _;intro w1 cm;subst cm;go_wp2;go_ret;exact ⟨al HV.I.symm,(Kp _ _).drew.drew⟩):P:=h
theorem ac {P:Prop} (h:P:=by
 go_wp2_with fail;refine hK.out _ _ hS2.1 (fun _=> ?_);clear hK K
 try simp only [pt,sb,s0,s1]
 clear af2 afy hS2 hz;obtain ⟨a7,c7,w7,hr7,mP,hk7,hn7⟩:=ajn y.held (HT.I.at'.eE _ HE.I.2.2.2.1) (by show r.length≤1000; have:=HI.I; omega) HT.I.low;obtain ⟨⟨S3,m1,m2,m3,m4,m5⟩,gh⟩:=agR HT.I.at' HE.I.2.2.2.1 hk7 mP hn7;have hd7:w7.heap[cy]? =o_ (c_ (aX y) 41):=(hk7.same cy (J2.1 hS.1).1 fun hm=>(HT.I.at'.apart (aZ.ago (LB _ (Lr.2 ⟨_,HY.I.2.1,rfl⟩)))).2 cy (by unfold aZ.kids; simp only [Kg]; exact .inr (.inl (Lq.2 ⟨_,HE.I.2.2.2.1,fZ.1 hm⟩))) rfl).trans hS.1;refine L7 10 (fun K hK=> ?_);refine cM _ _ 94 rfl _ _ _ w7 rfl rfl hr7 ?_;refine hK.out _ _ hd7 (fun _=> ?_);clear hK K
 try simp only [pt,sb,s0,s1]
 refine tt 11 hd7 ?_;refine tt 12 hd7 ?_;have af2:=(ia gh).2.2;have afE:w7.frozen? ⟨c,2,n_⟩=false:=Ko _ _ _ _ _ gh;have e7:(r ++ [y.held]).length=r.length+1:=by simp
 rw [show (({ b with Ma:=r,ak:=b.ak,aq:=b.aq } :au).Ma ++ [y.held]).length=r.length+1 from e7] at m1;have HM3:Hid (o4 o base S2 T S3 (w7.setCell ⟨c,2,n_⟩ (s_ a7 (r.length+1) c7))∧S3.pure=cV b.id (r ++ [y.held]) S2.pure∧S3.lp=S2.lp∧S3.q=S2.q):=⟨m1,m2,m3,m4⟩
 have hc7:(w7.setCell ⟨c,2,n_⟩ (s_ a7 (r.length+1) c7)).heap[cy]? =o_ (c_ (aX y) 41):=m1.at'.L8.box (y,cy) (by rw [m3]; exact HY.I.2.1);clear m1 m2 m3 m4 m5 hr7 mP hk7 hn7 e7 hd7;refine L7 13 (fun K hK=> ?_);go_wp2_with fail;refine hK.out _ _ hc7 (fun _=> ?_);clear hK K af2 afE hc7 gh
 try simp only [pt,sb,s0,s1]
 refine K3 (by kernel_rfl) ?_ _;have Fz:=aA (HT.I.move HM3.I.1);have c0:=(agb Fz.I.box).1;have hwk:=HE.I.2.2.2.2.low;have Mb:=ahO o cy base S3 y 0 _ Fz.I.at' Fz.I.low (by rw [HM3.I.2.2.1]; exact HY.I.2.1) (by rw [HM3.I.2.2.2]; exact hwk.1) (by rw [HM3.I.2.2.2]; exact hwk.2) HY.I.2.2.2.1 HY.I.2.2.2.2;clear hwk
 revert HM3 Fz c0 Mb
 generalize w7.setCell ⟨c,2,n_⟩ (s_ a7 (r.length+1) c7)=W3;intro HM3 Fz c0 Mb;go_wp2_with fail;refine Mb.mono ?_;clear Mb c0;rintro e w4 ⟨rfl,hat,hkp⟩;have HF:=aA (aiT HE.I.1 HE.I.2.1 HE.I.2.2.1 HW.I HM3.I HY.I.2.1 HY.I.2.2.1 HE.I.2.2.2.2.right hat hkp);clear hat hkp;go_wp2;go_ret;rw [show ag5 op.2.1 x.id S.pure b.toci=(gF (fun y=>y) (cV op.2.1 (r ++ [y.held]) (ez t x.id S.pure)) y.toaD,0) by unfold ag5; rw [show b.toci.Ma=t :: r from HI.I.2.1]; simp only; rw [HY.I.1]];rw [← hid];exact ⟨_,rfl,HF.I.1,HF.I.2.1,.inr HF.I.2.2⟩):P:=h
theorem ba {P:Prop} (h:P:=by
 have c0:=hat.1;rw [ha] at q;clear hat hx;by_cases hc:x.id=id
 ·have HC:Hid (x.id=id):=hc
  have h1:(x.id == id)=true:=by simp [hc]
  clear hc;go_wp2;go_ret;exact ⟨ck (ku HA.I HX.I HC.I).symm,H.I.2⟩
 ·have HC:Hid (¬ x.id=id):=hc
  have h1:(x.id == id)=false:=by simp [hc]
  clear hc;go_wp2
  go_round
  case rel=>exact ⟨k+1,by omega,by go_num,nh HA.I HX.I HC.I⟩
  case measure=>simp [intOf]; omega):P:=h
theorem e_ {P:Prop} (h:P:=by go_wp2;go_ret;exact ⟨al HN.I.symm,bd (cy.I.2.2.alloc cy.I.2.2.size _) _⟩):P:=h
theorem fd {P:Prop} (h:P:=by
 go_wp2_with fail;refine hK.out _ _ hS2.1 (fun _=> ?_);clear hK K
 try simp only [pt,sb,s0,s1]
 clear af2 afy hS2 hz;obtain ⟨a7,c7,w7,hr7,mP,hk7,hn7⟩:=ajn op.2.2.2 (HT.I.dg.at'.eR _ HB.I) HL.I HT.I.dg.low;obtain ⟨⟨S',m1,m2,m3,m4,m5⟩,gh⟩:=ahu HT.I.dg.at' HB.I hk7 mP hn7;have hd7:w7.heap[d]? =o_ (c_ (dgV o g op now) 142):=(hk7.same d (J2.1 hS.1).1 fun hm=>HT.I.dg.I (aZ.ag4 (by unfold aZ.kids; simp only [Kg]; exact .inr (.inr (Lq.2 ⟨_,HB.I,fZ.1 hm⟩))))).trans hS.1;refine L7 11 (fun K hK=> ?_);refine cM _ _ 94 rfl _ _ _ w7 rfl rfl hr7 ?_;refine hK.out _ _ hd7 (fun _=> ?_);clear hK K
 try simp only [pt,sb,s0,s1]
 refine tt 12 hd7 ?_;refine tt 13 hd7 ?_;have af2:=(gE gh).2.2.2.2;have afE:w7.frozen? ⟨c,4,n_⟩=false:=Ko _ _ _ _ _ gh;have e7:(b.Ma ++ [op.2.2.2]).length=b.Ma.length+1:=by simp
 rw [e7] at m1;have HM:Hid (o4 o base S T S' (w7.setCell ⟨c,4,n_⟩ (s_ a7 (b.Ma.length+1) c7))∧S'.pure=gU b.id (b.Ma ++ [op.2.2.2]) S.pure∧S'.lp=S.lp):=⟨m1,m2,m3⟩
 have hc7:(w7.setCell ⟨c,4,n_⟩ (s_ a7 (b.Ma.length+1) c7)).heap[d]? =o_ (c_ (dgV o g op now) 142):=(HT.I.dg.move m1).box;clear m1 m2 m3 m4 m5 hr7 mP hk7 hn7 e7;refine L7 14 (fun K hK=> ?_);go_wp2_with fail;refine hK.out _ _ hc7 (fun _=> ?_);clear hK K
 try simp only [pt,sb,s0,s1]
 refine K3 (by kernel_rfl) ?_ _;go_wp2;go_ret;rw [show agw op.2.1 op.2.2.2 S.pure b.todS=(gU op.2.1 (b.Ma ++ [op.2.2.2]) S.pure,0) by unfold agw; rw [if_neg (by rw [show b.todS.I=true from HO.I]; decide),if_neg (by rw [show b.todS.Mf=true from HQ.I]; decide),if_neg HF.I]];exact ⟨S',rfl,(o4.below HJ.I.dg.at' xD.I).trans HM.I.1,by rw [← hid]; exact HM.I.2.1,.inr (afU.of HM.I.2.2)⟩):P:=h
theorem f_ {P:Prop} (h:P:=by
 go_wp2_with fail;refine hK.out _ _ hS2.1 (fun _=> ?_);clear hK K
 try simp only [pt,sb,s0,s1]
 clear af2 afy hS2 hz;obtain ⟨a7,c7,w7,hr7,mP,hk7,hn7⟩:=ajn op.2.2.2 (HT.I.dg.at'.eE _ HB.I) HL.I HT.I.dg.low;obtain ⟨⟨S',m1,m2,m3,m4,m5⟩,gh⟩:=agR HT.I.dg.at' HB.I hk7 mP hn7;have hd7:w7.heap[d]? =o_ (c_ (dgV o g op now) 142):=(hk7.same d (J2.1 hS.1).1 fun hm=>HT.I.dg.I (aZ.ag4 (by unfold aZ.kids; simp only [Kg]; exact .inr (.inl (Lq.2 ⟨_,HB.I,fZ.1 hm⟩))))).trans hS.1;refine L7 11 (fun K hK=> ?_);refine cM _ _ 94 rfl _ _ _ w7 rfl rfl hr7 ?_;refine hK.out _ _ hd7 (fun _=> ?_);clear hK K
 try simp only [pt,sb,s0,s1]
 refine tt 12 hd7 ?_;refine tt 13 hd7 ?_;have af2:=(ia gh).2.2;have afE:w7.frozen? ⟨c,2,n_⟩=false:=Ko _ _ _ _ _ gh;have e7:(b.Ma ++ [op.2.2.2]).length=b.Ma.length+1:=by simp
 rw [e7] at m1;have HM:Hid (o4 o base S T S' (w7.setCell ⟨c,2,n_⟩ (s_ a7 (b.Ma.length+1) c7))∧S'.pure=cV b.id (b.Ma ++ [op.2.2.2]) S.pure∧S'.lp=S.lp):=⟨m1,m2,m3⟩
 have hc7:(w7.setCell ⟨c,2,n_⟩ (s_ a7 (b.Ma.length+1) c7)).heap[d]? =o_ (c_ (dgV o g op now) 142):=(HT.I.dg.move m1).box;clear m1 m2 m3 m4 m5 hr7 mP hk7 hn7 e7;refine L7 14 (fun K hK=> ?_);go_wp2_with fail;refine hK.out _ _ hc7 (fun _=> ?_);clear hK K
 try simp only [pt,sb,s0,s1]
 refine K3 (by kernel_rfl) ?_ _;go_wp2;go_ret;rw [show ag8 op.2.1 op.2.2.2 S.pure b.toci=(cV op.2.1 (b.Ma ++ [op.2.2.2]) S.pure,0) by unfold ag8; rw [H1.I]; simp only [if_neg HF.I]];exact ⟨S',rfl,(o4.below HJ.I.dg.at' xD.I).trans HM.I.1,by rw [← hid]; exact HM.I.2.1,.inr (afU.of HM.I.2.2)⟩):P:=h
theorem gc {P:Prop} (h:P:=by clear hf;have Mb:=bB (n:=n) 3 S.I.fr.own S.I.low HR.I.1 HR.I.2.1 (by rw [HR.I.2.2.1]; decide);go_wp2_with (refine eT 4 S.I.fr.box ?_);refine Mb.mono ?_;clear Mb;rintro e A2 ⟨q2,rfl,hp,ht⟩;replace S:=aA (S.I.call ht);have HP:Hid (q2.pure=_):=hp;clear hp ht;go_wp2_with (refine ec 8 32 q2.cells S.I.an ?_);refine gZ results89 S.I.an ?_;exact ⟨q2,rfl,HP.I.trans HE.I.symm,S.I.done _⟩):P:=h
theorem gz {P:Prop} (h:P:=by refine gZ results45 H5.I.2 ?_;exact ⟨q2,rfl,HP.I.trans HE.I.symm,H5.I.1.mK (by omega) (by omega) _⟩):P:=h
theorem g_ {P:Prop} (h:P:=by
 obtain ⟨v,hv⟩: ∃ v,p.L8[n]? =o_ v:=⟨_,Kz (by omega)⟩
 obtain ⟨g1,e1,FX⟩:=cn iP.I.2.1.1 hv;obtain ⟨g2,e2,g8⟩:=cn iP.I.2.1.1 mR.I.2;rw [mR.I.1] at e1 e2;cases e1;cases e2;have d0:=FX.2.2.2.2.2.2.2.2.2.2.2;have d1:=g8.2.2.2.2.2.2.2.2.2.2.2;have HV:Hid (p.L8[n]? =o_ v):=hv;clear FX g8 hv;by_cases hsi:v.RU=x.RU
 ·have es:(v.RU == x.RU)=true:=by simp [hsi]
  have HSI:Hid (v.RU=x.RU):=hsi;clear hsi;by_cases hpos:0 < x.RU
  ·have dpos:decide (0 < x.RU)=true:=decide_eq_true hpos
   have HN:Hid (bK p.pure=false):=dL fun hr=>absurd ((jk p).1 hr).2.2.2.2.2 (xn mR.I.2 HV.I hnk ⟨HSI.I,hpos⟩)
   go_wp2_with fail
   go_quiet (fail)
   go_wp2;go_ret;exact ⟨al HN.I.symm,bd iP.I.2.2 _⟩
  have dpos:decide (0 < x.RU)=false:=decide_eq_false hpos;have Dx:Hid (¬ (v.RU=x.RU∧0 < x.RU)):=fun hh=>hpos hh.2
  clear hpos;go_wp2_with fail
  go_quiet (fail)
  go_wp2;go_roundw
  case rel=>exact ⟨n+1,by omega,by go_num,⟨fun m y hm hy=>by rcases QX.1 hm with h5 | h5; exact HI.I.1 m y h5 hy; subst h5; rw [HV.I] at hy; cases hy; exact Dx.I,bd HI.I.2 _⟩⟩
  case measure=>simp [intOf]; omega
 have es:(v.RU == x.RU)=false:=by simp [hsi]
 have Dx:Hid (¬ (v.RU=x.RU∧0 < x.RU)):=fun hh=>hsi hh.1
 clear hsi;go_wp2_with fail
 go_quiet (fail)
 go_wp2;go_roundw
 case rel=>exact ⟨n+1,by omega,by go_num,⟨fun m y hm hy=>by rcases QX.1 hm with h5 | h5; exact HI.I.1 m y h5 hy; subst h5; rw [HV.I] at hy; cases hy; exact Dx.I,bd HI.I.2 _⟩⟩
 case measure=>simp [intOf]; omega):P:=h
theorem h_ {P:Prop} (h:P:=by
 go_wp2_with fail;clear m0 m1 m2 m3 m4 m5 m6 m7 d3 e2;refine Mb.mono ?_;clear Mb;rintro e w2 ⟨q2,rfl,pv,DU,hb2,hk2⟩;have ky:Hid (q2.pure=gu q.pure y.toaD∧q2.Mc=q.Mc∧(∀ x∈q2.L8,x.prog.length≤1048576)):=by rw [← HG.I] at pv; rw [pv]; exact Eb HO.I.wk HD.I.2.1 HD.I.2.2 HCO.I HO.I.short
 clear pv;have hgl:=HO.I.low gs (by rw [show q.Mc=q.Mc from rfl]; exact un HG.I);have hww:w.heap.size+1 < wr.heap.size:=(J2.1 Ih.I.1).1;have H2:Hid (av w2 w.heap.size q∧w2.heap[w.heap.size+1]? =o_ (c_ ar 31)∧ap w2 base q2∧B_ base w w2):=⟨(hk2.same _ (by omega) (by simp [blk]; omega)).trans HW.I.1,(hk2.same _ (by omega) (by simp [blk]; omega)).trans Ih.I.1,DU,Ih.I.2.trans hb2⟩
 clear DU hb2 hk2 hgl hww;have HI:Hid (DZ now base w q0 (lF now q2.pure.L8).length q2 (w2.setRow w.heap.size q2.cells)∧(lF now q2.pure.L8).length < gk):=by
  have hst:=HO.I.wk.step HD.I.1;have hc:=HO.I.cnt;have hbb:=HB.I.2;rw [ky.I.1];refine ⟨⟨KU _ _ _ _ _ _ H2.I.1,(KH _ _ _ _ (by omega)).trans H2.I.2.1,H2.I.2.2.1.same fun g hg=>KH _ _ _ _ (by rw [ky.I.2.1] at hg; have:=HO.I.low g hg; omega),q_ H2.I.2.2.2 hbb _,by rw [ky.I.1]; exact hst.1,by rw [ky.I.1,← HO.I.same]; exact (vn HO.I.wk HD.I.1).symm,by rw [ky.I.1],ky.I.2.2,fun g hg=>HO.I.low g (by rw [← ky.I.2.1]; exact hg)⟩,by omega⟩
 go_wp2_with (refine ec 2 59 q2.cells H2.I.1 ?_)
 go_roundg (lF now q2.pure.L8).length
 case rel=>exact ⟨q2,HI.I.1⟩
 case measure=>exact HI.I.2):P:=h
theorem ir {P:Prop} (h:P:=by
 go_wp2_with fail;refine (xT p x.Md x.on _ HS.I.1 HP.I.at').mono ?_;rintro e w4 ⟨rfl,hb4⟩;have I2:Hid (nI w w4 w.heap.size (w.heap.size+1) p x):=HP.I.below hb4;clear hb4 m0 m1 m2 m3 m4 m5 m6 m7 k0 k1 k2 k3 k4 k5 k6 k7 k8 k9 k10 k11;obtain ⟨k0,k1,k2,k3,k4,k5,k6,k7,k8,k9,k10,k11⟩:=I2.I.proc.cells;cases hha:hasB p.pure x.Md x.on
 ·have hz:True:=trivial
  have HV:Hid (bh p.pure x.toaD=false):=by show bh _ _=false; rw [HE.I]; simp [hha]
  clear HE;go_wp2;go_ret;exact ⟨al (by rw [HV.I]),I2.I.cd⟩
 have HHA:Hid (hasB p.pure x.Md x.on=true):=hha;clear hha;have HE:Hid (bh p.pure x.toaD=(cv x.Mg 1 2000000000 || decide (x.Mg= -1))):=by show bh _ _=_; rw [HE.I,HHA.I]; simp [lh]
 by_cases hm:x.Mg= -1
 ·have hm':(x.Mg == -1)=true:=by simp [hm]
  have HV:Hid (bh p.pure x.toaD=true):=by show bh _ _=true; rw [HE.I]; simp [hm]
  clear HE;go_wp2;go_ret;exact ⟨al (by rw [HV.I]),I2.I.cd⟩
 have hm':(x.Mg == -1)=false:=by simp [hm]
 have HV:Hid (bh p.pure x.toaD=cv x.Mg 1 2000000000):=by show bh _ _=_; rw [HE.I]; simp [hm]
 clear HE hm;go_wp2_with (go_at_call 27; refine (dx x.Mg 1 2000000000 _).mono ?_; rintro e w9 ⟨rfl,mW⟩; rw [mW]; clear mW w9);go_ret;exact ⟨al (by rw [HV.I]),I2.I.cd⟩):P:=h
theorem iv {P:Prop} (h:P:=by
 change CallsIn _ _ J3 135 _ _ _ at cS
 refine (LO.1 cS).mono ?_;rintro e w' ⟨v,ss,rfl,hS,hrow,hnil,kj⟩;refine ⟨v,rfl,?_,kj⟩;rw [jG h.2 hS] at hrow;have hl:ss.length=m.length:=by
  rw [hS.length_eq,lU,KG]
 rw [hl,Lv] at hrow;exact hrow):P:=h
theorem i8 {P:Prop} (h:P:=by
 have i1: ¬ (k:Int) < (l.length:Int):=by omega
 have ek:k=l.length:=by omega
 subst ek;go_wp2;go_ret;refine ⟨a',cap',by rw [KG]; rfl,?_,HO.I.2.trans (HA.I.2.mono HO.I.2.size)⟩;have h5:=cq HA.I.1 HO.I.2.size;rw [LQ] at h5;rw [KG];exact h5):P:=h
theorem jp {P:Prop} (h:P:=by have Mb:=bB (n:=n) 3 S.I.fr.own S.I.low HR.I.1 HR.I.2.1 (by rw [HR.I.2.2.1]; decide);go_wp2_with (refine eT 3 S.I.fr.box ?_);refine Mb.mono ?_;clear Mb;rintro e A2 ⟨q9,rfl,hp,ht⟩;replace S:=aA (S.I.call ht);have HP:Hid (q9.pure=_):=hp;clear hp ht;go_wp2_with (refine ec 6 29 q9.cells S.I.an ?_);refine gZ results92 S.I.an ?_;exact ⟨q9,rfl,HP.I.trans HE.I.symm,S.I.done _⟩):P:=h
theorem l_ {P:Prop} (h:P:=by exact ⟨q2,rfl,HP.I.trans HE.I.symm,S.I.done _⟩):P:=h
theorem mi {P:Prop} (h:P:=by
 go_roundw
 case rel=>exact ⟨k+1,by omega,by go_num,a5,im,rfl,HN⟩
 case measure=>simp [intOf]; omega):P:=h
theorem mt {P:Prop} (h:P:=by
 have lY:B_ w.heap.size w w7:=HB.I.2.2.1.trans (gh.mono (by have:=HB.I.2.2.1.size; omega));refine ⟨⟨⟨(aH (by omega)).trans (HB.I.1.below gh),(HB.I.2.1.below gh).same fun g hg=>aH (fun e=> ?_),bP lY (by omega),(aH (by omega)).trans ((gh.block _ (by omega)).trans HB.I.2.2.2)⟩,cx (HQ.I.1.below gh),(HQ.I.2.1.below gh).same fun g hg=>aH (by have:=HQ.I.2.2.2.1 g hg; omega)⟩,aL Em.I.1 fun g hg=>aH (by have:=(cf Em.I.1 hg).1; omega),?_⟩
 ·have:=Au.I g hg; omega
 ·rw [ja]; exact gh.size):P:=h
theorem m_ {P:Prop} (h:P:=by
 have i1: ¬ (k:Int) < (m.length:Int):=by omega
 have e:k=m.length:=by omega
 subst e;go_wp2;go_ret;refine ⟨a',cap',rfl,?_,cy.I.trans (HO.I.2.mono cy.I.size)⟩
 have:=cq HO.I.1 cy.I.size
 rwa [LQ] at this):P:=h
theorem nv {P:Prop} (h:P:=by clear HE;go_wp2;go_ret;exact ⟨al (by rw [HV.I]),HP.I.cd⟩):P:=h
theorem pl {P:Prop} (h:P:=by
 clear iJ BD;go_wp2;go_roundw
 case rel=>exact ⟨k+1,by omega,by go_num,by rw [HE.I],⟨l ++ [(x,g)],by rw [Kl,HT.I.1,cj HX.I]; rfl,EY.I,HY.I.1,HY.I.2⟩⟩
 case measure=>simp [intOf]; omega):P:=h
theorem qr {P:Prop} (h:P:=by
 clear b7;obtain ⟨a5,c5,w5,hap,oe,iJ,-⟩:=wg.I _ _ b1 (Kj _ _) (Ki _);simp only [KZ,K0,K1];rw [if_pos (by rfl)];refine cM _ _ _ rfl _ _ _ w5 rfl rfl hap ?_;refine hK.out _ _ (hS _ iJ) (fun hHeld=> ?_);clear hK K hHeld
 try simp only [pt,sb,s0,s1]
 refine L7 9 (fun K hK=> ?_);go_wp2_with fail;refine hK.out _ _ (hS _ (afR _ _ iJ)) (fun hHeld=> ?_);clear hK K hHeld
 try simp only [pt,sb,s0,s1]
 have qJ:Hid ((w5.alloc (c_ #[t_ s] 9)).ownsRow V2.heap.size 9 1 (s_ a5 y.Ma.length c5) y.Ma.length (bT.flat y.Ma)∧(w5.alloc (c_ #[t_ s] 9)).heap[w5.heap.size]? =o_ (c_ #[t_ s] 9)∧B_ V2.heap.size V2 (w5.alloc (c_ #[t_ s] 9))):=⟨cR oe ((Kp _ _).alloc (Ki _) _),Kj _ _,afR _ _ iJ⟩
 clear hap oe iJ b1 afR hS;generalize w5.alloc (c_ #[t_ s] 9)=w6 at *;generalize w5.heap.size=gx at *):P:=h
theorem rg {P:Prop} (h:P:=by
 obtain ⟨a5,c5,w6,om,qH,jQ,zU⟩:=wg.I _ _ b7 ((PU (by simp)).trans (Kj _ _)) (Ki _);simp only [KZ,K0,K1];rw [if_pos (by rfl)];go_wp2_with fail;refine hK.out _ _ (hS _ b7) (fun hHeld=> ?_);clear hK K hHeld
 try simp only [pt,sb,s0,s1]
 refine L7 6 (fun K hK=> ?_);refine cM _ _ _ rfl _ _ _ w6 rfl rfl om ?_;refine hK.out _ _ (hS _ jQ) (fun hHeld=> ?_);clear hK K hHeld
 try simp only [pt,sb,s0,s1]
 have qJ:Hid (w6.ownsRow V2.heap.size 9 1 (s_ a5 y.Ma.length c5) y.Ma.length (bT.flat y.Ma)∧w6.heap[(V2.heap.size+1)]? =o_ (c_ #[t_ s] 9)∧B_ V2.heap.size V2 w6):=⟨qH,(zU _ (by omega) (by omega) (by simp <;> omega)).trans (by have h5:=Kj (V2.alloc (c_ #[] 9)) (c_ #[t_ s] 9); simpa using h5),jQ⟩
 clear om qH jQ zU b1 b7 afR hS):P:=h
theorem ro {P:Prop} (h:P:=by
 have HY:Hid (gH s[k] =true→(s.data.toList.take (k+1)).all gH=true):=fun h=>Bv hlt HA.I h
 have HX:Hid (gH s[k] =false→bw s=false):=fun h=>by simp [bw,D7 hlt h]
 by_cases h1:(s[k].toNat:Int) < 32
 ·go_wp2
  go_ret;exact ⟨al (HX.I (xo h1)).symm,rfl⟩
 by_cases h2:126 < (s[k].toNat:Int)
 ·go_wp2
  go_ret;exact ⟨al (HX.I (uO h2)).symm,rfl⟩
 by_cases h3:(s[k].toNat:Int)=59
 ·have h3':((s[k].toNat:Int) == 59)=true:=by simp [h3]
  go_wp2;go_ret;exact ⟨al (HX.I (uj h3)).symm,rfl⟩
 have h3':((s[k].toNat:Int) == 59)=false:=by simp [h3]
 have HB:Hid (gH s[k] =true):=xR h1 h2 h3;go_wp2
 go_round
 case rel=>exact ⟨k+1,by omega,by go_num,HY.I HB.I⟩
 case measure=>simp [intOf]; omega):P:=h
theorem rt {P:Prop} (h:P:=by
 go_wp2;go_roundw
 case rel=>exact ⟨(j+1)+1,by omega,by go_num,⟨HY.I,bd (HA.I.2.alloc HA.I.2.size _) _⟩⟩
 case measure=>simp [intOf]; omega):P:=h
theorem te {P:Prop} (h:P:=by
 have SC:Hid ((Qx now (lp.take (k+1)))=(Qx now (lp.take k))):=by show _=_; rw [cj HP.I,R2,if_neg (by rw [RZ]; have h5:p.1.toaD.Md=p.1.Md:=rfl; have h6:p.1.toaD.Mg=p.1.Mg:=rfl; omega),QO]
 go_wp2;go_roundw
 case rel=>exact ⟨k+1,n,by omega,by omega,by go_num,a',cap',rfl,by show _∧_; rw [SC.I]; exact HA.I⟩
 case measure=>simp [intOf]; omega):P:=h
theorem tl {P:Prop} (h:P:=by
 go_wp2;go_roundw
 case rel=>exact ⟨k+1,by omega,by go_num,⟨HY.I,bd (HA.I.2.alloc HA.I.2.size _) _⟩⟩
 case measure=>simp [intOf]; omega):P:=h
theorem ue {P:Prop} (h:P:=by go_wp2_with fail;refine HX.I.mono ?_;rintro e w2 ⟨S',rfl,hm⟩;have HM:=aA hm;clear hm c1 c2 c3 hlk;go_wp2;go_ret;exact ⟨S',rfl,HM.I⟩):P:=h
theorem vc {P:Prop} (h:P:=by
 intro g bR
 rw [rN] at bR;rw [hbs];simp only [Kg] at bR ⊢;rcases bR with bR | bR | (bR | bR) | bR
 ·exact .inl (.inl bR)
 ·rcases hb g bR with h1 | h1
  ·exact .inl (.inr (.inl h1))
  ·exact .inr (.inr h1)
 ·exact .inl (.inr (.inr (.inl bR)))
 ·exact .inr (.inl (j5.1 bR))
 ·exact .inl (.inr (.inr (.inr bR)))):P:=h
theorem wl {P:Prop} (h:P:=by go_wp2;go_ret;exact ⟨rfl,(Kp _ _).alloc (Ki _) _⟩):P:=h
theorem ws {P:Prop} (h:P:=by refine gZ results92 S.I.an ?_;exact ⟨q9,rfl,HP.I.trans HE.I.symm,S.I.done _⟩):P:=h
theorem ww {P:Prop} (h:P:=by
 have HA:Hid (fO r a len cap w (w9.setCell ⟨q,2,n_⟩ (i_ j_ VX)) q _ n VX ⟨#[]⟩):=YU.I.set rfl;clear kN zT H8;obtain ⟨⟨o0,o1,o2,o3⟩,⟨r0,r1,r2,r3⟩,fD,fB⟩:=YU.I.cells;have q0:=fD 0;have q1:=fD 1;have q2:=fD 2;have q3:=fD 3;have y0:=fB 0;have y1:=fB 1;have y2:=fB 2;have y3:=fB 3;have hlt:=YU.I.lt;have hne:w.heap.size≠q:=by omega
 have mD:q≠w.heap.size:=by omega
 clear fD fB;go_wp2;refine KT (K9 results116 _ _ w.heap.size 45 _ (0,0) _ (by rfl) HA.I.ends.1 underlying45 rfl jy) rfl ?_;exact ⟨(_,n,VX,⟨#[]⟩),Ky _,rfl,HA.I.ends.2.1,HA.I.ends.2.2⟩):P:=h
theorem xz {P:Prop} (h:P:=by
 intro k1
 go_enter func159,ntmps159
 go_wp2_with fail;refine eD (fun w'=>w'=w.drew) 10 (by kernel_rfl) rfl ?_
 iterate 10 (refine ly 11 (v:= ?_) (o_ _) rfl rfl (by kernel_rfl) (fun _ _ _ h=>h) (bV (by kernel_rfl) ?_) ?_; rotate_left; (intro w0 hS0; subst hS0; go_simp; try with_reducible rfl); simp only [pt,sb,s0,s1])
 refine fL rfl (by kernel_rfl) (by kernel_rfl) (by kernel_rfl) ?_;intro w1 cm;subst cm
 revert HM k1 YU
 generalize w.drew=W;intro YU HM k1;obtain ⟨c9,f9⟩:=YU.I;go_wp2;go_ret;exact ⟨_,rfl,HM.I.1,HM.I.2,.inr (afU.ju fun _ _=>⟨rfl,rfl,rfl,rfl⟩)⟩):P:=h
theorem x_ {P:Prop} (h:P:=by
 have g2:(y.id == x.on)=false:=by simp [f2]
 go_wp2_with fail
 go_quiet (fail)
 go_wp2;go_roundw
 case rel=>exact ⟨j+1,by omega,by go_num,HJ.I.1.next HYP.I (fun _ h5=>absurd h5 f2),HJ.I.2.os,HJ.I.2.tape,HJ.I.2.output,HJ.I.2.size,HJ.I.2.block⟩
 case measure=>simp [Go.RowKit.intOf]; omega):P:=h
theorem y4 {P:Prop} (h:P:=by obtain ⟨g',_,_,_,hgr⟩:=fm fW;exact (hgr.block _ (J2.1 HB.I).1 (fun e=>by have:=KC e; have:=HZ.I; omega)).trans HB.I):P:=h
theorem y5 {P:Prop} (h:P:=by
 have HA:Hid (fO r a len cap w (w9.setCell ⟨q,2,n_⟩ (i_ j_ VX)) q _ n VX tx):=YU.I.set rfl;clear kN zT H8;obtain ⟨⟨o0,o1,o2,o3⟩,⟨r0,r1,r2,r3⟩,fD,fB⟩:=YU.I.cells;have q0:=fD 0;have q1:=fD 1;have q2:=fD 2;have q3:=fD 3;have y0:=fB 0;have y1:=fB 1;have y2:=fB 2;have y3:=fB 3;have hlt:=YU.I.lt;have hne:w.heap.size≠q:=by omega
 have mD:q≠w.heap.size:=by omega
 clear fD fB;go_wp2;refine KT (K9 results116 _ _ w.heap.size 45 _ (0,0) _ (by rfl) HA.I.ends.1 underlying45 rfl jy) rfl ?_;exact ⟨(_,n,VX,tx),htx,rfl,HA.I.ends.2.1,HA.I.ends.2.2⟩):P:=h
theorem y_ {P:Prop} (h:P:=by
 have HO:Hid (mQ (K k) (N k) (M k) (S k)=j8 K N M S k):=rfl;rw [HO.I];clear hb1 c0 c1 c2 c3;cases hop:j8 K N M S k with
 | true=>
  have HP:Hid (j8 K N M S k=true):=hop;clear hop;go_wp2;go_roundw
  case rel=>exact ⟨k+1,by omega,by go_num,fun j hj=>by
   by_cases e:j=k
   ·subst e; exact HP.I
   ·exact HA.I j (by omega),fQ.I⟩
  case measure=>simp [intOf]; omega
 | false=>
  have HP:Hid (j8 K N M S k=false):=hop;clear hop;go_wp2;go_ret;exact ⟨al (iS (fun h=>by have:=h.2.2 k hlt; rw [HP.I] at this; cases this)).symm,fQ.I⟩):P:=h
theorem z_ {P:Prop} (h:P:=by
 rw [J7,decide_eq_true_iff];constructor
 ·intro h; exact ⟨h.1,by omega⟩
 ·intro h; exact ⟨h.1,by omega⟩):P:=h
theorem AD {P:Prop} (h:P:=by
 refine ⟨fun hz=>key g (.inl hz) rfl,fun hz=>key g (.inr (.inl hz)) rfl,fun hz=> ?_,fun hz=>key g (.inr (.inr hz)) rfl⟩;rw [j5] at hz;rcases hb g iE with h1 | h1
 ·exact hx g hz (by rw [hbs]; simp only [Kg]; exact .inr (.inl h1))
 ·have:=(hm.lt hz).2
  omega):P:=h
theorem AM {P:Prop} (h:P:=by
 go_enter func244,ntmps244
 go_wp2_with (first | (go_at_call 129; refine (eW _ _).mono ?_; rintro e w' ⟨rfl,rfl⟩) | (go_at_call 245; refine (iX _ _).mono ?_; rintro e w' ⟨rfl,rfl⟩))
 all_goals go_ret
 all_goals exact ⟨al (by simp_all),by go_grown⟩):P:=h
theorem A_ {P:Prop} (h:P:=by
 simp only [pt,sb,s0,s1]
 (refine PI ?_)
 refine bk (by kernel_rfl) ?_ _;intro w1 cm;go_wp2;go_ret;exact ⟨al HV.I.symm,cm.2.I.cd⟩):P:=h
theorem BC {P:Prop} (h:P:=by
 go_wp2_with fail
 go_quiet (fail)
 go_wp2;go_roundw
 case rel=>exact ⟨j+1,by omega,by go_num,HJ.I.1.next HYP.I (fun h5=>absurd h5 f1),HJ.I.2.os,HJ.I.2.tape,HJ.I.2.output,HJ.I.2.size,HJ.I.2.block⟩
 case measure=>simp [Go.RowKit.intOf]; omega):P:=h
theorem CE {P:Prop} (h:P:=by obtain ⟨k0,k1,k2,k3,k4,k5,k6,k7⟩:=HZ.I.2.1.cells;go_wp2_with (refine ec 6 37 #[i_ j_ afG,i_ j_ afd,s_ (o_ ⟨gs,0,n_⟩) ps.length pC,s_ afV ss.length afX,s_ afA es.length afq,s_ afR bs.length afK,s_ aga fs.length afN,s_ afr ts.length af4] HZ.I.2.2.1 ?_);refine gZ results87 HZ.I.2.2.1 ?_;rw [afx.I];exact ⟨rfl,HZ.I.1.same fun g hg=>KH _ _ _ _ (HZ.I.2.2.2.2.1 g hg),q_ HZ.I.2.2.2.1 (by have:=HC.I.2.2.2.1; omega) _,HZ.I.2.2.2.2.2.more (q_ (Kp _ _) (by omega) _)⟩):P:=h
theorem C_ {P:Prop} (h:P:=by exact ⟨(HI.I.lu _ _).2,.inr ⟨HY.I,w.heap.size+1,l,rfl,by rw [HT.I.1,HK.I.1],(HI.I.lu _ _).1⟩⟩):P:=h
theorem D_ {P:Prop} (h:P:=by
 have hst:=HO.I.wk.step HD.I.1;have hc:=HO.I.cnt;have hbl:=HO.I.mv.trans ((o4.below HO.I.at' H3.I).trans (aiS HD.I.2 Ss hb4));refine ⟨⟨Ss,NU HO.I.fits (fun y=>(rD _ _ _).1),by rw [HP.I]; exact hst.1,by rw [HP.I,← HO.I.same]; exact (vn HO.I.wk HD.I.1).symm,rfl,fun p hp=> ?_,hbl⟩,by rw [HP.I]; omega⟩;obtain ⟨r,hr,rfl⟩:=yy.1 hp
 split
 ·show (iY _ _ r.1.toaD).prog.length≤_
  rw [(rD _ _ _).2];exact HO.I.short r hr
 ·exact HO.I.short r hr):P:=h
theorem E_ {P:Prop} (h:P:=by
 iterate 7 (refine nl ?_; simp only [pt,sb,s0,s1])
 (refine agj ?_)
 refine bk (by kernel_rfl) ?_ _;intro w1 cm;subst cm;go_wp2;go_ret;exact kO HN.I Dk.I.drew):P:=h
theorem Fd {P:Prop} (h:P:=by
 go_simp
 try with_reducible rfl):P:=h
theorem FS {P:Prop} (h:P:=by
 intro w0 hS0
 have hq:=hS0.1.2.I;rw [show (Value.agg (p.L6 gs))=a_ p.cells by unfold af.cells; rw [mR.I.1]];refine (lk p x w0 fl.I.1.short HXS.I.1 Jf.I.1 Jf.I.2 hq.2.1 (lA hq.2.1.1 mR.I.2)).mono ?_;rintro e w2 ⟨rfl,hb2⟩;exact ⟨al HPO.I,kQ mR.I.1 mR.I.2 ⟨hq.1.below hb2,hq.2.1.below hb2,hq.2.2.trans (hb2.mono hq.2.2.size)⟩ (rh mR.I.1 wV.I.2 (hq.2.1.below hb2)),hS0.2.I.trans (hb2.mono hS0.2.I.size)⟩):P:=h
theorem F_ {P:Prop} (h:P:=by
 obtain ⟨-,h2,h3⟩:=Kf.1 hnd;obtain ⟨-,-,h4⟩:=Kf.1 h2;rcases bR with bR | bR
 ·exact h3 g bR g (Lz _ hA) rfl
 ·exact h4 g hA g bR rfl):P:=h
theorem G_ {P:Prop} (h:P:=by clear hp FN;go_wp2_with (refine eT 7 S.I.1.box ?_);refine Mb.mono ?_;clear Mb;rintro e W ⟨q2,rfl,hp2,ht⟩;have h5:=S.I.1.call ht;have H5:=aA (And.intro h5.1 ((h5.2 _ (by omega) (by omega)).trans S.I.2));have HP:Hid (q2.pure=_):=hp2;clear hp2 ht h5;go_wp2_with (refine ec 14 50 q2.cells H5.I.2 ?_);refine gZ results88 H5.I.2 ?_;exact ⟨q2,rfl,HP.I.trans HE.I,H5.I.1.mK (by omega) (by omega) _⟩):P:=h
theorem H_ {P:Prop} (h:P:=by
 refine cq (base:=wr.heap.size) ?_ (by omega);refine aL h7.2.2.1 fun g hg'=> ?_
 have h5:=h7.2.2.2 g hg';have h6:=cf h7.2.2.1 hg';subst e9;refine (PU (by omega)).trans ?_;subst e8;exact aH (by omega)):P:=h
theorem I_ {P:Prop} (h:P:=by
 have xj:pH.heap[o]? =W9.heap[o]? :=hg.block o (Kn p7 kN.size) fun e=>h.free (by
  have:=di e.symm
  simp [af.Mc,this])
 have lV:=xj.trans h9.I;exact ⟨hL,by simp [World.cell?,lV],Ko _ _ _ _ _ lV⟩):P:=h
theorem J_ {P:Prop} (h:P:=by go_wp2_with (refine ec 4 32 ar HB.I.2.2.2 ?_);refine mG results80 (b_ false) HB.I.2.2.2 ?_;exact ca HN.I (q_ HB.I.2.2.1 (by omega) _)):P:=h
theorem K_ {P:Prop} (h:P:=by go_wp2_with (first | (refine eT 4 HD.I.box ?_) | (refine ec 2 52 q.cells HD.I.mK ?_));refine mG results22 (i_ j_ now) HD.I.mK ?_;exact ⟨q,now,rfl,⟨n0,by omega⟩,(HD.I.up (by omega)).fin⟩):P:=h
theorem L_ {P:Prop} (h:P:=by
 have hb0:B_ w.heap.size w (w.alloc (c_ #[i_ j_ st] 192)):=(Kp _ _).alloc (Ki _) _;have HB:=aA hb0;have hg2:(w.alloc (c_ #[i_ j_ st] 192)).cell? ⟨3,0,n_⟩=o_ (agz a):=(J1 (hb0.block _ (Le hg))).trans hg;unfold agz at hg2 ⊢;clear hb0 hg
 go_enter func111,ntmps111
 go_wp2;refine wp_loop_rounds 2 ?_;rw [rounds_succ];go_wp2;rw [rounds_succ];go_wp2;go_ret;exact ⟨rfl,HB.I⟩):P:=h
theorem M_ {P:Prop} (h:P:=by
 show _=true
 have h1:=HT.I.2.1;rw [HK.I.1] at h1;rw [h1,decide_eq_true HK.I.2]; rfl):P:=h
theorem N_ {P:Prop} (h:P:=by
 simp only [af.Mc,Kg,Lq]
 exact .inr (.inr (.inr (.inr (.inr (.inr (.inr (.inr ⟨x,hx,hg⟩)))))))):P:=h
theorem O_ {P:Prop} (h:P:=by exact cP h hu.up rfl (by omega)):P:=h
theorem PC {P:Prop} (h:P:=by
 go_enter func85,ntmps85
 go_wp2_with fail;refine (lr p id _ H.I.2.ae H.I.1.1).mono ?_;rintro e w1 ⟨rfl,hb1⟩;have HB:Hid (B_ w.heap.size w w1):=H.I.1.2.trans (hb1.mono (by simp));have HM:Hid (decide (0≤place (p.ae.map (·.id)) id 0)=decide (id∈p.ae.map (·.id))):=mV _ id;clear hb1;go_wp2;go_ret;exact ⟨al (HM.I.trans (by simp [hasB,af.pure])),HB.I⟩):P:=h
theorem PM {P:Prop} (h:P:=by
 obtain ⟨-,h2,h3⟩:=Kf.1 hnd;obtain ⟨-,-,h4⟩:=Kf.1 h2;rcases bR with bR | bR | bR
 ·exact h3 g bR g (Lz _ hA) rfl
 ·exact h4 g hA g (Lz _ bR) rfl
 ·exact h4 g hA g (Ly _ bR) rfl):P:=h
theorem P_ {P:Prop} (h:P:=by
 iterate 2 (refine PI ?_)
 iterate 13 (refine nl ?_; simp only [pt,sb,s0,s1])
 (refine PI ?_)
 refine bk (by kernel_rfl) ?_ _;intro w1 cm;have HV:Hid (B_ W1.heap.size W1 w1):=HN.I.2.2.2.trans (cm.2.I.mono HN.I.2.2.2.size);clear cm;go_wp2;go_roundw
 case rel=>exact ⟨k+1,z,by omega,by go_num,rfl,⟨HY.I,HV.I⟩⟩
 case measure=>simp [Go.RowKit.intOf]; omega):P:=h
theorem Q1 {P:Prop} (h:P:=by
 refine bk (by kernel_rfl) ?_ _;intro w1 cm;subst cm;go_wp2;go_roundw
 case rel=>exact ⟨k+1,k,by omega,by go_num,rfl,⟨HY.I,HN.I.2.2.2.drew⟩⟩
 case measure=>simp [intOf]; omega):P:=h
theorem Q2 {P:Prop} (h:P:=by
 cases a with
 | none=>simp [blk] at hg'
 | some ad=>
  simp [blk] at hg';subst hg';rcases hb with hb | hb
  ·exact .inl (di hb.symm)
  ·exact .inr (by simpa [Value.ownBlock] using hb)):P:=h
theorem Q3 {P:Prop} (h:P:=by
 rintro (h | h | h)
 ·exact .inr (.inl h)
 ·exact .inl h
 ·exact .inr (.inr h)):P:=h
theorem Q4 {P:Prop} (h:P:=by have b1:B_ w.heap.size w ((w.alloc (c_ p.row 31)).alloc (c_ ar 31)):=((Kp _ _).alloc (Ki _) _).alloc (by simp) _;exact ⟨(PU (by simp)).trans (Kj _ _),h.below b1,b1,Kq _ _ _⟩):P:=h
theorem Q_ {P:Prop} (h:P:=by
 simp only [dt] at hen;clear HN hrg hrg2 rx oE hkey hlk hv hat oX hpl td hpw lD oG hrow sY hg3;unfold dt;go_wp2_with (at_builtin; refine br _ rfl _ _ 94 rfl _ _ _ _ rfl rfl hap ?_; clear hap);go_roundw
 case rel=>exact ⟨_,_,_,Hb.I.2,Hb.I.1⟩
 case measure=>have h5:=Hb.I.2.left_eq; have h6:=j6.I; rw [h6.2]; exact Q5 (Nat.le_of_eq h5) h6.1):P:=h
theorem R_ {P:Prop} (h:P:=by
 simp only [af.Mc,Kg,Lq]
 exact .inr (.inr (.inr (.inr (.inr (.inr (.inl ⟨x,hx,hg⟩))))))):P:=h
theorem S_ {P:Prop} (h:P:=by
 go_enter func244,ntmps244
 go_wp2_with (first | (go_at_call 129; refine (eW _ _).mono ?_; rintro e w' ⟨rfl,rfl⟩) | (go_at_call 245; refine (iX _ _).mono ?_; rintro e w' ⟨rfl,rfl⟩) | (go_at_call 238; refine (iM _ _ hs).mono ?_; rintro e w' ⟨rfl,rfl⟩))
 all_goals go_ret
 all_goals exact ⟨al (by simp_all),by go_grown⟩):P:=h
theorem Tu {P:Prop} (h:P:=by
 rw [bZ]
 have:=congrArg List.length HT.I.1
 simp only [KG,Lk] at this;omega):P:=h
theorem TZ {P:Prop} (h:P:=by
 obtain ⟨r,hr,rfl⟩:=yy.1 hp'
 have hm:aR.cO w' base r.1:=(h.eI r hr).same fun b hb=>hkk b (hmem b (.inl (Lq.2 ⟨r,hr,hb⟩)))
 split
 ·show w'.ownsRow base _ 4 (s_ (f r.1).aY (f r.1).prog.length (f r.1).bH) (f r.1).prog.length (fk.flat (f r.1).prog)
  rw [(hf r.1).2.1,(hf r.1).2.2.1,(hf r.1).2.2.2];exact hm
 ·exact hm):P:=h
theorem U_ {P:Prop} (h:P:=by refine gZ results45 H5.I.2 ?_;exact ⟨_,congrArg (fun c=>Ending.returned (a_ c)) (jd (nx:=q.next)).symm,HP.I.trans HE.I.symm,H5.I.1.mK (by omega) (by omega) _⟩):P:=h
theorem V_ {P:Prop} (h:P:=by go_wp2;go_ret;exact ⟨ck (jg HA.I (by rw [KG]; omega)).symm,H.I.2⟩):P:=h
theorem WP {P:Prop} (h:P:=by have hb0:=Fy.I;refine (rx.block g (by have:=HO.I.size; omega) (fun e=>by have:=KC e; omega)).trans (HO.I.same g (by omega) (fun hm=>by have:=Ia.I g hm; omega))):P:=h
theorem W_ {P:Prop} (h:P:=by
 have HV:Hid ((cv now 0 1000000000 && decide (S.q.next≤999999980))=false):=by show _=_; rw [show cv now 0 1000000000=false by cases h5:cv now 0 1000000000 with | false=>rfl | true=>have:=bz.1 h5; omega]; rfl
 go_wp2;go_ret;exact ⟨S,al HV.I.symm,H.I.2.1,(fun e=>by rw [HV.I] at e; cases e),o4.refl H.I.1⟩):P:=h
theorem X4 {P:Prop} (h:P:=by
 go_round
 case rel=>exact ⟨k+1,true,acc ++ [y],a5,c5,by omega,by go_num,rfl,by simp,⟨F5.I,HA.I.2.on HY.I⟩⟩
 case measure=>simp [Go.RowKit.intOf]; omega):P:=h
theorem X_ {P:Prop} (h:P:=by
 have HN:Hid (agc p.pure now n=n_):=by show agc _ _ _=n_; unfold agc; rw [show cv n 0 200=false by cases h5:cv n 0 200 with | false=>rfl | true=>have:=bz.1 h5; omega,PP]; rfl
 go_wp2_with (refine ec 6 28 ar HI.I.box ?_);refine mG results19 (b_ false) HI.I.box ?_;exact ca HN.I (q_ HI.I.cd (by omega) _)):P:=h
theorem Y_ {P:Prop} (h:P:=by clear hb1;go_wp2;go_ret;exact ⟨al (HM.I.trans (by simp [hasB,af.pure])),HB.I⟩):P:=h
theorem Z_ {P:Prop} (h:P:=by clear HE;go_wp2;go_ret;exact ⟨al (by rw [HV.I]),HP.I.cd.alloc HP.I.cd.size _⟩):P:=h
theorem Zaa {P:Prop} (h:P:=by go_wp2;go_ret;exact agf.same (c:=3) HJ.I (Kp _ _)):P:=h
theorem Zab {P:Prop} (h:P:=by
 rw [hbs];simp only [Kg];simp only [Kg] at bR;rcases bR with bR | bR | bR
 ·exact .inl bR
 ·exact .inr (.inr (.inl bR))
 ·exact .inr (.inr (.inr bR))):P:=h
theorem Zac {P:Prop} (h:P:=by
 clear f3;go_wp2_with fail
 go_quiet (fail)
 go_wp2;go_ret;exact alK (KA HX.I) HNO.I (HFB.I _ ⟨HB.I.os,HB.I.tape,HB.I.output,HB.I.size,HB.I.block⟩)):P:=h
theorem Zad {P:Prop} (h:P:=by
 rw [j5] at EI
 have hn:=hx g EI;exact ⟨fun hz=>hn (hmem g (.inl hz)),fun hz=>hn (hmem g (.inr (.inl hz))),fun hz=>hn (hmem g (.inr (.inr hz)))⟩):P:=h
theorem Zae {P:Prop} (h:P:=by exact ca HN.I (q_ HZ.I.1 (by omega) _)):P:=h
theorem Zaf {P:Prop} (h:P:=by
 clear f3;go_wp2_with fail
 go_quiet (fail)
 go_wp2;go_roundw
 case rel=>exact ⟨j+1,by omega,by go_num,HJ.I.1.next HYP.I (fun _ _=>by have h5:=IB.I; simpa using h5),HJ.I.2.os,HJ.I.2.tape,HJ.I.2.output,HJ.I.2.size,HJ.I.2.block⟩
 case measure=>simp [Go.RowKit.intOf]; omega):P:=h
theorem Zag {P:Prop} (h:P:=by
 intro w0 hS0
 refine (dx x.Mg 1 now w0).mono ?_;rintro e w2 ⟨rfl,rfl⟩;exact ⟨afp.I,hS0⟩):P:=h
theorem Zah {P:Prop} (h:P:=by
 refine bk (by kernel_rfl) ?_ _;intro w1 cm;have HV:Hid (B_ W1.heap.size W1 w1):=HN.I.2.2.2.trans (cm.2.I.mono HN.I.2.2.2.size);clear cm;go_wp2;go_roundw
 case rel=>exact ⟨k+1,k,by omega,by go_num,rfl,⟨HY.I,HV.I⟩⟩
 case measure=>simp [Go.RowKit.intOf]; omega):P:=h
theorem Zai {P:Prop} (h:P:=by
 have h5:q∈blk a:=by simpa [four,bM] using hq'
 rcases hq q h5 with h6 | h6
 ·exact .inl (by rw [h6]; simp [four,bM])
 ·exact .inr h6):P:=h
theorem Zaj {P:Prop} (h:P:=by
 rw [e2];refine uX Dl fun g hg=> ?_
 rcases hf g (fZ.2 hg) with hm | hm
 ·exact ⟨fun hq=>hP g (.inl hq) hm,fun hq=>hP g (.inr hq) hm⟩
 ·exact ⟨fun hq=>by have:=(h.lt g (hin g (.inl hq))).2; omega,fun hq=>by have:=(h.lt g (hin g (.inr hq))).2; omega⟩):P:=h
theorem Zak {P:Prop} (h:P:=by
 clear hend cm
 go_simp
 go_wp2;go_ret;rw [HL.I.1];exact HE.I):P:=h
theorem Zal {P:Prop} (h:P:=by go_wp2_with (refine ec 4 19 ar S.I.2.2.2 ?_);refine mG results10 (b_ false) S.I.2.2.2 ?_;exact ca HN.I (q_ S.I.2.2.1 (by omega) _)):P:=h
theorem Zam {P:Prop} (h:P:=by go_wp2_with fail;go_ret2;exact ⟨pE.I.cd.alloc pE.I.cd.size _,.inl ⟨HN.I,rfl⟩⟩):P:=h
theorem Zan {P:Prop} (h:P:=by
 obtain ⟨z,hz,he⟩:=Lq.1 hg;rw [ha] at hz;rcases fq.1 hz with rfl | hz
 ·exact .inr he
 ·exact .inl (Lq.2 ⟨z,hz,he⟩)):P:=h
theorem Zao {P:Prop} (h:P:=by
 have HE:Hid (jl st op.2.1 S.pure.L8=n_):=b3
 have d0:decide (0 < (age st op.2.1 S.lp).length)=false:=decide_eq_false (by omega);rw [d0,b1];clear d0 b1 b2 b3 hb2;simp only [qz,Option.map_none];go_wp2;go_ret;exact .inl ⟨HE.I,rfl,H2.I⟩):P:=h
theorem Zap {P:Prop} (h:P:=by
 rw [e2] at hg
 rcases Kg.1 hg with hg | hg
 ·exact .inl (hin g (.inl hg))
 ·rcases Kg.1 hg with hg | hg
  ·exact (hf g hg).imp_left fun h7=>by rw [e1]; simp only [Kg]; exact .inr (.inl ((hkx g).1 h7))
  ·exact .inl (hin g (.inr hg))):P:=h
theorem Zaq {P:Prop} (h:P:=by
 show (W.setCell _ _).ownsRow base _ 1 (s_ a l.length c) l.length (bT.flat l)
 exact aL ho fun g hg=>hs g fun e=>by
  rcases hf g hg with h7 | h7
  ·exact hP gs (.inl hgP) (e ▸ h7)
  ·have:=(h.lt gs (hin gs (.inl hgP))).2; omega):P:=h
theorem Zar {P:Prop} (h:P:=by
 go_roundw
 case rel=>exact ⟨k+1,n+1,by omega,by omega,by go_num,a5,im,rfl,HN⟩
 case measure=>simp [intOf]; omega):P:=h
theorem Zas {P:Prop} (h:P:=by
 go_enter func254,ntmps254
 go_wp2;go_ret;exact ⟨al (by simp [gw,cv, *] <;> omega),(Kp _ _).alloc (Ki _) _⟩):P:=h
theorem Zat {P:Prop} (h:P:=by
 have h5:=h.kW;rw [P8] at h5;obtain ⟨i,hi1,rfl⟩:=LK.1 hy;obtain ⟨j,DS,rfl⟩:=LK.1 hx;rcases P9 i j with hlt | heq | hgt
 ·have:=h5 i j hi1 DS hlt; omega
 ·subst heq; rfl
 ·have:=h5 j i DS hi1 hgt; omega):P:=h
theorem Zau {P:Prop} (h:P:=by
 refine bk (by kernel_rfl) ?_ _;intro w1 cm;subst cm;go_wp2;go_roundw
 case rel=>exact ⟨k+1,n,by omega,by omega,by go_num,a',cap',rfl,by show _∧_; rw [SC.I]; exact HA2.I⟩
 case measure=>simp [intOf]; omega):P:=h
theorem Zav {P:Prop} (h:P:=by have h1:=o4.below J.dg.at' (Kp _ w).drew;exact ⟨h1.trans (o4.got h1.at' J.hx),agW J.dg.at' J.right J.hx⟩):P:=h
theorem Zaw {P:Prop} (h:P:=by
 rw [e2];refine ais hn (by unfold blk; cases x'.ak <;> simp) fun b hb'=> ?_
 rcases hk b hb' with h5 | h5
 ·exact .inl h5
 ·rw [e1] at h5
  exact .inr ⟨fun hm=>h5 (Lz _ hm),fun hm=>h5 (Ly _ (Ly _ hm))⟩):P:=h
theorem Zax {P:Prop} (h:P:=by
 refine L7 0 (fun K hK=> ?_);refine LX 31 (.tmp 5) rfl X rfl 31 q.cells (0,0) _ HD.I.box underlying31 rfl (by kernel_rfl) ?_;refine hK.out _ _ trivial (fun _=> ?_);clear hK K
 try simp only [pt,sb,s0,s1]):P:=h
theorem Zay {P:Prop} (h:P:=by exact ⟨(jA.I.lu _ _).2,.inl ⟨HN.I,rfl⟩⟩):P:=h
theorem Zaz {P:Prop} (h:P:=by exact ⟨(Aw.I.lu _ _).2,.inl ⟨HN.I,rfl⟩⟩):P:=h
theorem ZaA {P:Prop} (h:P:=by simp only [Lv,Ls] at this;exact this):P:=h
theorem ZaB {P:Prop} (h:P:=by go_wp2_with (first | (refine eT 4 HD.I.box ?_) | (refine ec 2 52 q9.cells HD.I.mK ?_));refine mG results22 (i_ j_ now) HD.I.mK ?_;exact ⟨q9,now,rfl,⟨n0,by omega⟩,(HD.I.up (by omega)).fin⟩):P:=h
theorem ZaC {P:Prop} (h:P:=by
 have h1 := hall e he hb;have h0 := (Qf.1 hr).1;rw [heq] at h1;rcases Nat.lt_or_ge i RV.size with h' | h'
 · simp [h'] at h0 h1; rw [h0] at h1; cases h1
 · simp [Array.getElem?_eq_none h'] at h1):P:=h
theorem ZaD {P:Prop} (h:P:=by
 simp only [af.Mc,Kg,Lq]
 exact .inr (.inl ⟨x,hx,hg⟩)):P:=h
theorem ZaE {P:Prop} (h:P:=by
 replace S:=aA (S.I.reads hb2);clear hb2;have HB:=aA (HJ.I.2.2.2 z2 gV);clear gV;go_wp2_with fail
 go_roundg (gk - 1)
 case rel=>exact ⟨q2,z2,rfl,HB.I,S.I⟩
 case measure=>have:=HJ.I.1; omega):P:=h
theorem ZaF {P:Prop} (h:P:=by exact h.pR.xy i q (by rcases i with _ | _ | _ | _ | _ <;> first | exact hi | exact absurd rfl ei)):P:=h
theorem ZaG {P:Prop} (h:P:=by
 have h5:=h7.2.2.2 g (fZ.2 hk);refine ⟨fun hm'=> ?_,by omega⟩
 have:=(h.own.lt g hm').2
 omega):P:=h
theorem ZaH {P:Prop} (h:P:=by
 refine bk (by kernel_rfl) ?_ _;intro w1 cm;subst cm;go_wp2;go_roundw
 case rel=>exact ⟨k+1,n,by omega,by go_num,rfl,⟨HY.I,HN.I.2.2.2.drew⟩⟩
 case measure=>simp [intOf]; omega):P:=h
theorem ZaI {P:Prop} (h:P:=by
 have h5:=h.nodup;rw [hsp] at h5;obtain ⟨-,k2,k3⟩:=Kf.1 h5;obtain ⟨-,-,k6⟩:=Kf.1 k2;rcases hg with hg | hg
 ·exact k3 g hg gs (Lz _ hgl) he
 ·exact k6 gs hgl g hg he.symm):P:=h
theorem ZaJ {P:Prop} (h:P:=by
 rcases hb g iE with h1 | h1
 ·exact nc g' hg' (e ▸ h1)
 ·have:=hlt g' (hmem g' hg')
  omega):P:=h
theorem ZaK {P:Prop} (h:P:=by
 split at h3
 ·simp only [J7] at h3; exact h3.1.1.1.1
 ·split at h3
  ·simp only [J7] at h3; exact h3.1.1
  ·split at h3
   ·simp only [J7] at h3; exact h3.1.1.1
   ·cases h3):P:=h
theorem ZaL {P:Prop} (h:P:=by go_wp2;go_ret;exact ki HL.I.1 cm.2.1.I.cd):P:=h
theorem ZaM {P:Prop} (h:P:=by go_wp2;go_ret;exact ⟨al HV.I.symm,(Kp _ _).alloc (Ki _) _⟩):P:=h
theorem ZaN {P:Prop} (h:P:=by go_wp2;go_ret;obtain ⟨S',h5,h6,h7,-⟩:=HE.I;exact ⟨S',rfl,h5,h6,.inr (afU.of h7)⟩):P:=h
theorem ZaO {P:Prop} (h:P:=by
 go_round
 case rel=>exact ⟨k+1,false,acc ++ [y],a5,c5,by omega,by go_num,rfl,by simp,⟨F5.I,HA.I.2.past HY.I HC.I⟩⟩
 case measure=>simp [Go.RowKit.intOf]; omega):P:=h
theorem ZaP {P:Prop} (h:P:=by
 subst ei
 have h5:q∈blk a:=by simpa [four,bM] using hq'
 rw [hall q h5];simp [four,bM]):P:=h
theorem ZaQ {P:Prop} (h:P:=by
 obtain ⟨-,k2,k3⟩:=Kf.1 Dl;obtain ⟨-,-,k6⟩:=Kf.1 k2;rcases hg with hg | hg
 ·exact k3 g hg g (Lz _ ((hkx g).1 hm)) rfl
 ·exact k6 g ((hkx g).1 hm) g hg rfl):P:=h
theorem ZaR {P:Prop} (h:P:=by go_wp2;go_ret;exact ⟨al HN.I.symm,cy.I.2.2⟩):P:=h
theorem ZaS {P:Prop} (h:P:=by exact (ai0 h.ety).mono fun _ _ hh=>⟨hh.1,fun h5=>absurd h5 (by decide),hb _ hh.2⟩):P:=h
theorem ZaT {P:Prop} (h:P:=by
 rcases hbl o hm' with h1 | h1 | h1
 ·exact h.free h1
 ·exact (hx o h1).2 rfl
 ·omega):P:=h
theorem ZaU {P:Prop} (h:P:=by have h3:=h1.trans h.I;refine ⟨by simp [World.cell?,h3],?_⟩;simp [World.cell?,h2]):P:=h
theorem ZaV {P:Prop} (h:P:=by
 have e1:(S.ju g f nx).boxes=S.boxes:=by simp only [aZ.boxes,aZ.ju,qb]
 have e2:(S.ju g f nx).kids=S.kids:=by simp only [aZ.kids,aZ.ju,GW iH]
 rw [e1,e2];exact hn):P:=h
theorem ZaW {P:Prop} (h:P:=by go_wp2;go_ret;exact ⟨al HV.I.symm,Hs.I.cd⟩):P:=h
theorem ZaX {P:Prop} (h:P:=by exact .inr (eB (by show 1≤p.next; omega) (by show p.next≤p.next+1 - 1; omega))):P:=h
theorem ZaY {P:Prop} (h:P:=by subst e8 e9;exact ⟨(bP h7.2.1 (Ki _)).alloc (bP h7.2.1 (Ki _)).size _,fH [_]⟩):P:=h
theorem ZaZ {P:Prop} (h:P:=by
 subst ei
 have h5:q∈blk a:=by simpa [four,bM] using hi
 rw [hall q h5];exact hgl):P:=h
theorem Za0 {P:Prop} (h:P:=by
 have HP:Hid (bw x=true):=hp;clear hp;go_wp2
 go_round
 case rel=>exact ⟨k+1,by omega,by go_num,pQ HA.I HX.I HP.I⟩
 case measure=>simp [intOf]; omega):P:=h
theorem Za1 {P:Prop} (h:P:=by
 rcases iH g hg with h5 | h5
 ·have:=nW g (hin g h5); omega
 ·exact (hm.lt h5).2):P:=h
theorem Za2 {P:Prop} (h:P:=by
 rw [e2] at hb2
 rw [e1];simp only [Kg] at hb2 ⊢;rcases hb2 with h5 | h5 | h5
 ·exact .inl (.inl h5)
 ·exact .inr h5
 ·exact .inl (.inr (.inr h5))):P:=h
theorem Za3 {P:Prop} (h:P:=by obtain ⟨g,e,hc⟩:=h.at hx;exact ⟨g,e,hc 0 _ rfl,hc 1 _ rfl,hc 2 _ rfl⟩):P:=h
theorem Za4 {P:Prop} (h:P:=by exact ⟨_,rfl,hq,by unfold af.cells; simp,by rw [hq]; exact hr2,HR.I.2.1⟩):P:=h
theorem Za5 {P:Prop} (h:P:=by
 obtain ⟨s0,h0,⟨e,rfl⟩ | ⟨e,rfl⟩⟩:=alC hs'
 ·exact .inr fun x hx h5 h6=>hn x hx h5 (e.symm.trans h6)
 ·exact .inl ⟨s,h0,rfl,hu⟩):P:=h
theorem Za6 {P:Prop} (h:P:=by go_wp2;go_ret;exact ⟨al (kR (by omega)).symm,rfl⟩):P:=h
theorem Za7 {P:Prop} (h:P:=by go_wp2;go_ret;exact ⟨al (mA (by omega)).symm,rfl⟩):P:=h
theorem Za8 {P:Prop} (h:P:=by rcases i with _ | _ | _ | _ | _ <;> first | exact hq' | exact absurd rfl ei):P:=h
theorem Za9 {P:Prop} (h:P:=by have h5:=nW g (hin g (Lq.2 ⟨z,hz,hg⟩));exact sm g (by omega) (by omega)):P:=h
theorem Zba {P:Prop} (h:P:=by split <;> exact agk (by decide)):P:=h
theorem Zbb {P:Prop} (h:P:=by exact ⟨a5,c5,w5,hap,oe,hb.grown A7 hb.size fun c e=>by cases e; exact hge,fun h _ hn hl=>A7.block h hl (fun e=>hn (by cases e; rfl))⟩):P:=h
theorem Zbc {P:Prop} (h:P:=by
 go_wp2_with fail
 go_quiet ((first
  | (go_at_call_of 27 (x.id); exact L1 (kI.I _))))
 go_wp2;go_ret;exact ⟨al HN.I.symm,bd cy.I.2.2 _⟩):P:=h
theorem Zbd {P:Prop} (h:P:=by rw [fG,J7] at k1 ⊢;refine ⟨?_,k1.2⟩;have k4:=k1.1;unfold jY at k4 ⊢;simp only [J7] at k4 ⊢;exact ⟨⟨k4.1.1,ht⟩,k4.2⟩):P:=h
theorem Zbe {P:Prop} (h:P:=by
 clear hk0;go_wp2;go_roundw
 case rel=>exact ⟨k+1,o_ p,by omega,by go_num,rfl,⟨HS.I,HA.I.2⟩⟩
 case measure=>simp [intOf]; omega):P:=h
theorem Zbf {P:Prop} (h:P:=by
 rcases Nat.lt_trichotomy i j with hlt | heq | hgt
 ·have:=h5 i j hi1 DS hlt; omega
 ·subst heq; rfl
 ·have:=h5 j i DS hi1 hgt; omega):P:=h
theorem Zbg {P:Prop} (h:P:=by
 clear FT;go_wp2;go_roundw
 case rel=>exact ⟨k+1,o_ p,by omega,by go_num,rfl,⟨HS.I,HB4.I⟩⟩
 case measure=>simp [intOf]; omega):P:=h
theorem Zbh {P:Prop} (h:P:=by
 clear FT;go_wp2;go_roundw
 case rel=>exact ⟨k+1,o_ y,by omega,by go_num,rfl,⟨HS.I,HB4.I⟩⟩
 case measure=>simp [intOf]; omega):P:=h
theorem Zbi {P:Prop} (h:P:=by
 have e1:(acc ++ [z]).length=acc.length+1:=by simp
 rw [e1,K.dc];have e2:K.flat [z] =K.vals z:=by simp [Kind.flat]
 rw [e2];exact ho):P:=h
theorem Zbj {P:Prop} (h:P:=by
 go_roundw
 case rel=>exact ⟨k - 1,q,rfl,by omega,by omega,aA (HD.I.up (by omega))⟩
 case measure=>simp [Go.RowKit.intOf]; omega):P:=h
theorem Zbk {P:Prop} (h:P:=by have h7:y.todS.Ma=y.Ma:=rfl;have h8:y.todS.max=y.max:=rfl;rw [h7] at h5;rw [h8] at h5 h6;exact ⟨h5.2.2,by omega,h5.2.1,h5.1⟩):P:=h
theorem Zbl {P:Prop} (h:P:=by obtain ⟨b1,b2,hv,hrow⟩:=cr h5.2.1;cases hv;exact ⟨h5.1,hrow⟩):P:=h
theorem Zbm {P:Prop} (h:P:=by
 rcases iH g hg with h5 | h5
 ·exact .inl h5
 ·exact .inr (hk g h5).1):P:=h
theorem Zbn {P:Prop} (h:P:=by go_wp2;go_ret;exact ⟨al (eB h1 h2).symm,rfl⟩):P:=h
theorem Zbo {P:Prop} (h:P:=by
 rw [fG,J7]
 refine ⟨q4,mr q6 rfl ⟨by show 0≤z.pc; omega,?_⟩ a2 a3 a4 a6⟩
 have:=lK q6
 show z.pc < z.prog.length
 omega):P:=h
theorem Zbp {P:Prop} (h:P:=by
 refine hfree k ok hk hki ?_ hno;by_cases hjk : j = k
 · subst hjk; exact hjun
 · rw [getD_set_ne true hjk] at hun; exact hun):P:=h
theorem Zbq {P:Prop} (h:P:=by
 go_wp2;go_roundw
 case rel=>exact ⟨k+1,z,by omega,by go_num,rfl,⟨HY.I,HN.I.2.2.2⟩⟩
 case measure=>simp [intOf]; omega):P:=h
theorem Zbr {P:Prop} (h:P:=by exact ⟨e1,(J1 (aH (by show w.heap.size≠o; omega))).trans e1⟩):P:=h
theorem Zbs {P:Prop} (h:P:=by rw [ha] at hg;cases hg;have h7:=hrow.cell hx (r:=j) hj;exact ⟨⟨_,h7.1.trans (Kz (by rw [bg.len]; exact hj))⟩,h7.2⟩):P:=h
theorem Zbt {P:Prop} (h:P:=by
 unfold agz
 go_enter func111,ntmps111
 go_wp2;refine wp_loop_rounds 1 ?_;rw [rounds_succ];go_wp2;go_ret;exact ⟨rfl,rfl⟩):P:=h
theorem Zbu {P:Prop} (h:P:=by
 simp only [J5,if_false,List.append_nil]
 split at h
 ·exact h
 ·obtain ⟨n,h1,h2,h3⟩:=h
  exact ⟨n,h1,by omega,h3⟩):P:=h
theorem Zbv {P:Prop} (h:P:=by go_wp2;go_ret;exact ⟨⟨a',⟨cap',by rw [← HE.I.1]; rfl⟩,HE.I.2⟩,HO.I.2.trans (HA.I.2.2.mono HO.I.2.size)⟩):P:=h
theorem Zbw {P:Prop} (h:P:=by rw [sR];exact aL xj fun g hg=>aH (by have:=(cf xj hg).1; omega)):P:=h
theorem Zbx {P:Prop} (h:P:=by exact aL hl.own fun g hg=>aH (by have:=(cf hl.own hg).1; omega)):P:=h
theorem Zby {P:Prop} (h:P:=by rw [ha] at hg;cases hg;exact ⟨⟨_,(hrow.cell hx (r:=11) (by decide)).1⟩,(hrow.cell hx (r:=11) (by decide)).2⟩):P:=h
theorem Zbz {P:Prop} (h:P:=by rw [ha] at ha2;cases ha2;exact g8.1):P:=h
theorem ZbA {P:Prop} (h:P:=by
 clear hm hp hkp b1;go_wp2_with fail
 go_roundg (gk - 1)
 case rel=>exact ⟨S2,HB.I.1⟩
 case measure=>exact HB.I.2):P:=h
theorem ZbB {P:Prop} (h:P:=by
 go_wp2
 go_round
 case rel=>exact ⟨k+1,by omega,by go_num,HT.I⟩
 case measure=>simp [Go.RowKit.intOf]; omega):P:=h
theorem ZbC {P:Prop} (h:P:=by clear hb2 b1;go_wp2;go_ret;exact ⟨S1,rfl,HO.I.mv.trans (o4.below HO.I.mv.at' HB.I.1),HB.I.2,.inr HO.I.VO⟩):P:=h
theorem ZbD {P:Prop} (h:P:=by exact .inl ⟨by simp only [Lt,place]; rw [if_neg h]; exact h1,by simp only [LL,h,decide_false]; exact h2⟩):P:=h
theorem ZbE {P:Prop} (h:P:=by
 have h3:ce y.id f r=r:=qB fun z hz e=>by have:=hr.1 z hz; omega
 simp only [ce,Lt,if_true] at h3 ⊢;rw [h3]):P:=h
theorem ZbF {P:Prop} (h:P:=by
 rcases ha.2 b hb2 with h5 | h5
 ·exact h5
 ·rcases hn b h5 with h6 | h6
  ·exact aZ.ag4 (iH b h6)
  ·omega):P:=h
theorem ZbG {P:Prop} (h:P:=by have h5:=(Lp.1 h.nodup).1;exact h5 (by rw [e]; simp only [aZ.boxes,Kg,Kt]; exact .inl (.inl (.inr bR)))):P:=h
theorem ZbH {P:Prop} (h:P:=by refine ⟨?_,fun j hj=>(J1 (w:=w) e).trans (h.2 j hj)⟩;have h1:=h.1;rw [Qb h1] at e;exact (J2.1 e).1):P:=h
theorem ZbI {P:Prop} (h:P:=by rw [e1];rw [e3] at h5 h6 hk;exact oS h5 (fN _) hn h6 hk):P:=h
theorem ZbJ {P:Prop} (h:P:=by
 rcases hk with rfl
 all_goals
  go_enter func243,ntmps243
  go_wp2;go_ret2;exact ⟨rfl,by go_grown⟩):P:=h
theorem ZbK {P:Prop} (h:P:=by exact h.pR.apart i i2 hij q (e1 i q hi) (e1 i2 q hi2)):P:=h
theorem ZbL {P:Prop} (h:P:=by exact hm.same fun g hg=>sm g (hm.lt hg).2 (hk g hg).2):P:=h
theorem ZbM {P:Prop} (h:P:=by rw [if_neg (by omega),if_neg (by omega),if_neg (by omega),if_neg (by omega),if_neg (by omega)]):P:=h
theorem ZbN {P:Prop} (h:P:=by
 split at h
 ·rename_i e
  rw [e];exact ⟨k,rfl,by omega,hx⟩
 ·obtain ⟨n,h1,_⟩:=h
  omega):P:=h
theorem ZbO {P:Prop} (h:P:=by simp only [Kt,Ku,or_false] at ht; rw [ht]; exact f3):P:=h
theorem ZbP {P:Prop} (h:P:=by go_wp2;go_ret;exact alK (KA HX.I) HNO.I (HFB.I _ (HY.I.2.trans (HV.I.2.2.mono HY.I.2.size)))):P:=h
theorem ZbQ {P:Prop} (h:P:=by
 split at h
 ·exact .inl (KC h).symm
 ·split at h
  ·exact .inl (KC h).symm
  ·exact .inr h):P:=h
theorem ZbR {P:Prop} (h:P:=by
 simp only [k,agh]
 exact (agd 0).symm):P:=h
theorem ZbS {P:Prop} (h:P:=by
 rcases hb2 with h5 | h5
 ·exact n1.2.2 b h5 b (Lz _ hm2) rfl
 ·exact n2.2.2 b hm2 b h5 rfl):P:=h
theorem ZbT {P:Prop} (h:P:=by go_wp2;go_ret;exact ⟨_,rfl,GO.I.1,GO.I.2,.inr (afU.ju fun _ _=>⟨rfl,rfl,rfl,rfl⟩)⟩):P:=h
theorem ZbU {P:Prop} (h:P:=by
 split at h
 ·omega
 ·rename_i y e
  obtain ⟨n,h1,h2,h3⟩:=h;exact ⟨n,y,h1,h2,h3,e⟩):P:=h
theorem ZbV {P:Prop} (h:P:=by unfold aZ.al at hb2 ⊢;rw [e1] at hb2;exact hb2):P:=h
theorem ZbW {P:Prop} (h:P:=by
 refine cP (mx h fun y hy hk=> ?_) hu.up rfl (n7 p.next)
 rw [only h.aj hs hy hk]; omega):P:=h
theorem ZbX {P:Prop} (h:P:=by go_wp2;go_ret;exact ⟨al HN.I.symm,HB.I.2.2⟩):P:=h
theorem ZbY {P:Prop} (h:P:=by rintro e w' ⟨rfl,rfl⟩;exact ⟨al h,rfl⟩):P:=h
theorem ZbZ {P:Prop} (h:P:=by simp only [Lit.wf,J7,decide_eq_true_eq];omega):P:=h
theorem Zb0 {P:Prop} (h:P:=by rw [Lm];exact tP HA.I (fun y hy=>by have h5:=HX.I y hy; show ¬ y.id < id; omega)):P:=h
theorem Zb1 {P:Prop} (h:P:=by rintro e w2 ⟨x,rfl,hb2,hr2⟩;go_wp2;go_ret;exact ⟨_,rfl,hb.trans hb2,hr2⟩):P:=h
theorem Zb2 {P:Prop} (h:P:=by go_wp2;go_ret;exact ⟨_,rfl,HF.I.1,HF.I.2,.inr (afU.ju fun e=>absurd e HN.I)⟩):P:=h
theorem Zb3 {P:Prop} (h:P:=by exact hy.wpOp hi hS fun w' GH => ⟨GH, H⟩):P:=h
theorem Zb4 {P:Prop} (h:P:=by
 cases xs with
 | nil=>rfl
 | cons u r=>
  obtain ⟨g,e',_⟩:=h 0 u rfl;cases e'):P:=h
theorem Zb5 {P:Prop} (h:P:=by
 clear HE
 go_enter func236,ntmps236
 go_wp2;go_ret;exact ⟨al HV.I.symm,HB.I⟩):P:=h
theorem Zb6 {P:Prop} (h:P:=by exact agl fun s=>agk (by decide)):P:=h
theorem Zb7 {P:Prop} (h:P:=by exact q1 g (by omega) (by omega) (by omega)):P:=h
theorem Zb8 {P:Prop} (h:P:=by unfold aZ.al;rw [eb,hP,hR];unfold aZ.kids;simp only [hu];rw [adw];simp [Lm]):P:=h
theorem Zb9 {P:Prop} (h:P:=by
 rcases Kt.1 hb2 with rfl | hb2
 ·exact aZ.agr hc
 ·exact aZ.ag4 (iH b hb2)):P:=h
theorem Zca {P:Prop} (h:P:=by
 have uE:Hid (∀ o n,k_ J3 83 #[s_ x.ak x.Ma.length x.aq,i_ j_ x.max] ((wr.alloc o).drewN n) fun e w'=>e=r_ (b_ false)∧w'=(wr.alloc o).drewN n):=fun _ n=>iz h7 E9.I n
 have H7:Hid (dJ x.Ma x.max=false):=h7;clear h7;have HN:Hid (bv p=false):=eg (bS HX.I (fun hh=>by have h9:=hh.2.2; simp [dj,H7.I] at h9));go_wp2_with fail
 go_quiet ((first
  | (go_at_call_of 83 (x.Ma.length); exact L1 (uE.I _ _))
  | (go_at_call_of 27 (x.id); exact L1 (kI.I _))
  | (go_at_call_of 27 (x.max); exact L1 (lE.I _))))
 exact e_):P:=h
theorem Zcb {P:Prop} (h:P:=by refine Mb.mono ?_;clear Mb;rintro e D ⟨q2,rfl,hp2,ht⟩;have h5:=S.I.1.call ht;have H5:=aA (And.intro h5.1 ((h5.2 (w.heap.size+1) (by omega) (by omega)).trans S.I.2.1));have HP:Hid (q2.pure=_):=hp2;clear hp2 ht h5;go_wp2_with (refine ec 6 62 q2.cells H5.I.2 ?_);exact gz):P:=h
theorem Zcc {P:Prop} (h:P:=by
 go_wp2_with fail
 go_quiet ((first
  | (go_at_call_of 83 (x.Ma.length); exact L1 (uE.I _ _))
  | (go_at_call_of 27 (x.id); exact L1 (kI.I _))
  | (go_at_call_of 27 (x.max); exact L1 (lE.I _))))
 exact e_):P:=h
theorem Zcd {P:Prop} (h:P:=by
 go_wp2_with fail
 go_quiet ((first
  | (go_at_call_of 27 (x.id); exact L1 (kI.I _))
  | (go_at_call_of 27 (x.max); exact L1 (lE.I _))))
 exact e_):P:=h
theorem Zce {P:Prop} (h:P:=by go_wp2_with (refine eT 4 S.I.fr.box ?_);refine Mb.mono ?_;clear Mb;rintro e A2 ⟨q2,rfl,hp,ht⟩;replace S:=aA (S.I.call ht);have HP:Hid (q2.pure=_):=hp;clear hp ht;go_wp2_with (refine ec 8 145 q2.cells S.I.an ?_);refine gZ results89 S.I.an ?_;exact l_):P:=h
theorem Zcf {P:Prop} (h:P:=by clear hf;have Mb:=bB (n:=n) 3 S.I.fr.own S.I.low HR.I.1 HR.I.2.1 (by rw [HR.I.2.2.1]; decide);go_wp2_with (refine eT 4 S.I.fr.box ?_);refine Mb.mono ?_;clear Mb;rintro e A2 ⟨q2,rfl,hp,ht⟩;replace S:=aA (S.I.call ht);have HP:Hid (q2.pure=_):=hp;clear hp ht;go_wp2_with (refine ec 8 19 q2.cells S.I.an ?_);refine gZ results91 S.I.an ?_;exact l_):P:=h
theorem Zcg {P:Prop} (h:P:=by
 go_wp2_with fail
 go_quiet ((first
  | (go_at_call_of 27 (x.id); exact L1 (kI.I _))))
 exact e_):P:=h
theorem Zch {P:Prop} (h:P:=by refine Mb.mono ?_;clear Mb;rintro e D ⟨q2,rfl,hp2,ht⟩;have h5:=S.I.1.call ht;have H5:=aA (And.intro h5.1 ((h5.2 (w.heap.size+1) (by omega) (by omega)).trans S.I.2.1));have HP:Hid (q2.pure=_):=hp2;clear hp2 ht h5;go_wp2_with (refine ec 6 79 q2.cells H5.I.2 ?_);exact gz):P:=h
theorem Zci {P:Prop} (h:P:=by have HE:Hid (lX now x.toaD (1,N,M,s) q.pure=bu 0 x.id q.pure):=IC.I.trans (if_pos h1);have Mb:=bB (n:=n) 0 S.I.1.own (by have:=S.I.1.sz; omega) HR.I.1 HR.I.2.1 (by rw [HR.I.2.2.1]; decide);clear h1 hv IC HL;go_wp2_with (refine eT 3 S.I.1.box ?_);refine Mb.mono ?_;clear Mb;rintro e D ⟨q2,rfl,hp2,ht⟩;have h5:=S.I.1.call ht;have H5:=aA (And.intro h5.1 ((h5.2 (w.heap.size+1) (by omega) (by omega)).trans S.I.2.1));have HP:Hid (q2.pure=_):=hp2;clear hp2 ht h5;go_wp2_with (refine ec 6 35 q2.cells H5.I.2 ?_);exact gz):P:=h
theorem Zcj {P:Prop} (h:P:=by
 have HC6:Hid (∀ w,k_ J3 27 #[i_ j_ x.n,i_ j_ 0,i_ j_ x.max] w fun e w'=>e=r_ (b_ false)∧w'=w):=i7 h6
 have H6:Hid (cv x.n 0 x.max=false):=h6;clear h6;have HN:Hid (bv p=false):=gQ (bS HX.I (fun hh=>by have h9:=hh.2.2; simp [gw,H6.I] at h9));go_wp2_with fail
 go_quiet ((first
  | (go_at_call_of 27 (x.id); exact L1 (kI.I _))
  | (go_at_call_of 27 (x.n); exact L1 (HC6.I _))
  | (go_at_call_of 27 (x.max); exact L1 (lE.I _))))
 exact e_):P:=h
theorem Zck {P:Prop} (h:P:=by
 go_wp2_with fail
 go_quiet ((first
  | (go_at_call_of 27 (x.id); exact L1 (kI.I _))
  | (go_at_call_of 82 (x.text); exact L1 (lE.I _))))
 exact e_):P:=h
theorem Zcl {P:Prop} (h:P:=by
 go_wp2_with fail
 go_quiet ((first
  | (go_at_call_of 83 (x.Ma.length); exact L1 (uE.I _ _))
  | (go_at_call_of 27 (x.id); exact L1 (kI.I _))
  | (go_at_call_of 27 (x.max); exact L1 (lE.I _))))
 exact tl):P:=h
theorem Zcm {P:Prop} (h:P:=by
 go_wp2_with fail
 go_quiet ((first
  | (go_at_call_of 83 (x.Ma.length); exact L1 (uE.I _ _))
  | (go_at_call_of 27 (x.id); exact L1 (kI.I _))
  | (go_at_call_of 27 (x.max); exact L1 (lE.I _))))
 exact rt):P:=h
theorem Zcn {P:Prop} (h:P:=by clear hf hfm;have Mb:=bB (n:=n) 3 S.I.fr.own S.I.low HR.I.1 HR.I.2.1 (by rw [HR.I.2.2.1]; decide);go_wp2_with (refine eT 3 S.I.fr.box ?_);refine Mb.mono ?_;clear Mb;rintro e A2 ⟨q2,rfl,hp,ht⟩;replace S:=aA (S.I.call ht);have HP:Hid (q2.pure=_):=hp;clear hp ht;go_wp2_with (refine ec 6 17 q2.cells S.I.an ?_);refine gZ results93 S.I.an ?_;exact l_):P:=h
theorem Zco {P:Prop} (h:P:=by clear hf hfm;have Mb:=bB (n:=n) 3 S.I.fr.own S.I.low HR.I.1 HR.I.2.1 (by rw [HR.I.2.2.1]; decide);go_wp2_with (refine eT 4 S.I.fr.box ?_);refine Mb.mono ?_;clear Mb;rintro e A2 ⟨q2,rfl,hp,ht⟩;replace S:=aA (S.I.call ht);have HP:Hid (q2.pure=_):=hp;clear hp ht;go_wp2_with (refine ec 8 21 q2.cells S.I.an ?_);refine gZ results90 S.I.an ?_;exact l_):P:=h
theorem Zcp {P:Prop} (h:P:=by clear h0;have Mb:=bB (n:=n) 1 S.I.fr.own S.I.low HR.I.1 HR.I.2.1 (by rw [HR.I.2.2.1]; decide);go_wp2_with (refine eT 3 S.I.fr.box ?_);refine Mb.mono ?_;clear Mb;rintro e A2 ⟨q2,rfl,hp,ht⟩;replace S:=aA (S.I.call ht);have HP:Hid (q2.pure=_):=hp;clear hp ht;go_wp2_with (refine ec 6 32 q2.cells S.I.an ?_);refine gZ results93 S.I.an ?_;exact l_):P:=h
theorem Zcq {P:Prop} (h:P:=by
 clear hf hfm;go_upto_region 2 with fail;replace S:=aA (S.I.reads (Kp _ _).drew);refine aT (fun w1=>w1=A2.drew) (by kernel_rfl) rfl ?_;generalize A2.drew=B at *
 iterate 3 (refine agj ?_)
 iterate 10 (refine nl ?_; simp only [pt,sb,s0,s1])
 (refine agj ?_)
 refine bk (by kernel_rfl) ?_ _;intro w1 cm;rw [cm];clear cm w1;exact jp):P:=h
theorem Zcr {P:Prop} (h:P:=by rw [HQ.I.1,HQ.I.2.1] at Mb;go_wp2_with (refine eT 4 S.I.fr.box ?_);refine Mb.mono ?_;clear Mb;rintro e A2 ⟨q2,rfl,hp,ht⟩;replace S:=aA (S.I.call ht);have HP:Hid (q2.pure=_):=hp;clear hp ht;go_wp2_with (refine ec 8 95 q2.cells S.I.an ?_);refine gZ results91 S.I.an ?_;exact l_):P:=h
theorem Zcs {P:Prop} (h:P:=by refine Mb.mono ?_;clear Mb;rintro e D ⟨q2,rfl,hp2,ht⟩;have h5:=S.I.1.call ht;have H5:=aA (And.intro h5.1 ((h5.2 (w.heap.size+1) (by omega) (by omega)).trans S.I.2.1));have HP:Hid (q2.pure=_):=hp2;clear hp2 ht h5;go_wp2_with (refine ec 6 70 q2.cells H5.I.2 ?_);exact gz):P:=h
theorem Zct {P:Prop} (h:P:=by refine Mb.mono ?_;clear Mb;rintro e D ⟨q2,rfl,hp2,ht⟩;have h5:=S.I.1.call ht;have H5:=aA (And.intro h5.1 ((h5.2 (w.heap.size+1) (by omega) (by omega)).trans S.I.2.1));have HP:Hid (q2.pure=_):=hp2;clear hp2 ht h5;go_wp2_with (refine ec 6 86 q2.cells H5.I.2 ?_);exact gz):P:=h
theorem Zcu {P:Prop} (h:P:=by refine Mb.mono ?_;clear Mb;rintro e D ⟨q2,rfl,hp2,ht⟩;have h5:=S.I.1.call ht;have H5:=aA (And.intro h5.1 ((h5.2 (w.heap.size+1) (by omega) (by omega)).trans S.I.2.1));have HP:Hid (q2.pure=_):=hp2;clear hp2 ht h5;go_wp2_with (refine ec 6 93 q2.cells H5.I.2 ?_);exact gz):P:=h
theorem Zcv {P:Prop} (h:P:=by go_wp2_with (refine eT 3 S.I.fr.box ?_);refine Mb.mono ?_;clear Mb;rintro e A2 ⟨q9,rfl,hp,ht⟩;replace S:=aA (S.I.call ht);have HP:Hid (q9.pure=_):=hp;clear hp ht;go_wp2_with (refine ec 6 112 q9.cells S.I.an ?_);exact ws):P:=h
theorem Zcw {P:Prop} (h:P:=by
 have HN:Hid (cB p.pure { p.pure with ai:=bY (·.id) (⟨z.id,z.I,z.Mf,z.max,[]⟩:dS) p.pure.ai } =n_):=jh hok
 clear hok;go_wp2_with (refine ec 4 66 ar HZ.I.2.1 ?_);refine mG results77 (b_ false) HZ.I.2.1 ?_;exact Zae):P:=h
theorem Zcx {P:Prop} (h:P:=by
 have HN:Hid (cB p.pure { p.pure with ae:=bY (·.id) (⟨id,Me,[]⟩:ci) p.pure.ae } =n_):=jh hok
 clear hok;go_wp2_with (refine ec 6 61 ar HZ.I.2.1 ?_);refine mG results76 (b_ false) HZ.I.2.1 ?_;exact Zae):P:=h
theorem Zcy {P:Prop} (h:P:=by
 intro w0 hS0
 obtain ⟨⟨q0,q1,q2⟩,hH⟩:=hS0
 exact Fd):P:=h
theorem Zcz {P:Prop} (h:P:=by
 have HN:Hid (cB p.pure { p.pure with L8:=bY (·.id) (newP id RX ops) p.pure.L8 } =n_):=jh hok
 clear hok;go_wp2_with (refine ec 8 66 ar HZ.I.2.1 ?_);refine mG results78 (b_ false) HZ.I.2.1 ?_;exact Zae):P:=h
theorem ZcA {P:Prop} (h:P:=by
 clear hA;go_wp2_with fail;refine aT (fun w'=>w'=w5.drew) (by kernel_rfl) rfl ?_
 iterate 6 (refine agj ?_)
 iterate 9 (refine nl ?_; simp only [pt,sb,s0,s1])
 iterate 2 (refine agj ?_)
 exact E_):P:=h
theorem ZcB {P:Prop} (h:P:=by
 intro w0 hS0
 obtain ⟨⟨⟨⟨q0,q1,q2,q3,q4,q5,q6,q7⟩,⟨x0,x1,x2,x3,x4,x5,x6,x7,x8,x9,x10,Dm⟩,hpre⟩,hH⟩,hH2⟩:=hS0; unfold rk at hpre
 exact Fd):P:=h
theorem ZcC {P:Prop} (h:P:=by
 iterate 20 (refine ty (o_ _) rfl rfl (by kernel_rfl) (fun _ _ _ h=>h) (np (by kernel_rfl)) ?_; simp only [pt,sb,s0,s1])
 (refine agj ?_)
 exact Q1):P:=h
theorem ZcD {P:Prop} (h:P:=by
 go_wp2_with fail
 go_quiet ((first
  | (go_at_call_of 27 (x.id); exact L1 (kI.I _))
  | (go_at_call_of 82 (x.text); exact L1 (lE.I _))))
 exact tl):P:=h
theorem ZcE {P:Prop} (h:P:=by
 go_wp2_with fail
 go_quiet ((first
  | (go_at_call_of 27 (x.id); exact L1 (kI.I _))
  | (go_at_call_of 82 (x.text); exact L1 (lE.I _))))
 exact rt):P:=h
theorem ZcF {P:Prop} (h:P:=by
 have il:(q.L8.length:Int)=0:=by rw [hps]; rfl
 have m2:=HD.I.box.cells.2.2.1;rw [hps] at m2;simp only [K4] at m2;clear il hps;exact K_):P:=h
theorem ZcG {P:Prop} (h:P:=by
 intro w0 hS0
 obtain ⟨⟨q0,q1,q2,q3,q4,q5⟩,hH⟩:=hS0
 exact Fd):P:=h
theorem ZcH {P:Prop} (h:P:=by
 clear hA hB;go_wp2_with fail;refine aT (fun w'=>w'=w5.drew) (by kernel_rfl) rfl ?_
 iterate 17 (refine agj ?_)
 exact E_):P:=h
theorem ZcI {P:Prop} (h:P:=by go_wp2_with (first | (refine eT 3 H5.I.1.box ?_) | (refine ec 6 43 q.cells H5.I.2 ?_));exact U_):P:=h
theorem ZcJ {P:Prop} (h:P:=by
 have HV:Hid (bh p.pure x.toaD=false):=by show bh _ _=false; rw [HE.I]; simp [HSF.I]
 exact nv):P:=h
theorem ZcK {P:Prop} (h:P:=by
 have HV:Hid (bh p.pure x.toaD=false):=by show bh _ _=false; rw [HE.I]; simp [hz]
 exact nv):P:=h
theorem ZcL {P:Prop} (h:P:=by
 have uE:Hid (∀ o n,k_ J3 83 #[s_ x.ak x.Ma.length x.aq,i_ j_ x.max] ((wr.alloc o).drewN n) fun e w'=>e=r_ (b_ false)∧w'=(wr.alloc o).drewN n):=fun _ n=>iz h7 E9.I n
 have H7:Hid (dJ x.Ma x.max=false):=h7;clear h7;have HN:Hid (bv p=false):=fv (bS HX.I (fun hh=>by have h9:=hh.2.2; simp [ct,H7.I] at h9));exact Zcc):P:=h
theorem ZcM {P:Prop} (h:P:=by
 have lE:Hid (∀ w,k_ J3 27 #[i_ j_ x.max,i_ j_ 1,i_ j_ 1000] w fun e w'=>e=r_ (b_ false)∧w'=w):=i7 h5
 have H5:Hid (cv x.max 1 1000=false):=h5;clear h5;have HN:Hid (bv p=false):=gQ (bS HX.I (fun hh=>by have h9:=hh.2.2; simp [gw,H5.I] at h9));exact Zcd):P:=h
theorem ZcN {P:Prop} (h:P:=by
 have lE:Hid (∀ w,k_ J3 27 #[i_ j_ x.max,i_ j_ 1,i_ j_ 5] w fun e w'=>e=r_ (b_ false)∧w'=w):=i7 h5
 have H5:Hid (cv x.max 1 5=false):=h5;clear h5;have HN:Hid (bv p=false):=fv (bS HX.I (fun hh=>by have h9:=hh.2.2; simp [ct,H5.I] at h9));exact Zcd):P:=h
theorem ZcO {P:Prop} (h:P:=by
 have lE:Hid (∀ w,k_ J3 27 #[i_ j_ x.max,i_ j_ 1,i_ j_ 5] w fun e w'=>e=r_ (b_ false)∧w'=w):=i7 h5
 have H5:Hid (cv x.max 1 5=false):=h5;clear h5;have HN:Hid (bv p=false):=eg (bS HX.I (fun hh=>by have h9:=hh.2.2; simp [dj,H5.I] at h9));exact Zcd):P:=h
theorem ZcP {P:Prop} (h:P:=by
 have lE:Hid (∀ w,k_ J3 82 #[t_ x.text] w fun e w'=>e=r_ (b_ false)∧w'=w):=rm h5 hts
 have H5:Hid (bw x.text=false):=h5;clear h5;have HN:Hid (bv p=false):=fJ (bS HX.I (fun hh=>by have h9:=hh.2.2; simp [cU,H5.I] at h9));exact Zck):P:=h
theorem ZcQ {P:Prop} (h:P:=by
 have H8:Hid (¬ x.max=1):=h8;have n8:(x.max != 1)=true:=by simp [h8]
 clear h8;have HN:Hid (bv p=false):=eg (bS HX.I (fun hh=>by have h9:=hh.2.2; simp [dj,H6.I,H8.I] at h9));exact Zcd):P:=h
theorem ZcR {P:Prop} (h:P:=by
 have H7:Hid (bI x.text=false):=h7
 have HN:Hid (bv p=false):=fJ (bS HX.I (fun hh=>by have h9:=hh.2.2; simp [cU,H6.I,H7.I] at h9));exact Zck):P:=h
theorem ZcS {P:Prop} (h:P:=by kernel_rfl):P:=h
theorem ZcT {P:Prop} (h:P:=by simp; omega):P:=h
theorem ZcU {P:Prop} (h:P:=by simp only [Kg,Lq]; simp [dd hy hk]):P:=h
theorem ZcV {P:Prop} (h:P:=by simp [af.Mc,hg]):P:=h
theorem ZcW {P:Prop} (h:P:=by unfold maxLen; omega):P:=h
theorem ZcX {P:Prop} (h:P:=by simp [bR]):P:=h
theorem ZcY {P:Prop} (h:P:=by have:=S.I.1.sz; omega):P:=h
theorem ZcZ {P:Prop} (h:P:=by have:=HF.I; omega):P:=h
theorem Zc0 {P:Prop} (h:P:=by rw [show x2.Md=x.Md from congrArg aD.Md sw,HR.I.2.2.1]; decide):P:=h
theorem Zc1 {P:Prop} (h:P:=by rw [HR.I.2.2.1]; decide):P:=h
theorem Zc2 {P:Prop} (h:P:=by have:=(HZ.I.2.2.1.lt g hg).1; omega):P:=h
theorem Zc3 {P:Prop} (h:P:=by simp [Value.oneCell']):P:=h
theorem Zc4 {P:Prop} (h:P:=by have:=hpb g hg; omega):P:=h
theorem Zc5 {P:Prop} (h:P:=by rw [HK.I]; decide):P:=h
theorem Zc6 {P:Prop} (h:P:=by show ¬ x.Md=0; rw [HR.I.2.2.1]; decide):P:=h
theorem Zc7 {P:Prop} (h:P:=by have:=nW g hg; omega):P:=h
theorem Zc8 {P:Prop} (h:P:=by rw [HK.I]; exact hl):P:=h
theorem Zc9 {P:Prop} (h:P:=by rw [uZ]; simp [hg]):P:=h
theorem Zda {P:Prop} (h:P:=by rw [HW.I.2.2]; decide):P:=h
theorem Zdb {P:Prop} (h:P:=by rw [hsz]; unfold maxLen; omega):P:=h
theorem Zdc {P:Prop} (h:P:=by simp [RW,hp]):P:=h
theorem Zdd {P:Prop} (h:P:=by have:=of_decide_eq_false h; omega):P:=h
theorem Zde {P:Prop} (h:P:=by assumption):P:=h
theorem Zdf {P:Prop} (h:P:=by simpa [four,bM] using hq):P:=h
theorem Zdg {P:Prop} (h:P:=by simpa [four,bM] using hb):P:=h
theorem Zdh {P:Prop} (h:P:=by show (bT.flat b.Ma)[0]? =_; rw [hit]; rfl):P:=h
theorem Zdi {P:Prop} (h:P:=by have:=h.size; omega):P:=h
theorem Zdj {P:Prop} (h:P:=by show p.next≤gf p.next y∧gf p.next y≤p.next+7; omega):P:=h
theorem Zdk {P:Prop} (h:P:=by rw [hp]; exact iR):P:=h
theorem Zdl {P:Prop} (h:P:=by have:=HR.I.2.2.2.1; omega):P:=h
theorem Zdm {P:Prop} (h:P:=by simp [hg]):P:=h
theorem Zdn {P:Prop} (h:P:=by rw [← HW.I]; exact HA.I.1.box):P:=h
theorem Zdo {P:Prop} (h:P:=by rw [hbs]; simp only [Kg]; exact .inr (.inl hA)):P:=h
theorem Zdp {P:Prop} (h:P:=by apply vN; intro _; rfl):P:=h
theorem Zdq {P:Prop} (h:P:=by simp [hx]):P:=h
theorem Zdr {P:Prop} (h:P:=by simp [hp]):P:=h
theorem Zds {P:Prop} (h:P:=by rw [hsz]; omega):P:=h
theorem Zdt {P:Prop} (h:P:=by rw [ha]; simp [blk]):P:=h
theorem Zdu {P:Prop} (h:P:=by show (p.1.ak).map (·.block)=o_ g; rw [show p.1.ak=o_ ⟨g,0,n_⟩ from e]; rfl):P:=h
theorem Zdv {P:Prop} (h:P:=by simp [four,e]):P:=h
theorem Zdw {P:Prop} (h:P:=by subst hd; simpa [four,bM] using hq):P:=h
theorem Zdx {P:Prop} (h:P:=by simp [results,results55,go_sem, *]):P:=h
theorem Zdy {P:Prop} (h:P:=by simp [results,results54,go_sem, *]):P:=h
theorem Zdz {P:Prop} (h:P:=by simp [results,results53,go_sem, *]):P:=h
theorem ZdA {P:Prop} (h:P:=by simp [results,results52,go_sem, *]):P:=h
theorem ZdB {P:Prop} (h:P:=by simp [results,results51,go_sem, *]):P:=h
theorem ZdC {P:Prop} (h:P:=by simp [results,results50,go_sem, *]):P:=h
theorem ZdD {P:Prop} (h:P:=by rw [uZ]; simp only [Kg]; exact .inl (.inr (.inl (dP.2 ⟨z,hz,hg⟩)))):P:=h
theorem ZdE {P:Prop} (h:P:=by rw [ha]; exact h):P:=h
theorem ZdF {P:Prop} (h:P:=by rw [bg.len]; exact hj):P:=h
theorem ZdG {P:Prop} (h:P:=by simpa [Value.ownBlock] using hbl):P:=h
theorem ZdH {P:Prop} (h:P:=by simp [hy]):P:=h
theorem ZdI {P:Prop} (h:P:=by have h5:=HS.I.box; unfold av at h5 ⊢; simpa only [LI] using h5):P:=h
theorem ZdJ {P:Prop} (h:P:=by unfold aZ.boxes; exact Ly _ hb):P:=h
theorem ZdK {P:Prop} (h:P:=by rw [mI]; exact cR H8.I.2.1 hbd):P:=h
theorem ZdL {P:Prop} (h:P:=by have:=(h.own.lt g hg).1; omega):P:=h
theorem ZdM {P:Prop} (h:P:=by rw [HO.I]; simp_all):P:=h
theorem ZdN {P:Prop} (h:P:=by unfold pJ at h1; unfold mF at h2; unfold isText at h3; omega):P:=h
theorem ZdO {P:Prop} (h:P:=by rw [hkl]; show k+1≤_; omega):P:=h
theorem ZdP {P:Prop} (h:P:=by rw [hkl]; show 0+k≤_; omega):P:=h
theorem ZdQ {P:Prop} (h:P:=by rw [e1]; simp only [Kg]; exact .inr (.inl ((hkx g).1 hx))):P:=h
theorem ZdR {P:Prop} (h:P:=by show w.heap.size < _; omega):P:=h
theorem ZdS {P:Prop} (h:P:=by simp [blk]; omega):P:=h
theorem ZdT {P:Prop} (h:P:=by rw [hl]; exact ho):P:=h
theorem ZdU {P:Prop} (h:P:=by have:=(S3.I.2.2.1.lt g hg).1; have:=S3.I.2.2.2.2; omega):P:=h
theorem ZdV {P:Prop} (h:P:=by simp only [Kg]; exact .inr (.inl (dP.2 ⟨z,hz,hg⟩))):P:=h
theorem ZdW {P:Prop} (h:P:=by simp [aZ.al]):P:=h
theorem ZdX {P:Prop} (h:P:=by rw [KC e]; simp [four,bM]):P:=h
theorem ZdY {P:Prop} (h:P:=by show (q.ag.set m _)[m]? =_; rw [LU (Lj.1 HM.I.1).1]):P:=h
theorem ZdZ {P:Prop} (h:P:=by simpa [four,bM] using ha):P:=h
theorem Zd0 {P:Prop} (h:P:=by simp [four]):P:=h
theorem Zd1 {P:Prop} (h:P:=by have:=(Lj.1 hx).1; omega):P:=h
theorem Zd2 {P:Prop} (h:P:=by show (q.L8.set n _)[n]? =_; rw [LU HR.I.2.2.2.1]):P:=h
end Go.Proofs.YtfncpmaefninjaaGreatDoor
