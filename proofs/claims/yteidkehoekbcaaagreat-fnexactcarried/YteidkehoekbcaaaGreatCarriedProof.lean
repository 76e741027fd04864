/- Proved: at every kernel and number Carried answers as its specification, every field; it writes into no argument, and its answer owns its memory (the exact law of Carried returns true). No condition beside the statement's own. -/
import Derived.Test.YteidkehoekbcaaaGreatOwnC11
import Derived.Test.YteidkehoekbcaaaGreatOwnC12
import Derived.Test.YteidkehoekbcaaaGreatOwnC13
set_option maxRecDepth 100000
set_option maxHeartbeats 8000000
open Array renaming getElem?_eq_some_iff->J2
open Go renaming heap_alloc_new->Kj,wp_at_succ->Kd,wp_at_zero->Kc
open Go.Proofs.Tryz renaming prog->J3,underlying2->KN
open Go.RowKit.Below renaming refl->Kp
open List renaming map_cons->Lt,mem_map->Lr,sum_cons->aeA
open Nat renaming le_refl->Ki
namespace Go.Proofs.YteidkehoekbcaaaGreat
section
open Go.RowKit
theorem adx {l:List dS} (h: ∀ q∈l,q.Ma.length≤5):g9 (fun x:dS=>x.Ma.length) l≤5 * l.length:=by
 induction l with
 | nil=>simp [g9]
 | cons x r ih=>
  have h1:=h x (by simp);have h2:=ih fun q hq=>h q (by simp [hq])
  simp only [g9,Lt,aeA,List.length_cons] at h2 ⊢;omega
theorem acZ {p p0:aE} (e:abQ p0=abQ p) (h: ∀ q∈p.ai,dj q=true):p.total≤6 * p0.total:=by
 have e1:p.L8=p0.L8:=(congrArg aE.L8 e).symm;have e2:p.aj=p0.aj:=(congrArg aE.aj e).symm;have e3:p.L9=p0.L9:=(congrArg aE.L9 e).symm;have e4:p.ag=p0.ag:=(congrArg aE.ag e).symm;have e5:p.ae=p0.ae:=(congrArg aE.ae e).symm;have e6:p.ai.map abL=p0.ai.map abL:=(congrArg aE.ai e).symm;have e7:p.ai.length=p0.ai.length:=by have:=congrArg List.length e6; simpa using this
 have h5:=adx (l:=p.ai) fun q hq=>by have h6:=abT (h q hq); omega
 unfold aE.total;rw [e1,e2,e3,e4,e5];omega
theorem ach: ∀ {l l0:List aE},l.map abQ=l0.map abQ→(∀ p∈l,∀ q∈p.ai,dj q=true)→g9 aE.total l≤6 * g9 aE.total l0
 | [],[],_,_=>by simp [g9]
 | [],y :: r,h,_=>by simp at h
 | x :: r,[],h,_=>by simp at h
 | x :: r,y :: t,h,hq=>by
  rw [Lt,Lt,List.cons.injEq] at h;have h1:=acZ h.1.symm (hq x (by simp));have h2:=ach h.2 fun p hp=>hq p (by simp [hp])
  simp only [g9,Lt,aeA] at h1 h2 ⊢;omega
theorem acO {k:kd} {id:Int} (h:k.Small):((abJ k id).getD ZG).Small∧((abJ k id).getD ZG).total≤7 * k.total:=by
 unfold abJ
 split
 ·rename_i hk
  have hc:abz k.parts (abI id k.parts k.eC):=abz.all (abz.refl (ab2 hk.1)) (ab1 hk.1);refine ⟨ac0 h hc,?_⟩;have h5:=ach hc.acE hc.right;have h6:(abI id k.parts k.eC).length=k.parts.length:=by have:=congrArg List.length hc.acE; simpa using this
  show kd.total { k with parts:=abI id k.parts k.eC } ≤_
  simp only [kd.total];rw [h6];omega
 ·exact ⟨aam,by show ZG.total≤_; exact Nat.le_trans (by decide) (Nat.zero_le _)⟩
end
section
open Go.RowKit Go.Maps
attribute [local go_sem ↓] Kc Kd
theorem ab5 (k:eA) (id:Int) (g base:Nat) (w:World) (hid:(Lit.int .i64 id).wf=true) (hs:k.pure.Small) (ho:gp w base k) (hg:k.vb=some ⟨g,0,none⟩∧g < w.heap.size):
  Calls J3 20 #[.agg k.row,.int .i64 id] w fun e w'=>KRes w (abJ k.pure id) e w':=by
 have S:=aA (KZK.first ho.at);have hz:Below w.heap.size w ((w.alloc (.cells k.row 37)).alloc (.cells T9 37)):=((Kp _ _).alloc (Ki _) _).alloc (by simp) _;have Mb:=Pq k g ((w.alloc (.cells k.row 37)).alloc (.cells T9 37)) hs (ho.at.below hz) (fun p hp=>(U7 hs ho p hp).below hz) ⟨hg.1,by have:=hz.size; omega⟩;have HI:=aA hid;clear hid hs ho hg hz
 go_enter Tryz.func20,Tryz.ntmps20
 go_upto_region 1 with fail;generalize (w.alloc (.cells k.row 37)).alloc (.cells T9 37)=W0 at *;obtain ⟨m0,m1,m2,m3,m4⟩:=S.I.ks.box.cells;go_wp2_with fail;clear m0 m1 m2 m3 m4;refine Mb.mono ?_;clear Mb;rintro e W1 ⟨hb1,⟨hno,rfl⟩ | ⟨fm,K,rfl,hK⟩⟩
 ·have HN:Hid (abJ k.pure id=none):=acv hno
  replace S:=aA (S.I.below hb1);clear hno hb1;go_wp2_with (refine stK 4 17 T9 S.I.I ?_);refine aaf Tryz.results20 (.bool false) S.I.I ?_;exact Zv HN.I (kz S.I.ks.low (by omega) _)
 obtain ⟨b,tab,l,ls,a,cap,B,ht,hJ⟩:=adR fm hK;have HT:=aA ht;have HY:=aA (And.intro fm hJ);have HW0:=aA (J2.1 S.I.I).1;have HP:Hid (hP (fun p:aE=>p.id) id k.pure.parts=(l.find? (fun p=>p.1.q.id == id)).map (·.1.pure)):=by
  show _=_
  rw [← ht.pure];unfold hP;rw [List.find?_map]
  congr 2
 replace S:=aA (S.I.below hb1);have c63:W1.cell? ⟨K,63,none⟩=some (.map (some b)):=ht.TN.cell (i:=63) (by omega);have hlk:=ht.prt.map.look Tryz.underlying104 (TQ W1) HI.I true;rw [Tf] at hlk;simp only [if_true] at hlk;clear fm hK hJ ht hb1 HI;cases hf:l.find? (fun p=>p.1.q.id == id) with
 | none=>
  have HN:Hid (abJ k.pure id=none):=acy (by rw [HP.I,hf]; rfl);rw [hf] at hlk;simp only [Option.map_none,Option.isSome_none,qz] at hlk;clear hf HP;go_wp2_with (refine stK 4 29 T9 S.I.I ?_);refine aaf Tryz.results20 (.bool false) S.I.I ?_;exact Zv HN.I (kz S.I.ks.low (by omega) _)
 | some q=>
  have HN:Hid (abJ k.pure id=some { k.pure with parts:=abI id k.pure.parts k.pure.eC }):=acw HY.I.1 (p:=q.1.pure) (by rw [HP.I,hf]; rfl);rw [hf] at hlk;simp only [Option.map_some,Option.isSome_some,qz,dt] at hlk;have HCK:Hid (Y7 W1 K b k.pure.now tab a cap B ls l W1):=⟨HT.I.prt,HT.I.TN,HT.I.own,HY.I.2,HT.I.fits,Kp _ _⟩
  have Mb:=ac2 K b k.pure.now tab a cap B ls l k.pure.parts id W1 HCK.I (fun o ho=>ab1 HY.I.1 o.c (by rw [← HT.I.eC]; exact Lr.2 ⟨o,ho,rfl⟩)) (by rw [HT.I.pure]; exact abz.refl (ab2 HY.I.1)) HT.I.short.2;clear hf HP;go_wp2_with fail;clear c63 hlk;refine Mb.mono ?_;clear Mb;rintro e W2 ⟨rfl,l2,hC,hp2,hcr,hid2⟩;have hlo:=HT.I.lo;have hw0:=HW0.I;have mO:Hid (Below w.heap.size w W2∧W2.heap[w.heap.size+1]? =some (.cells T9 37 (0,0))):=⟨S.I.ks.low.trans (hC.low.mono (by omega)),(hC.low.block _ (by omega)).trans S.I.I⟩
  have hlen:l2.length=l.length:=by have:=congrArg List.length hid2; simpa using this
  have xD:Hid (abE { k.pure with parts:=abI id k.pure.parts k.pure.eC } W0.heap.size K b tab l2 ls a cap B W2):=by
   refine ⟨HT.I.aaq,HT.I.fn,hC.prt,?_,HT.I.eC,hC.TN,hC.own,hC.fits,⟨by rw [hlen]; exact HT.I.short.1,HT.I.short.2⟩,HT.I.lo,fun p hp=> ?_⟩
   ·rw [hp2,HT.I.pure,HT.I.eC]
   ·have hm:(p.1.q.id,p.2)∈l.map fun p=>(p.1.q.id,p.2):=by rw [← hid2]; exact Lr.2 ⟨p,hp,rfl⟩
    obtain ⟨p0,hp0,e0⟩:=Lr.1 hm;have h5:=HT.I.wf p0 hp0;rw [show p.1.q.id=p0.1.q.id from (congrArg Prod.fst e0).symm];exact h5
  have Mb:=ZX _ W0.heap.size K b tab l2 ls a cap B W2 xD.I;clear hC hp2 hcr hid2 hlen hlo hw0;go_wp2_with fail;refine Mb.mono ?_;clear Mb;rintro e W3 ⟨k3,rfl,Bn,wu,hb3⟩;have EU:Hid (Below w.heap.size w W3∧W3.heap[w.heap.size+1]? =some (.cells T9 37 (0,0))∧gp W3 W0.heap.size k3∧k3.pure= { k.pure with parts:=abI id k.pure.parts k.pure.eC }):=⟨mO.I.1.trans (hb3.mono mO.I.1.size),(hb3.block _ (J2.1 mO.I.2).1).trans mO.I.2,Bn,wu⟩
  clear Bn wu hb3;go_wp2_with (refine stK 4 34 k3.row EU.I.2.1 ?_);refine aaf Tryz.results20 (.bool true) EU.I.2.1 ?_;rw [HN.I];have hw0:=HW0.I;exact ⟨k3,rfl,(EU.I.2.2.1.lower (by omega)).same fun b hb=>Go.setRow_other _ _ _ _ (by have:=(EU.I.2.2.1.lt hb).1; omega),EU.I.2.2.2,kz EU.I.1 (by omega) _⟩
end
section
open Go.RowKit
attribute [local go_sem ↓] Kc Kd
theorem acG (k:eA) (id:Int) (w:World) (hb:k.Ud) (hc:k.ep w) (hi:k.Ints) (hid:(Lit.int .i64 id).wf=true):
  Calls J3 5 #[.agg k.row,.int .i64 id] w fun e w'=>e= .returned (.bool true)∧Below w.heap.size w w':=by
 have S:Hid (dg w k (w.alloc (.cells k.row 28))):=⟨Kj _ _,(Kp _ _).alloc (Ki _) _⟩
 have HB:=aA (And.intro hb hi);have HC:=aA hc;have HI:=aA hid;clear hb hc hi hid
 go_enter Tryz.func5,Tryz.ntmps5
 go_upto_region 2 with fail;generalize w.alloc (.cells k.row 28)=W0 at *;obtain ⟨m0,m1,m2,m3,m4⟩:=S.I.cells;go_wp2_with fail;clear m0 m1 m2 m3 m4;refine (Um k 1048576 W0 HB.I.1 (HC.I.below S.I.cd) (by omega) (by omega)).mono ?_;rintro e W1 ⟨r,rfl,r0,r1,hr,hb⟩;replace S:=WI S hb;clear hb;by_cases hneg:r < 0
 ·go_wp2
  go_ret;exact ⟨rfl,S.I.cd⟩
 have WX:Hid (k.yq∧k.pure.Small∧k.pure.total≤1048576):=⟨(hr (by omega)).1,Uy (hr (by omega)).1 HB.I.2,by have h5:=(hr (by omega)).2; rw [WQ] at h5; omega⟩
 clear hr;obtain ⟨ok,hok⟩: ∃ b:Bool,(abJ k.pure id).isSome=b:=⟨_,rfl⟩
 have HOK:=aA hok;clear hok;have dn:(ok != ok)=false:=by simp
 obtain ⟨YS,gn⟩: ∃ P,(abJ k.pure id).getD ZG=P:=⟨_,rfl⟩
 have HPU:=aA gn;clear gn;have HPS:Hid (YS.Small∧YS.total≤7340032):=by have h5:=acO (id:=id) WX.I.2.1; rw [HPU.I] at h5; exact ⟨h5.1,by have h6:=h5.2; have:=WX.I.2.2; omega⟩
 obtain ⟨m0,m1,m2,m3,m4⟩:=S.I.cells;go_wp2_with fail;clear m0 m1 m2 m3 m4;refine (xb k W1 WX.I.1 (HC.I.below S.I.cd)).mono ?_;rintro e W2 ⟨k2,gk2,rfl,ho,hp,hg,hb⟩;have HQ:Hid (gp W2 W1.heap.size k2∧k2.pure=k.pure∧k2.pure.Small∧(k2.vb=some ⟨gk2,0,none⟩∧gk2 < W2.heap.size)):=⟨ho,hp,by rw [hp]; exact WX.I.2.1,hg⟩
 replace S:=WI S hb;clear ho hp hg hb;go_wp2_with fail;refine (acB k2 id gk2 W2 HQ.I.2.2.1 HQ.I.2.2.2 HQ.I.1.at).mono ?_;rintro e V3 hE;rw [HQ.I.2.1] at hE;obtain ⟨k3,rfl,ho,hp,hb⟩:=hE;rw [HOK.I];have hb2:Below W2.heap.size W2 (V3.alloc (.cells k3.row 37)):=hb.alloc hb.size _;have H3:Hid (Wj (V3.alloc (.cells k3.row 37)) V3.heap.size W2.heap.size k3):=⟨Kj _ _,ho.below ((Kp _ _).alloc (Ki _) _)⟩
 have HP3:Hid (k3.pure=YS):=hp.trans HPU.I;have hz1:=(J2.1 S.I.src).1;have HR0:Hid ((∀ g∈k3.Mc,w.heap.size < g∧g < V3.heap.size)∧w.heap.size < V3.heap.size):=⟨fun g hg=>by have:=ho.lt hg; omega,by have:=hb.size; omega⟩
 clear ho hp HQ hz1;replace S:=WI S hb2;obtain ⟨m0,m1,m2,m3,m4⟩:=S.I.cells;go_upto_region 6 with fail;generalize V3.alloc (.cells k3.row 37)=W3 at *;have hxl:=(J2.1 H3.I.1).1;generalize V3.heap.size=X3 at *;have HR:Hid ((∀ g∈k3.Mc,w.heap.size < g∧g < W3.heap.size)∧w.heap.size < X3∧X3 < W3.heap.size):=⟨fun g hg=>by have:=HR0.I.1 g hg; omega,HR0.I.2,hxl⟩
 clear hb2 hb hxl HR0;clear m0 m1 m2 m3 m4;obtain ⟨m0,m1,m2,m3,m4⟩:=S.I.cells;go_wp2_with fail;clear m0 m1 m2 m3 m4;refine (xb k W3 WX.I.1 (HC.I.below S.I.cd)).mono ?_;rintro e V4 ⟨k4,g4,rfl,ho,hp,hg,hb⟩;have hb2:Below W3.heap.size W3 (V4.alloc (.cells k4.row 37)):=hb.alloc hb.size _;have H4:Hid (Wj (V4.alloc (.cells k4.row 37)) V4.heap.size W3.heap.size k4):=⟨Kj _ _,ho.below ((Kp _ _).alloc (Ki _) _)⟩
 have I2:Hid (k4.pure=k.pure∧k4.pure.Small∧(∀ g∈k4.Mc,W3.heap.size≤g∧g < V4.heap.size)∧W3.heap.size≤V4.heap.size∧(k4.vb=some ⟨g4,0,none⟩∧g4 < V4.heap.size)):=⟨hp,by rw [hp]; exact WX.I.2.1,fun g bR=>ho.lt bR,hb.size,hg⟩
 replace S:=WI S hb2;replace H3:=ZD H3 hb2;clear ho hp hg;go_upto_region 7 with fail;generalize V4.alloc (.cells k4.row 37)=W4 at *;have hxl4:=(J2.1 H4.I.1).1;generalize V4.heap.size=X4 at *;clear hb2 hb;obtain ⟨b0,b1,b2,b3,b4⟩:=H4.I.1.cells;go_wp2_with fail;clear b0 b1 b2 b3 b4;refine (ab5 k4 id g4 W3.heap.size W4 HI.I I2.I.2.1 H4.I.2 ⟨I2.I.2.2.2.2.1,by have:=I2.I.2.2.2.2.2; omega⟩).mono ?_;rintro e V5 hE;rw [I2.I.1] at hE;obtain ⟨k5,rfl,ho,hp,hb⟩:=hE;rw [HOK.I];have hb2:Below W4.heap.size W4 (V5.alloc (.cells k5.row 37)):=hb.alloc hb.size _;have H5:Hid (Wj (V5.alloc (.cells k5.row 37)) V5.heap.size W4.heap.size k5):=⟨Kj _ _,ho.below ((Kp _ _).alloc (Ki _) _)⟩
 have HP5:Hid (k5.pure=YS∧(∀ g∈k5.Mc,X4 < g∧g < V5.heap.size)∧X4 < V5.heap.size):=⟨hp.trans HPU.I,fun g hg=>by have:=ho.lt hg; omega,by have:=hb.size; omega⟩
 clear ho hp;replace S:=WI S hb2;replace H3:=ZD H3 hb2;replace H4:=ZD H4 hb2;go_upto_region 8 with fail;generalize V5.alloc (.cells k5.row 37)=W5 at *;generalize V5.heap.size=YV at *;clear hb2 hb hxl4;have HE:Hid (k3.pure=k5.pure):=HP3.I.trans HP5.I.1.symm;have HL:Hid (k5.pure.Small):=by rw [HP5.I.1]; exact HPS.I.1
 obtain ⟨u0,u1,u2,u3,u4⟩:=H5.I.1.cells;obtain ⟨v0,v1,v2,v3,v4⟩:=H3.I.1.cells;go_wp2_with fail;clear u0 u1 u2 u3 u4;clear v0 v1 v2 v3 v4;refine (Zw k5 k3 W5 HL.I HE.I H5.I.2.at H3.I.2.at).mono ?_;rintro e W6 ⟨rfl,hb⟩;replace S:=WI S hb;replace H3:=ZD H3 hb;replace H4:=ZD H4 hb;replace H5:=ZD H5 hb;clear hb;go_upto_region 10 with fail;refine Go.wp_region_held_drew (S:=fun W=>Tk W X4 k4∧dg w k W) (by kernel_rfl) ⟨H4.I.1,S.I.below (Kp _ _).drew⟩ (fun _=> ?_);have pI:Below W6.heap.size W6 W6.drew:=(Kp _ _).drew;replace S:=WI S pI;replace H3:=ZD H3 pI;replace H4:=ZD H4 pI;replace H5:=ZD H5 pI;clear pI;generalize World.drew _=V6 at *;refine tt 0 ⟨H4.I.1,S.I⟩ ?_ (hy:=fun w0 hS0=>by obtain ⟨q0,q1,q2,q3,q4⟩:=hS0.1.cells; go_simp; try with_reducible rfl);refine tt 1 ⟨H4.I.1,S.I⟩ ?_ (hy:=fun w0 hS0=>by obtain ⟨q0,q1,q2,q3,q4⟩:=hS0.2.cells; go_simp; try with_reducible rfl);refine L7 2 (fun K hK=> ?_);go_wp2_with fail;refine (xb k V6 WX.I.1 (HC.I.below S.I.cd)).mono ?_;rintro e W7 ⟨k7,g7,rfl,ho,hp,-,hb⟩;replace S:=WI S hb;replace H3:=ZD H3 hb;replace H4:=ZD H4 hb;replace H5:=ZD H5 hb;have Mb:=Zw k4 k7 W7 I2.I.2.1 (hp.trans I2.I.1.symm) H4.I.2.at ho.at;clear ho hp hb;refine hK.out _ _ ⟨H4.I.1,S.I⟩ (fun _=> ?_);clear hK K
 try simp only [pt,sb,s0,s1]
 refine L7 3 (fun K hK=> ?_);go_wp2_with fail;refine Mb.mono ?_;clear Mb;rintro e W8 ⟨rfl,hb⟩;replace S:=WI S hb;replace H3:=ZD H3 hb;replace H4:=ZD H4 hb;replace H5:=ZD H5 hb;clear hb;refine hK.out _ _ ⟨H4.I.1,S.I⟩ (fun _=> ?_);clear hK K
 try simp only [pt,sb,s0,s1]
 refine tt 4 ⟨H4.I.1,S.I⟩ ?_;refine Go.wpAnyH_done (by kernel_rfl) ?_ _;have uE:Hid (1+(V8 k4:Nat)≤(40000000:Int)):=by have h5:=WH k4; rw [I2.I.1] at h5; have h6:=WX.I.2.2; show (1:Int)+_≤_; omega
 obtain ⟨b0,b1,b2,b3,b4⟩:=H4.I.1.cells;go_wp2_with fail;clear b0 b1 b2 b3 b4;refine (Wv k4 1 W8 W3.heap.size (WK I2.I.2.1) (by omega) (by have:=uE.I; omega) H4.I.2).mono ?_;rintro e VR ⟨rfl,-,hkb⟩;have hrw:=HR.I;have hr4:=I2.I.2.2;have WU:=HP5.I.2;replace S:Hid (dg w k VR):=S.I.kept hkb fun g hm=>by have:=hr4.1 g hm; omega
 replace H3:Hid (Wj VR X3 W2.heap.size k3):=H3.I.kept hkb (fun hm=>by have:=hr4.1 _ hm; omega) (fun g hg hm=>by have:=hr4.1 g hm; have:=hrw.1 g hg; omega);replace H5:Hid (Wj VR YV W4.heap.size k5):=H5.I.kept hkb (fun hm=>by have:=hr4.1 _ hm; omega) (fun g hg hm=>by have:=hr4.1 g hm; have:=WU.1 g hg; omega);clear H4 hkb hrw hr4 WU;have nn:decide ((1:Int)+(V8 k4:Nat) < 0)=false:=decide_eq_false (by omega);obtain ⟨u0,u1,u2,u3,u4⟩:=H5.I.1.cells;obtain ⟨v0,v1,v2,v3,v4⟩:=H3.I.1.cells;go_wp2_with fail;clear u0 u1 u2 u3 u4;clear v0 v1 v2 v3 v4;clear nn;refine (Zw k5 k3 VR HL.I HE.I H5.I.2.at H3.I.2.at).mono ?_;rintro e W10 ⟨rfl,hb⟩;replace S:=WI S hb;replace H3:=ZD H3 hb;replace H5:=ZD H5 hb;clear hb;obtain ⟨u0,u1,u2,u3,u4⟩:=H5.I.1.cells;go_wp2_with fail;clear u0 u1 u2 u3 u4;have HCR:Hid (1+(V8 k5:Nat)≤(90000000:Int)):=by have h5:=WH k5; have h6:k5.pure.total≤7340032:=(by rw [HP5.I.1]; exact HPS.I.2); show (1:Int)+_≤_; omega
 refine (Wv k5 1 W10 W4.heap.size (WK HL.I) (by omega) HCR.I H5.I.2).mono ?_;rintro e Yt ⟨rfl,hmk,hkb⟩;have hrw:=HR.I;have hr4:=I2.I.2.2;have WU:=HP5.I.2;replace S:Hid (dg w k Yt):=S.I.kept hkb fun g hm=>by have:=WU.1 g hm; omega
 replace H3:Hid (Wj Yt X3 W2.heap.size k3):=H3.I.kept hkb (fun hm=>by have:=WU.1 _ hm; omega) (fun g hg hm=>by have:=WU.1 g hm; have:=hrw.1 g hg; omega);have Dk:Hid (Tk Yt YV k5):=(hkb.same _ (J2.1 H5.I.1).1 fun hm=>by have:=WU.1 _ hm; omega).trans H5.I.1;have HM:Hid (gp Yt W4.heap.size (WA 1 k5)):=hmk;clear H5 hkb hmk hrw hr4 WU;obtain ⟨u0,u1,u2,u3,u4⟩:=Dk.I.cells;go_wp2_with fail;clear u0 u1 u2 u3 u4;refine (ZK k5 1 Yt (WK HL.I) (by omega) HCR.I HM.I.at).mono ?_;rintro e ZH ⟨rfl,hb⟩;replace S:=WI S hb;replace H3:=ZD H3 hb;replace Dk:=abr Dk hb;replace HM:=abt HM hb;clear hb;have nq: ¬ (1:Int)+(V8 k5:Nat) < 0:=by omega
 have nd:((1:Int)+(V8 k5:Nat) != 1+(V8 k5:Nat))=false:=by simp
 obtain ⟨m0,m1,m2,m3,m4⟩:=S.I.cells;go_wp2_with fail;clear m0 m1 m2 m3 m4;refine (xb k ZH WX.I.1 (HC.I.below S.I.cd)).mono ?_;rintro e W13 ⟨k13,gk13,rfl,ho,hp,hg,hb⟩;have HQ:Hid (gp W13 ZH.heap.size k13∧k13.pure=k.pure∧k13.pure.Small∧(k13.vb=some ⟨gk13,0,none⟩∧gk13 < W13.heap.size)):=⟨ho,hp,by rw [hp]; exact WX.I.2.1,hg⟩
 replace S:=WI S hb;replace H3:=ZD H3 hb;replace Dk:=abr Dk hb;replace HM:=abt HM hb;clear ho hp hg hb;go_wp2_with fail;refine (ab5 k13 id gk13 ZH.heap.size W13 HI.I HQ.I.2.2.1 HQ.I.1 HQ.I.2.2.2).mono ?_;rintro e V14 hE;rw [HQ.I.2.1] at hE;obtain ⟨k14,rfl,ho,hp14,hb⟩:=hE;rw [HOK.I];have hb2:Below W13.heap.size W13 (V14.alloc (.cells k14.row 37)):=hb.alloc hb.size _;have H14:Hid (Wj (V14.alloc (.cells k14.row 37)) V14.heap.size W13.heap.size k14):=⟨Kj _ _,ho.below ((Kp _ _).alloc (Ki _) _)⟩
 have HE14:Hid (k3.pure=k14.pure):=HP3.I.trans (hp14.trans HPU.I).symm;have HL14:Hid (k14.pure.Small):=by rw [hp14.trans HPU.I]; exact HPS.I.1
 clear ho hp14 HQ;replace S:=WI S hb2;replace H3:=ZD H3 hb2;replace Dk:=abr Dk hb2;replace HM:=abt HM hb2;go_upto_region 25 with fail;generalize V14.alloc (.cells k14.row 37)=W14 at *;generalize V14.heap.size=X14 at *;clear hb2 hb;obtain ⟨u0,u1,u2,u3,u4⟩:=H14.I.1.cells;obtain ⟨v0,v1,v2,v3,v4⟩:=H3.I.1.cells;go_wp2_with fail;clear u0 u1 u2 u3 u4;clear v0 v1 v2 v3 v4;refine (Zw k14 k3 W14 HL14.I HE14.I H14.I.2.at H3.I.2.at).mono ?_;rintro e W15 ⟨rfl,hb⟩;replace S:=WI S hb;replace H3:=ZD H3 hb;replace Dk:=abr Dk hb;replace HM:=abt HM hb;clear hb;obtain ⟨u0,u1,u2,u3,u4⟩:=Dk.I.cells;go_wp2_with fail;clear u0 u1 u2 u3 u4;refine (ZK k5 1 W15 (WK HL.I) (by omega) HCR.I HM.I.at).mono ?_;rintro e W16 ⟨rfl,hb⟩;replace S:=WI S hb;replace H3:=ZD H3 hb;replace Dk:=abr Dk hb;replace HM:=abt HM hb;clear hb;go_wp2;go_ret;exact ⟨rfl,S.I.cd⟩
end
open Go.ChangeShapes Go.WideShapes Go.ChangeAt Go.RowKit
theorem Tryz.own:ownKnob Tryz.prog.godebug=none:=by kernel_rfl
theorem Tryz.laidOut:laidOutB J3=true:=by kernel_rfl
theorem acH (os:Os) (started:os.Started) (H:Type) (enc:TypeId × Value→H):
  ReturnsInHanded {} Tryz.checked os 5 .any (Rows.fnExactCarriedSpec.pre6 enc J3 Tryz.f5 Rows.fnExactCarriedRow.domain false) (Rows.fnExactCarriedSpec.post enc J3 Tryz.f5 false true false false):=by
 refine returnsInHanded_of_change (C:=Tryz.checked) Tryz.own started (by kernel_rfl) Tryz.func5
  (ChangeSpec.witness6 (enc:=enc) (C:=Tryz.checked) false ⟨#[],#[.agg #[.int .i64 0,.int .i64 0,.slice none 0 0,.slice none 0 0,.slice none 0 0],.int .i64 0],[]⟩ 8 (by kernel_rfl) (by kernel_rfl) (by kernel_rfl) (by kernel_rfl)) ?_
 intro W base args ds gs before Jk hW hcnd _;have hval: ∀ (j:Nat) t v,Tryz.f5.params[j]? =some t→args[j]? =some v→Value.okWide J3 W .any base t v:=Jk;have hW':=hW;obtain ⟨p,q,hA0,hV,rfl,hfz,hnd⟩:=hW;have hA:DataW.TrodAll enc J3 W 0 (fun _=>true) true Tryz.f5.params.toList args.toList ds p:=hA0;rw [Tryz.params5] at hA hval;obtain ⟨v0,vs0,d0,ds0,p0,q0,hargs,rfl,rfl,h0,r0⟩:=trodAll_cons hA;obtain ⟨v1,vs1,d1,ds1,p1,q1,rfl,rfl,rfl,h1,r1⟩:=trodAll_cons r0;obtain ⟨rfl,rfl,rfl⟩:=trodAll_nil r1;obtain rfl:args= #[v0,v1] :=by cases args; simp_all
 obtain ⟨rfl,rfl⟩:=trodVars_none hV;have k0:=h0;have lt0: ∀ x∈p0,x.block < W.heap.size:=by obtain ⟨m,hm⟩:=k0; exact DataW.trod_lt m _ _ _ hm
 obtain ⟨pt,rfl,hb,hc,hi⟩:=T7 (hval 0 28 v0 rfl rfl) h0;obtain ⟨id,rfl,rfl,rfl,w1⟩:=open_int KN (hval 1 2 v1 rfl rfl) h1;clear hA0 Jk;refine (acG pt id W hb hc hi w1).mono fun e W' ⟨he,cd⟩=> ?_
 subst he;exact ⟨_,rfl,_,_,_,[],_,[],hW',trodAll_mk1 (shut_bool Tryz.underlying4 _),(trodAll_cons_mk (Below.trod Tryz.laidOut (by kernel_rfl) (of_decide_eq_true (by kernel_rfl)) k0 cd lt0) (trodAll_cons_mk (shut_int KN w1) trodAll_mk0)),rfl,cd.frame _,fun h=>by cases h⟩
theorem carried_holds:Rows.FnExactCarriedSaid:=
 OpenClaim.holds_of_wide 5 Tryz.f5 rfl rfl rfl rfl rfl rfl rfl ⟨rfl,rfl,rfl,rfl,rfl⟩ rfl rfl rfl rfl rfl ack Tryz.func5 aco acn acj
  (fun os started H enc _=>acH os started H enc)
#print axioms carried_holds
end Go.Proofs.YteidkehoekbcaaaGreat
