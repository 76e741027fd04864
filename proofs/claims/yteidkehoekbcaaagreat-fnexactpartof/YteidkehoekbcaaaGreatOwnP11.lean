/- What the proof leans on, part 11. -/
import Derived.Test.YteidkehoekbcaaaGreatOwnP10
set_option maxRecDepth 100000
set_option maxHeartbeats 8000000
open Array renaming getElem?_eq_some_iff->J2
open Bool renaming and_eq_true->J7
open Go renaming heap_alloc_new->Kj,setRow_other->KH,wp_at_succ->Kd,wp_at_zero->Kc
open Go.Proofs.Tryz renaming prog->J3
open Go.RowKit.Below renaming refl->Kp
open List renaming mem_of_find?_eq_some->RG
open Nat renaming le_refl->Ki

namespace Go.Proofs.YteidkehoekbcaaaGreat
section
open Go.RowKit Go.Maps
attribute [local go_sem ↓] Kc Kd
def V7 (k:kd) (id:Int):Option aE:=if eP k then hP (fun p:aE=>p.id) id k.parts else none
theorem WJ (l:List af) (id:Int):hP (fun p:aE=>p.id) id (l.map (·.pure))=(hP (fun p:af=>p.id) id l).map (·.pure):=by
 unfold hP;rw [List.find?_map];rfl
structure VW (w:World) (k:eA) (W:World):Prop where
 ks:dr w w.heap.size k W
 I:W.heap[w.heap.size+1]? =some (.cells ar 48 (0,0))
theorem VW.below {w W W2:World} {k:eA} (h:VW w k W) (hb:Below W.heap.size W W2):VW w k W2:=⟨h.ks.below hb,(hb.block _ (J2.1 h.I).1).trans h.I⟩
theorem VW.first {w:World} {k:eA} (h:eA.At w k):VW w k ((w.alloc (.cells k.row 37)).alloc (.cells ar 48)):=
 ⟨(dr.first h).below ((Kp _ _).alloc (Ki _) _),heap_alloc2_new _ _ _⟩
theorem Wq (k:eA) (id:Int) (g:Nat) (w:World) (hf:k.Fit) (hg:k.vb=some ⟨g,0,none⟩∧g < w.heap.size) (h:eA.At w k):
  Calls J3 13 #[.agg k.row,.int .i64 id] w fun e w'=>gI w (V7 k.pure id) e w':=by
 have S:=aA (VW.first h);have HF:=aA (And.intro hf hg);clear hf hg h
 go_enter Tryz.func13,Tryz.ntmps13
 go_upto_region 1 with fail;generalize (w.alloc (.cells k.row 37)).alloc (.cells ar 48)=W0 at *;obtain ⟨m0,m1,m2,m3,m4⟩:=S.I.ks.box.cells;have Mb:=Ua k id W0 HF.I.1.sC S.I.ks.MT;go_wp2_with fail;clear m0 m1 m2 m3 m4;refine Mb.mono ?_;clear Mb;rintro e W1 ⟨rfl,hb1⟩;replace S:=aA (S.I.below hb1);clear hb1;obtain ⟨m0,m1,m2,m3,m4⟩:=S.I.ks.box.cells;have Mb:=FO k g W1 HF.I.1 ⟨HF.I.2.1,by have:=S.I.ks.low.size; have:=HF.I.2.2; omega⟩ S.I.ks.MT;go_wp2_with fail;clear m0 m1 m2 m3 m4;refine Mb.mono ?_;clear Mb;rintro e W2 ⟨rfl,hb2⟩;replace S:=aA (S.I.below hb2);clear hb2;cases hk:eP k.pure
 ·have HN:Hid (V7 k.pure id=none):=by show _=_; rw [V7,hk]; rfl
  clear hk;go_wp2_with (refine ec 4 17 ar S.I.I ?_);refine mG Tryz.results13 (.bool false) S.I.I ?_;exact ca HN.I (kz S.I.ks.low (by omega) _)
 have HK:Hid (V7 k.pure id=(hP (fun p:af=>p.id) id k.parts).map (·.pure)):=by show _=_; rw [V7,hk,if_pos rfl]; exact WJ _ _
 clear hk;rcases ua (num:=fun p:af=>p.id) id k.parts 0 with ⟨h1,h2⟩ | ⟨n,x,h1,hx,-,h2⟩
 ·have HN:Hid (V7 k.pure id=none):=by show _=_; rw [HK.I,h2]; rfl
  rw [h1];clear h1 h2 HK;go_wp2_with (refine ec 4 17 ar S.I.I ?_);refine mG Tryz.results13 (.bool false) S.I.I ?_;exact ca HN.I (kz S.I.ks.low (by omega) _)
 have HN:Hid (V7 k.pure id=some x.pure):=by show _=_; rw [HK.I,h2]; rfl
 rw [h1,Nat.zero_add];have hlt:n < k.parts.length:=(List.getElem?_eq_some_iff.1 hx).1;have i0: ¬ (n:Int) < 0:=by omega
 have i1:(n:Int) < (k.parts.length:Int):=by omega
 have i2:(0:Int)≤(n:Int):=by omega
 obtain ⟨gs,ha,⟨c0,c1,c2,c3,c4,c5,c6,c7⟩,hat⟩:=ic S.I.ks.MT.parts hx;have hfx:=HF.I.1.parts x (List.mem_of_getElem? hx);have Mb:=fR x W2 hfx.1 hfx.2 hat;obtain ⟨m0,m1,m2,m3,m4⟩:=S.I.ks.box.cells;rw [ha] at m3;clear h1 h2 hx hat ha hfx HK;unfold af.cells at Mb;go_wp2_with fail;clear m0 m1 m2 m3 m4 c0 c1 c2 c3 c4 c5 c6 c7 i0 i1 i2;refine Mb.mono ?_;clear Mb;rintro e W3 ⟨r,rfl,ho,hp,hb3⟩;have HO:Hid (ap W3 W2.heap.size r∧r.pure=x.pure∧w.heap.size+1 < W2.heap.size):=⟨ho,hp,(J2.1 S.I.I).1⟩
 replace S:=aA (S.I.below hb3);clear ho hp hb3;go_wp2_with (refine ec 4 23 (af.cells r) S.I.I ?_);refine mG Tryz.results13 (.bool true) S.I.I ?_;rw [HN.I];have hl:=HO.I.2.2;exact ⟨r,rfl,(HO.I.1.lower (by omega)).same fun b hb=>KH _ _ _ _ (by have:=(HO.I.1.lt b hb).1; omega),HO.I.2.1,kz S.I.ks.low (by omega) _⟩
theorem Ww {k:kd} (h:eP k=true): ∀ p∈k.parts,aQ p:=by
 simp only [eP,J7] at h;have key: ∀ (l:List aE) (last:Int),aw (·.id) bK last l=true→ ∀ p∈l,aQ p:=by
  intro l
  induction l with
  | nil=>intro _ _ p hp; cases hp
  | cons x r ih=>
   intro last h p hp;simp only [aw,J7] at h;rcases List.mem_cons.1 hp with rfl | hp
   ·exact (ch _).1 h.1.2
   ·exact ih _ h.2 p hp
 exact key _ _ h.1.2
theorem Wg (k:eA) (id:Int) (g base:Nat) (w:World) (hid:(Lit.int .i64 id).wf=true) (hs:k.pure.Small) (ho:gp w base k) (hg:k.vb=some ⟨g,0,none⟩∧g < w.heap.size):
  Calls J3 14 #[.agg k.row,.int .i64 id] w fun e w'=>gI w (V7 k.pure id) e w':=by
 have S:=aA (VW.first ho.at);have hz:Below w.heap.size w ((w.alloc (.cells k.row 37)).alloc (.cells ar 48)):=((Kp _ _).alloc (Ki _) _).alloc (by simp) _;have Mb:=Pq k g ((w.alloc (.cells k.row 37)).alloc (.cells ar 48)) hs (ho.at.below hz) (fun p hp=>(U7 hs ho p hp).below hz) ⟨hg.1,by have:=hz.size; omega⟩;have HI:=aA hid;clear hid hs ho hg hz
 go_enter Tryz.func14,Tryz.ntmps14
 go_upto_region 1 with fail;generalize (w.alloc (.cells k.row 37)).alloc (.cells ar 48)=W0 at *;obtain ⟨m0,m1,m2,m3,m4⟩:=S.I.ks.box.cells;go_wp2_with fail;clear m0 m1 m2 m3 m4;refine Mb.mono ?_;clear Mb;rintro e W1 ⟨hb1,⟨hno,rfl⟩ | ⟨fm,K,rfl,hK⟩⟩
 ·have HN:Hid (V7 k.pure id=none):=by show _=_; rw [V7,hno]; rfl
  replace S:=aA (S.I.below hb1);clear hno hb1;go_wp2_with (refine ec 4 16 ar S.I.I ?_);refine mG Tryz.results14 (.bool false) S.I.I ?_;exact ca HN.I (kz S.I.ks.low (by omega) _)
 obtain ⟨w1,b,tab,l,ls,a,cap,-,hPr,hl,-,-,hL,-,hlo⟩:=hK.ex;have hKM:=hL.kmap hPr;have HR:Hid (∀ p∈l,aQ p.1.pure):=fun p hp=>Ww fm _ (by rw [← hl]; exact List.mem_map.2 ⟨p,hp,rfl⟩)
 have HP:Hid (V7 k.pure id=(l.find? (fun p=>p.1.q.id == id)).map (·.1.pure)):=by
  show _=_
  rw [V7,fm,if_pos rfl,← hl];unfold hP;rw [List.find?_map]
  congr 2
 have HO:Hid (∀ p∈l,∃ base,W0.heap.size≤base∧cJ W1 base p.2 p.1):=fun p hp=>by
  obtain ⟨bs,h1,h2⟩:=(hPr.kept hL.kept).part p hp;exact ⟨bs,by omega,h2⟩
 have HW0:=aA (J2.1 S.I.I).1;replace S:=aA (S.I.below hb1);have c63:=hKM.cell;have hlk:=hKM.map.look Tryz.underlying104 (TQ W1) HI.I true;rw [Tf] at hlk;simp only [if_true] at hlk;clear fm hK hPr hl hL hlo hKM hb1 HI;cases hf:l.find? (fun p=>p.1.q.id == id) with
 | none=>
  have HN:Hid (V7 k.pure id=none):=by show _=_; rw [HP.I,hf]; rfl
  rw [hf] at hlk;simp only [Option.map_none,Option.isSome_none,qz] at hlk;clear hf HP;go_wp2_with (refine ec 4 28 ar S.I.I ?_);refine mG Tryz.results14 (.bool false) S.I.I ?_;exact ca HN.I (kz S.I.ks.low (by omega) _)
 | some q=>
  have HN:Hid (V7 k.pure id=some q.1.pure):=by show _=_; rw [HP.I,hf]; rfl
  have hm:=RG hf;obtain ⟨bs,hbs,hoa⟩:=HO.I q hm;have Mb:=jR q.2 bs q.1 W1 hoa (iB (HR.I q hm));have HB:=aA hbs;rw [hf] at hlk;simp only [Option.map_some,Option.isSome_some,qz,dt] at hlk;clear hf HP hm hbs hoa HO HR;go_wp2_with fail;clear c63 hlk;refine Mb.mono ?_;clear Mb;rintro e W2 ⟨r,rfl,ho,hp,hb2⟩;have HO:Hid (ap W2 bs r∧r.pure=q.1.pure∧w.heap.size+1 < bs):=⟨ho,hp,by have:=HW0.I; have:=HB.I; omega⟩
  replace S:=aA (S.I.below hb2);clear ho hp hb2;go_wp2_with (refine ec 4 30 (af.cells r) S.I.I ?_);refine mG Tryz.results14 (.bool true) S.I.I ?_;rw [HN.I];have hl:=HO.I.2.2;exact ⟨r,rfl,(HO.I.1.lower (by omega)).same fun b hb=>KH _ _ _ _ (by have:=(HO.I.1.lt b hb).1; omega),HO.I.2.1,kz S.I.ks.low (by omega) _⟩
end
section
open Go.RowKit
attribute [local go_sem ↓] Kc Kd
theorem Wx {k:kd} {id:Int} (h:k.Small):((V7 k id).getD cN).Small∧((V7 k id).getD cN).total≤k.total:=by
 have key:V7 k id=none∨ ∃ p∈k.parts,V7 k id=some p:=by
  unfold V7
  split
  ·cases hf:hP (fun p:aE=>p.id) id k.parts with
   | none=>exact .inl rfl
   | some p=>exact .inr ⟨p,RG hf,rfl⟩
  ·exact .inl rfl
 rcases key with e | ⟨p,hp,e⟩
 ·rw [e]
  exact ⟨hY,by show cN.total≤_; exact Nat.le_trans (by decide) (Nat.zero_le _)⟩
 ·rw [e]
  refine ⟨h.parts p hp,?_⟩
  have:=WL (c:=aE.total) hp
  show p.total≤_
  unfold kd.total;omega
theorem Ws (k:eA) (id:Int) (w:World) (hb:k.Ud) (hc:k.ep w) (hi:k.Ints) (hid:(Lit.int .i64 id).wf=true):
  Calls J3 4 #[.agg k.row,.int .i64 id] w fun e w'=>e= .returned (.bool true)∧Below w.heap.size w w':=by
 have S:Hid (dg w k (w.alloc (.cells k.row 28))):=⟨Kj _ _,(Kp _ _).alloc (Ki _) _⟩
 have HB:=aA (And.intro hb hi);have HC:=aA hc;have HI:=aA hid;clear hb hc hi hid
 go_enter Tryz.func4,Tryz.ntmps4
 go_upto_region 2 with fail;generalize w.alloc (.cells k.row 28)=W0 at *;obtain ⟨m0,m1,m2,m3,m4⟩:=S.I.cells;go_wp2_with fail;clear m0 m1 m2 m3 m4;refine (Um k 1048576 W0 HB.I.1 (HC.I.below S.I.cd) (by omega) (by omega)).mono ?_;rintro e W1 ⟨r,rfl,r0,r1,hr,hb⟩;replace S:=WI S hb;clear hb;by_cases hneg:r < 0
 ·go_wp2
  go_ret;exact ⟨rfl,S.I.cd⟩
 have WX:Hid (k.yq∧k.pure.Small∧k.pure.total≤1048576):=⟨(hr (by omega)).1,Uy (hr (by omega)).1 HB.I.2,by have h5:=(hr (by omega)).2; rw [WQ] at h5; omega⟩
 clear hr;obtain ⟨ok,hok⟩: ∃ b:Bool,(V7 k.pure id).isSome=b:=⟨_,rfl⟩
 have HOK:=aA hok;clear hok;have dn:(ok != ok)=false:=by simp
 obtain ⟨VQ,gn⟩: ∃ P,(V7 k.pure id).getD cN=P:=⟨_,rfl⟩
 have HPU:=aA gn;clear gn;have HPS:Hid (VQ.Small∧VQ.total≤1048576):=by have h5:=Wx (id:=id) WX.I.2.1; rw [HPU.I] at h5; exact ⟨h5.1,by have:=WX.I.2.2; omega⟩
 obtain ⟨m0,m1,m2,m3,m4⟩:=S.I.cells;go_wp2_with fail;clear m0 m1 m2 m3 m4;refine (xb k W1 WX.I.1 (HC.I.below S.I.cd)).mono ?_;rintro e W2 ⟨k2,gk2,rfl,ho,hp,hg,hb⟩;have HQ:Hid (gp W2 W1.heap.size k2∧k2.pure=k.pure∧k2.pure.Small∧(k2.vb=some ⟨gk2,0,none⟩∧gk2 < W2.heap.size)):=⟨ho,hp,by rw [hp]; exact WX.I.2.1,hg⟩
 replace S:=WI S hb;clear ho hp hg hb;go_wp2_with fail;refine (Wq k2 id gk2 W2 (Ug HQ.I.2.2.1) HQ.I.2.2.2 HQ.I.1.at).mono ?_;rintro e V3 hE;rw [HQ.I.2.1] at hE;obtain ⟨r3,rfl,ho,hp,hb⟩:=hE;rw [HOK.I];have hb2:Below W2.heap.size W2 (V3.alloc (.cells r3.cells 48)):=hb.alloc hb.size _;have H3:Hid (o8 (V3.alloc (.cells r3.cells 48)) V3.heap.size W2.heap.size r3):=⟨Kj _ _,ho.below ((Kp _ _).alloc (Ki _) _)⟩
 have HP3:Hid (r3.pure=VQ):=hp.trans HPU.I;have HR:Hid ((∀ g∈r3.Mc,w.heap.size < g∧g < V3.heap.size)∧w.heap.size < V3.heap.size):=by
  have h5:=(J2.1 S.I.src).1;have h6:=hb.size;exact ⟨fun g hg=>by have:=(ho.lt g hg); omega,by omega⟩
 clear ho hp HQ;replace S:=WI S hb2;obtain ⟨m0,m1,m2,m3,m4⟩:=S.I.cells;unfold af.cells at *;go_upto_region 6 with fail;generalize V3.alloc (.cells #[.int .i64 r3.id,.int .i64 r3.next,.slice r3.aN r3.L8.length r3.aW,.slice r3.bc r3.aj.length r3.bF,.slice r3.ay r3.L9.length r3.aO,.slice r3.ax r3.ag.length r3.aP,.slice r3.am r3.ae.length r3.aG,.slice r3.aK r3.ai.length r3.aV] 48)=W3 at *;have hxl:=H3.I.1.lt;generalize V3.heap.size=X3 at *;clear hb2 hb;go_wp2_with fail;clear m0 m1 m2 m3 m4;refine (xb k W3 WX.I.1 (HC.I.below S.I.cd)).mono ?_;rintro e V4 ⟨k4,g4,rfl,ho,hp,hg,hb⟩;have hb2:Below W3.heap.size W3 (V4.alloc (.cells k4.row 37)):=hb.alloc hb.size _;have H4:Hid (Wj (V4.alloc (.cells k4.row 37)) V4.heap.size W3.heap.size k4):=⟨Kj _ _,ho.below ((Kp _ _).alloc (Ki _) _)⟩
 have I2:Hid (k4.pure=k.pure∧k4.pure.Small∧(∀ g∈k4.Mc,X3 < g∧g < V4.heap.size)∧X3 < V4.heap.size∧(k4.vb=some ⟨g4,0,none⟩∧g4 < (V4.alloc (.cells k4.row 37)).heap.size)):=⟨hp,by rw [hp]; exact WX.I.2.1,fun g bR=>by have:=ho.lt bR; omega,by have:=hb.size; omega,hg.1,by have h5:Below V4.heap.size V4 (V4.alloc (.cells k4.row 37)):=(Kp _ _).alloc (Ki _) _; have:=h5.size; omega⟩
 replace S:=WI S hb2;replace H3:=Wd H3 hb2;clear ho hp hg;go_upto_region 7 with fail;generalize V4.alloc (.cells k4.row 37)=W4 at *;have hxl4:=(J2.1 H4.I.1).1;generalize V4.heap.size=X4 at *;clear hb2 hb hxl;obtain ⟨b0,b1,b2,b3,b4⟩:=H4.I.1.cells;go_wp2_with fail;clear b0 b1 b2 b3 b4;refine (Wg k4 id g4 W3.heap.size W4 HI.I I2.I.2.1 H4.I.2 I2.I.2.2.2.2).mono ?_;rintro e V5 hE;rw [I2.I.1] at hE;obtain ⟨r5,rfl,ho,hp,hb⟩:=hE;rw [HOK.I];have hb2:Below W4.heap.size W4 (V5.alloc (.cells r5.cells 48)):=hb.alloc hb.size _;have H5:Hid (o8 (V5.alloc (.cells r5.cells 48)) V5.heap.size W4.heap.size r5):=⟨Kj _ _,ho.below ((Kp _ _).alloc (Ki _) _)⟩
 have HP5:Hid (r5.pure=VQ∧(∀ g∈r5.Mc,X4 < g∧g < V5.heap.size)∧X4 < V5.heap.size):=⟨hp.trans HPU.I,fun g hg=>by have:=ho.lt g hg; omega,by have:=hb.size; omega⟩
 clear ho hp hxl4;replace S:=WI S hb2;replace H3:=Wd H3 hb2;replace H4:=upK H4 hb2;unfold af.cells at *;go_upto_region 8 with fail;generalize V5.alloc (.cells #[.int .i64 r5.id,.int .i64 r5.next,.slice r5.aN r5.L8.length r5.aW,.slice r5.bc r5.aj.length r5.bF,.slice r5.ay r5.L9.length r5.aO,.slice r5.ax r5.ag.length r5.aP,.slice r5.am r5.ae.length r5.aG,.slice r5.aK r5.ai.length r5.aV] 48)=W5 at *;generalize V5.heap.size=X5 at *;clear hb2 hb;have HE:Hid (r3.pure=r5.pure):=HP3.I.trans HP5.I.1.symm;have HL:Hid (r5.pure.Small):=by rw [HP5.I.1]; exact HPS.I.1
 obtain ⟨u0,u1,u2,u3,u4,u5,u6,u7⟩:=H5.I.1.cells;obtain ⟨v0,v1,v2,v3,v4,v5,v6,v7⟩:=H3.I.1.cells;go_wp2_with fail;clear u0 u1 u2 u3 u4 u5 u6 u7;clear v0 v1 v2 v3 v4 v5 v6 v7;refine (Vb r5 r3 W5 HL.I HE.I H5.I.2.at H3.I.2.at).mono ?_;rintro e W6 ⟨rfl,hb⟩;replace S:=WI S hb;replace H3:=Wd H3 hb;replace H4:=upK H4 hb;replace H5:=Wd H5 hb;clear hb;go_upto_region 10 with fail;refine wp_region_held_drew (S:=fun W=>Tk W X4 k4∧dg w k W) (by kernel_rfl) ⟨H4.I.1,S.I.below (Kp _ _).drew⟩ (fun _=> ?_);have pI:Below W6.heap.size W6 W6.drew:=(Kp _ _).drew;replace S:=WI S pI;replace H3:=Wd H3 pI;replace H4:=upK H4 pI;replace H5:=Wd H5 pI;clear pI;generalize World.drew _=V at *;refine tt 0 ⟨H4.I.1,S.I⟩ ?_ (hy:=fun w0 hS0=>by obtain ⟨q0,q1,q2,q3,q4⟩:=hS0.1.cells; go_simp; try with_reducible rfl);refine tt 1 ⟨H4.I.1,S.I⟩ ?_ (hy:=fun w0 hS0=>by obtain ⟨q0,q1,q2,q3,q4⟩:=hS0.2.cells; go_simp; try with_reducible rfl);refine L7 2 (fun K hK=> ?_);go_wp2_with fail;refine (xb k V WX.I.1 (HC.I.below S.I.cd)).mono ?_;rintro e W7 ⟨k7,g7,rfl,ho,hp,-,hb⟩;replace S:=WI S hb;replace H3:=Wd H3 hb;replace H4:=upK H4 hb;replace H5:=Wd H5 hb;have Mb:=Uj k4 k7 W7 I2.I.2.1.Ts (by have:=I2.I.2.1.sC; simpa [eA.pure] using this) I2.I.2.1.w8 (fun x hx=>pC I2.I.2.1 hx) (hp.trans I2.I.1.symm) H4.I.2.at ho.at;clear ho hp hb;refine hK.out _ _ ⟨H4.I.1,S.I⟩ (fun _=> ?_);clear hK K
 try simp only [pt,sb,s0,s1]
 refine L7 3 (fun K hK=> ?_);go_wp2_with fail;refine Mb.mono ?_;clear Mb;rintro e W8 ⟨rfl,hb⟩;replace S:=WI S hb;replace H3:=Wd H3 hb;replace H4:=upK H4 hb;replace H5:=Wd H5 hb;clear hb;refine hK.out _ _ ⟨H4.I.1,S.I⟩ (fun _=> ?_);clear hK K
 try simp only [pt,sb,s0,s1]
 refine tt 4 ⟨H4.I.1,S.I⟩ ?_;refine wpAnyH_done (by kernel_rfl) ?_ _;have uE:Hid (1+(V8 k4:Nat)≤(90000000:Int)):=by have h5:=WH k4; rw [I2.I.1] at h5; have h6:=WX.I.2.2; show (1:Int)+_≤_; omega
 obtain ⟨b0,b1,b2,b3,b4⟩:=H4.I.1.cells;go_wp2_with fail;clear b0 b1 b2 b3 b4;refine (Wv k4 1 W8 W3.heap.size (WK I2.I.2.1) (by omega) uE.I H4.I.2).mono ?_;rintro e VR ⟨rfl,-,hkb⟩;have hrw:=HR.I;have hr4:=I2.I.2.2;have WU:=HP5.I.2;replace S:Hid (dg w k VR):=S.I.kept hkb fun g hm=>by have:=hr4.1 g hm; omega
 replace H3:Hid (o8 VR X3 W2.heap.size r3):=H3.I.kept hkb (fun hm=>by have:=hr4.1 _ hm; omega) (fun g hg hm=>by have:=hr4.1 g hm; have:=hrw.1 g hg; omega);replace H5:Hid (o8 VR X5 W4.heap.size r5):=H5.I.kept hkb (fun hm=>by have:=hr4.1 _ hm; omega) (fun g hg hm=>by have:=hr4.1 g hm; have:=WU.1 g hg; omega);clear H4 hkb hrw hr4 WU;have nn:decide ((1:Int)+(V8 k4:Nat) < 0)=false:=decide_eq_false (by omega);obtain ⟨u0,u1,u2,u3,u4,u5,u6,u7⟩:=H5.I.1.cells;obtain ⟨v0,v1,v2,v3,v4,v5,v6,v7⟩:=H3.I.1.cells;go_wp2_with fail;clear u0 u1 u2 u3 u4 u5 u6 u7;clear v0 v1 v2 v3 v4 v5 v6 v7;clear nn;refine (Vb r5 r3 VR HL.I HE.I H5.I.2.at H3.I.2.at).mono ?_;rintro e W10 ⟨rfl,hb⟩;replace S:=WI S hb;replace H3:=Wd H3 hb;replace H5:=Wd H5 hb;clear hb;obtain ⟨u0,u1,u2,u3,u4,u5,u6,u7⟩:=H5.I.1.cells;go_wp2_with fail;clear u0 u1 u2 u3 u4 u5 u6 u7;have HCR:Hid (1+(fb r5:Nat)≤(90000000:Int)):=by have h5:=Wy r5; have h6:r5.pure.total≤1048576:=(by rw [HP5.I.1]; exact HPS.I.2); show (1:Int)+_≤_; omega
 refine (WG r5 1 W10 W4.heap.size (Wh HL.I) (by omega) HCR.I H5.I.2).mono ?_;rintro e W11 ⟨rfl,hmk,hkb⟩;have hrw:=HR.I;have hr4:=I2.I.2.2;have WU:=HP5.I.2;replace S:Hid (dg w k W11):=S.I.kept hkb fun g hm=>by have:=WU.1 g hm; omega
 replace H3:Hid (o8 W11 X3 W2.heap.size r3):=H3.I.kept hkb (fun hm=>by have:=WU.1 _ hm; omega) (fun g hg hm=>by have:=WU.1 g hm; have:=hrw.1 g hg; omega);have Dk:Hid (av W11 X5 r5):=(hkb.same _ H5.I.1.lt fun hm=>by have:=WU.1 _ hm; omega).trans H5.I.1;have HM:Hid (ap W11 W4.heap.size (nF 1 r5)):=hmk;clear H5 hkb hmk hrw hr4 WU;obtain ⟨u0,u1,u2,u3,u4,u5,u6,u7⟩:=Dk.I.cells;go_wp2_with fail;clear u0 u1 u2 u3 u4 u5 u6 u7;refine (Wr r5 1 W11 (Wh HL.I) (by omega) HCR.I HM.I.at).mono ?_;rintro e W12 ⟨rfl,hb⟩;replace S:=WI S hb;replace H3:=Wd H3 hb;replace Dk:=WS Dk hb;replace HM:=WT HM hb;clear hb;have nq: ¬ (1:Int)+(fb r5:Nat) < 0:=by omega
 have nd:((1:Int)+(fb r5:Nat) != 1+(fb r5:Nat))=false:=by simp
 obtain ⟨m0,m1,m2,m3,m4⟩:=S.I.cells;go_wp2_with fail;clear m0 m1 m2 m3 m4;refine (xb k W12 WX.I.1 (HC.I.below S.I.cd)).mono ?_;rintro e W13 ⟨k13,gk13,rfl,ho,hp,hg,hb⟩;have HQ:Hid (gp W13 W12.heap.size k13∧k13.pure=k.pure∧k13.pure.Small∧(k13.vb=some ⟨gk13,0,none⟩∧gk13 < W13.heap.size)):=⟨ho,hp,by rw [hp]; exact WX.I.2.1,hg⟩
 replace S:=WI S hb;replace H3:=Wd H3 hb;replace Dk:=WS Dk hb;replace HM:=WT HM hb;clear ho hp hg hb;go_wp2_with fail;refine (Wg k13 id gk13 W12.heap.size W13 HI.I HQ.I.2.2.1 HQ.I.1 HQ.I.2.2.2).mono ?_;rintro e V14 hE;rw [HQ.I.2.1] at hE;obtain ⟨Wn,rfl,ho,hp14,hb⟩:=hE;rw [HOK.I];have hb2:Below W13.heap.size W13 (V14.alloc (.cells Wn.cells 48)):=hb.alloc hb.size _;have H14:Hid (o8 (V14.alloc (.cells Wn.cells 48)) V14.heap.size W13.heap.size Wn):=⟨Kj _ _,ho.below ((Kp _ _).alloc (Ki _) _)⟩
 have HE14:Hid (r3.pure=Wn.pure):=HP3.I.trans (hp14.trans HPU.I).symm;have HL14:Hid (Wn.pure.Small):=by rw [hp14.trans HPU.I]; exact HPS.I.1
 clear ho hp14 HQ;replace S:=WI S hb2;replace H3:=Wd H3 hb2;replace Dk:=WS Dk hb2;replace HM:=WT HM hb2;unfold af.cells at *;go_upto_region 25 with fail;generalize V14.alloc (.cells #[.int .i64 Wn.id,.int .i64 Wn.next,.slice Wn.aN Wn.L8.length Wn.aW,.slice Wn.bc Wn.aj.length Wn.bF,.slice Wn.ay Wn.L9.length Wn.aO,.slice Wn.ax Wn.ag.length Wn.aP,.slice Wn.am Wn.ae.length Wn.aG,.slice Wn.aK Wn.ai.length Wn.aV] 48)=W14 at *;generalize V14.heap.size=X14 at *;clear hb2 hb;obtain ⟨u0,u1,u2,u3,u4,u5,u6,u7⟩:=H14.I.1.cells;obtain ⟨v0,v1,v2,v3,v4,v5,v6,v7⟩:=H3.I.1.cells;go_wp2_with fail;clear u0 u1 u2 u3 u4 u5 u6 u7;clear v0 v1 v2 v3 v4 v5 v6 v7;refine (Vb Wn r3 W14 HL14.I HE14.I H14.I.2.at H3.I.2.at).mono ?_;rintro e W15 ⟨rfl,hb⟩;replace S:=WI S hb;replace H3:=Wd H3 hb;replace Dk:=WS Dk hb;replace HM:=WT HM hb;clear hb;obtain ⟨u0,u1,u2,u3,u4,u5,u6,u7⟩:=Dk.I.cells;go_wp2_with fail;clear u0 u1 u2 u3 u4 u5 u6 u7;refine (Wr r5 1 W15 (Wh HL.I) (by omega) HCR.I HM.I.at).mono ?_;rintro e W16 ⟨rfl,hb⟩;replace S:=WI S hb;replace H3:=Wd H3 hb;replace Dk:=WS Dk hb;replace HM:=WT HM hb;clear hb;go_wp2;go_ret;exact ⟨rfl,S.I.cd⟩
end
end Go.Proofs.YteidkehoekbcaaaGreat
