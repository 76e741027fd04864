/- What the proof leans on, part 17. -/
import Derived.Test.YteidkehoekbcaaaGreatOwnS16
set_option maxRecDepth 100000
set_option maxHeartbeats 8000000
open Array renaming getElem?_eq_some_iff->J2
open Go renaming setRow_other->KH,wp_at_succ->Kd,wp_at_zero->Kc
open Go.Proofs.Tryz renaming prog->J3,results28->RM
open Go.RowKit.Below renaming refl->Kp
open List renaming getElem?_eq_some_iff->Lj,length_set->LI,mem_append_left->Lz,mem_append_right->Ly,mem_or_eq_of_mem_set->PO
open Nat renaming le_refl->Ki,zero_add->Li,zero_le->Ky

namespace Go.Proofs.YteidkehoekbcaaaGreat
section
open Go.RowKit Go.Maps
attribute [local go_sem ↓] Kc Kd
theorem Zm (k:eA) (p:af) (g:Nat) (w:World) (hs:k.pure.Small) (hps:p.pure.Small) (hg:k.vb=some ⟨g,0,none⟩∧g < w.heap.size) (h:eA.At w k) (hp:af.At w p):
  Calls J3 28 #[.agg k.row,.agg p.cells] w fun e w'=>KRes w (Zl k.pure p.pure) e w':=by
 have S:=aA (YW.first h hp);have WX:=aA (And.intro hs hps);have HF:Hid (k.Fit∧(p.Fit∧ ∀ x∈p.L8,x.dX)∧(k.vb=some ⟨g,0,none⟩∧g < w.heap.size)):=⟨Ug hs,⟨dV hps,fun x hx=>(cY hps hx).1⟩,hg⟩
 clear hs hps hg h hp
 go_enter Tryz.func28,Tryz.ntmps28
 go_upto_region 1 with fail;generalize ((w.alloc (.cells k.row 37)).alloc (.cells p.cells 48)).alloc (.cells T9 37)=W0 at *;obtain ⟨m0,m1,m2,m3,m4⟩:=S.I.ks.box.cells;obtain ⟨q0,-,-,-,-,-,-,-⟩:=S.I.pb.cells;have Mb:=Ua k p.id W0 HF.I.1.sC S.I.ks.MT;go_wp2_with fail;clear m0 m1 m2 m3 m4 q0;refine Mb.mono ?_;clear Mb;rintro e W1 ⟨rfl,hb1⟩;replace S:=aA (S.I.below hb1);clear hb1;obtain ⟨m0,m1,m2,m3,m4⟩:=S.I.ks.box.cells;have Mb:=FO k g W1 HF.I.1 ⟨HF.I.2.2.1,by have:=S.I.ks.low.size; have:=HF.I.2.2.2; omega⟩ S.I.ks.MT;go_wp2_with fail;clear m0 m1 m2 m3 m4;refine Mb.mono ?_;clear Mb;rintro e W2 ⟨rfl,hb2⟩;replace S:=aA (S.I.below hb2);clear hb2;cases hk:eP k.pure
 ·have HN:Hid (Zl k.pure p.pure=none):=aan hk
  clear hk;go_wp2_with (refine stK 4 24 T9 S.I.ret ?_);refine aaf RM (.bool false) S.I.ret ?_;exact Zv HN.I (kz S.I.ks.low (by omega) _)
 have HK:=aA hk;clear hk;rcases ua (num:=fun p:af=>p.id) p.id k.parts 0 with ⟨h1,h2⟩ | ⟨n,x,h1,hx,-,h2⟩
 ·have HN:Hid (Zl k.pure p.pure=none):=aav (Zo.symm.trans h1)
  rw [h1];clear h1 h2 HK;go_wp2_with (refine stK 4 24 T9 S.I.ret ?_);refine aaf RM (.bool false) S.I.ret ?_;exact Zv HN.I (kz S.I.ks.low (by omega) _)
 rw [Li] at h1;have HA:Hid (swapAt k.pure p.pure=(n:Nat)∧k.parts[n]? =some x):=⟨Zo.symm.trans h1,hx⟩
 rw [h1];have hlt:n < k.parts.length:=(Lj.1 hx).1;have HL:=aA hlt;have i0: ¬ (n:Int) < 0:=by omega
 clear h1 h2 hx hlt;obtain ⟨q0,q1,q2,q3,q4,q5,q6,q7⟩:=S.I.pb.cells;have Mb:=eV p W2 HF.I.2.1.1 HF.I.2.1.2 S.I.pat;unfold af.cells at Mb;go_wp2_with fail;clear q0 q1 q2 q3 q4 q5 q6 q7;refine Mb.mono ?_;clear Mb;rintro e W3 ⟨rfl,hb3⟩;replace S:=aA (S.I.below hb3);clear hb3;cases hpb:bK p.pure
 ·have HN:Hid (Zl k.pure p.pure=none):=ZY HA.I.1 (abm (by simpa [eA.pure] using HL.I) hpb)
  clear hpb i0;go_wp2_with (refine stK 4 24 T9 S.I.ret ?_);refine aaf RM (.bool false) S.I.ret ?_;exact Zv HN.I (kz S.I.ks.low (by omega) _)
 clear hpb i0;obtain ⟨m0,m1,m2,m3,m4⟩:=S.I.ks.box.cells;have Mb:=aaz k W3 HF.I.1 S.I.ks.MT;go_wp2_with fail;clear m0 m1 m2 m3 m4;refine Mb.mono ?_;clear Mb;rintro e W4 ⟨k4,g4,rfl,ho4,hp4,hg4,hb4⟩;have hb:Below W3.heap.size W3 (W4.alloc (.cells k4.row 37)):=hb4.alloc hb4.size _;have HO:Hid (gp (W4.alloc (.cells k4.row 37)) W3.heap.size k4∧Tk (W4.alloc (.cells k4.row 37)) W4.heap.size k4∧W4.heap.size∉k4.Mc∧W3.heap.size≤W4.heap.size∧g4 < W4.heap.size):=⟨ho4.below ((Kp _ _).alloc (Ki _) _),heap_alloc_new _ _,fun hm=>by have:=(ho4.lt hm).2; omega,hb4.size,hg4.2⟩
 have HP:Hid (k4.pure=k.pure∧k4.vb=some ⟨g4,0,none⟩):=⟨hp4,hg4.1⟩
 have HR:Hid (w.heap.size+2 < W3.heap.size):=(J2.1 S.I.ret).1;replace S:=aA (S.I.below hb);clear ho4 hp4 hg4 hb4 hb;go_upto_region 5 with fail;generalize W4.alloc (.cells k4.row 37)=W5 at *;generalize W4.heap.size=X at *;obtain ⟨x4,hx4⟩: ∃ x4,k4.parts[n]? =some x4:=by
  have h5:=congrArg (fun q:kd=>q.parts.length) HP.I.1;simp only [eA.pure,List.length_map] at h5;exact ⟨_,List.getElem?_eq_getElem (by have:=HL.I; omega)⟩
 obtain ⟨gr,hgr,-,hgrl,-,-⟩:=Zz x4 HO.I.1.parts hx4;have hl4:n < k4.parts.length:=(Lj.1 hx4).1;have i1:(n:Int) < (k4.parts.length:Int):=by omega
 have i2:(0:Int)≤(n:Int):=by omega
 have HX4:Hid (k4.parts[n]? =some x4∧k4.qn=some ⟨gr,0,none⟩∧gr < W5.heap.size):=⟨hx4,hgr,hgrl⟩
 clear hx4 hgr hgrl hl4;refine ZN (fun a0 a' w'=> ∃ (e0 e1 e2 e3 e4 e5:Value) (y:af) (V:World),a'=Zk a0 [(27,e0),(28,e1),(29,e2),(30,e3),(31,e4),(32,e5)] ∧ap V W5.heap.size y∧y.pure=p.pure∧Below W5.heap.size W5 V∧w'=bn V gr (n * 8) (kp.vals y)) ?_ ?_
 ·have HS:Hid (Tk W5.drew X k4∧av W5.drew (w.heap.size+1) p):=⟨HO.I.2.1,S.I.pb⟩
  refine wp_region_held_drew (S:=fun W=>Tk W X k4∧av W (w.heap.size+1) p) (by kernel_rfl) HS.I (fun _=> ?_);have HSD:Hid (af.At W5.drew p∧Below W5.heap.size W5 W5.drew):=⟨(S.I.pat.below ((Kp _ _).drew)),(Kp _ _).drew⟩
  have HZ:Hid (W5.drew.heap.size=W5.heap.size):=rfl;generalize W5.drew=YI at *;refine tt 0 HS.I ?_;refine tt 1 HS.I ?_ (hy:=fun w0 hS0=>by obtain ⟨m0,m1,m2,m3,m4⟩:=hS0.1.cells; rw [HX4.I.2.1] at m3; go_simp; try with_reducible rfl);refine tt 2 HS.I ?_;refine tt 3 HS.I ?_ (hy:=fun w0 hS0=>by obtain ⟨q0,q1,q2,q3,q4,q5,q6,q7⟩:=hS0.2.cells; go_simp; try with_reducible rfl)
  try simp only [pt,sb,s0,s1]
  refine L7 4 (fun Q hQ=> ?_);have Mb:=fR p YI HF.I.2.1.1 HF.I.2.1.2 HSD.I.1;unfold af.cells at Mb;go_wp2_with fail;refine Mb.mono ?_;clear Mb;rintro e V ⟨y,rfl,hoy,hpy,hby⟩;rw [HZ.I] at hoy;have hxl:=(J2.1 HS.I.1).1;have HY:Hid (ap V W5.heap.size y∧y.pure=p.pure∧Below W5.heap.size W5 V∧Tk V X k4∧av V (w.heap.size+1) p):=⟨hoy,hpy,HSD.I.2.trans (hby.mono HSD.I.2.size),(hby.block _ hxl).trans HS.I.1,HS.I.2.below hby⟩
  clear hoy hpy hby hxl;refine hQ.out _ _ HY.I.2.2.2 (fun _=> ?_);clear hQ Q
  try simp only [pt,sb,s0,s1]
  refine tt 5 HY.I.2.2.2 ?_;refine L7 6 (fun Q hQ=> ?_);obtain ⟨g',hg',-,-,hcell,-⟩:=Zz y (cR HO.I.1.parts HY.I.2.2.1) HX4.I.1;rw [HX4.I.2.1] at hg';cases hg';have hne1:X≠gr:=fun e=>HO.I.2.2.1 (by rw [e]; exact Ly _ (Lz _ (by rw [HX4.I.2.1]; simp [blk])))
  have hne2:w.heap.size+1≠gr:=fun e=>by
   have h5:=(HO.I.1.lt (Ly _ (Lz _ (by rw [HX4.I.2.1]; simp [blk])):gr∈k4.Mc)).1
   have:=HR.I
   omega
  have HV:Hid (Tk (bn V gr (n * 8) (kp.vals y)) X k4∧av (bn V gr (n * 8) (kp.vals y)) (w.heap.size+1) p):=⟨(de _ hne1).trans HY.I.2.2.2.1,(de _ hne2).trans HY.I.2.2.2.2⟩
  refine wp_store_mid 48 _ _ rfl gr (n * 8) y.cells rfl rfl hcell (by kernel_rfl) (by kernel_rfl) ?_;rw [iL];refine hQ.out _ _ HV.I (fun _=> ?_);clear hQ Q;refine wpAnyH_done (by kernel_rfl) ?_ _;exact ⟨_,_,_,_,_,_,y,V,by simp only [Zk,pt,sb,s0,s1]; rfl,HY.I.1,HY.I.2.1,HY.I.2.2.1,rfl⟩
 ·rintro a' W6 ⟨e0,e1,e2,e3,e4,e5,y,V,rfl,hoy,hpy,hbV,hW6⟩
  simp only [Zk,pt,sb,s0,s1];have bR:gr∈k4.Mc:=Ly _ (Lz _ (by rw [HX4.I.2.1]; simp [blk]));have hgr:=HO.I.1.lt bR;have hot: ∀ q,q≠gr→W6.heap[q]? =V.heap[q]? :=fun q hq=>by rw [hW6]; exact de _ hq
  have hsz:W6.heap.size=V.heap.size:=by rw [hW6]; exact fH _
  have hz5:=hbV.size;have hown:gp W6 W3.heap.size (k4.put n y k4.qn k4.sa):=by
   rw [hW6];exact (HO.I.1.below hbV).put HX4.I.1 HX4.I.2.1 (hoy.lower (by omega)) fun b hb hm=>by have:=(hoy.lt b hb).1; have:=(HO.I.1.lt hm).2; omega
  have HN:Hid (gp W6 W3.heap.size (k4.put n y k4.qn k4.sa)∧(k4.put n y k4.qn k4.sa).pure=k.pure.put n p.pure):=⟨hown,by rw [aai,HP.I.1,hpy]⟩
  have hxr:X≠gr:=fun e=>HO.I.2.2.1 (by rw [e]; exact bR)
  have hxl:=(J2.1 HO.I.2.1).1;have HB6:Hid (Tk W6 X (k4.put n y k4.qn k4.sa)):=by
   show W6.heap[X]? =_
   rw [hot X hxr,hbV.block X hxl,HO.I.2.1,aaJ]
  have HRT:Hid (W6.heap[w.heap.size+2]? =some (.cells T9 37 (0,0))∧Below w.heap.size w W6):=by
   have h5:=HR.I;refine ⟨(hot _ (by omega)).trans ((hbV.block _ (J2.1 S.I.ret).1).trans S.I.ret),?_⟩;rw [hW6];exact eU _ (by omega) (S.I.ks.low.trans (hbV.mono S.I.ks.low.size))
  have HG6:Hid (g4 < W6.heap.size):=by have:=HO.I.2.2.2.2; show g4 < _; omega
  clear hoy hpy hbV hW6 bR hgr hot hsz hz5 hown hxr hxl;have HS6:Hid ((k4.put n y k4.qn k4.sa).pure.Small∧(k4.put n y k4.qn k4.sa).vb=some ⟨g4,0,none⟩):=⟨by rw [HN.I.2]; exact ZP WX.I.1 WX.I.2,HP.I.2⟩
  generalize k4.put n y k4.qn k4.sa=k6 at *;obtain ⟨m0,m1,m2,m3,m4⟩:=HB6.I.cells;have Mb:=FO k6 g4 W6 (Ug HS6.I.1) ⟨HS6.I.2,HG6.I⟩ HN.I.1.at;rw [HN.I.2] at Mb;go_wp2_with fail;clear m0 m1 m2 m3 m4;refine Mb.mono ?_;clear Mb;rintro e W7 ⟨rfl,gh⟩;have aaR:Hid (W7.heap[w.heap.size+2]? =some (.cells T9 37 (0,0))∧Below w.heap.size w W7):=⟨(gh.block _ (J2.1 HRT.I.1).1).trans HRT.I.1,HRT.I.2.trans (gh.mono HRT.I.2.size)⟩
  have HB7:Hid (Tk W7 X k6):=(gh.block _ (J2.1 HB6.I).1).trans HB6.I;have HN7:=aA (HN.I.1.below gh);clear gh HB6 HRT HG6;cases hkb:eP (k.pure.put n p.pure)
  ·have HZ:Hid (Zl k.pure p.pure=none):=ZY HA.I.1 hkb
   clear hkb;go_wp2_with (refine stK 4 36 T9 aaR.I.1 ?_);refine aaf RM (.bool false) aaR.I.1 ?_;exact Zv HZ.I (kz aaR.I.2 (by omega) _)
  ·have HZ:Hid (Zl k.pure p.pure=some (k.pure.put n p.pure)):=aak HK.I HA.I.1 hkb
   clear hkb;obtain ⟨m0,m1,m2,m3,m4⟩:=HB7.I.cells;go_wp2_with (refine stK 4 37 k6.row aaR.I.1 ?_);refine aaf RM (.bool true) aaR.I.1 ?_;rw [HZ.I];have hr:=HR.I;exact ⟨k6,rfl,(HN7.I.lower (by omega)).same fun b hb=>KH _ _ _ _ (by have:=(HN7.I.lt hb).1; omega),HN.I.2,kz aaR.I.2 (by omega) _⟩
theorem aa3 {k:eA} {p:af} :M2 (fun q:af=>decide (q.id=p.id)) k.parts=swapAt k.pure p.pure:=by
 rw [← Zo,Z6];by_cases h:M2 (fun q:af=>decide (q.id=p.id)) k.parts < 0
 ·rw [if_pos h]
  have key: ∀ l:List af,M2 (fun q:af=>decide (q.id=p.id)) l= -1∨0≤M2 (fun q:af=>decide (q.id=p.id)) l:=by
   intro l
   induction l with
   | nil=>exact .inl rfl
   | cons x r ih=>
    simp only [M2]
    split
    ·exact .inr (Int.le_refl _)
    ·rcases ih with h5 | h5
     ·rw [if_pos (by omega)]; exact .inl rfl
     ·rw [if_neg (by omega)]; exact .inr (by omega)
  rcases key k.parts with h5 | h5
  ·exact h5
  ·omega
 ·rw [if_neg h]; simp
theorem Zi (k:eA) (p:af) (g base:Nat) (w:World) (hs:k.pure.Small) (hps:p.pure.Small) (ho:gp w base k) (hop:ap w base p) (hg:k.vb=some ⟨g,0,none⟩∧g < w.heap.size):
  Calls J3 30 #[.agg k.row,.agg p.cells] w fun e w'=>KRes w (Zl k.pure p.pure) e w':=by
 have S:=aA (YW.first ho.at hop.at);have WX:=aA (And.intro hs hps);have HO:Hid (gp w base k∧ap w base p∧(k.vb=some ⟨g,0,none⟩∧g < w.heap.size)):=⟨ho,hop,hg⟩
 clear hs hps hg ho hop
 go_enter Tryz.func30,Tryz.ntmps30
 go_upto_region 1 with fail;generalize ((w.alloc (.cells k.row 37)).alloc (.cells p.cells 48)).alloc (.cells T9 37)=W0 at *;obtain ⟨m0,m1,m2,m3,m4⟩:=S.I.ks.box.cells;have Mb:=TF k g base W0 WX.I.1 (HO.I.1.below S.I.ks.low) ⟨HO.I.2.2.1,by have:=S.I.ks.low.size; have:=HO.I.2.2.2; omega⟩;go_wp2_with fail;clear m0 m1 m2 m3 m4;refine Mb.mono ?_;clear Mb;rintro e W1 ⟨rfl,hb1⟩;replace S:=aA (S.I.below hb1);clear hb1;cases hk:eP k.pure
 ·have HN:Hid (Zl k.pure p.pure=none):=aan hk
  clear hk;go_wp2_with (refine stK 4 12 T9 S.I.ret ?_);refine aaf Tryz.results30 (.bool false) S.I.ret ?_;exact Zv HN.I (kz S.I.ks.low (by omega) _)
 have HK:=aA hk;clear hk;have hnp:k.parts.length≤1048576:=by have:=WX.I.1.sC; simpa [eA.pure] using this
 have HNP:=aA hnp;clear hnp;obtain ⟨m0,m1,m2,m3,m4⟩:=S.I.ks.box.cells;have Mb:=aax k.qn k.parts k.sa (w.heap.size+1) p W1 HNP.I S.I.ks.MT.parts S.I.pb;rw [aa3] at Mb;go_wp2_with fail;clear m0 m1 m2 m3 m4;refine Mb.mono ?_;clear Mb;rintro e W2 ⟨rfl,hb2⟩;replace S:=aA (S.I.below hb2);clear hb2;rcases ua (num:=fun p:af=>p.id) p.id k.parts 0 with ⟨h1,h2⟩ | ⟨n,x,h1,hx,-,h2⟩
 ·have HN:Hid (Zl k.pure p.pure=none):=aav (Zo.symm.trans h1)
  rw [Zo] at h1;rw [h1];clear h1 h2 HK;go_wp2_with (refine stK 4 19 T9 S.I.ret ?_);refine aaf Tryz.results30 (.bool false) S.I.ret ?_;exact Zv HN.I (kz S.I.ks.low (by omega) _)
 rw [Li,Zo] at h1;have HA:Hid (swapAt k.pure p.pure=(n:Nat)∧k.parts[n]? =some x):=⟨h1,hx⟩
 rw [h1];have hlt:n < k.parts.length:=(Lj.1 hx).1;have i0: ¬ (n:Int) < 0:=by omega
 have i1:(n:Int) < (k.parts.length:Int):=by omega
 have i2:(0:Int)≤(n:Int):=by omega
 clear h1 h2 hx hlt;obtain ⟨m0,m1,m2,m3,m4⟩:=S.I.ks.box.cells;have Mb:=ZW k.qn k.parts k.sa W2 HNP.I S.I.ks.MT.parts.1;go_wp2_with fail;clear m0 m1 m2 m3 m4;refine Mb.mono ?_;clear Mb;rintro e W3 ⟨a3,c3,rfl,Bn,hb3⟩;obtain ⟨gr,hgr,hgl,hgs,aa6,hown⟩:=Zz p Bn HA.I.2;have hrl:=(J2.1 S.I.ret).1;replace S:=aA (S.I.below hb3);have hz3:=hb3.size;subst hgr;have hz2:=S.I.ks.low.size;obtain ⟨W4,hW4⟩: ∃ W4,W4=W3.setCell ⟨w.heap.size,3,none⟩ (.slice (some ⟨gr,0,none⟩) k.parts.length c3):=⟨_,rfl⟩
 have hot: ∀ q,q≠w.heap.size→W4.heap[q]? =W3.heap[q]? :=fun q hq=>by rw [hW4]; exact Go.Deep.blk_setCell_other _ _ _ _ hq
 have hb4:Below w.heap.size w W4:=by rw [hW4]; exact S.I.ks.low.setCell (Ki _) _
 have Fw:gr≠w.heap.size:=by omega
 have EF:Hid (Tk W4 w.heap.size (k.put n p (some ⟨gr,0,none⟩) c3)):=by
  show W4.heap[w.heap.size]? =_
  rw [aaJ,hW4];exact heap_setCell_same _ _ _ _ _ _ S.I.ks.box
 have Js:Hid (av W4 (w.heap.size+1) p∧W4.heap[w.heap.size+2]? =some (.cells T9 37 (0,0))∧W4.there gr (n * 8) 8):=⟨(hot _ (by omega)).trans S.I.pb,(hot _ (by omega)).trans S.I.ret,fun j hj=>by
  have h5:=aa6 j hj;have e1:W4.cell? ⟨gr,n * 8+j,none⟩=W3.cell? ⟨gr,n * 8+j,none⟩:=World.cell?_of_block (a:=⟨gr,n * 8+j,none⟩) (hot gr Fw);have e2:W4.frozen? ⟨gr,n * 8+j,none⟩=W3.frozen? ⟨gr,n * 8+j,none⟩:=by simp only [World.frozen?,hot gr Fw]
  rw [e1,e2]; exact h5⟩
 obtain ⟨W5,hW5⟩: ∃ W5,W5=bn W4 gr (n * 8) (kp.vals p):=⟨_,rfl⟩
 have ho4:W4.ownsRow W2.heap.size 48 8 (.slice (some ⟨gr,0,none⟩) k.parts.length c3) k.parts.length (kp.flat k.parts):=aL Bn fun q hq=>hot q (by have:=(cf Bn hq).1; omega)
 have HS5:Hid (Below w.heap.size w W5∧Tk W5 w.heap.size (k.put n p (some ⟨gr,0,none⟩) c3)∧W5.heap[w.heap.size+2]? =some (.cells T9 37 (0,0))∧Row W5 (some ⟨gr,0,none⟩) (kp.flat (k.parts.set n p))):=by
  obtain ⟨g',hg',-,-,-,oM⟩:=Zz p ho4 HA.I.2;cases hg';rw [← hW5] at oM;obtain ⟨a',c',e',hrow⟩:=cr oM;cases e';refine ⟨by rw [hW5]; exact eU _ (by omega) hb4,?_,?_,hrow⟩
  ·rw [hW5]; exact (de _ (by omega)).trans EF.I
  ·rw [hW5]; exact (de _ (by omega)).trans Js.I.2.1
 have HAT:Hid (eA.At W5 (k.put n p (some ⟨gr,0,none⟩) c3)∧ ∀ q∈(k.put n p (some ⟨gr,0,none⟩) c3).parts,q.Good W5):=by
  have hat:=HO.I.1.at.below HS5.I.1;have td:=HO.I.2.1.below HS5.I.1;refine ⟨⟨hat.fn,⟨HS5.I.2.2.2,fun q hq r hr=> ?_⟩,hat.eC⟩,fun q hq=> ?_⟩
  ·rcases PO hq with h5 | h5
   ·exact hat.parts.2 q h5 r hr
   ·rw [h5] at hr; exact Vz td.at r hr
  ·rcases PO hq with h5 | h5
   ·exact (U7 WX.I.1 HO.I.1 q h5).below HS5.I.1
   ·rw [h5]; exact uG WX.I.2 td
 have d3:W3.cell? ⟨w.heap.size,3,none⟩=some (.slice k.qn k.parts.length k.sa):=S.I.ks.box.cells.2.2.2.1;have u3:W3.frozen? ⟨w.heap.size,3,none⟩=false:=by have h5:W3.heap[w.heap.size]? =_:=S.I.ks.box; simp [World.frozen?,h5]
 clear hgl hgs aa6 hown hrl hz3 hz2 hot hb4 Fw ho4 Bn hb3 i0;go_upto_region 7 with fail;rw [← hW4];clear hW4 d3 u3;obtain ⟨-,-,-,m3,-⟩:=EF.I.cells;rw [show (k.put n p (some ⟨gr,0,none⟩) c3).parts.length=k.parts.length from LI] at m3;have m3':W4.cell? ⟨w.heap.size,3,none⟩=some (.slice (some ⟨gr,0,none⟩) k.parts.length c3):=m3;clear m3;obtain ⟨q0,q1,q2,q3,q4,q5,q6,q7⟩:=Js.I.1.cells;go_upto_region 8 with (refine wpList_store_mid rfl 48 (.tmp 28) (.tmp 27) rfl gr (n * 8) p.cells rfl rfl Js.I.2.2 (by kernel_rfl) (by kernel_rfl) ?_);clear m3' q0 q1 q2 q3 q4 q5 q6 q7 i1 i2;rw [iL,show p.cells.toList=kp.vals p from rfl,← hW5];clear hW5 EF Js;have HP:Hid ((k.put n p (some ⟨gr,0,none⟩) c3).pure=k.pure.put n p.pure∧(k.put n p (some ⟨gr,0,none⟩) c3).vb=some ⟨g,0,none⟩):=⟨aai,HO.I.2.2.1⟩
 generalize k.put n p (some ⟨gr,0,none⟩) c3=k5 at *;have Mb:=Pq k5 g W5 (by rw [HP.I.1]; exact ZP WX.I.1 WX.I.2) HAT.I.1 HAT.I.2 ⟨HP.I.2,by have:=HS5.I.1.size; have:=HO.I.2.2.2; omega⟩;rw [HP.I.1] at Mb;obtain ⟨m0,m1,m2,m3,m4⟩:=HS5.I.2.1.cells;go_wp2_with fail;clear m0 m1 m2 m3 m4;refine Mb.mono ?_;clear Mb;rintro e W6 ⟨jQ,hE⟩;have hrl:=(J2.1 HS5.I.2.2.1).1;have HS6:Hid (Below w.heap.size w W6∧W6.heap[w.heap.size+2]? =some (.cells T9 37 (0,0))∧w.heap.size+2 < W5.heap.size):=⟨HS5.I.1.trans (jQ.mono HS5.I.1.size),(jQ.block _ hrl).trans HS5.I.2.2.1,hrl⟩
 clear jQ hrl;rcases hE with ⟨hno,rfl⟩ | ⟨fm,K,rfl,hK⟩
 ·have HZ:Hid (Zl k.pure p.pure=none):=ZY HA.I.1 hno
  clear hno;go_wp2_with (refine stK 4 36 T9 HS6.I.2.1 ?_);refine aaf Tryz.results30 (.bool false) HS6.I.2.1 ?_;exact Zv HZ.I (kz HS6.I.1 (by omega) _)
 have HZ:Hid (Zl k.pure p.pure=some (k.pure.put n p.pure)):=aak HK.I HA.I.1 fm;have Mb:=ZT fm hK;clear fm hK;go_wp2_with fail;refine Mb.mono ?_;clear Mb;rintro e W7 ⟨k7,rfl,mP,hp7,gh⟩;have HS7:Hid (Below w.heap.size w W7∧W7.heap[w.heap.size+2]? =some (.cells T9 37 (0,0))∧gp W7 W5.heap.size k7∧k7.pure=k.pure.put n p.pure):=⟨HS6.I.1.trans (gh.mono HS6.I.1.size),(gh.block _ (J2.1 HS6.I.2.1).1).trans HS6.I.2.1,mP,hp7⟩
 clear mP hp7 gh;go_wp2_with (refine stK 4 38 k7.row HS7.I.2.1 ?_);refine aaf Tryz.results30 (.bool true) HS7.I.2.1 ?_;rw [HZ.I];have hr:=HS6.I.2.2;exact ⟨k7,rfl,(HS7.I.2.2.1.lower (by omega)).same fun b hb=>KH _ _ _ _ (by have:=(HS7.I.2.2.1.lt hb).1; omega),HS7.I.2.2.2,kz HS7.I.1 (by omega) _⟩
end
section
open Go Go.RowKit
def cutQ (Post:Act→World→Prop) (Q:Exit→Act→World→Prop) (e:Exit) (a:Act) (w:World):Prop:=match e with
 | .normal=>Post a w
 | e=>Q e a w
theorem Z0 {Post:Act→World→Prop} {Q:Exit→Act→World→Prop} {a:Act} {w:World} (h:Post a w):cutQ Post Q .normal a w:=h
theorem wp_cut {P:Program} {c:Code} {Q:Exit→Act→World→Prop} {a:Act} {w:World} (Post:Act→Act→World→Prop) (h:c.wp P (cutQ (Post a) Q) a w) (hk: ∀ a' w',Post a a' w'→Q .normal a' w'):c.wp P Q a w:=
 Code.wp_mono (fun e a' w' h'=>by
  cases e with
  | normal=>exact hk a' w' h'
  | _=>exact h') h
theorem aaH (a:Act) (v:Value):a.put none v=a:=rfl
def IG (a:Act):List (Nat × Value)→Act
 | [] =>a
 | (d,v) :: r=>IG (a.put (some d) v) r
theorem ZA {a:Act} {d:Nat} {v:Value} {r:List (Nat × Value)} :IG a ((d,v) :: r)=IG (a.put (some d) v) r:=rfl
theorem ZI {a:Act} :IG a [] =a:=rfl
theorem tkr {P:Program} {md:Region.Mode} {ops:Array Oper} {Q:Exit→Act→World→Prop} {S:World→Prop} (i:Nat) {oi:Oper} {v:Value} {fuel:Nat} {RV:Array Bool} {a:Act} {w:World} {d:Tmp} (hi:ops[i]? =some oi) (hy:YieldsIf P ops S oi v a) (hS:S w)
  (h:wpAnyH P md ops Q S fuel (RV.setIfInBounds i true) (a.put (some d) v) w) (hd:oi.dst=some d:=by rfl) (h1:Region.noSelect ops=true:=by kernel_rfl) (h2:Region.free md ops RV i=true:=by kernel_rfl) (h3:(Region.ready md ops RV).contains i=true:=by kernel_rfl)
  (hQ: ∀ c a w,Q (.panic c) (a.put (some d) v) w→Q (.panic c) a w:=by exact fun _ _ _ h=>h):wpAnyH P md ops Q S (fuel+1) RV a w:=by
 rw [← hd] at h hQ;exact wpAnyH_take (i:=i) hi h1 h2 h3 hQ hy hS h
def oc (cs:Array Value) (T:TypeId) (X:Nat) (W:World):Prop:=W.heap[X]? =some (.cells cs T (0,0))
section
variable {cs:Array Value} {T:TypeId} {X:Nat} {W W':World} {bs:List Nat}
theorem oc.lt (h:oc cs T X W):X < W.heap.size:=(J2.1 h).1
theorem oc.below (h:oc cs T X W) (hb:Below W.heap.size W W'):oc cs T X W':=(hb.block _ h.lt).trans h
theorem oc.kept (h:oc cs T X W) (hk:aI W W' bs) (hs:X∉bs):oc cs T X W':=(hk.same _ h.lt hs).trans h
end
theorem Y5 {α : Type} {l : List α} {i : Nat} (h : i < l.toArray.size) : l.toArray[i]'h = l[i]'(by simpa using h) := by simp
theorem gz {α : Type} {a : α} {l : List α} (h : 0 < (a :: l).length) : (a :: l)[0]'h = a := rfl
theorem gs {α : Type} {a : α} {l : List α} {i : Nat} (h : i + 1 < (a :: l).length) : (a :: l)[i + 1]'h = l[i]'(Nat.lt_of_succ_lt_succ h) := rfl
section
variable {p q:af} {w W U V:World} {B X b:Nat} {cs:Array Value} {T:TypeId} {Y:Prop}
theorem ZR (h:Hid (Below W.heap.size W U)) (hb:Below U.heap.size U V):Hid (Below W.heap.size W V):=h.I.trans (hb.mono h.I.size)
theorem upP (h:Hid (ap U B q∧Y)) (hb:Below U.heap.size U V):Hid (ap V B q∧Y):=⟨h.I.1.below hb,h.I.2⟩
theorem upA (h:Hid (oc cs T X U∧Y)) (hb:Below U.heap.size U V):Hid (oc cs T X V∧Y):=⟨h.I.1.below hb,h.I.2⟩
end
end
section
open Go.RowKit
attribute [local go_sem ↓] Kc Kd
structure ZU (w:World) (k:eA) (p:af) (W:World):Prop where
 src:W.heap[w.heap.size]? =some (.cells k.row 28 (0,0))
 aaj:W.heap[w.heap.size+1]? =some (.cells p.cells 68 (0,0))
 cd:Below w.heap.size w W
structure Y9 (W:World) (b:Nat) (k:eA) (u:kd) (g:Nat):Prop where
 own:gp W b k
 pure:k.pure=u
 win:k.vb=some ⟨g,0,none⟩
 lt:g < W.heap.size
section
variable {p:af} {k:eA} {u:kd} {w W U V:World} {B X b g:Nat} {bs:List Nat}
theorem ZU.below (h:ZU w k p U) (hb:Below U.heap.size U V):ZU w k p V:=⟨(hb.block _ (J2.1 h.src).1).trans h.src,(hb.block _ (J2.1 h.aaj).1).trans h.aaj,h.cd.trans (hb.mono h.cd.size)⟩
theorem ZU.lt (h:ZU w k p U):w.heap.size+1 < U.heap.size:=(J2.1 h.aaj).1
theorem ZU.kept (h:ZU w k p U) (hk:aI U V bs) (hs: ∀ g∈bs,w.heap.size+1 < g):ZU w k p V:=⟨(hk.same _ (J2.1 h.src).1 fun hm=>by have:=hs _ hm; omega).trans h.src,(hk.same _ (J2.1 h.aaj).1 fun hm=>by have:=hs _ hm; omega).trans h.aaj,h.cd.trans (hk.below h.cd.size fun g hg=>by have:=hs g hg; omega)⟩
theorem ZU.cells (h:ZU w k p W):W.cell? ⟨w.heap.size,0,none⟩=some (.int .i64 k.now)∧W.cell? ⟨w.heap.size,1,none⟩=some (.int .i64 k.major)∧W.cell? ⟨w.heap.size,2,none⟩=some (.slice k.vb k.fn.length k.Te)∧W.cell? ⟨w.heap.size,3,none⟩=some (.slice k.qn k.parts.length k.sa)∧W.cell? ⟨w.heap.size,4,none⟩=some (.slice k.qi k.eC.length k.tC):=by
 have h:=h.src;simp [World.cell?,h]
theorem ZU.aaE (h:ZU w k p W):W.cell? ⟨w.heap.size+1,0,none⟩=some (.int .i64 p.id)∧W.cell? ⟨w.heap.size+1,1,none⟩=some (.int .i64 p.next)∧W.cell? ⟨w.heap.size+1,2,none⟩=some (.slice p.aN p.L8.length p.aW)∧W.cell? ⟨w.heap.size+1,3,none⟩=some (.slice p.bc p.aj.length p.bF)∧W.cell? ⟨w.heap.size+1,4,none⟩=some (.slice p.ay p.L9.length p.aO)∧W.cell? ⟨w.heap.size+1,5,none⟩=some (.slice p.ax p.ag.length p.aP)∧W.cell? ⟨w.heap.size+1,6,none⟩=some (.slice p.am p.ae.length p.aG)∧W.cell? ⟨w.heap.size+1,7,none⟩=some (.slice p.aK p.ai.length p.aV):=by
 have h:=h.aaj;simp [World.cell?,h,af.cells]
theorem Y9.below (h:Y9 U b k u g) (hb:Below U.heap.size U V):Y9 V b k u g:=⟨h.own.below hb,h.pure,h.win,by have:=hb.size; have:=h.lt; omega⟩
theorem Zx (h:Hid (ZU w k p U)) (hb:Below U.heap.size U V):Hid (ZU w k p V):=h.I.below hb
theorem Z3 (h:Hid (Y9 U b k u g)) (hb:Below U.heap.size U V):Hid (Y9 V b k u g):=h.I.below hb
theorem upKP {P:Prop} (h:Hid (gp U b k∧P)) (hb:Below U.heap.size U V):Hid (gp V b k∧P):=⟨h.I.1.below hb,h.I.2⟩
theorem abr (h:Hid (Tk U X k)) (hb:Below U.heap.size U V):Hid (Tk V X k):=(hb.block _ (J2.1 h.I).1).trans h.I
theorem abt (h:Hid (gp U b k)) (hb:Below U.heap.size U V):Hid (gp V b k):=h.I.below hb
theorem Wj.kept (h:Wj U X b k) (hk:aI U V bs) (hs:X∉bs) (ho: ∀ g∈k.Mc,g∉bs):Wj V X b k:=⟨(hk.same _ (J2.1 h.1).1 hs).trans h.1,h.2.same fun g hg=>hk.same g (h.2.lt hg).2 (ho g hg)⟩
end
theorem Zw (k k':eA) (w:World) (hs:k.pure.Small) (hp:k'.pure=k.pure) (h:eA.At w k) (h':eA.At w k'):
  Calls J3 12 #[.agg k.row,.agg k'.row] w fun e w'=>e= .returned (.bool true)∧Below w.heap.size w w':=
 Uj k k' w hs.Ts (by have:=hs.sC; simpa [eA.pure] using this) hs.w8 (fun _ hx=>pC hs hx) hp h h'
theorem aam:ZG.Small:=⟨Ky _,Ky _,Ky _,(fun j=>by simp [ZG,sz]),(fun x hx=>by cases hx),(fun x hx=>by cases hx)⟩
theorem aaK {p:aE} : ∀ {l:List aE} {n:Nat},g9 aE.total (l.set n p)≤g9 aE.total l+p.total
 | [],n=>by simp [g9]
 | x :: r,0=>by simp [g9]; omega
 | x :: r,n+1=>by
  have h:=aaK (p:=p) (l:=r) (n:=n);simp only [g9,List.set_cons_succ,List.map_cons,List.sum_cons] at h ⊢;omega
theorem aaC {k:kd} {p:aE} (h:k.Small) (hp:p.Small):((Zl k p).getD ZG).Small∧((Zl k p).getD ZG).total≤k.total+p.total:=by
 unfold Zl
 split
 ·refine ⟨ZP h hp,?_⟩
  have h5:=aaK (p:=p) (l:=k.parts) (n:=(swapAt k p).toNat)
  show (k.put _ p).total≤_
  simp only [kd.total,kd.put,LI];omega
 ·exact ⟨aam,by show ZG.total≤_; exact Nat.le_trans (by decide) (Ky _)⟩
end
end Go.Proofs.YteidkehoekbcaaaGreat
