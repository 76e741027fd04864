/- What the proof leans on, part 37. -/
import Derived.Test.YtkbcplnlehdjfaaGreatOwnW36
set_option maxRecDepth 100000
set_option maxHeartbeats 8000000
open Array renaming getElem?_eq_some_iff->J2
open Bool renaming and_eq_true->J7,and_false->PP
open Function renaming comp_def->Ls
open Go renaming setRow_other->KH,wp_at_succ->Kd,wp_at_zero->Kc
open Go.Proofs.Tryz renaming prog->J3
open Go.RowKit.Below renaming refl->Kp
open List renaming getElem?_eq_getElem->Kz,getElem?_eq_some_iff->Lj,getElem?_map->Kk,getElem?_set_self->LU,mem_cons->Kt,mem_filter->L2,mem_iff_getElem->LK,mem_map->Lr,not_mem_nil->Ku,take_length->LQ
open Nat renaming add_zero->PT,le_refl->Ki
open Option renaming map_eq_some_iff->Kw

namespace Go.Proofs.YtkbcplnlehdjfaaGreat
section
open Go.RowKit
section
variable {w W w':World} {M base n m gs:Nat} {q0 z q q2:af} {x y:ao}
theorem tN (ha:q.aN=some ⟨gs,0,none⟩):gs∈q.Mc:=by unfold af.Mc; rw [ha]; simp [blk]
theorem yr.of (ho:ap w' base q2) (hk:aI w w' (blk q.aN)) (hb:q2.Mc=q.Mc):yr w base q q2 w':=
 ⟨ho,hk.mono fun g hg=>by unfold af.Mc; exact List.mem_append_left _ hg,fun g hg=> .inl (hb ▸ hg)⟩
theorem yr.refl (h:ap w base q):yr w base q q w:=⟨h,aI.refl _ _,fun _ hg=> .inl hg⟩
theorem nT {nx:Int} (hx:q.L8[n]? =some x) (hy:y.aY=x.aY):({ q with next:=nx,L8:=q.L8.set n y } :af).Mc=q.Mc:=by
 unfold af.Mc;simp only [re hx hy]
theorem jd {nx:Int} :({ q with next:=nx,L8:=q.L8.set n y } :af).cells=({ q with next:=nx } :af).cells:=by unfold af.cells; simp
theorem mj (hx:q.L8[n]? =some x):q.pure.L8[n]? =some x.toaD:=by show (q.L8.map (·.toaD))[n]? =_; rw [Kk,hx]; rfl
theorem iu (hx:q.L8[n]? =some x):x.toaD∈q.pure.L8:=List.mem_of_getElem? (mj hx)
theorem g7 {nx:Int} {f:aD→aD} (hr:q.pure.L8.Pairwise (fun x y=>x.id < y.id)) (hx:q.L8[n]? =some x) (hy:y.toaD=f x.toaD):({ q with next:=nx,L8:=q.L8.set n y } :af).pure= { q.pure with next:=nx,L8:=ce x.id f q.pure.L8 } :=by
 rw [rp hr (mj hx) rfl,← hy]
 show ({ q.pure with next:=nx,L8:=(q.L8.set n y).map (·.toaD) } :aE)=_
 rw [List.map_set];rfl
theorem bB (code:Int) (h:ap w base q) (hb:base≤w.heap.size) (hr:aQ q.pure) (hx:q.L8[n]? =some x) (h0: ¬ x.Md=0):Calls J3 219 #[.agg q.cells,.int .i64 n,.int .i64 code] w (jH w base q (bu code x.id q.pure)):=by
 have h1:=(hr.proc (iu hx)).2.1;have h2:=iT h1 h0;have h3:=iF h1;unfold jY at h3;simp only [J7] at h3;have h4:=(lK h3.1.1.1.2).2;refine (ve q n base x code w h hb hx h2 (by omega)).mono ?_;rintro e w' ⟨rfl,ho,-,hk⟩;exact ⟨({ q with L8:=q.L8.set n (fE code x) } :af),congrArg (fun c=>Ending.returned (.agg c)) (jd (nx:=q.next)).symm,g7 hr.kW hx (f:=jT code) rfl,yr.of ho hk (nT hx rfl)⟩
theorem lP (h:ap w base q) (hb:base≤w.heap.size) (hr:aQ q.pure) (hx:q.L8[n]? =some x) (h0: ¬ x.Md=0) (hn:q.next≤1000000000):Calls J3 188 #[.agg q.cells,.int .i64 n,.int .i64 0] w (jH w base q (gF (fun y=>y) q.pure x.toaD)):=by
 have h1:=(hr.proc (iu hx)).2.1;have h2:=iT h1 h0;have h3:=iF h1;unfold jY at h3;simp only [J7] at h3;have h4:=(lK h3.1.1.1.2).2;have h5:=bz.1 hr.next;refine (vT q n base x 0 w h hb hx h2 (by omega) ⟨by have:q.pure.next=q.next:=rfl; omega,hn⟩).mono ?_;rintro e w' ⟨q2,rfl,rfl,ho,-,hk⟩;exact ⟨_,rfl,g7 hr.kW hx (f:=iY q.next 0) rfl,yr.of ho hk (nT hx rfl)⟩
theorem oT (h:ap w base q) (hb:base≤w.heap.size) (hr:q.pure.L8.Pairwise (fun x y=>x.id < y.id)) (hx:q.L8[n]? =some x) (hn:0≤q.next∧q.next≤1000000000):Calls J3 98 #[.agg q.cells,.int .i64 n] w (jH w base q { q.pure with next:=q.next+1,L8:=ce x.id (fun y=> { y with RU:=q.next }) q.pure.L8 }):=by
 refine (qG q n base x w h hb hx hn).mono ?_;rintro e w' ⟨q2,rfl,rfl,ho,-,hk⟩;exact ⟨_,rfl,g7 hr hx (f:=fun y=> { y with RU:=q.next }) rfl,yr.of ho hk (nT hx rfl)⟩
theorem Fr.kB {j:Nat} {v:Value} (h:Fr w M base q0 z q W) (hx:q.L8[n]? =some x) (ha:q.aN=some ⟨gs,0,none⟩) (hy:y.prog=x.prog∧y.aY=x.aY∧y.bH=x.bH) (hj:j < 12)
  (hv:bg.vals y=(bg.vals x).set j v):
  Fr w M base q0 z ({ q with L8:=q.L8.set n y } :af) (W.setCell ⟨gs,n * 12+j,none⟩ v)∧(∀ X,w.heap.size≤X→X < M→(W.setCell ⟨gs,n * 12+j,none⟩ v).heap[X]? =W.heap[X]?)∧(∃ u,W.cell? ⟨gs,n * 12+j,none⟩=some u)∧W.frozen? ⟨gs,n * 12+j,none⟩=false:=by
 have h1:(bg.vals y)[j]? =some v:=by rw [hv,LU (by rw [bg.len]; exact hj)]
 have h2: ∀ r,r < 12→r≠j→(bg.vals y)[r]? =(bg.vals x)[r]? :=fun r _ hr=>by rw [hv,List.getElem?_set_ne (by omega)]
 have h3:=h.own.kB (n:=n) (j:=j) (x:=x) (y:=y) (vs:= [v]) hx ha hy (by simp; omega) (fun r hr=>by simp at hr; subst hr; rw [PT,h1]; rfl) (fun r hr hn=>h2 r hr (by simp at hn; omega));have hg:gs∈q.Mc:=tN ha;have hs: ∀ X,w.heap.size≤X→X < M→(W.setCell ⟨gs,n * 12+j,none⟩ v).heap[X]? =W.heap[X]? :=fun X a b=>aH fun e=>h.yO a b (e ▸ hg)
 have hc:(∃ u,W.cell? ⟨gs,n * 12+j,none⟩=some u)∧W.frozen? ⟨gs,n * 12+j,none⟩=false:=by
  obtain ⟨g,hg,hrow⟩:=bl.fX (K:=bg) h.own.L8 (by have:=(Lj.1 hx).1; omega);rw [ha] at hg;cases hg;have h7:=hrow.cell hx (r:=j) hj;exact ⟨⟨_,h7.1.trans (Kz (by rw [bg.len]; exact hj))⟩,h7.2⟩
 exact ⟨⟨(hs _ (Ki _) h.sz.1).trans h.box,h3.1,⟨h.kept.os,h.kept.tape,h.kept.output,by simpa [World.setCell] using h.kept.size,fun g a b=>(aH fun e=>by
  rcases h.far gs hg with c | c
  ·exact b (e ▸ c)
  ·have:=h.sz; omega).trans (h.kept.same g a b)⟩,fun g hg=>h.far g (h3.2.2 ▸ hg),h.lo,h.sz.1,by simpa [World.setCell] using h.sz.2.1,h.sz.2.2⟩,hs,hc⟩
theorem pm {k:Int} {f g:aD→aD} (hf: ∀ y,(f y).id=y.id) (l:List aD):ce k g (ce k f l)=ce k (fun y=>g (f y)) l:=by
 unfold ce;rw [List.map_map];refine List.map_congr_left fun z _=> ?_
 simp only [Ls];by_cases e:z.id=k
 ·rw [if_pos e,if_pos e,if_pos (by rw [hf]; exact e)]
 ·rw [if_neg e,if_neg e,if_neg e]
theorem us {nx:Int} (hr:q.pure.L8.Pairwise (fun x y=>x.id < y.id)) (hx:q.L8[n]? =some x) (hy:y.id=x.id):({ q with next:=nx,L8:=q.L8.set n y } :af).pure.L8.Pairwise (fun x y=>x.id < y.id):=by
 rw [g7 (f:=fun z=> { y.toaD with id:=z.id }) hr hx (by show y.toaD= { y.toaD with id:=x.id }; rw [← hy])];refine rW (f:=fun z=> { y.toaD with id:=z.id }) ?_ hr;intro _; rfl
theorem Hi (hx:q.L8[n]? =some x):({ q with L8:=q.L8.set n x } :af)=q:=by
 have hn:=(Lj.1 hx).1;have e:q.L8.set n x=q.L8:=by
  rw [← (Lj.1 hx).2]; simp
 rw [e]
theorem Fr.again {j:Nat} {v:Value} (h:Fr w M base q0 z { q with L8:=q.L8.set n x } W) (hn:n < q.L8.length) (ha:q.aN=some ⟨gs,0,none⟩) (hy:y.prog=x.prog∧y.aY=x.aY∧y.bH=x.bH) (hj:j < 12) (hv:bg.vals y=(bg.vals x).set j v):
  Fr w M base q0 z ({ q with L8:=q.L8.set n y } :af) (W.setCell ⟨gs,n * 12+j,none⟩ v)∧(∀ X,w.heap.size≤X→X < M→(W.setCell ⟨gs,n * 12+j,none⟩ v).heap[X]? =W.heap[X]?)∧(∃ u,W.cell? ⟨gs,n * 12+j,none⟩=some u)∧W.frozen? ⟨gs,n * 12+j,none⟩=false:=by
 have h1:=h.kB (n:=n) (y:=y) (x:=x) (j:=j) (v:=v) (by show (q.L8.set n x)[n]? =_; rw [LU hn]) ha hy hj hv;simpa only [List.set_set] using h1
end
end
section
open Go.RowKit Go.Maps
attribute [local go_sem ↓] Kc Kd
theorem uy (p:af) (w:World):Calls J3 105 #[.agg p.cells] w fun e w'=>e= .returned (.bool (decide (p.next≤999999980)))∧Below w.heap.size w w':=by
 have HB:Hid (av (w.alloc (.cells p.cells 32)) w.heap.size p∧Below w.heap.size w (w.alloc (.cells p.cells 32))):=⟨heap_alloc_new _ _,(Kp _ _).alloc (Ki _) _⟩
 unfold af.cells at *;obtain ⟨-,m1,-⟩:=HB.I.1.cells
 go_enter Tryz.func105,Tryz.ntmps105
 go_wp2;go_ret;exact ⟨rfl,HB.I.2⟩
theorem Hx (p:af) (now:Int) (w:World) (hf:p.Fit) (hs: ∀ x∈p.L8,x.dX) (h:af.At w p):
  Calls J3 57 #[.agg p.cells,.int .i64 now] w fun e w'=>gI w (kk p.pure now) e w':=by
 have b1:Below w.heap.size w ((w.alloc (.cells p.cells 32)).alloc (.cells ar 32)):=dT _ _ _;have HB:Hid (av ((w.alloc (.cells p.cells 32)).alloc (.cells ar 32)) w.heap.size p∧af.At ((w.alloc (.cells p.cells 32)).alloc (.cells ar 32)) p∧Below w.heap.size w ((w.alloc (.cells p.cells 32)).alloc (.cells ar 32))∧((w.alloc (.cells p.cells 32)).alloc (.cells ar 32)).heap[w.heap.size+1]? =some (.cells ar 32 (0,0))):=⟨(cZ _ _ _).1,h.below b1,b1,(cZ _ _ _).2⟩
 have fl:Hid (p.Fit∧ ∀ x∈p.L8,x.dX):=⟨hf,hs⟩
 clear h hf hs b1;unfold af.cells at *;obtain ⟨m0,m1,m2,m3,m4,m5,m6,m7⟩:=HB.I.1.cells
 go_enter Tryz.func57,Tryz.ntmps57
 go_wp2_with fail;generalize (w.alloc (.cells p.row 32)).alloc (.cells ar 32)=W at *;clear m0 m1 m2 m3 m4 m5 m6 m7;refine (eV p W fl.I.1 fl.I.2 HB.I.2.1).mono ?_;rintro e W1 ⟨rfl,hb⟩;replace HB:Hid (av W1 w.heap.size p∧af.At W1 p∧Below w.heap.size w W1∧W1.heap[w.heap.size+1]? =some (.cells ar 32 (0,0))):=⟨HB.I.1.below hb,HB.I.2.1.below hb,HB.I.2.2.1.trans (hb.mono HB.I.2.2.1.size),(hb.block _ (J2.1 HB.I.2.2.2).1).trans HB.I.2.2.2⟩
 clear hb;cases h4:bK p.pure
 ·have HN:Hid (kk p.pure now=none):=by show kk _ _=none; simp [kk,h4]
  clear h4;go_wp2_with (refine ec 4 19 ar HB.I.2.2.2 ?_);refine mG Tryz.results57 (.bool false) HB.I.2.2.2 ?_;exact ca HN.I (below_setRow HB.I.2.2.1 (by omega) _)
 have H4:Hid (bK p.pure=true):=h4;clear h4;have Mb:=dx now 0 1000000000 W1;go_wp2_with fail;refine Mb.mono ?_;clear Mb;rintro e W2 ⟨rfl,rfl⟩;cases h5:cv now 0 1000000000
 ·have HN:Hid (kk p.pure now=none):=by show kk _ _=none; simp [kk,h5]
  clear h5;go_wp2_with (refine ec 4 19 ar HB.I.2.2.2 ?_);refine mG Tryz.results57 (.bool false) HB.I.2.2.2 ?_;exact ca HN.I (below_setRow HB.I.2.2.1 (by omega) _)
 have H5:Hid (cv now 0 1000000000=true):=h5;clear h5;obtain ⟨m0,m1,m2,m3,m4,m5,m6,m7⟩:=HB.I.1.cells;go_wp2_with fail;clear m0 m1 m2 m3 m4 m5 m6 m7;refine (uy p _).mono ?_;rintro e W3 ⟨rfl,hb⟩;replace HB:Hid (av W3 w.heap.size p∧af.At W3 p∧Below w.heap.size w W3∧W3.heap[w.heap.size+1]? =some (.cells ar 32 (0,0))):=⟨HB.I.1.below hb,HB.I.2.1.below hb,HB.I.2.2.1.trans (hb.mono HB.I.2.2.1.size),(hb.block _ (J2.1 HB.I.2.2.2).1).trans HB.I.2.2.2⟩
 clear hb;by_cases h6:p.next≤999999980;rotate_left
 ·have HN:Hid (kk p.pure now=none):=by show kk _ _=none; have h7:decide (p.pure.next≤999999980)=false:=decide_eq_false h6; simp only [kk,h7,PP]; rfl
  have d6:decide (p.next≤999999980)=false:=decide_eq_false h6;clear h6;go_wp2_with (refine ec 4 19 ar HB.I.2.2.2 ?_);refine mG Tryz.results57 (.bool false) HB.I.2.2.2 ?_;exact ca HN.I (below_setRow HB.I.2.2.1 (by omega) _)
 have HN:Hid (kk p.pure now=some (gj now p.pure)):=by show kk _ _=some _; have h7:decide (p.pure.next≤999999980)=true:=decide_eq_true h6; simp only [kk,H4.I,H5.I,h7,Bool.and_true]; rfl
 have HK:Hid (Wk now p.pure):=Wk.of ((ch _).1 H4.I) h6;have d6:decide (p.next≤999999980)=true:=decide_eq_true h6;clear h6;obtain ⟨m0,m1,m2,m3,m4,m5,m6,m7⟩:=HB.I.1.cells;go_wp2_with fail;clear m0 m1 m2 m3 m4 m5 m6 m7 d6;refine (fR p W3 fl.I.1 fl.I.2 HB.I.2.1).mono ?_;rintro e W4 ⟨q,rfl,hown,gn,hb4⟩;have hw3:w.heap.size+1 < W3.heap.size:=(J2.1 HB.I.2.2.2).1;have Pv: ∀ x∈q.L8,x.prog.length≤1048576:=fun x hx=>by
  have h5:x.toaD∈p.pure.L8:=by rw [← gn]; exact Lr.2 ⟨x,hx,rfl⟩
  obtain ⟨y,hy,e⟩:=Lr.1 h5;have h6:=(fl.I.2 y hy).1;have h7:y.prog=x.prog:=congrArg aD.prog e;rw [← h7]; exact h6
 have Mb:=ti q now W3.heap.size W4 hown hb4.size (by rw [gn]; exact HK.I) Pv;rw [gn] at Mb;have H7:Hid (Below w.heap.size w W4∧W4.heap[w.heap.size+1]? =some (.cells ar 32 (0,0))∧w.heap.size+1 < W3.heap.size):=⟨HB.I.2.2.1.trans (hb4.mono HB.I.2.2.1.size),(hb4.block _ hw3).trans HB.I.2.2.2,hw3⟩
 clear hown gn hb4 hw3 Pv HB;unfold af.cells at *;go_wp2_with fail;refine Mb.mono ?_;clear Mb;rintro e W5 ⟨q2,rfl,hp2,DU,hb2⟩;have hw3:=H7.I.2.2;have H8:Hid (ap W5 W3.heap.size q2∧q2.pure=gj now p.pure∧Below w.heap.size w W5∧W5.heap[w.heap.size+1]? =some (.cells ar 32 (0,0))):=⟨DU,hp2,H7.I.1.trans (hb2.mono (by omega)),(hb2.block _ hw3).trans H7.I.2.1⟩
 clear DU hp2 hb2;go_wp2_with (refine ec 4 23 q2.cells H8.I.2.2.2 ?_);refine mG Tryz.results57 (.bool true) H8.I.2.2.2 ?_;rw [HN.I];exact ⟨q2,rfl,(H8.I.1.lower (by omega)).same fun g hg=>KH _ _ _ _ (by have:=(H8.I.1.lt g hg).1; omega),H8.I.2.1,below_setRow H8.I.2.2.1 (by omega) _⟩
structure WkI (now:Int) (base:Nat) (w:World) (S0:aZ) (o k:Nat) (S:aZ) (wr:World):Prop where
 at':cJ wr base o S
 fits:S.Fits
 wk:Wk now S.pure
 same:gj now S.pure=gj now S0.pure
 cnt:(lF now S.pure.L8).length=k
 short: ∀ p∈S.lp,p.1.prog.length≤1048576
 cd:Below base w wr
def WdEnds (o base:Nat) (S:aZ) (now:Int) (w:World) (e:Ending) (w':World):Prop:= ∃ S2:aZ,e= .returned (.bool (cv now 0 1000000000 && decide (S.q.next≤999999980)))∧cJ w' base o S2∧S2.Fits∧((cv now 0 1000000000 && decide (S.q.next≤999999980))=true→S2.pure=gj now S.pure)∧Below base w w'
theorem cJ.below {w w':World} {base o:Nat} {S:aZ} (h:cJ w base o S) (hb:Below w.heap.size w w'):cJ w' base o S:=
 ⟨(hb.block _ (J2.1 h.opn).1).trans h.opn,h.L8.below hb,h.aj.below hb,h.L9.below hb,h.ag.below hb,h.ae.below hb,h.ai.below hb,fun p hp=>Di (h.eI p hp) hb,fun p hp=>Di (h.eE p hp) hb,fun p hp=>Di (h.eR p hp) hb,h.nodup,h.low⟩
theorem St {S:aZ} (h:aQ S.pure) {p:ao × Nat} (hp:p∈S.lp):p.1.prog.length≤1048576:=by
 have h1:=(cK h.L8 p.1.toaD (Lr.2 ⟨p,hp,rfl⟩)).2;simp only [cH,J7] at h1;have h2:=h1.1.1.1.1.1.1.2;unfold jm nq at h2;simp only [decide_eq_true_eq] at h2;omega
theorem Sg (o base:Nat) (S:aZ) (now:Int) (w:World) (h:cJ w base o S) (lY:base≤w.heap.size) (hf:S.Fits) (hr:aQ S.pure):
  Calls J3 104 #[.pointer (some ⟨o,0,none⟩),.int .i64 now] w fun e w'=>WdEnds o base S now w e w':=by
 have c1:w.cell? ⟨o,1,none⟩=some (.int .i64 S.q.next):=h.opn.cell 1;have H:Hid (cJ w base o S∧S.Fits∧aQ S.pure∧base≤w.heap.size):=⟨h,hf,hr,lY⟩
 clear h hf hr lY
 go_enter Tryz.func104,Tryz.ntmps104
 by_cases h1:now < 0
 ·skip
  have HV:Hid ((cv now 0 1000000000 && decide (S.q.next≤999999980))=false):=by show _=_; rw [show cv now 0 1000000000=false by cases h5:cv now 0 1000000000 with | false=>rfl | true=>have:=bz.1 h5; omega]; rfl
  go_wp2;go_ret;exact ⟨S,al HV.I.symm,H.I.1,H.I.2.1,(fun e=>by rw [HV.I] at e; cases e),Kp _ _⟩
 by_cases h2:1000000000 < now
 ·skip
  have HV:Hid ((cv now 0 1000000000 && decide (S.q.next≤999999980))=false):=by show _=_; rw [show cv now 0 1000000000=false by cases h5:cv now 0 1000000000 with | false=>rfl | true=>have:=bz.1 h5; omega]; rfl
  go_wp2;go_ret;exact ⟨S,al HV.I.symm,H.I.1,H.I.2.1,(fun e=>by rw [HV.I] at e; cases e),Kp _ _⟩
 by_cases h3:999999980 < S.q.next
 ·skip
  have HV:Hid ((cv now 0 1000000000 && decide (S.q.next≤999999980))=false):=by show _=_; rw [decide_eq_false (by omega),PP]
  go_wp2;go_ret;exact ⟨S,al HV.I.symm,H.I.1,H.I.2.1,(fun e=>by rw [HV.I] at e; cases e),Kp _ _⟩
 have HV:Hid ((cv now 0 1000000000 && decide (S.q.next≤999999980))=true):=by show _=_; rw [bz.2 ⟨by omega,by omega⟩,decide_eq_true (by omega)]; rfl
 have HK:Hid (WkI now base w S o (lF now S.pure.L8).length S w):=⟨H.I.1,H.I.2.1,Wk.of H.I.2.2.1 (by show S.q.next≤_; omega),rfl,rfl,fun p hp=>St H.I.2.2.1 hp,Kp _ _⟩
 go_wp2_with fail;clear c1 h1 h2 h3
 go_loopg [] (lF now S.pure.L8).length (fun k wr=> ∃ S1:aZ,Hid (WkI now base w S o k S1 wr))
 case atStart=>exact ⟨S,HK.I⟩
 case round=>
  obtain ⟨S1,HO⟩:=hrel;have hlq:S1.lp.length≤6:=by have h5:=HO.I.wk.low; simpa [aZ.pure] using h5
  have HL:Hid (S1.lp.length≤1048576∧(Qx now S1.lp).length≤1048576):=⟨by omega,Nat.le_trans (List.length_filter_le _ _) (by omega)⟩
  clear hlq;go_wp2_with fail;refine (Sz o S1.q S1.lp now base wr HO.I.at'.opn HO.I.at'.L8 HL.I.1 HO.I.fits.Jl).mono ?_;rintro e w2 ⟨⟨a,cap,rfl,hrw⟩,hb2⟩;have HB:Hid (Row w2 a ((Qx now S1.lp).map fun p=>dt p.2)∧Below wr.heap.size wr w2):=⟨hrw,hb2⟩
  clear hrw hb2;go_wp2_with fail;refine (Sd a (Qx now S1.lp) cap w2 HL.I.2 HB.I.1 (fun p hp=>(HO.I.at'.L8.below HB.I.2).box p (L2.1 hp).1)).mono ?_;rintro e w3 ⟨rfl,hb3⟩;have H3:Hid (Below wr.heap.size wr w3):=HB.I.2.trans (hb3.mono HB.I.2.size);have HN:Hid ((oa RY (Qx now S1.lp)).map (fun p=>p.1.toaD)=lZ now S1.pure.L8):=Sy HO.I.wk.kW;clear hb3 HB;cases hbd:oa RY (Qx now S1.lp) with
  | none=>
   have e0:(Qx now S1.lp).length=0:=by rw [CZ RY hbd]; rfl
   have HD:Hid (lZ now S1.pure.L8=none):=by have h5:=HN.I; rw [hbd] at h5; exact h5.symm
   have d0:decide (0 < (Qx now S1.lp).length)=false:=decide_eq_false (by omega);rw [d0];clear hbd e0 d0;simp only [qz,Option.map_none];go_wp2;go_ret;exact ⟨S1,al HV.I.symm,HO.I.at'.below H3.I,HO.I.fits,fun _=>by rw [← HO.I.same]; exact (Co HD.I).symm,HO.I.cd.trans (H3.I.mono (by have:=HO.I.cd.size; have:=H.I.2.2.2; omega))⟩
  | some r=>
   obtain ⟨x,g⟩:=r;have hmd:=Fg RY hbd;have hm:(x,g)∈S1.lp∧og now x.toaD=true:=L2.1 hmd;have d0:decide (0 < (Qx now S1.lp).length)=true:=decide_eq_true (List.length_pos_of_mem hmd);have HD:Hid (lZ now S1.pure.L8=some x.toaD∧(x,g)∈S1.lp):=⟨by have h5:=HN.I; rw [hbd] at h5; exact h5.symm,hm.1⟩
   have hst:=(RZ.1 hm.2).1;have hop:=HO.I.wk.op x.toaD (Lr.2 ⟨(x,g),hm.1,rfl⟩) hst;have hro:=HO.I.wk.room;have hat3:=HO.I.at'.below H3.I;have s3:=(bo (hat3.L8.box (x,g) hm.1)).2.2.2.1;have hbs:base≤w3.heap.size:=by have:=HO.I.cd.size; have:=H3.I.size; have:=H.I.2.2.2; omega
   have Mb:=fun code=>Sv o g base S1 x code w3 hat3 hbs hm.1 (by have h5:S1.pure.next=S1.q.next:=rfl; omega) (by have h5:S1.pure.next=S1.q.next:=rfl; omega) hop (HO.I.short _ hm.1)
   rw [d0];clear hbd hmd hm d0 hst hop hro hat3 hbs HN;simp only [qz,dt,Option.map_some];cases e2:(x.Md == 2)
   ·skip
    replace Mb:=Mb 2;have HCO:Hid (mL x.toaD=2):=by show mL x.toaD=_; unfold mL; rw [if_neg (by simpa using e2)]
    go_wp2_with fail;clear s3 e2;refine Mb.mono ?_;clear Mb;rintro e w4 ⟨rfl,Ss,hb4⟩;have HP:Hid ((S1.ju g (pF S1.q.next 2) (gf S1.q.next x.toaD)).pure=gu S1.pure x.toaD):=by
     have h5:=aZ.Sb (nx:=gf S1.q.next x.toaD) (f:=pF S1.q.next 2) (f':=iY S1.q.next 2) HO.I.wk.kW (fun p hp hpg=>HO.I.at'.L8.one hp HD.I.2 hpg) HD.I.2 (fun _=>rfl);refine h5.trans ?_;unfold gu;rw [HCO.I];rfl
    have HI:Hid (WkI now base w S o (lF now (S1.ju g (pF S1.q.next 2) (gf S1.q.next x.toaD)).pure.L8).length (S1.ju g (pF S1.q.next 2) (gf S1.q.next x.toaD)) w4∧(lF now (S1.ju g (pF S1.q.next 2) (gf S1.q.next x.toaD)).pure.L8).length < gk):=by
     have hst:=HO.I.wk.step HD.I.1;have hc:=HO.I.cnt;have hbl:=HO.I.cd.trans ((H3.I.mono (by have:=HO.I.cd.size; have:=H.I.2.2.2; omega)).trans hb4);refine ⟨⟨Ss,NU HO.I.fits (fun y=>(rD _ _ _).1),by rw [HP.I]; exact hst.1,by rw [HP.I,← HO.I.same]; exact (vn HO.I.wk HD.I.1).symm,rfl,fun p hp=> ?_,hbl⟩,by rw [HP.I]; omega⟩;obtain ⟨r,hr,rfl⟩:=yy.1 hp
     split
     ·show (iY _ _ r.1.toaD).prog.length≤_
      rw [(rD _ _ _).2];exact HO.I.short r hr
     ·exact HO.I.short r hr
    clear Ss hb4;go_wp2_with fail
    go_roundg (lF now (S1.ju g (pF S1.q.next 2) (gf S1.q.next x.toaD)).pure.L8).length
    case rel=>exact ⟨_,HI.I.1⟩
    case measure=>exact HI.I.2
   ·skip
    replace Mb:=Mb 0;have HCO:Hid (mL x.toaD=0):=by show mL x.toaD=_; unfold mL; rw [if_pos (by simpa using e2)]
    go_wp2_with fail;clear s3 e2;refine Mb.mono ?_;clear Mb;rintro e w4 ⟨rfl,Ss,hb4⟩;have HP:Hid ((S1.ju g (pF S1.q.next 0) (gf S1.q.next x.toaD)).pure=gu S1.pure x.toaD):=by
     have h5:=aZ.Sb (nx:=gf S1.q.next x.toaD) (f:=pF S1.q.next 0) (f':=iY S1.q.next 0) HO.I.wk.kW (fun p hp hpg=>HO.I.at'.L8.one hp HD.I.2 hpg) HD.I.2 (fun _=>rfl);refine h5.trans ?_;unfold gu;rw [HCO.I];rfl
    have HI:Hid (WkI now base w S o (lF now (S1.ju g (pF S1.q.next 0) (gf S1.q.next x.toaD)).pure.L8).length (S1.ju g (pF S1.q.next 0) (gf S1.q.next x.toaD)) w4∧(lF now (S1.ju g (pF S1.q.next 0) (gf S1.q.next x.toaD)).pure.L8).length < gk):=by
     have hst:=HO.I.wk.step HD.I.1;have hc:=HO.I.cnt;have hbl:=HO.I.cd.trans ((H3.I.mono (by have:=HO.I.cd.size; have:=H.I.2.2.2; omega)).trans hb4);refine ⟨⟨Ss,NU HO.I.fits (fun y=>(rD _ _ _).1),by rw [HP.I]; exact hst.1,by rw [HP.I,← HO.I.same]; exact (vn HO.I.wk HD.I.1).symm,rfl,fun p hp=> ?_,hbl⟩,by rw [HP.I]; omega⟩;obtain ⟨r,hr,rfl⟩:=yy.1 hp
     split
     ·show (iY _ _ r.1.toaD).prog.length≤_
      rw [(rD _ _ _).2];exact HO.I.short r hr
     ·exact HO.I.short r hr
    clear Ss hb4;go_wp2_with fail
    go_roundg (lF now (S1.ju g (pF S1.q.next 0) (gf S1.q.next x.toaD)).pure.L8).length
    case rel=>exact ⟨_,HI.I.1⟩
    case measure=>exact HI.I.2
theorem R3 (p:af) (now:Int) (w:World) (hg:p.Good w):
  Calls J3 56 #[.agg p.cells,.int .i64 now] w fun e w'=>gI w (kk p.pure now) e w':=by
 have b1:Below w.heap.size w ((w.alloc (.cells p.cells 32)).alloc (.cells ar 32)):=dT _ _ _;have HB:Hid (p.Good ((w.alloc (.cells p.cells 32)).alloc (.cells ar 32))∧Below w.heap.size w ((w.alloc (.cells p.cells 32)).alloc (.cells ar 32))∧((w.alloc (.cells p.cells 32)).alloc (.cells ar 32)).heap[w.heap.size+1]? =some (.cells ar 32 (0,0))∧av ((w.alloc (.cells p.cells 32)).alloc (.cells ar 32)) w.heap.size p):=⟨hg.below b1,b1,(cZ _ _ _).2,(cZ _ _ _).1⟩
 clear hg b1;obtain ⟨m0,m1,m2,m3,m4,m5,m6,m7⟩:=HB.I.2.2.2.cells;unfold af.cells at *
 go_enter Tryz.func56,Tryz.ntmps56
 go_wp2_with fail;generalize (w.alloc (.cells p.row 32)).alloc (.cells ar 32)=W at *;clear m0 m1 m2 m3 m4 m5 m6 m7;refine (iO p W HB.I.1).mono ?_;rintro e w1 ⟨hb1,⟨hno,rfl⟩ | ⟨fm,o,S,rfl,hat,gn⟩⟩
 ·have HZ:Hid (Below w.heap.size w w1∧w1.heap[w.heap.size+1]? =some (.cells ar 32 (0,0))∧True):=⟨HB.I.2.1.trans (hb1.mono HB.I.2.1.size),(hb1.block _ (J2.1 HB.I.2.2.1).1).trans HB.I.2.2.1,trivial⟩
  have HN:Hid (kk p.pure now=none):=by show kk _ _=none; simp [kk,dL hno]
  clear hb1 hno;go_wp2_with (refine ec 4 21 ar HZ.I.2.1 ?_);refine mG Tryz.results56 (.bool false) HZ.I.2.1 ?_;exact ca HN.I (below_setRow HZ.I.1 (by omega) _)
 have HZ:Hid (Below w.heap.size w w1∧w1.heap[w.heap.size+1]? =some (.cells ar 32 (0,0))∧aQ S.pure∧cJ w1 W.heap.size o S∧S.pure=p.pure∧w.heap.size+1 < W.heap.size∧W.heap.size≤w1.heap.size):=⟨HB.I.2.1.trans (hb1.mono HB.I.2.1.size),(hb1.block _ (J2.1 HB.I.2.2.1).1).trans HB.I.2.2.1,by rw [gn]; exact fm,hat,gn,(J2.1 HB.I.2.2.1).1,hb1.size⟩
 clear hb1 fm hat gn;have HN0:Hid (kk p.pure now=if cv now 0 1000000000 && decide (S.q.next≤999999980) then some (gj now S.pure) else none):=by
  have h5:p.pure.next=S.q.next:=(congrArg aE.next HZ.I.2.2.2.2.1).symm
  show kk _ _=_
  unfold kk;rw [h5,← HZ.I.2.2.2.2.1,fP HZ.I.2.2.1,Bool.true_and]
 have Mb:=Sg o W.heap.size S now w1 HZ.I.2.2.2.1 HZ.I.2.2.2.2.2.2 (iB HZ.I.2.2.1) HZ.I.2.2.1;go_wp2_with fail;refine Mb.mono ?_;clear Mb;rintro e w2 ⟨S2,rfl,g8,hf2,hp2,hb2⟩;have hlt:=HZ.I.2.2.2.2.2.1;have H2:Hid (Below w.heap.size w w2∧w2.heap[w.heap.size+1]? =some (.cells ar 32 (0,0))∧cJ w2 W.heap.size o S2∧S2.Fits):=⟨HZ.I.1.trans (hb2.mono (by omega)),(hb2.block _ hlt).trans HZ.I.2.1,g8,hf2⟩
 cases hv:(cv now 0 1000000000 && decide (S.q.next≤999999980))
 ·have HN:Hid (kk p.pure now=none):=by rw [hv] at HN0; exact HN0.I
  clear g8 hf2 hp2 hb2 hv HN0;go_wp2_with (refine ec 4 21 ar H2.I.2.1 ?_);refine mG Tryz.results56 (.bool false) H2.I.2.1 ?_;exact ca HN.I (below_setRow H2.I.1 (by omega) _)
 have HN:Hid (kk p.pure now=some (gj now S.pure)):=by rw [hv] at HN0; exact HN0.I
 have HP:Hid (S2.pure=gj now S.pure):=hp2 hv;clear g8 hf2 hp2 hb2 hv HN0;go_wp2_with fail;refine (jR o W.heap.size S2 w2 H2.I.2.2.1 H2.I.2.2.2).mono ?_;rintro e w3 ⟨r,rfl,Bn,wu,hb3⟩;have H3:Hid (ap w3 W.heap.size r∧Below w.heap.size w w3∧w3.heap[w.heap.size+1]? =some (.cells ar 32 (0,0))∧r.pure=gj now S.pure):=⟨Bn,H2.I.1.trans (hb3.mono H2.I.1.size),(hb3.block _ (J2.1 H2.I.2.1).1).trans H2.I.2.1,wu.trans HP.I⟩
 clear Bn wu hb3;go_wp2_with (refine ec 4 23 (af.cells r) H3.I.2.2.1 ?_);refine mG Tryz.results56 (.bool true) H3.I.2.2.1 ?_;rw [HN.I];exact ⟨r,rfl,(H3.I.1.lower (by omega)).same fun b hb=>KH _ _ _ _ (by have:=(H3.I.1.lt b hb).1; omega),H3.I.2.2.2,below_setRow H3.I.2.1 (by omega) _⟩
end
section
open Go.RowKit
def j9 (o:dN):Array Value:= #[.int .i64 o.1,.int .i64 o.2.1,.int .i64 o.2.2.1,.string o.2.2.2]
def oo (W:World) (X:Nat) (o:dN):Prop:=W.heap[X]? =some (.cells (j9 o) 134 (0,0))
theorem oo.cells {W:World} {X:Nat} {o:dN} (h:oo W X o):W.cell? ⟨X,0,none⟩=some (.int .i64 o.1)∧W.cell? ⟨X,1,none⟩=some (.int .i64 o.2.1)∧W.cell? ⟨X,2,none⟩=some (.int .i64 o.2.2.1)∧W.cell? ⟨X,3,none⟩=some (.string o.2.2.2):=by
 unfold oo at h;simp [World.cell?,h,j9]
structure FO (w:World) (base:Nat) (q0 z q:af) (o:dN) (W:World):Prop where
 fr:Fr w (w.heap.size+3) base q0 z q W
 op:oo W (w.heap.size+1) o
 an:W.heap[w.heap.size+2]? =some (.cells ar 32 (0,0))
section
variable {w W W2:World} {base:Nat} {q0 z q q2:af} {o:dN}
theorem FO.start (h:ap w base q) (hb:base≤w.heap.size):FO w base q q q o (((w.alloc (.cells q.cells 32)).alloc (.cells (j9 o) 134)).alloc (.cells ar 32)):=by
 have h3:=dR w (.cells q.cells 32) (.cells (j9 o) 134) (.cells ar 32);exact ⟨Fr.start h hb h3.1 (fg _ _ _ _) ⟨by omega,by rw [h3.2.2.2]; omega⟩,h3.2.1,h3.2.2.1⟩
theorem FO.call (h:FO w base q0 z q o W) (ht:yr W base q q2 W2):FO w base q0 z q2 o W2:=by
 have h5:=h.fr.call ht;exact ⟨h5.1,(h5.2 _ (by omega) (by omega)).trans h.op,(h5.2 _ (by omega) (by omega)).trans h.an⟩
theorem FO.reads (h:FO w base q0 z q o W) (hb:Below W.heap.size W W2):FO w base q0 z q o W2:=by
 have h5:=h.fr.reads hb;exact ⟨h5.1,(h5.2 _ (by omega)).trans h.op,(h5.2 _ (by omega)).trans h.an⟩
theorem FO.put (h:FO w base q0 z q o W):FO w base q0 q q o (W.setRow w.heap.size q.cells):=⟨h.fr.put,(KH _ _ _ _ (by omega)).trans h.op,(KH _ _ _ _ (by omega)).trans h.an⟩
theorem FO.done (h:FO w base q0 z q o W) (cs:Array Value):yr w base q0 q (W.setRow (w.heap.size+2) cs):=h.fr.mK (by omega) (by omega) cs
theorem FO.again {n gs j:Nat} {x y:ao} {v:Value} (h:FO w base q0 z { q with L8:=q.L8.set n x } o W) (hn:n < q.L8.length) (ha:q.aN=some ⟨gs,0,none⟩) (hy:y.prog=x.prog∧y.aY=x.aY∧y.bH=x.bH) (hj:j < 12) (hv:bg.vals y=(bg.vals x).set j v):
  FO w base q0 z ({ q with L8:=q.L8.set n y } :af) o (W.setCell ⟨gs,n * 12+j,none⟩ v)∧(∃ u,W.cell? ⟨gs,n * 12+j,none⟩=some u)∧W.frozen? ⟨gs,n * 12+j,none⟩=false:=by
 have h5:=h.fr.again hn ha hy hj hv;exact ⟨⟨h5.1,(h5.2.1 _ (by omega) (by omega)).trans h.op,(h5.2.1 _ (by omega) (by omega)).trans h.an⟩,h5.2.2⟩
theorem FO.low (h:FO w base q0 z q o W):base≤W.heap.size:=by have:=h.fr.sz; omega
theorem FO.m2 {gs:Nat} (h:FO w base q0 z q o W) (ha:z.aN=some ⟨gs,0,none⟩):W.cell? ⟨w.heap.size,2,none⟩=some (.slice (some ⟨gs,0,none⟩) z.L8.length z.aW):=by rw [← ha]; exact h.fr.box.cells.2.2.1
end
end
section
open Go.RowKit Go.Maps
attribute [local go_sem ↓] Kc Kd
theorem sT (q:af) (n base:Nat) (x:ao) (st on wait now:Int) (held:ByteArray) (w:World) (h:ap w base q) (hb:base≤w.heap.size) (hr:aQ q.pure) (hx:q.L8[n]? =some x) (hn:q.next≤1000000000) (eu:0≤now∧now≤1000000000) (hw: -1≤wait∧wait≤1000):
  Calls J3 233 #[.agg q.cells,.int .i64 n,.int .i64 st,.int .i64 on,.string held,.int .i64 wait,.int .i64 now] w (jH w base q (kC st on held (kZ now wait) x.id q.pure)):=by
 obtain ⟨gs,ha,-⟩:=cn h.at.1 hx;have hnl:n < q.L8.length:=(Lj.1 hx).1;have b1:=dT w (.cells q.cells 32) (.cells ar 32);have h2:=cZ w (.cells q.cells 32) (.cells ar 32);have S:Hid (Fr w (w.heap.size+2) base q q ({ q with L8:=q.L8.set n x } :af) ((w.alloc (.cells q.cells 32)).alloc (.cells ar 32))∧((w.alloc (.cells q.cells 32)).alloc (.cells ar 32)).heap[w.heap.size+1]? =some (.cells ar 32 (0,0))):=⟨by rw [Hi hx]; exact Fr.start h hb h2.1 b1 ⟨by omega,by have:=(J2.1 h2.2).1; omega⟩,h2.2⟩
 have j0:(0:Int)≤(n:Int):=by omega
 have j1:(n:Int) < (q.L8.length:Int):=by omega
 have HR:Hid (aQ q.pure∧(0≤q.next∧q.next≤1000000000)∧q.L8[n]? =some x∧n < q.L8.length∧q.aN=some ⟨gs,0,none⟩):=⟨hr,⟨by have h5:=bz.1 hr.next; have:q.pure.next=q.next:=rfl; omega,hn⟩,hx,hnl,ha⟩
 obtain ⟨n0,n1⟩:=eu;obtain ⟨w0,w1⟩:=hw;clear h hb hr hx hn b1 h2 ha hnl
 go_enter Tryz.func233,Tryz.ntmps233
 go_upto_region 1 with fail;generalize (w.alloc (.cells q.cells 32)).alloc (.cells ar 32)=A at *;have m:=S.I.1.box.cells.2.2.1;rw [HR.I.2.2.2.2] at m;obtain ⟨s,k,⟨u,c⟩,f⟩:=S.I.1.again (y:= { x with Md:=st }) (j:=3) (v:= .int .i64 st) HR.I.2.2.2.1 HR.I.2.2.2.2 ⟨rfl,rfl,rfl⟩ (by decide) rfl;replace S:=aA (And.intro s ((k _ (by omega) (by omega)).trans S.I.2));clear s k;go_upto_region 2 with fail;generalize A.setCell ⟨gs,n * 12+3,none⟩ (.int .i64 st)=A at *;clear m c f u;have m:=S.I.1.box.cells.2.2.1;rw [HR.I.2.2.2.2] at m;obtain ⟨s,k,⟨u,c⟩,f⟩:=S.I.1.again (y:= { x with Md:=st,on:=on }) (j:=7) (v:= .int .i64 on) HR.I.2.2.2.1 HR.I.2.2.2.2 ⟨rfl,rfl,rfl⟩ (by decide) rfl;replace S:=aA (And.intro s ((k _ (by omega) (by omega)).trans S.I.2));clear s k;go_upto_region 3 with fail;generalize A.setCell ⟨gs,n * 12+7,none⟩ (.int .i64 on)=A at *;clear m c f u;have m:=S.I.1.box.cells.2.2.1;rw [HR.I.2.2.2.2] at m;obtain ⟨s,k,⟨u,c⟩,f⟩:=S.I.1.again (y:= { x with Md:=st,on:=on,held:=held }) (j:=8) (v:= .string held) HR.I.2.2.2.1 HR.I.2.2.2.2 ⟨rfl,rfl,rfl⟩ (by decide) rfl;replace S:=aA (And.intro s ((k _ (by omega) (by omega)).trans S.I.2));clear s k;go_upto_region 4 with fail;generalize A.setCell ⟨gs,n * 12+8,none⟩ (.string held)=A at *;clear m c f u;have m:=S.I.1.box.cells.2.2.1;rw [HR.I.2.2.2.2] at m;obtain ⟨s,k,⟨u,c⟩,f⟩:=S.I.1.again (y:= { x with Md:=st,on:=on,held:=held,Mg:= -1 }) (j:=6) (v:= .int .i64 (-1)) HR.I.2.2.2.1 HR.I.2.2.2.2 ⟨rfl,rfl,rfl⟩ (by decide) rfl;replace S:=aA (And.intro s ((k _ (by omega) (by omega)).trans S.I.2));clear s k;go_upto_region 5 with fail;generalize A.setCell ⟨gs,n * 12+6,none⟩ (.int .i64 (-1))=A at *;clear m c f u;by_cases FN:0≤wait
 ·have dw:decide (wait≥0)=true:=decide_eq_true FN
  have m:=S.I.1.box.cells.2.2.1;rw [HR.I.2.2.2.2] at m;obtain ⟨s,k,⟨u,c⟩,f⟩:=S.I.1.again (y:= { x with Md:=st,on:=on,held:=held,Mg:=now+wait }) (j:=6) (v:= .int .i64 (now+wait)) HR.I.2.2.2.1 HR.I.2.2.2.2 ⟨rfl,rfl,rfl⟩ (by decide) rfl;replace S:=aA (And.intro s ((k _ (by omega) (by omega)).trans S.I.2));clear s k;go_upto_region 7 with fail;generalize A.setCell ⟨gs,n * 12+6,none⟩ (.int .i64 (now+wait))=A at *;clear m c f u;have hp:({ q with L8:=q.L8.set n { x with Md:=st,on:=on,held:=held,Mg:=now+wait } } :af).pure=_:=g7 (nx:=q.next) (f:=fun y=> { y with Md:=st,on:=on,held:=held,Mg:=now+wait }) HR.I.1.kW HR.I.2.2.1 rfl;have Mb:=oT (n:=n) (x:= { x with Md:=st,on:=on,held:=held,Mg:=now+wait }) S.I.1.own (by have:=S.I.1.sz; omega) (us HR.I.1.kW HR.I.2.2.1 rfl) (by show (q.L8.set n _)[n]? =_; rw [LU HR.I.2.2.2.1]) HR.I.2.1;rw [jd (nx:=q.next),hp] at Mb;have HE:Hid ({ q.pure with next:=q.next+1,L8:=ce x.id (fun y=> { y with RU:=q.next }) (ce x.id (fun y=> { y with Md:=st,on:=on,held:=held,Mg:=now+wait }) q.pure.L8) } =kC st on held (kZ now wait) x.id q.pure):=by show _=kC st on held (kZ now wait) x.id q.pure; rw [pm (by intro _; rfl)]; unfold kZ; rw [if_pos FN]; rfl
  clear hp FN;go_wp2_with (refine eT 7 S.I.1.box ?_);refine Mb.mono ?_;clear Mb;rintro e W ⟨q2,rfl,hp2,ht⟩;have h5:=S.I.1.call ht;have H5:=aA (And.intro h5.1 ((h5.2 _ (by omega) (by omega)).trans S.I.2));have HP:Hid (q2.pure=_):=hp2;clear hp2 ht h5;go_wp2_with (refine ec 14 50 q2.cells H5.I.2 ?_);refine gZ Tryz.results233 H5.I.2 ?_;exact ⟨q2,rfl,HP.I.trans HE.I,H5.I.1.mK (by omega) (by omega) _⟩
 ·have dw:decide (wait≥0)=false:=decide_eq_false FN
  go_upto_region 7 with fail;have hp:({ q with L8:=q.L8.set n { x with Md:=st,on:=on,held:=held,Mg:= -1 } } :af).pure=_:=g7 (nx:=q.next) (f:=fun y=> { y with Md:=st,on:=on,held:=held,Mg:= -1 }) HR.I.1.kW HR.I.2.2.1 rfl;have Mb:=oT (n:=n) (x:= { x with Md:=st,on:=on,held:=held,Mg:= -1 }) S.I.1.own (by have:=S.I.1.sz; omega) (us HR.I.1.kW HR.I.2.2.1 rfl) (by show (q.L8.set n _)[n]? =_; rw [LU HR.I.2.2.2.1]) HR.I.2.1;rw [jd (nx:=q.next),hp] at Mb;have HE:Hid ({ q.pure with next:=q.next+1,L8:=ce x.id (fun y=> { y with RU:=q.next }) (ce x.id (fun y=> { y with Md:=st,on:=on,held:=held,Mg:= -1 }) q.pure.L8) } =kC st on held (kZ now wait) x.id q.pure):=by show _=kC st on held (kZ now wait) x.id q.pure; rw [pm (by intro _; rfl)]; unfold kZ; rw [if_neg FN]; rfl
  clear hp FN;go_wp2_with (refine eT 7 S.I.1.box ?_);refine Mb.mono ?_;clear Mb;rintro e W ⟨q2,rfl,hp2,ht⟩;have h5:=S.I.1.call ht;have H5:=aA (And.intro h5.1 ((h5.2 _ (by omega) (by omega)).trans S.I.2));have HP:Hid (q2.pure=_):=hp2;clear hp2 ht h5;go_wp2_with (refine ec 14 50 q2.cells H5.I.2 ?_);refine gZ Tryz.results233 H5.I.2 ?_;exact ⟨q2,rfl,HP.I.trans HE.I,H5.I.1.mK (by omega) (by omega) _⟩
end
section
open Go.RowKit
theorem rn {α:Type} {K:Kind α} {T:TypeId} {w:World} {base cap n gs j:Nat} {a:Option Addr} {l:List α} {x y:α} {v:Value} (h:w.ownsRow base T K.n (.slice a l.length cap) l.length (K.flat l)) (hx:l[n]? =some x) (ha:a=some ⟨gs,0,none⟩) (hj:j < K.n) (hv:K.vals y=(K.vals x).set j v):
  (w.setCell ⟨gs,n * K.n+j,none⟩ v).ownsRow base T K.n (.slice a l.length cap) l.length (K.flat (l.set n y))∧aI w (w.setCell ⟨gs,n * K.n+j,none⟩ v) (blk a)∧(∃ u,w.cell? ⟨gs,n * K.n+j,none⟩=some u)∧w.frozen? ⟨gs,n * K.n+j,none⟩=false:=by
 have hn:n < l.length:=(Lj.1 hx).1;obtain ⟨g,hg,hrow⟩:=bl.fX (K:=K) h (by omega);rw [ha] at hg;cases hg;have h7:=hrow.cell hx (r:=j) hj;have hsp:=kL hx;have hset:l.set n y=l.take n ++ y :: l.drop (n+1):=by rw [List.set_eq_take_append_cons_drop,if_pos hn]
 have hl:(l.take n).length=n:=by rw [List.length_take]; omega
 rw [hsp] at hrow;have h5:=bl.part (K:=K) (x:=x) (y:=y) (j:=j) (vs:= [v]) hrow (by simp; omega) (fun r hr=>by simp at hr; subst hr; rw [PT,hv,LU (by rw [K.len]; exact hj)]; rfl) (fun r hr hn=>by rw [hv,List.getElem?_set_ne (by simp at hn; omega)]);rw [hl,← hset] at h5;have h6:=h5.owns;rw [List.length_set] at h6;rw [ha];exact ⟨h6,aI.set (vs:= [v]) (by simp [blk]),⟨_,h7.1.trans (Kz (by rw [K.len]; exact hj))⟩,h7.2⟩
theorem lJ {α β:Type} {num:β→Int} {je:α→Int} {g:α→β} (hg: ∀ x,num (g x)=je x) {id:Int} : ∀ (l:List α),cg num id (l.map g)=(cg je id l).map g
 | [] =>rfl
 | x :: r=>by
  have h:=lJ hg (id:=id) r;unfold cg at h ⊢;simp only [List.map_cons,List.find?_cons,hg]
  split
  ·rfl
  ·exact h
section
variable {W:World} {base n j gs:Nat} {q:af} {v:Value}
theorem gD {q:af} {g:Nat} (h:g∈blk q.aN∨g∈blk q.bc∨g∈blk q.ay∨g∈blk q.ax∨g∈blk q.am∨g∈blk q.aK):g∈q.Mc:=by
 simp only [af.Mc,List.mem_append];rcases h with h | h | h | h | h | h <;> simp [h]
theorem uR {x y:bD} (h:ap W base q) (hx:q.aj[n]? =some x) (ha:q.bc=some ⟨gs,0,none⟩) (hj:j < 3) (hv:dm.vals y=(dm.vals x).set j v):
  yr W base q ({ q with aj:=q.aj.set n y } :af) (W.setCell ⟨gs,n * 3+j,none⟩ v)∧(∃ u,W.cell? ⟨gs,n * 3+j,none⟩=some u)∧W.frozen? ⟨gs,n * 3+j,none⟩=false:=by
 obtain ⟨h1,h2,h3⟩:=rn (K:=dm) h.aj hx ha hj hv;obtain ⟨h4,h5⟩:=h.DT h1 (by simp) h2;exact ⟨⟨h4,h2.mono fun g hg=>gD (.inr (.inl hg)),fun g hg=> .inl (h5 ▸ hg)⟩,h3⟩
theorem rv {x y:aB} (h:ap W base q) (hx:q.L9[n]? =some x) (ha:q.ay=some ⟨gs,0,none⟩) (hj:j < 2) (hv:bJ.vals y=(bJ.vals x).set j v):
  yr W base q ({ q with L9:=q.L9.set n y } :af) (W.setCell ⟨gs,n * 2+j,none⟩ v)∧(∃ u,W.cell? ⟨gs,n * 2+j,none⟩=some u)∧W.frozen? ⟨gs,n * 2+j,none⟩=false:=by
 obtain ⟨h1,h2,h3⟩:=rn (K:=bJ) h.L9 hx ha hj hv;obtain ⟨h4,h5⟩:=h.xA h1 (by simp) h2;exact ⟨⟨h4,h2.mono fun g hg=>gD (.inr (.inr (.inl hg))),fun g hg=> .inl (h5 ▸ hg)⟩,h3⟩
theorem ll {x y:az} (h:ap W base q) (hx:q.ag[n]? =some x) (ha:q.ax=some ⟨gs,0,none⟩) (hj:j < 3) (hv:bG.vals y=(bG.vals x).set j v):
  yr W base q ({ q with ag:=q.ag.set n y } :af) (W.setCell ⟨gs,n * 3+j,none⟩ v)∧(∃ u,W.cell? ⟨gs,n * 3+j,none⟩=some u)∧W.frozen? ⟨gs,n * 3+j,none⟩=false:=by
 obtain ⟨h1,h2,h3⟩:=rn (K:=bG) h.ag hx ha hj hv;obtain ⟨h4,h5⟩:=h.xM h1 (by simp) h2;exact ⟨⟨h4,h2.mono fun g hg=>gD (.inr (.inr (.inr (.inl hg)))),fun g hg=> .inl (h5 ▸ hg)⟩,h3⟩
theorem pp {st on i:Int} (h:dO (fun x:aD=>decide (x.Md=st) && decide (x.on=on)) q.pure.L8 q.L8.length i):(i < 0∧jl st on q.pure.L8=none)∨ ∃ (m:Nat) (y:ao),i=m∧q.L8[m]? =some y∧jl st on q.pure.L8=some y.toaD:=by
 have hl:q.L8.length=q.pure.L8.length:=by simp [af.pure]
 by_cases hi:i < 0
 ·refine .inl ⟨hi,?_⟩
  unfold dO at h;rw [hl,LQ] at h;unfold jl
  split at h
  ·assumption
  ·obtain ⟨k,hk,-⟩:=h
   omega
 ·obtain ⟨k,y,h1,h2,h3,h4⟩:=h.got hi
  rw [hl,LQ] at h4;have h5:(q.L8.map (·.toaD))[k]? =some y:=h3;rw [Kk,Kw] at h5;obtain ⟨z,hz,rfl⟩:=h5;exact .inr ⟨k,z,h1,hz,h4⟩
theorem eY {x y:ao} (h:ap W base q) (hx:q.L8[n]? =some x) (ha:q.aN=some ⟨gs,0,none⟩) (hy:y.prog=x.prog∧y.aY=x.aY∧y.bH=x.bH) (hj:j < 12) (hv:bg.vals y=(bg.vals x).set j v):
  yr W base q ({ q with L8:=q.L8.set n y } :af) (W.setCell ⟨gs,n * 12+j,none⟩ v)∧(∃ u,W.cell? ⟨gs,n * 12+j,none⟩=some u)∧W.frozen? ⟨gs,n * 12+j,none⟩=false:=by
 have h3:=h.kB (n:=n) (j:=j) (x:=x) (y:=y) (vs:= [v]) hx ha hy (by simp; omega) (fun r hr=>by simp at hr; subst hr; rw [PT,hv,LU (by rw [bg.len]; exact hj)]; rfl) (fun r hr hn=>by rw [hv,List.getElem?_set_ne (by simp at hn; omega)]);refine ⟨⟨h3.1,h3.2.1.mono fun g hg=> ?_,fun g hg=> .inl (h3.2.2 ▸ hg)⟩,?_⟩
 ·simp only [Kt,Ku,or_false] at hg
  rw [hg];exact tN ha
 ·obtain ⟨g,hg,hrow⟩:=bl.fX (K:=bg) h.L8 (by have:=(Lj.1 hx).1; omega)
  rw [ha] at hg;cases hg;have h7:=hrow.cell hx (r:=j) hj;exact ⟨⟨_,h7.1.trans (Kz (by rw [bg.len]; exact hj))⟩,h7.2⟩
def sy (x:ao):Array Value:= #[.int .i64 x.id,.int .i64 x.RX,.slice x.aY x.prog.length x.bH,.int .i64 0,.int .i64 0,.int .i64 0,.int .i64 0,.int .i64 0,.string ⟨#[]⟩,.string x.got,.int .i64 x.code,.int .i64 0]
theorem GC {x:ao} (h:ap W base q) (hx:q.L8[n]? =some x) (ha:q.aN=some ⟨gs,0,none⟩):W.there gs (n * 12) 12∧yr W base q ({ q with L8:=q.L8.set n (sW x) } :af) (W.setCells gs (n * 12) (sy x).toList):=by
 constructor
 ·obtain ⟨g,hg,hrow⟩:=bl.fX (K:=bg) h.L8 (by have:=(Lj.1 hx).1; omega)
  rw [ha] at hg;cases hg;exact fun j hj=>⟨by have h7:=(hrow.cell hx (r:=j) hj).1; rw [show bg.n=12 from rfl] at h7; rw [h7,Kz (by rw [bg.len]; exact hj)]; rfl,(hrow.cell hx (r:=j) hj).2⟩
 ·have hv:(sy x).toList=bg.vals (sW x):=rfl
  have h3:=h.kB (n:=n) (j:=0) (x:=x) (y:=sW x) (vs:=(sy x).toList) hx ha ⟨rfl,rfl,rfl⟩ (by show 0+12≤12; omega) (fun r _=>by rw [Nat.zero_add,hv]) (fun r hr hn=>absurd ⟨Nat.zero_le _,by show r < 0+12; omega⟩ hn);rw [PT,← iL] at h3;refine ⟨h3.1,h3.2.1.mono fun g hg=> ?_,fun g hg=> .inl (h3.2.2 ▸ hg)⟩;simp only [Kt,Ku,or_false] at hg;rw [hg];exact tN ha
theorem kg {x:ao} {t:ByteArray} (hr:aQ q.pure) (hx:q.L8[n]? =some x) (ht:bw t=true):
  ∃ q1:af,q1= { q with L8:=q.L8.set n { x with got:=t } } ∧q1.pure=ez t x.id q.pure∧q1.cells=q.cells∧aQ q1.pure∧q1.L8[n]? =some { x with got:=t } :=
 ⟨_,rfl,g7 (nx:=q.next) hr.kW hx rfl,jd (nx:=q.next),by rw [show ({ q with L8:=q.L8.set n { x with got:=t } } :af).pure=ez t x.id q.pure from g7 (nx:=q.next) hr.kW hx rfl]; exact iQ hr ht,by show (q.L8.set n _)[n]? =_; rw [LU (Lj.1 hx).1]⟩
theorem Bz {p:aE} {v:aD} {t:ByteArray} :gF (fun y=>y) (ez t v.id p) (lG t v)=gF (lG t) p v:=by
 unfold gF ez
 show ({ p with next:=gf p.next v,L8:=ce v.id (fun y=>iY p.next 0 y) (ce v.id (lG t) p.L8) } :aE)=_
 rw [pm (f:=lG t) (fun _=>rfl)]
theorem FO.sync {w:World} {q0 z q1:af} {o:dN} (h:FO w base q0 z q o W) (hc:q1.cells=z.cells):FO w base q0 q1 q o W:=⟨⟨by have h5:=h.fr.box; unfold av at h5 ⊢; exact h5.trans (congrArg (fun c=>some (Obj.cells c 32 (0,0))) hc.symm),h.fr.own,h.fr.kept,h.fr.far,h.fr.lo,h.fr.sz⟩,h.op,h.an⟩
theorem tQ {y:aD} (h:q.pure.L8[n]? =some y): ∃ x,q.L8[n]? =some x∧x.toaD=y:=by
 have h5:(q.L8.map (·.toaD))[n]? =some y:=h;rw [Kk,Kw] at h5;exact h5
theorem Gc {p:aE} {x y:aD} (h:aQ p) (hx:x∈p.L8) (hy:y∈p.L8) (e:y.id=x.id):y=x:=by
 have h5:=h.kW;rw [List.pairwise_iff_getElem] at h5;obtain ⟨i,hi1,rfl⟩:=LK.1 hy;obtain ⟨j,DS,rfl⟩:=LK.1 hx;rcases Nat.lt_trichotomy i j with hlt | heq | hgt
 ·have:=h5 i j hi1 DS hlt; omega
 ·subst heq; rfl
 ·have:=h5 j i DS hi1 hgt; omega
theorem ym {l:List aD} {k:Int} {f:aD→aD} {x:aD} (h:l[n]? =some x) (hne: ¬ x.id=k):(ce k f l)[n]? =some x:=by
 unfold ce;rw [Kk,h];simp [hne]
theorem qp {q2:af} {m:Nat} {x v:ao} {f:aD→aD} (hr:aQ q.pure) (hx:q.L8[n]? =some x) (hs:x.Md=1) (hv:q.L8[m]? =some v) (h1: ¬ v.Md=1) (h0: ¬ v.Md=0) (hf:f=(fun y=>y)∨ ∃ t,bw t=true∧f=lG t) (hn:q.next+1≤1000000000) (hp:q2.pure=gF f q.pure v.toaD):
  aQ q2.pure∧ ∃ x2,q2.L8[n]? =some x2∧x2.toaD=x.toaD:=by
 refine ⟨by rw [hp]; exact i9 hr (iu hv) h0 hf hn,tQ ?_⟩;rw [hp];refine ym (mj hx) fun e=>h1 ?_
 have:=Gc hr (iu hv) (iu hx) e
 have h2:x.toaD.Md=1:=hs;rw [this] at h2;exact h2
end
end
section
open Go.RowKit Go.Maps
attribute [local go_sem ↓] Kc Kd
theorem oR (q:af) (n base:Nat) (x:ao) (st now:Int) (o:dN) (w:World) (h:ap w base q) (hb:base≤w.heap.size) (hr:aQ q.pure) (hx:q.L8[n]? =some x) (h0: ¬ x.Md=0) (hn:q.next≤1000000000) (eu:0≤now∧now≤1000000000) (hw: -1≤o.2.2.1∧o.2.2.1≤1000):
  Calls J3 247 #[.agg q.cells,.int .i64 n,.int .i64 st,.agg (j9 o),.int .i64 now] w (jH w base q (mX st o now x.id q.pure)):=by
 have S:=aA (FO.start (o:=o) h hb);clear h hb
 go_enter Tryz.func247,Tryz.ntmps247
 go_upto_region 1 with fail;generalize ((w.alloc (.cells q.cells 32)).alloc (.cells (j9 o) 134)).alloc (.cells ar 32)=A at *;obtain ⟨-,o1,o2,o3⟩:=S.I.op.cells;by_cases hz:o.2.2.1=0
 ·have HE:Hid (mX st o now x.id q.pure=bu 1 x.id q.pure):=if_pos hz
  have e2:(o.2.2.1 == 0)=true:=by simp [hz]
  have Mb:=bB (n:=n) 1 S.I.fr.own S.I.low hr hx h0;clear hz hr hx h0 hn eu hw;go_wp2_with (refine eT 5 S.I.fr.box ?_);refine Mb.mono ?_;clear Mb;rintro e A2 ⟨q2,rfl,hp,ht⟩;replace S:=aA (S.I.call ht);have HP:Hid (q2.pure=_):=hp;clear hp ht;go_wp2_with (refine ec 10 16 q2.cells S.I.an ?_);refine gZ Tryz.results247 S.I.an ?_;exact ⟨q2,rfl,HP.I.trans HE.I.symm,S.I.done _⟩
 ·have HE:Hid (mX st o now x.id q.pure=kC st o.2.1 o.2.2.2 (kZ now o.2.2.1) x.id q.pure):=if_neg hz
  have e2:(o.2.2.1 == 0)=false:=by simp [hz]
  have Mb:=sT q n base x st o.2.1 o.2.2.1 now o.2.2.2 A S.I.fr.own S.I.low hr hx hn eu hw;clear hz hr hx h0 hn eu hw;go_wp2_with (refine eT 5 S.I.fr.box ?_);refine Mb.mono ?_;clear Mb;rintro e A2 ⟨q2,rfl,hp,ht⟩;replace S:=aA (S.I.call ht);have HP:Hid (q2.pure=_):=hp;clear hp ht;go_wp2_with (refine ec 10 27 q2.cells S.I.an ?_);refine gZ Tryz.results247 S.I.an ?_;exact ⟨q2,rfl,HP.I.trans HE.I.symm,S.I.done _⟩
end
end Go.Proofs.YtkbcplnlehdjfaaGreat
