/- What the proof leans on, part 29. -/
import Derived.Test.YtkbcplnlehdjfaaGreatOwnP27
set_option maxRecDepth 100000
set_option maxHeartbeats 8000000
open Array renaming getElem?_eq_some_iff->J2
open Function renaming comp_def->Ls
open Go renaming heap_alloc2_new->Kq,heap_alloc_new->Kj,setRow_other->KH
open Go.Proofs.Tryz renaming prog->J3,results49->Qh
open Go.RowKit.Below renaming refl->Kp
open List renaming getElem?_eq_some_iff->Lj,getElem?_map->Kk,length_set->LI
open Nat renaming le_refl->Ki
open Option renaming map_eq_some_iff->Kw

namespace Go.Proofs.YtkbcplnlehdjfaaGreat
open Go.RowKit Go.Maps
attribute [local go_sem ↓] Go.wp_at_zero Go.wp_at_succ
def kD (p:aE) (id:Int):Option aE:=hU p id (fun y=>decide (y.Md=0) && !decide (p.next=1000000000)) (fun y=> { y with Md:=1,RU:=p.next }) (p.next+1)
theorem Bk (q:af) (n base:Nat) (x:ao) (w:World) (h:ap w base q) (hb:base≤w.heap.size) (hx:q.L8[n]? =some x) (hn:0≤q.next∧q.next≤1000000000):
  Calls J3 98 #[.agg q.cells,.int .i64 n] w fun e w'=> ∃ q2:af,e= .returned (.agg q2.cells)∧q2= { q with next:=q.next+1,L8:=q.L8.set n { x with RU:=q.next } } ∧ap w' base q2∧Below base w w':=by
 obtain ⟨gs,ha,hat⟩:=cn h.at.1 hx;have hb1:Below w.heap.size w ((w.alloc (.cells (q.L6 gs) 32)).alloc (.cells ar 32)):=((Kp _ _).alloc (Ki _) _).alloc (by simp) _;have hnl:n < q.L8.length:=(Lj.1 hx).1;have HB:Hid (av ((w.alloc (.cells (q.L6 gs) 32)).alloc (.cells ar 32)) w.heap.size q∧ap ((w.alloc (.cells (q.L6 gs) 32)).alloc (.cells ar 32)) base q∧Below w.heap.size w ((w.alloc (.cells (q.L6 gs) 32)).alloc (.cells ar 32))∧((w.alloc (.cells (q.L6 gs) 32)).alloc (.cells ar 32)).heap[w.heap.size+1]? =some (.cells ar 32 (0,0))∧q.L8[n]? =some x∧q.aN=some ⟨gs,0,none⟩∧base≤w.heap.size∧gs < w.heap.size∧base≤gs):=by
  have h5:=cf h.L8 (g:=gs) (by rw [ha]; simp [blk]);exact ⟨by unfold av; rw [ha]; exact (PU (by simp)).trans (Kj _ _),h.below hb1,hb1,Kq _ _ _,hx,ha,hb,h5.2,h5.1⟩
 obtain ⟨m0,m1,m2,m3,m4,m5,m6,m7⟩:=HB.I.1.cells;rw [ha] at m2;obtain ⟨⟨u,pe⟩,f11⟩:(∃ u,((w.alloc (.cells (q.L6 gs) 32)).alloc (.cells ar 32)).cell? ⟨gs,n * 12+11,none⟩=some u)∧((w.alloc (.cells (q.L6 gs) 32)).alloc (.cells ar 32)).frozen? ⟨gs,n * 12+11,none⟩=false:=by
  obtain ⟨g,hg,hrow⟩:=bl.fX (K:=bg) HB.I.2.1.L8 (by omega);rw [ha] at hg;cases hg;exact ⟨⟨_,(hrow.cell hx (r:=11) (by decide)).1⟩,(hrow.cell hx (r:=11) (by decide)).2⟩
 have j0:(0:Int)≤(n:Int):=by omega
 have j1:(n:Int) < (q.L8.length:Int):=by omega
 obtain ⟨hn0,hn1⟩:=hn;have h5:=HB.I.2.1.kB (n:=n) (j:=11) (x:=x) (y:= { x with RU:=q.next }) (vs:= [.int .i64 q.next]) hx ha ⟨rfl,rfl,rfl⟩ (by show 11+1≤12; omega) (fun r hr=>by match r,hr with | 0,_=>rfl) (fun r hr hn=>by match r,hr,hn with | 0,_,_=>rfl | 1,_,_=>rfl | 2,_,_=>rfl | 3,_,_=>rfl | 4,_,_=>rfl | 5,_,_=>rfl | 6,_,_=>rfl | 7,_,_=>rfl | 8,_,_=>rfl | 9,_,_=>rfl | 10,_,_=>rfl | 11,_,hn=>exact absurd ⟨by omega,by show 11 < 11+1; omega⟩ hn);simp only [bn] at h5;have HS:Hid (ap (((w.alloc (.cells (q.L6 gs) 32)).alloc (.cells ar 32)).setCell ⟨gs,n * 12+11,none⟩ (.int .i64 q.next)) base ({ q with L8:=q.L8.set n { x with RU:=q.next } } :af)∧Below base w (((w.alloc (.cells (q.L6 gs) 32)).alloc (.cells ar 32)).setCell ⟨gs,n * 12+11,none⟩ (.int .i64 q.next))∧av (((w.alloc (.cells (q.L6 gs) 32)).alloc (.cells ar 32)).setCell ⟨gs,n * 12+11,none⟩ (.int .i64 q.next)) w.heap.size q∧(((w.alloc (.cells (q.L6 gs) 32)).alloc (.cells ar 32)).setCell ⟨gs,n * 12+11,none⟩ (.int .i64 q.next)).heap[w.heap.size+1]? =some (.cells ar 32 (0,0))):=by
  have hg:=HB.I.2.2.2.2.2.2;refine ⟨h5.1,(hb1.mono hb).trans (h5.2.1.below (by have:=hb1.size; omega) (by simp; omega)),(aH (by omega)).trans HB.I.1,(aH (by omega)).trans HB.I.2.2.2.1⟩
 have hq8:(af.cells q)=(q.L6 gs):=by unfold af.cells; rw [ha]
 rw [hq8];have hbks:=h5.2.2;have hlt0: ∀ g∈q.Mc,g < w.heap.size:=fun g hg=>(h.lt g hg).2
 have HBK:Hid (∀ g∈({ q with L8:=q.L8.set n { x with RU:=q.next } } :af).Mc,g < w.heap.size):=fun g hg=>hlt0 g (by rw [← hbks]; exact hg)
 have k1:(((w.alloc (.cells (q.L6 gs) 32)).alloc (.cells ar 32)).setCell ⟨gs,n * 12+11,none⟩ (.int .i64 q.next)).cell? ⟨w.heap.size,1,none⟩=some (.int .i64 q.next):=by have h6:=HS.I.2.2.1; unfold av at h6; simp only [World.cell?,h6]; rfl
 have k1f:(((w.alloc (.cells (q.L6 gs) 32)).alloc (.cells ar 32)).setCell ⟨gs,n * 12+11,none⟩ (.int .i64 q.next)).frozen? ⟨w.heap.size,1,none⟩=false:=frozen_of_row _ _ _ _ _ HS.I.2.2.1;clear h hb hx hb1 h5 hat ha hq8
 go_enter Tryz.func98,Tryz.ntmps98
 have HT:Hid (((((w.alloc (.cells (q.L6 gs) 32)).alloc (.cells ar 32)).setCell ⟨gs,n * 12+11,none⟩ (.int .i64 q.next)).setCell ⟨w.heap.size,1,none⟩ (.int .i64 (q.next+1))).heap[w.heap.size+1]? =some (.cells ar 32 (0,0))∧ap ((((w.alloc (.cells (q.L6 gs) 32)).alloc (.cells ar 32)).setCell ⟨gs,n * 12+11,none⟩ (.int .i64 q.next)).setCell ⟨w.heap.size,1,none⟩ (.int .i64 (q.next+1))) base ({ q with L8:=q.L8.set n { x with RU:=q.next } } :af)∧Below base w ((((w.alloc (.cells (q.L6 gs) 32)).alloc (.cells ar 32)).setCell ⟨gs,n * 12+11,none⟩ (.int .i64 q.next)).setCell ⟨w.heap.size,1,none⟩ (.int .i64 (q.next+1)))):=by
  have hg:=HB.I.2.2.2.2.2.2;have hbl: ∀ g∈({ q with L8:=q.L8.set n { x with RU:=q.next } } :af).Mc,g≠w.heap.size:=fun g hg2 e=>by rw [hbks] at hg2; have:=hlt0 g hg2; omega
  exact ⟨(aH (by omega)).trans HS.I.2.2.2,HS.I.1.same fun g hg2=>aH (hbl g hg2),bP HS.I.2.1 (by omega)⟩
 clear hbks hlt0;go_wp2_with (refine ec 4 16 #[.int .i64 q.id,.int .i64 (q.next+1),.slice (some ⟨gs,0,none⟩) q.L8.length q.aW,.slice q.bc q.aj.length q.bF,.slice q.ay q.L9.length q.aO,.slice q.ax q.ag.length q.aP,.slice q.am q.ae.length q.aG,.slice q.aK q.ai.length q.aV] HT.I.1 ?_);refine gZ Tryz.results98 HT.I.1 ?_;have hg:=HB.I.2.2.2.2.2.2;have rN: ∀ g∈({ q with L8:=q.L8.set n { x with RU:=q.next } } :af).Mc,g≠w.heap.size+1:=fun g hg2 e=>by have:=HBK.I g hg2; omega
 have ho:=HT.I.2.1.same (w':=((((w.alloc (.cells (q.L6 gs) 32)).alloc (.cells ar 32)).setCell ⟨gs,n * 12+11,none⟩ (.int .i64 q.next)).setCell ⟨w.heap.size,1,none⟩ (.int .i64 (q.next+1))).setRow (w.heap.size+1) #[.int .i64 q.id,.int .i64 (q.next+1),.slice (some ⟨gs,0,none⟩) q.L8.length q.aW,.slice q.bc q.aj.length q.bF,.slice q.ay q.L9.length q.aO,.slice q.ax q.ag.length q.aP,.slice q.am q.ae.length q.aG,.slice q.aK q.ai.length q.aV]) fun g hg2=>KH _ _ _ _ (rN g hg2)
 refine ⟨_,?_,rfl,⟨ho.L8,ho.aj,ho.L9,ho.ag,ho.ae,ho.ai,ho.eI,ho.eE,ho.eR,ho.nodup⟩,below_setRow HT.I.2.2 (by omega) _⟩;simp only [af.cells,LI,HB.I.2.2.2.2.2.1]
theorem tK (p:af) (id:Int) (w:World) (hf:p.Fit) (hs: ∀ x∈p.L8,x.dX) (h:af.At w p):
  Calls J3 49 #[.agg p.cells,.int .i64 id] w fun e w'=>gI w (kD p.pure id) e w':=by
 have HB:Hid (av ((w.alloc (.cells p.row 32)).alloc (.cells ar 32)) w.heap.size p∧af.At ((w.alloc (.cells p.row 32)).alloc (.cells ar 32)) p∧Below w.heap.size w ((w.alloc (.cells p.row 32)).alloc (.cells ar 32))∧((w.alloc (.cells p.row 32)).alloc (.cells ar 32)).heap[w.heap.size+1]? =some (.cells ar 32 (0,0))):=by
  have b1:Below w.heap.size w ((w.alloc (.cells p.row 32)).alloc (.cells ar 32)):=((Kp _ _).alloc (Ki _) _).alloc (by simp) _;exact ⟨(PU (by simp)).trans (Kj _ _),h.below b1,b1,Kq _ _ _⟩
 have fl:Hid (p.Fit∧ ∀ x∈p.L8,x.dX):=⟨hf,hs⟩
 have hpl:=hf.short.L8;clear h hf hs;obtain ⟨m0,m1,m2,m3,m4,m5,m6,m7⟩:=HB.I.1.cells;unfold af.cells
 go_enter Tryz.func49,Tryz.ntmps49
 go_wp2_with fail;generalize (w.alloc (.cells p.row 32)).alloc (.cells ar 32)=W at *;clear m0 m1 m2 m3 m4 m5 m6 m7;refine (lS p id W hpl HB.I.2.1).mono ?_;rintro e W1 ⟨rfl,hb⟩;replace HB:Hid (av W1 w.heap.size p∧af.At W1 p∧Below w.heap.size w W1∧W1.heap[w.heap.size+1]? =some (.cells ar 32 (0,0))):=⟨HB.I.1.below hb,HB.I.2.1.below hb,HB.I.2.2.1.trans (hb.mono HB.I.2.2.1.size),(hb.block _ (J2.1 HB.I.2.2.2).1).trans HB.I.2.2.2⟩
 clear hb;obtain ⟨m0,m1,m2,m3,m4,m5,m6,m7⟩:=HB.I.1.cells;have hpf:=nK id p.pure.L8 0;rw [show p.pure.L8.map (·.id)=p.L8.map (·.id) by simp [af.pure,Ls]] at hpf;have Gh:Hid (_):=hpf;clear hpf;generalize place (p.L8.map (·.id)) id 0=z at *;go_wp2_with fail;clear m0 m1 m2 m3 m4 m5 m6 m7;refine (eV p W1 fl.I.1 fl.I.2 HB.I.2.1).mono ?_;rintro e W2 ⟨rfl,hb⟩;replace HB:Hid (av W2 w.heap.size p∧af.At W2 p∧Below w.heap.size w W2∧W2.heap[w.heap.size+1]? =some (.cells ar 32 (0,0))):=⟨HB.I.1.below hb,HB.I.2.1.below hb,HB.I.2.2.1.trans (hb.mono HB.I.2.2.1.size),(hb.block _ (J2.1 HB.I.2.2.2).1).trans HB.I.2.2.2⟩
 clear hb;obtain ⟨m0,m1,m2,m3,m4,m5,m6,m7⟩:=HB.I.1.cells;cases h4:bK p.pure
 ·have HN:Hid (kD p.pure id=none):=vO h4
  clear h4;go_wp2_with (refine ec 4 32 ar HB.I.2.2.2 ?_);refine mG Qh (.bool false) HB.I.2.2.2 ?_;exact ca HN.I (below_setRow HB.I.2.2.1 (by omega) _)
 have H4:Hid (bK p.pure=true):=h4;clear h4;rcases Gh.I with ⟨hz,hnf⟩ | ⟨n,y0,hz,hn,Dc⟩
 ·have HN:Hid (kD p.pure id=none):=tg hnf
  subst hz;clear hnf Gh;go_wp2_with (refine ec 4 32 ar HB.I.2.2.2 ?_);refine mG Qh (.bool false) HB.I.2.2.2 ?_;exact ca HN.I (below_setRow HB.I.2.2.1 (by omega) _)
 rw [Nat.zero_add] at hz;subst hz;have hnl:n < p.L8.length:=by have h5:=(Lj.1 hn).1; simpa [af.pure] using h5
 have dz:decide ((n:Int) < 0)=false:=decide_eq_false (by omega);obtain ⟨x0,hx0,hxy⟩: ∃ x,p.L8[n]? =some x∧x.toaD=y0:=by
  have h5:(p.L8.map (·.toaD))[n]? =some y0:=hn;rw [Kk,Kw] at h5;exact h5
 subst hxy;have HY:Hid (p.pure.L8[n]? =some x0.toaD∧p.pure.L8.find? (fun x=>decide (x.id=id))=some x0.toaD):=⟨hn,Dc⟩
 obtain ⟨gp,hap,Gn⟩:=cn HB.I.2.1.1 hx0;rw [hap] at m2;have wg:Hid (p.aN=some ⟨gp,0,none⟩):=hap;have d3:=Gn.2.2.2.1;clear hn Dc Gh hx0 Gn hap;have j0:(0:Int)≤(n:Int):=by omega
 have j1:(n:Int) < (p.L8.length:Int):=by omega
 by_cases hst:x0.Md=0
 ·by_cases hnx:p.next=1000000000
  ·have HN:Hid (kD p.pure id=none):=sx HY.I.2 (by have e:p.pure.next=1000000000:=hnx; simp [e])
   have e1:(x0.Md != 0)=false:=by simp [hst]
   have e2:(p.next == 1000000000)=true:=by simp [hnx]
   clear hst hnx;go_wp2_with (refine ec 4 32 ar HB.I.2.2.2 ?_);refine mG Qh (.bool false) HB.I.2.2.2 ?_;exact ca HN.I (below_setRow HB.I.2.2.1 (by omega) _)
  have HN:Hid (kD p.pure id=some { p.pure with next:=p.next+1,L8:=ce id (fun y:aD=> { y with Md:=1,RU:=p.next }) p.pure.L8 }):=tT H4.I HY.I.2 (by have e:x0.toaD.Md=0:=hst; have e2: ¬ p.pure.next=1000000000:=hnx; simp [e,e2]);have e1:(x0.Md != 0)=false:=by simp [hst]
  have e2:(p.next == 1000000000)=false:=by simp [hnx]
  clear hst hnx;go_wp2_with fail;clear m0 m1 m2 m3 m4 m5 m6 m7 d3 e1 e2;have Mb:=fR p W2 fl.I.1 fl.I.2 HB.I.2.1;rw [show af.cells p=(p.L6 gp) by unfold af.cells; rw [wg.I]] at Mb;refine Mb.mono ?_;clear Mb;rintro e W3 ⟨q,rfl,hown,gn,hb3⟩;obtain ⟨x,hx,hxy⟩: ∃ x,q.L8[n]? =some x∧x.toaD=x0.toaD:=by
   have h5:(q.L8.map (·.toaD))[n]? =some x0.toaD:=by have h6:=HY.I.1; rw [← gn] at h6; exact h6
   rw [Kk,Kw] at h5;exact h5
  obtain ⟨gs,ha,hat⟩:=cn hown.at.1 hx;have hnq:n < q.L8.length:=(Lj.1 hx).1;have hgs:=cf hown.L8 (g:=gs) (by rw [ha]; simp [blk]);have hb4:Below W3.heap.size W3 (W3.alloc (.cells (q.L6 gs) 32)):=(Kp _ _).alloc (Ki _) _;obtain ⟨⟨u,c3⟩,f3⟩:(∃ u,(W3.alloc (.cells (q.L6 gs) 32)).cell? ⟨gs,n * 12+3,none⟩=some u)∧(W3.alloc (.cells (q.L6 gs) 32)).frozen? ⟨gs,n * 12+3,none⟩=false:=by
   obtain ⟨g,hg,hrow⟩:=bl.fX (K:=bg) (hown.below hb4).L8 (by omega);rw [ha] at hg;cases hg;exact ⟨⟨_,(hrow.cell hx (r:=3) (by decide)).1⟩,(hrow.cell hx (r:=3) (by decide)).2⟩
  have h5:=(hown.below hb4).kB (n:=n) (j:=3) (x:=x) (y:= { x with Md:=1 }) (vs:= [.int .i64 1]) hx ha ⟨rfl,rfl,rfl⟩ (by decide) (fun r hr=>by match r,hr with | 0,_=>rfl) (fun r hr hn=>by match r,hr,hn with | 0,_,_=>rfl | 1,_,_=>rfl | 2,_,_=>rfl | 3,_,hn=>exact absurd ⟨by omega,by decide⟩ hn | 4,_,_=>rfl | 5,_,_=>rfl | 6,_,_=>rfl | 7,_,_=>rfl | 8,_,_=>rfl | 9,_,_=>rfl | 10,_,_=>rfl | 11,_,_=>rfl);simp only [bn] at h5;have oX:w.heap.size+1 < W2.heap.size:=(J2.1 HB.I.2.2.2).1;have Ix:=hb3.size;have HS:Hid (ap ((W3.alloc (.cells (q.L6 gs) 32)).setCell ⟨gs,n * 12+3,none⟩ (.int .i64 1)) W2.heap.size ({ q with L8:=q.L8.set n { x with Md:=1 } } :af)∧av ((W3.alloc (.cells (q.L6 gs) 32)).setCell ⟨gs,n * 12+3,none⟩ (.int .i64 1)) W3.heap.size q∧Below w.heap.size w ((W3.alloc (.cells (q.L6 gs) 32)).setCell ⟨gs,n * 12+3,none⟩ (.int .i64 1))∧((W3.alloc (.cells (q.L6 gs) 32)).setCell ⟨gs,n * 12+3,none⟩ (.int .i64 1)).heap[w.heap.size+1]? =some (.cells ar 32 (0,0))∧({ q with L8:=q.L8.set n { x with Md:=1 } } :af).L8[n]? =some { x with Md:=1 } ∧af.cells ({ q with L8:=q.L8.set n { x with Md:=1 } } :af)=(q.L6 gs)∧W2.heap.size≤((W3.alloc (.cells (q.L6 gs) 32)).setCell ⟨gs,n * 12+3,none⟩ (.int .i64 1)).heap.size∧q.pure=p.pure∧x.toaD=x0.toaD):=by
   refine ⟨h5.1,?_,?_,?_,by simp [hnq],by simp only [af.cells,LI,ha],?_,gn,hxy⟩
   ·refine (aH (by omega)).trans ?_
    rw [ha];exact Kj _ _
   ·exact bP (HB.I.2.2.1.trans ((hb3.alloc Ix _).mono HB.I.2.2.1.size)) (by omega)
   ·exact (aH (by omega)).trans ((hb4.block _ (by omega)).trans ((hb3.block _ oX).trans HB.I.2.2.2))
   ·have:=hb4.size; rw [show (((W3.alloc (.cells (q.L6 gs) 32)).setCell ⟨gs,n * 12+3,none⟩ (.int .i64 1))).heap.size=_ from fH [_]]; omega
  obtain ⟨k0,k1,k2,k3,k4,k5,k6,k7⟩:=HS.I.2.1.cells;rw [ha] at k2;have jq:(n:Int) < (q.L8.length:Int):=by omega
  rw [show af.cells q=(q.L6 gs) by unfold af.cells; rw [ha]];clear hown gn hb3 hx hxy ha hat hgs hb4 h5 Ix;go_wp2_with fail;clear k0 k1 k2 k3 k4 k5 k6 k7 c3 f3;generalize (W3.alloc (.cells (q.L6 gs) 32)).setCell ⟨gs,n * 12+3,none⟩ (.int .i64 1)=W5 at *;have hnx:0≤q.next∧q.next≤1000000000:=by have h6:=bz.1 ((ch _).1 H4.I).next; rw [← HS.I.2.2.2.2.2.2.2.1] at h6; have h7:q.pure.next=q.next:=rfl; omega
  have Mb:=Bk ({ q with L8:=q.L8.set n { x with Md:=1 } } :af) n W2.heap.size { x with Md:=1 } W5 HS.I.1 HS.I.2.2.2.2.2.2.1 HS.I.2.2.2.2.1 hnx;rw [HS.I.2.2.2.2.2.1] at Mb;refine Mb.mono ?_;clear Mb;rintro e W6 ⟨q2,rfl,pv,DU,jQ⟩;have H6:Hid (ap W6 W2.heap.size q2∧Below w.heap.size w W6∧W6.heap[w.heap.size+1]? =some (.cells ar 32 (0,0))∧q2.pure= { p.pure with next:=p.next+1,L8:=ce id (fun y:aD=> { y with Md:=1,RU:=p.next }) p.pure.L8 } ∧w.heap.size+1 < W2.heap.size):=by
   refine ⟨DU,HS.I.2.2.1.trans (jQ.mono (by omega)),(jQ.block _ oX).trans HS.I.2.2.2.1,?_,oX⟩;have hpp:=HS.I.2.2.2.2.2.2.2.1;have hid:x0.toaD.id=id:=by have h7:=List.find?_some HY.I.2; simpa using h7
   rw [rp (sc H4.I) HY.I.1 hid];have hnn:q.next=p.next:=congrArg aE.next hpp;have hpr:q.L8.map (·.toaD)=p.pure.L8:=congrArg aE.L8 hpp;have hxx:=HS.I.2.2.2.2.2.2.2.2;subst pv
   show ({ q.pure with next:=q.next+1,L8:=((q.L8.set n { x with Md:=1 }).set n { { x with Md:=1 } with RU:=q.next }).map (·.toaD) } :aE)=_
   rw [List.set_set,List.map_set,hpr,hpp,hnn,← hxx]
  clear pv DU jQ HS hnx;go_wp2_with (refine ec 4 42 (af.cells q2) H6.I.2.2.1 ?_);refine mG Qh (.bool true) H6.I.2.2.1 ?_;rw [HN.I];have hl:=H6.I.2.2.2.2;exact ⟨q2,rfl,(H6.I.1.lower (by omega)).same fun g hg=>KH _ _ _ _ (by have:=(H6.I.1.lt g hg).1; omega),H6.I.2.2.2.1,below_setRow H6.I.2.1 (by omega) _⟩
 ·have HN:Hid (kD p.pure id=none):=sx HY.I.2 (by have e: ¬ x0.toaD.Md=0:=hst; simp [e])
  have e1:(x0.Md != 0)=true:=by simp [hst]
  clear hst;go_wp2_with (refine ec 4 32 ar HB.I.2.2.2 ?_);refine mG Qh (.bool false) HB.I.2.2.2 ?_;exact ca HN.I (below_setRow HB.I.2.2.1 (by omega) _)
end Go.Proofs.YtkbcplnlehdjfaaGreat
