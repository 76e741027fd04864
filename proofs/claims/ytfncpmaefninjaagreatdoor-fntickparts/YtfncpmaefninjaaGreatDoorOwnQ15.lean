/- What the proof leans on, part 15. -/
import Derived.Test.YtfncpmaefninjaaGreatDoorOwnQ10
import Derived.Test.YtfncpmaefninjaaGreatDoorOwnQ11
set_option linter.all false
set_option maxRecDepth 100000
set_option maxHeartbeats 8000000
open Go.Proofs.Tryz
open Go renaming World->w_,Calls->k_,below_setRow->q_
open Go.Ending renaming returned->r_
open Go.IntKind renaming i64->j_
open Go.Obj renaming cells->c_
open Go.RowKit renaming Below->B_,Hid->bN
open Go.Value renaming int->i_,slice->s_,bool->b_,agg->a_
open Option renaming some->o_,none->n_
open Function renaming comp_def->Ls
open Go.Proofs.Tryz renaming prog->J3

namespace Go.Proofs.YtfncpmaefninjaaGreatDoor
open Go.RowKit Go.Maps
attribute [local go_sem ↓] Go.wp_at_zero Go.wp_at_succ
def kD (p:aE) (id:Int):Option aE:=hU p id (fun y=>decide (y.Md=0) && !decide (p.next=1000000000)) (fun y=> { y with Md:=1,RU:=p.next }) (p.next+1)
theorem Bk (q:af) (n bj:Nat) (x:ao) (w:w_) (h:ap w bj q) (hb:bj<=w.heap.size) (hx:q.L8[n]? =o_ x) (hn:0<=q.next/\q.next<=1000000000):
  k_ J3 118 #[a_ q.cells,i_ j_ n] w fun e w'=> ∃ q2:af,e=r_ (a_ q2.cells)/\q2= { q with next:=q.next+1,L8:=q.L8.set n { x with RU:=q.next } } /\ap w' bj q2/\B_ bj w w':=by
 obtain ⟨gs,ha,hat⟩:=cn h.at.1 hx;have hb1:B_ w.heap.size w ((w.alloc (c_ (q.L6 gs) 31)).alloc (c_ ar 31)):=((Kp _ _).alloc (Ki _) _).alloc zw _;have hnl:n < q.L8.length:=(Lj.1 hx).1;have HB:bN (av ((w.alloc (c_ (q.L6 gs) 31)).alloc (c_ ar 31)) w.heap.size q/\ap ((w.alloc (c_ (q.L6 gs) 31)).alloc (c_ ar 31)) bj q/\B_ w.heap.size w ((w.alloc (c_ (q.L6 gs) 31)).alloc (c_ ar 31))/\((w.alloc (c_ (q.L6 gs) 31)).alloc (c_ ar 31)).heap[w.heap.size+1]? =o_ (c_ ar 31)/\q.L8[n]? =o_ x/\q.aN=o_ ⟨gs,0,n_⟩/\bj<=w.heap.size/\gs < w.heap.size/\bj<=gs):=by
  have h5:=cf h.L8 (g:=gs) Zc3;exact ⟨by unfold av; rw [ha]; exact (PU zw).trans (Kj _ _),h.below hb1,hb1,Kq _ _ _,hx,ha,hb,h5.2,h5.1⟩
 obtain ⟨m0,m1,m2,m3,m4,m5,m6,m7⟩:=HB.I.1.cells;rw [ha] at m2;obtain ⟨⟨u,pe⟩,f11⟩:(∃ u,((w.alloc (c_ (q.L6 gs) 31)).alloc (c_ ar 31)).cell? ⟨gs,n * 12+11,n_⟩=o_ u)/\((w.alloc (c_ (q.L6 gs) 31)).alloc (c_ ar 31)).frozen? ⟨gs,n * 12+11,n_⟩=false:=by
  obtain ⟨g,hg,hrow⟩:=bl.fX (K:=bg) HB.I.2.1.L8 zo;exact Zbo
 have j0:(0:Int)<=(n:Int):=zo
 have j1:(n:Int) < (q.L8.length:Int):=zo
 obtain ⟨hn0,hn1⟩:=hn;have h5:=HB.I.2.1.kB (n:=n) (j:=11) (x:=x) (y:= { x with RU:=q.next }) (vs:= [i_ j_ q.next]) hx ha ⟨rfl,rfl,rfl⟩ (by show 11+1<=12; omega) (fun r hr=>by match r,hr with | 0,_=>rfl) (fun r hr hn=>by match r,hr,hn with | 0,_,_=>rfl | 1,_,_=>rfl | 2,_,_=>rfl | 3,_,_=>rfl | 4,_,_=>rfl | 5,_,_=>rfl | 6,_,_=>rfl | 7,_,_=>rfl | 8,_,_=>rfl | 9,_,_=>rfl | 10,_,_=>rfl | 11,_,hn=>exact absurd ⟨zo,by show 11 < 11+1; omega⟩ hn);simp only [bn] at h5;have HS:bN (ap (((w.alloc (c_ (q.L6 gs) 31)).alloc (c_ ar 31)).setCell ⟨gs,n * 12+11,n_⟩ (i_ j_ q.next)) bj ({ q with L8:=q.L8.set n { x with RU:=q.next } } :af)/\B_ bj w (((w.alloc (c_ (q.L6 gs) 31)).alloc (c_ ar 31)).setCell ⟨gs,n * 12+11,n_⟩ (i_ j_ q.next))/\av (((w.alloc (c_ (q.L6 gs) 31)).alloc (c_ ar 31)).setCell ⟨gs,n * 12+11,n_⟩ (i_ j_ q.next)) w.heap.size q/\(((w.alloc (c_ (q.L6 gs) 31)).alloc (c_ ar 31)).setCell ⟨gs,n * 12+11,n_⟩ (i_ j_ q.next)).heap[w.heap.size+1]? =o_ (c_ ar 31)):=by
  have hg:=HB.I.2.2.2.2.2.2;refine ⟨h5.1,(hb1.mono hb).trans (h5.2.1.below (by have:=hb1.size; omega) Zcr),(aH zo).trans HB.I.1,(aH zo).trans HB.I.2.2.2.1⟩
 have hq8:(af.cells q)=(q.L6 gs):=by unfold af.cells; rw [ha]
 rw [hq8];have hbks:=h5.2.2;have hlt0: ∀ g∈q.Mc,g < w.heap.size:=fun g hg=>(h.lt g hg).2
 have HBK:bN (∀ g∈({ q with L8:=q.L8.set n { x with RU:=q.next } } :af).Mc,g < w.heap.size):=fun g hg=>hlt0 g (by rw [<- hbks]; exact hg)
 have k1:(((w.alloc (c_ (q.L6 gs) 31)).alloc (c_ ar 31)).setCell ⟨gs,n * 12+11,n_⟩ (i_ j_ q.next)).cell? ⟨w.heap.size,1,n_⟩=o_ (i_ j_ q.next):=by have h6:=HS.I.2.2.1; unfold av at h6; simp only [World.cell?,h6]; rfl
 have k1f:(((w.alloc (c_ (q.L6 gs) 31)).alloc (c_ ar 31)).setCell ⟨gs,n * 12+11,n_⟩ (i_ j_ q.next)).frozen? ⟨w.heap.size,1,n_⟩=false:=Ko _ _ _ _ _ HS.I.2.2.1;clear h hb hx hb1 h5 hat ha hq8
 go_enter func118,ntmps118
 have HT:bN (((((w.alloc (c_ (q.L6 gs) 31)).alloc (c_ ar 31)).setCell ⟨gs,n * 12+11,n_⟩ (i_ j_ q.next)).setCell ⟨w.heap.size,1,n_⟩ (i_ j_ (q.next+1))).heap[w.heap.size+1]? =o_ (c_ ar 31)/\ap ((((w.alloc (c_ (q.L6 gs) 31)).alloc (c_ ar 31)).setCell ⟨gs,n * 12+11,n_⟩ (i_ j_ q.next)).setCell ⟨w.heap.size,1,n_⟩ (i_ j_ (q.next+1))) bj ({ q with L8:=q.L8.set n { x with RU:=q.next } } :af)/\B_ bj w ((((w.alloc (c_ (q.L6 gs) 31)).alloc (c_ ar 31)).setCell ⟨gs,n * 12+11,n_⟩ (i_ j_ q.next)).setCell ⟨w.heap.size,1,n_⟩ (i_ j_ (q.next+1)))):=by
  have hg:=HB.I.2.2.2.2.2.2;have hbl: ∀ g∈({ q with L8:=q.L8.set n { x with RU:=q.next } } :af).Mc,g≠w.heap.size:=fun g hg2 e=>by rw [hbks] at hg2; have:=hlt0 g hg2; omega
  exact ⟨(aH zo).trans HS.I.2.2.2,HS.I.1.same fun g hg2=>aH (hbl g hg2),bP HS.I.2.1 zo⟩
 clear hbks hlt0;go_wp2_with (refine ec _ _ #[i_ j_ q.id,i_ j_ (q.next+1),s_ (o_ ⟨gs,0,n_⟩) q.L8.length q.aW,s_ q.bc q.aj.length q.bF,s_ q.ay q.L9.length q.aO,s_ q.ax q.ag.length q.aP,s_ q.am q.ae.length q.aG,s_ q.aK q.ai.length q.aV] HT.I.1 ?_);refine gZ results118 HT.I.1 ?_;have hg:=HB.I.2.2.2.2.2.2;have rN: ∀ g∈({ q with L8:=q.L8.set n { x with RU:=q.next } } :af).Mc,g≠w.heap.size+1:=fun g hg2 e=>by have:=HBK.I g hg2; omega
 have ho:=HT.I.2.1.same (w':=((((w.alloc (c_ (q.L6 gs) 31)).alloc (c_ ar 31)).setCell ⟨gs,n * 12+11,n_⟩ (i_ j_ q.next)).setCell ⟨w.heap.size,1,n_⟩ (i_ j_ (q.next+1))).setRow (w.heap.size+1) #[i_ j_ q.id,i_ j_ (q.next+1),s_ (o_ ⟨gs,0,n_⟩) q.L8.length q.aW,s_ q.bc q.aj.length q.bF,s_ q.ay q.L9.length q.aO,s_ q.ax q.ag.length q.aP,s_ q.am q.ae.length q.aG,s_ q.aK q.ai.length q.aV]) fun g hg2=>KH _ _ _ _ (rN g hg2)
 refine ⟨_,?_,rfl,⟨ho.L8,ho.aj,ho.L9,ho.ag,ho.ae,ho.ai,ho.eI,ho.eE,ho.eR,ho.nodup⟩,q_ HT.I.2.2 zo _⟩;simp only [af.cells,LI,HB.I.2.2.2.2.2.1]
theorem tK (p:af) (id:Int) (w:w_) (hf:p.Fit) (hs: ∀ x∈p.L8,x.dX) (h:af.At w p):
  k_ J3 80 #[a_ p.cells,i_ j_ id] w fun e w'=>gI w (kD p.pure id) e w':=by
 have HB:bN (av ((w.alloc (c_ p.row 31)).alloc (c_ ar 31)) w.heap.size p/\af.At ((w.alloc (c_ p.row 31)).alloc (c_ ar 31)) p/\B_ w.heap.size w ((w.alloc (c_ p.row 31)).alloc (c_ ar 31))/\((w.alloc (c_ p.row 31)).alloc (c_ ar 31)).heap[w.heap.size+1]? =o_ (c_ ar 31)):=by
  have b1:B_ w.heap.size w ((w.alloc (c_ p.row 31)).alloc (c_ ar 31)):=((Kp _ _).alloc (Ki _) _).alloc zw _;exact ⟨(PU zw).trans (Kj _ _),h.below b1,b1,Kq _ _ _⟩
 have fl:bN (p.Fit/\ ∀ x∈p.L8,x.dX):=⟨hf,hs⟩
 have hpl:=hf.short.L8;clear h hf hs;obtain ⟨m0,m1,m2,m3,m4,m5,m6,m7⟩:=HB.I.1.cells;unfold af.cells
 go_enter func80,ntmps80
 go_wp2_with fail;generalize (w.alloc (c_ p.row 31)).alloc (c_ ar 31)=W at *;clear m0 m1 m2 m3 m4 m5 m6 m7;refine (lS p id W hpl HB.I.2.1).mono ?_;rintro e W1 ⟨rfl,hb⟩;replace HB:bN (av W1 w.heap.size p/\af.At W1 p/\B_ w.heap.size w W1/\W1.heap[w.heap.size+1]? =o_ (c_ ar 31)):=⟨HB.I.1.below hb,HB.I.2.1.below hb,HB.I.2.2.1.trans (hb.mono HB.I.2.2.1.size),(hb.block _ (J2.1 HB.I.2.2.2).1).trans HB.I.2.2.2⟩
 clear hb;obtain ⟨m0,m1,m2,m3,m4,m5,m6,m7⟩:=HB.I.1.cells;have hpf:=nK id p.pure.L8 0;rw [show p.pure.L8.map (·.id)=p.L8.map (·.id) by simp [af.pure,Ls]] at hpf;have Gh:bN (_):=hpf;clear hpf;generalize place (p.L8.map (·.id)) id 0=z at *;go_wp2_with fail;clear m0 m1 m2 m3 m4 m5 m6 m7;refine (eV p W1 fl.I.1 fl.I.2 HB.I.2.1).mono ?_;rintro e W2 ⟨rfl,hb⟩;replace HB:bN (av W2 w.heap.size p/\af.At W2 p/\B_ w.heap.size w W2/\W2.heap[w.heap.size+1]? =o_ (c_ ar 31)):=⟨HB.I.1.below hb,HB.I.2.1.below hb,HB.I.2.2.1.trans (hb.mono HB.I.2.2.1.size),(hb.block _ (J2.1 HB.I.2.2.2).1).trans HB.I.2.2.2⟩
 clear hb;obtain ⟨m0,m1,m2,m3,m4,m5,m6,m7⟩:=HB.I.1.cells;cases h4:bK p.pure
 .have HN:bN (kD p.pure id=n_):=vO h4
  clear h4;exact G_
 have H4:bN (bK p.pure=true):=h4;clear h4;rcases Gh.I with ⟨hz,hnf⟩ | ⟨n,y0,hz,hn,Dc⟩
 .have HN:bN (kD p.pure id=n_):=tg hnf
  subst hz;clear hnf Gh;exact G_
 rw [Li] at hz;subst hz;have hnl:n < p.L8.length:=by have h5:=(Lj.1 hn).1; simpa [af.pure] using h5
 have afO:decide ((n:Int) < 0)=false:=decide_eq_false zo;obtain ⟨x0,hx0,hxy⟩: ∃ x,p.L8[n]? =o_ x/\x.toaD=y0:=by
  have h5:(p.L8.map (·.toaD))[n]? =o_ y0:=hn;rw [Kk,Kw] at h5;exact h5
 subst hxy;have HY:bN (p.pure.L8[n]? =o_ x0.toaD/\p.pure.L8.find? (fun x=>decide (x.id=id))=o_ x0.toaD):=⟨hn,Dc⟩
 obtain ⟨gp,hap,Gn⟩:=cn HB.I.2.1.1 hx0;rw [hap] at m2;have wg:bN (p.aN=o_ ⟨gp,0,n_⟩):=hap;have d3:=Gn.2.2.2.1;clear hn Dc Gh hx0 Gn hap;have j0:(0:Int)<=(n:Int):=zo
 have j1:(n:Int) < (p.L8.length:Int):=zo
 by_cases hst:x0.Md=0
 .by_cases hnx:p.next=1000000000
  .have HN:bN (kD p.pure id=n_):=sx HY.I.2 (by have e:p.pure.next=1000000000:=hnx; simp [e])
   have e1:(x0.Md != 0)=false:=by simp [hst]
   have e2:(p.next == 1000000000)=true:=by simp [hnx]
   clear hst hnx;exact G_
  have HN:bN (kD p.pure id=o_ { p.pure with next:=p.next+1,L8:=ce id (fun y:aD=> { y with Md:=1,RU:=p.next }) p.pure.L8 }):=tT H4.I HY.I.2 (by have e:x0.toaD.Md=0:=hst; have e2: ¬ p.pure.next=1000000000:=hnx; simp [e,e2]);have e1:(x0.Md != 0)=false:=by simp [hst]
  have e2:(p.next == 1000000000)=false:=by simp [hnx]
  clear hst hnx;go_wp2_with fail;clear m0 m1 m2 m3 m4 m5 m6 m7 d3 e1 e2;have Mb:=fR p W2 fl.I.1 fl.I.2 HB.I.2.1;rw [show af.cells p=(p.L6 gp) by unfold af.cells; rw [wg.I]] at Mb;refine Mb.mono ?_;clear Mb;rintro e W3 ⟨q,rfl,hown,gn,hb3⟩;obtain ⟨x,hx,hxy⟩: ∃ x,q.L8[n]? =o_ x/\x.toaD=x0.toaD:=by
   have h5:(q.L8.map (·.toaD))[n]? =o_ x0.toaD:=by have h6:=HY.I.1; rw [<- gn] at h6; exact h6
   rw [Kk,Kw] at h5;exact h5
  obtain ⟨gs,ha,hat⟩:=cn hown.at.1 hx;have hnq:n < q.L8.length:=(Lj.1 hx).1;have hgs:=cf hown.L8 (g:=gs) Zc3;have hb4:B_ W3.heap.size W3 (W3.alloc (c_ (q.L6 gs) 31)):=(Kp _ _).alloc (Ki _) _;obtain ⟨⟨u,c3⟩,f3⟩:(∃ u,(W3.alloc (c_ (q.L6 gs) 31)).cell? ⟨gs,n * 12+3,n_⟩=o_ u)/\(W3.alloc (c_ (q.L6 gs) 31)).frozen? ⟨gs,n * 12+3,n_⟩=false:=by
   obtain ⟨g,hg,hrow⟩:=bl.fX (K:=bg) (hown.below hb4).L8 zo;rw [ha] at hg;cases hg;exact ⟨⟨_,(hrow.cell hx (r:=3) (by decide)).1⟩,(hrow.cell hx (r:=3) (by decide)).2⟩
  have h5:=(hown.below hb4).kB (n:=n) (j:=3) (x:=x) (y:= { x with Md:=1 }) (vs:= [i_ j_ 1]) hx ha ⟨rfl,rfl,rfl⟩ (by decide) (fun r hr=>by match r,hr with | 0,_=>rfl) (fun r hr hn=>by match r,hr,hn with | 0,_,_=>rfl | 1,_,_=>rfl | 2,_,_=>rfl | 3,_,hn=>exact absurd ⟨zo,by decide⟩ hn | 4,_,_=>rfl | 5,_,_=>rfl | 6,_,_=>rfl | 7,_,_=>rfl | 8,_,_=>rfl | 9,_,_=>rfl | 10,_,_=>rfl | 11,_,_=>rfl);simp only [bn] at h5;have oX:w.heap.size+1 < W2.heap.size:=(J2.1 HB.I.2.2.2).1;have Ix:=hb3.size;have HS:bN (ap ((W3.alloc (c_ (q.L6 gs) 31)).setCell ⟨gs,n * 12+3,n_⟩ (i_ j_ 1)) W2.heap.size ({ q with L8:=q.L8.set n { x with Md:=1 } } :af)/\av ((W3.alloc (c_ (q.L6 gs) 31)).setCell ⟨gs,n * 12+3,n_⟩ (i_ j_ 1)) W3.heap.size q/\B_ w.heap.size w ((W3.alloc (c_ (q.L6 gs) 31)).setCell ⟨gs,n * 12+3,n_⟩ (i_ j_ 1))/\((W3.alloc (c_ (q.L6 gs) 31)).setCell ⟨gs,n * 12+3,n_⟩ (i_ j_ 1)).heap[w.heap.size+1]? =o_ (c_ ar 31)/\({ q with L8:=q.L8.set n { x with Md:=1 } } :af).L8[n]? =o_ { x with Md:=1 } /\af.cells ({ q with L8:=q.L8.set n { x with Md:=1 } } :af)=(q.L6 gs)/\W2.heap.size<=((W3.alloc (c_ (q.L6 gs) 31)).setCell ⟨gs,n * 12+3,n_⟩ (i_ j_ 1)).heap.size/\q.pure=p.pure/\x.toaD=x0.toaD):=by
   refine ⟨h5.1,?_,?_,?_,by simp [hnq],by simp only [af.cells,LI,ha],?_,gn,hxy⟩
   .refine (aH zo).trans ?_
    rw [ha];exact Kj _ _
   .exact bP (HB.I.2.2.1.trans ((hb3.alloc Ix _).mono HB.I.2.2.1.size)) zo
   .exact (aH zo).trans ((hb4.block _ zo).trans ((hb3.block _ oX).trans HB.I.2.2.2))
   .have:=hb4.size; rw [show (((W3.alloc (c_ (q.L6 gs) 31)).setCell ⟨gs,n * 12+3,n_⟩ (i_ j_ 1))).heap.size=_ from fH [_]]; omega
  obtain ⟨k0,k1,k2,k3,k4,k5,k6,k7⟩:=HS.I.2.1.cells;rw [ha] at k2;have u4:(n:Int) < (q.L8.length:Int):=zo
  rw [show af.cells q=(q.L6 gs) by unfold af.cells; rw [ha]];clear hown gn hb3 hx hxy ha hat hgs hb4 h5 Ix;go_wp2_with fail;clear k0 k1 k2 k3 k4 k5 k6 k7 c3 f3;generalize (W3.alloc (c_ (q.L6 gs) 31)).setCell ⟨gs,n * 12+3,n_⟩ (i_ j_ 1)=W5 at *;have hnx:0<=q.next/\q.next<=1000000000:=by have h6:=bz.1 ((ch _).1 H4.I).next; rw [<- HS.I.2.2.2.2.2.2.2.1] at h6; have h7:q.pure.next=q.next:=rfl; omega
  have Mb:=Bk ({ q with L8:=q.L8.set n { x with Md:=1 } } :af) n W2.heap.size { x with Md:=1 } W5 HS.I.1 HS.I.2.2.2.2.2.2.1 HS.I.2.2.2.2.1 hnx;rw [HS.I.2.2.2.2.2.1] at Mb;refine Mb.mono ?_;clear Mb;rintro e W6 ⟨q2,rfl,pv,DU,jQ⟩;have H6:bN (ap W6 W2.heap.size q2/\B_ w.heap.size w W6/\W6.heap[w.heap.size+1]? =o_ (c_ ar 31)/\q2.pure= { p.pure with next:=p.next+1,L8:=ce id (fun y:aD=> { y with Md:=1,RU:=p.next }) p.pure.L8 } /\w.heap.size+1 < W2.heap.size):=by
   refine ⟨DU,HS.I.2.2.1.trans (jQ.mono zo),(jQ.block _ oX).trans HS.I.2.2.2.1,?_,oX⟩;have hpp:=HS.I.2.2.2.2.2.2.2.1;have hid:x0.toaD.id=id:=by have h7:=List.find?_some HY.I.2; simpa using h7
   rw [rp (sc H4.I) HY.I.1 hid];have hnn:q.next=p.next:=congrArg aE.next hpp;have hpr:q.L8.map (·.toaD)=p.pure.L8:=congrArg aE.L8 hpp;have hxx:=HS.I.2.2.2.2.2.2.2.2;subst pv
   show ({ q.pure with next:=q.next+1,L8:=((q.L8.set n { x with Md:=1 }).set n { { x with Md:=1 } with RU:=q.next }).map (·.toaD) } :aE)=_
   rw [PV,PN,hpr,hpp,hnn,<- hxx]
  clear pv DU jQ HS hnx;go_wp2_with (refine ec _ _ (af.cells q2) H6.I.2.2.1 ?_);refine mG results80 (b_ true) H6.I.2.2.1 ?_;rw [HN.I];have hl:=H6.I.2.2.2.2;exact ⟨q2,rfl,(H6.I.1.lower zo).same fun g hg=>KH _ _ _ _ (by have:=(H6.I.1.lt g hg).1; omega),H6.I.2.2.2.1,q_ H6.I.2.1 zo _⟩
 .have HN:bN (kD p.pure id=n_):=sx HY.I.2 (by have e: ¬ x0.toaD.Md=0:=hst; simp [e])
  have e1:(x0.Md != 0)=true:=by simp [hst]
  clear hst;exact G_
end Go.Proofs.YtfncpmaefninjaaGreatDoor
