/- What the proof leans on, part 1. -/
import Derived.Test.YteidkehoekbcaaaGreatOwnK19
import Derived.Test.YteidkehoekbcaaaGreatOwnK20
import Derived.Test.YteidkehoekbcaaaGreatOwnC0
set_option maxRecDepth 100000
set_option maxHeartbeats 8000000
open Array renaming getElem?_eq_some_iff->J2
open Function renaming comp_def->Ls
open Go.Proofs.Tryz renaming prog->J3
open Go.RowKit.Below renaming heap_setCell->K6,refl->Kp
open Go.Value.slice renaming injEq->LD
open List renaming cons_append->Qw,getElem?_append_right->Qo,getElem?_eq_some_iff->Lj,map_map->Lv
open Nat renaming le_refl->Ki

namespace Go.Proofs.YteidkehoekbcaaaGreat
section
open Go.RowKit
attribute [local go_sem ↓] Go.wp_at_zero Go.wp_at_succ
structure af.ep (w:World) (p:af):Prop where
 L8:bg.ep w p.aN p.L8
 aj:dm.ep w p.bc p.aj
 L9:bJ.ep w p.ay p.L9
 ag:bG.ep w p.ax p.ag
 ae:bm.ep w p.am p.ae
 ai:bX.ep w p.aK p.ai
theorem af.ep.below {w w':World} {p:af} (h:p.ep w) (hb:Below w.heap.size w w'):p.ep w':=⟨h.L8.below hb,h.aj.below hb,h.L9.below hb,h.ag.below hb,h.ae.below hb,h.ai.below hb⟩
structure af.Ud (p:af):Prop where
 dl:p.L8.length≤maxLen
 fx:p.aj.length≤maxLen
 cD:p.L9.length≤maxLen
 cC:p.ag.length≤maxLen
 cb:p.ae.length≤maxLen
 dH:p.ai.length≤maxLen
 L8: ∀ x∈p.L8,((x.prog.length≤maxLen∧ ∀ o∈x.prog,o.2.2.2.size≤maxLen)∧x.held.size≤maxLen∧x.got.size≤maxLen)
 ag: ∀ x∈p.ag,(x.text.size≤maxLen)
 ae: ∀ x∈p.ae,(x.Ma.length≤maxLen∧ ∀ s∈x.Ma,s.size≤maxLen)
 ai: ∀ x∈p.ai,(x.Ma.length≤maxLen∧ ∀ s∈x.Ma,s.size≤maxLen)
structure af.yq (p:af):Prop where
 dl:p.L8.length≤1048576
 fx:p.aj.length≤1048576
 cD:p.L9.length≤1048576
 cC:p.ag.length≤1048576
 cb:p.ae.length≤1048576
 dH:p.ai.length≤1048576
 L8: ∀ x∈p.L8,x.dX
 ag: ∀ x∈p.ag,(x.text.size≤1048576)
 ae: ∀ x∈p.ae,(x.Ma.length≤1048576∧ ∀ s∈x.Ma,s.size≤1048576)
 ai: ∀ x∈p.ai,(x.Ma.length≤1048576∧ ∀ s∈x.Ma,s.size≤1048576)
def aE.total (p:aE):Nat:=p.L8.length+g9 (fun x:aD=>x.prog.length) p.L8+p.aj.length+p.L9.length+p.ag.length+(p.ae.length+g9 (fun x:ci=>x.Ma.length) p.ae)+(p.ai.length+g9 (fun x:dS=>x.Ma.length) p.ai)
theorem af.Bf (p:af):p.pure.total=p.L8.length+g9 (fun x:ao=>x.prog.length) p.L8+p.aj.length+p.L9.length+p.ag.length+(p.ae.length+g9 (fun x:au=>x.Ma.length) p.ae)+(p.ai.length+g9 (fun x:aM=>x.Ma.length) p.ai):=by
 simp only [aE.total,af.pure,g9,List.length_map,Lv];rfl
theorem U6 (p:af) (left:Int) (w:World) (hb:p.Ud) (hc:p.ep w) (h0:0≤left) (h1:left≤1048576):
  Calls J3 27 #[.agg p.cells,.int .i64 left] w fun e w'=>jZ w left p.pure.total p.yq e w':=by
 have HB:Hid p.Ud:=hb;have HX:Hid ((w.alloc (.cells p.row 68)).heap[w.heap.size]? =some (.cells p.row 68 (0,0))∧Below w.heap.size w (w.alloc (.cells p.row 68))):=⟨heap_alloc_new _ _,(Kp _ _).alloc (Ki _) _⟩
 have HC:Hid (p.ep w):=hc;clear hb hc;unfold af.cells
 go_enter Tryz.func27,Tryz.ntmps27
 go_wp2_with fail;generalize w.alloc (.cells p.row 68)=W0 at *;refine (E1 p.aN p.L8 p.aW left W0 HB.I.dl (HC.I.L8.below HX.I.2) HB.I.L8 (by omega) (by omega)).mono ?_;rintro e W1 ⟨r1,rfl,a1,b1,s1,hb1⟩;have HQ1:Hid (0≤r1→(p.L8.length≤1048576∧ ∀ x∈p.L8,x.dX)∧r1+(p.L8.length+g9 (fun x:ao=>x.prog.length) p.L8:Nat)≤left):=s1;have HY:Hid (W1.heap[w.heap.size]? =some (.cells p.row 68 (0,0))∧Below w.heap.size w W1):=⟨(hb1.block _ (J2.1 HX.I.1).1).trans HX.I.1,HX.I.2.trans (hb1.mono HX.I.2.size)⟩
 clear hb1 s1 HX;have HX:=HY;clear HY;by_cases n1:r1 < 0
 ·go_wp2
  go_ret;exact cT HX.I.2 h0
 have m1:W1.cell? ⟨w.heap.size,3,none⟩=some (.slice p.bc p.aj.length p.bF):=by have:=HX.I.1; simp [World.cell?,this]
 go_wp2_with fail;clear m1;refine (Hq p.bc p.aj p.bF r1 W1 HB.I.fx (by omega) (by omega)).mono ?_;rintro e W2 ⟨r2,rfl,a2,b2,s2,hb2⟩;have ky:Hid (0≤r2→(p.aj.length≤1048576)∧r2+(p.aj.length:Nat)≤r1):=s2;have HY:Hid (W2.heap[w.heap.size]? =some (.cells p.row 68 (0,0))∧Below w.heap.size w W2):=⟨(hb2.block _ (J2.1 HX.I.1).1).trans HX.I.1,HX.I.2.trans (hb2.mono HX.I.2.size)⟩
 clear hb2 s2 HX;have HX:=HY;clear HY;by_cases n2:r2 < 0
 ·go_wp2
  go_ret;exact cT HX.I.2 h0
 have m2:W2.cell? ⟨w.heap.size,4,none⟩=some (.slice p.ay p.L9.length p.aO):=by have:=HX.I.1; simp [World.cell?,this]
 go_wp2_with fail;clear m2;refine (Dq p.ay p.L9 p.aO r2 W2 HB.I.cD (by omega) (by omega)).mono ?_;rintro e W3 ⟨r3,rfl,a3,b3,s3,hb3⟩;have Ck:Hid (0≤r3→(p.L9.length≤1048576)∧r3+(p.L9.length:Nat)≤r2):=s3;have HY:Hid (W3.heap[w.heap.size]? =some (.cells p.row 68 (0,0))∧Below w.heap.size w W3):=⟨(hb3.block _ (J2.1 HX.I.1).1).trans HX.I.1,HX.I.2.trans (hb3.mono HX.I.2.size)⟩
 clear hb3 s3 HX;have HX:=HY;clear HY;by_cases n3:r3 < 0
 ·go_wp2
  go_ret;exact cT HX.I.2 h0
 have m3:W3.cell? ⟨w.heap.size,5,none⟩=some (.slice p.ax p.ag.length p.aP):=by have:=HX.I.1; simp [World.cell?,this]
 go_wp2_with fail;clear m3;refine (C4 p.ax p.ag p.aP r3 W3 HB.I.cC (HC.I.ag.below HX.I.2) HB.I.ag (by omega) (by omega)).mono ?_;rintro e W4 ⟨r4,rfl,a4,b4,s4,hb4⟩;have Xc:Hid (0≤r4→(p.ag.length≤1048576∧ ∀ x∈p.ag,(x.text.size≤1048576))∧r4+(p.ag.length:Nat)≤r3):=s4;have HY:Hid (W4.heap[w.heap.size]? =some (.cells p.row 68 (0,0))∧Below w.heap.size w W4):=⟨(hb4.block _ (J2.1 HX.I.1).1).trans HX.I.1,HX.I.2.trans (hb4.mono HX.I.2.size)⟩
 clear hb4 s4 HX;have HX:=HY;clear HY;by_cases n4:r4 < 0
 ·go_wp2
  go_ret;exact cT HX.I.2 h0
 have m4:W4.cell? ⟨w.heap.size,6,none⟩=some (.slice p.am p.ae.length p.aG):=by have:=HX.I.1; simp [World.cell?,this]
 go_wp2_with fail;clear m4;refine (Ca p.am p.ae p.aG r4 W4 HB.I.cb (HC.I.ae.below HX.I.2) HB.I.ae (by omega) (by omega)).mono ?_;rintro e W5 ⟨r5,rfl,a5,b5,s5,iJ⟩;have Xb:Hid (0≤r5→(p.ae.length≤1048576∧ ∀ x∈p.ae,(x.Ma.length≤1048576∧ ∀ s∈x.Ma,s.size≤1048576))∧r5+(p.ae.length+g9 (fun x:au=>x.Ma.length) p.ae:Nat)≤r4):=s5;have HY:Hid (W5.heap[w.heap.size]? =some (.cells p.row 68 (0,0))∧Below w.heap.size w W5):=⟨(iJ.block _ (J2.1 HX.I.1).1).trans HX.I.1,HX.I.2.trans (iJ.mono HX.I.2.size)⟩
 clear iJ s5 HX;have HX:=HY;clear HY;by_cases n5:r5 < 0
 ·go_wp2
  go_ret;exact cT HX.I.2 h0
 have m5:W5.cell? ⟨w.heap.size,7,none⟩=some (.slice p.aK p.ai.length p.aV):=by have:=HX.I.1; simp [World.cell?,this]
 go_wp2_with fail;clear m5;refine (EC p.aK p.ai p.aV r5 W5 HB.I.dH (HC.I.ai.below HX.I.2) HB.I.ai (by omega) (by omega)).mono ?_;rintro e W6 ⟨r6,rfl,a6,b6,s6,jQ⟩;have HQ6:Hid (0≤r6→(p.ai.length≤1048576∧ ∀ x∈p.ai,(x.Ma.length≤1048576∧ ∀ s∈x.Ma,s.size≤1048576))∧r6+(p.ai.length+g9 (fun x:aM=>x.Ma.length) p.ai:Nat)≤r5):=s6;have HY:Hid (W6.heap[w.heap.size]? =some (.cells p.row 68 (0,0))∧Below w.heap.size w W6):=⟨(jQ.block _ (J2.1 HX.I.1).1).trans HX.I.1,HX.I.2.trans (jQ.mono HX.I.2.size)⟩
 clear jQ s6 HX;have HX:=HY;clear HY;by_cases n6:r6 < 0
 ·go_wp2
  go_ret;exact cT HX.I.2 h0
 go_wp2;go_ret;exact ⟨r6,rfl,by omega,by omega,fun _=>⟨⟨(HQ1.I (by omega)).1.1,(ky.I (by omega)).1,(Ck.I (by omega)).1,(Xc.I (by omega)).1.1,(Xb.I (by omega)).1.1,(HQ6.I (by omega)).1.1,(HQ1.I (by omega)).1.2,(Xc.I (by omega)).1.2,(Xb.I (by omega)).1.2,(HQ6.I (by omega)).1.2⟩,by rw [af.Bf]; have t1:=(HQ1.I (by omega)).2; have t2:=(ky.I (by omega)).2; have t3:=(Ck.I (by omega)).2; have t4:=(Xc.I (by omega)).2; have t5:=(Xb.I (by omega)).2; have t6:=(HQ6.I (by omega)).2; omega⟩,HX.I.2⟩
theorem p8 {α:Type} {N:gd α} {K:Kind α} {w w':World} {len lo:Nat} {l I:List α} (h:sd N K w w' len l I) (hl:lo≤w.heap.size):fV lo (fun W'=>W'.ownsRow w.heap.size N.T K.n (.slice (some ⟨w.heap.size,0,none⟩) len len) len (K.flat I)∧ ∀ x∈I,N.cO W' w.heap.size x) w':=fun W' hs _=>
 ⟨aL h.row fun g hg=>hs g (by have:=(cf h.row hg).1; omega) (cf h.row hg).2,fun x hx=>((h.mine x hx).low (by omega)).same fun g hk=>hs g (by have:=((h.mine x hx).lt hk).1; omega) ((h.mine x hx).lt hk).2⟩
theorem sE {w w':World} {T n len lo:Nat} {xs:List Value} (h:w'.ownsRow w.heap.size T n (.slice (some ⟨w.heap.size,0,none⟩) len len) len xs) (hl:lo≤w.heap.size):fV lo (fun W'=>W'.ownsRow w.heap.size T n (.slice (some ⟨w.heap.size,0,none⟩) len len) len xs) w':=fun W' hs _=>
 aL h fun g hg=>hs g (by have:=(cf h hg).1; omega) (cf h hg).2
theorem uh {α:Type} {N:gd α} {K:Kind α} {w w':World} {len:Nat} {l I:List α} (h:sd N K w w' len l I):nU w.heap.size w'.heap.size (blk (some ⟨w.heap.size,0,none⟩) ++ I.filterMap N.bt):=by
 have h1:=(cf h.row (g:=w.heap.size) (by rw [fZ]; rfl)).2;have hk:nU (w.heap.size+1) w'.heap.size (I.filterMap N.bt):=⟨h.nodup,fun g hg=>by
  obtain ⟨x,hx,hk⟩:=dP.1 hg;exact (h.mine x hx).lt hk⟩
 have hb:nU w.heap.size (w.heap.size+1) (blk (some ⟨w.heap.size,0,none⟩)):=⟨by simp [blk],fun g hg=>by rw [fZ] at hg; simp at hg; omega⟩
 exact hb.append hk (Ki _) (by omega) (by omega)
theorem zL {w w':World} {T n len:Nat} {xs:List Value} (h:w'.ownsRow w.heap.size T n (.slice (some ⟨w.heap.size,0,none⟩) len len) len xs):nU w.heap.size w'.heap.size (blk (some ⟨w.heap.size,0,none⟩)):=
 ⟨by simp [blk],fun g hg=>cf h hg⟩
theorem ni {lo:Nat} {F:World→Prop} {W:World} {vs:List Value} (h:fV (lo+1+1) F W):F (bn W lo 0 vs):=(h.step (fun g h1 _=>de _ (by omega)) (by rw [fH]; exact Ki _)).here
theorem rX {α β:Type} {N:gd α} {f:α→β} (hf: ∀ x,f (N.set x none 0)=f x) {l I:List α} (h:I.map (fun x=>N.set x none 0)=l.map (fun x=>N.set x none 0)):I.map f=l.map f:=by
 have:=congrArg (List.map f) h
 simp only [Lv,Ls,hf] at this;exact this
theorem nf {α:Type} {N:gd α} {l I:List α} (h:I.map (fun x=>N.set x none 0)=l.map (fun x=>N.set x none 0)):I.length=l.length:=by
 have:=congrArg List.length h
 simpa using this
theorem Dy {p:af} {W:World} {lo s1 e1 s2 e2 s3 e3 s4 e4 s5 e5 s6 e6:Nat} {o1:List ao} {o5:List au} {o6:List aM} (hs:lo≤s1∧e1≤s2∧e2≤s3∧e3≤s4∧e4≤s5∧e5≤s6) (hz:s1≤e1∧s2≤e2∧s3≤e3∧s4≤e4∧s5≤e5∧s6≤e6)
  (h1:(fun W'=>W'.ownsRow s1 148 12 (.slice (some ⟨s1,0,none⟩) p.L8.length p.L8.length) p.L8.length (bg.flat o1)∧ ∀ x∈o1,aR.cO W' s1 x) W)
  (b1:nU s1 e1 (blk (some ⟨s1,0,none⟩) ++ o1.filterMap aR.bt))
  (h2:(fun W'=>W'.ownsRow s2 184 3 (.slice (some ⟨s2,0,none⟩) p.aj.length p.aj.length) p.aj.length (dm.flat p.aj)) W)
  (b2:nU s2 e2 (blk (some ⟨s2,0,none⟩)))
  (h3:(fun W'=>W'.ownsRow s3 187 2 (.slice (some ⟨s3,0,none⟩) p.L9.length p.L9.length) p.L9.length (bJ.flat p.L9)) W)
  (b3:nU s3 e3 (blk (some ⟨s3,0,none⟩)))
  (h4:(fun W'=>W'.ownsRow s4 190 3 (.slice (some ⟨s4,0,none⟩) p.ag.length p.ag.length) p.ag.length (bG.flat p.ag)) W)
  (b4:nU s4 e4 (blk (some ⟨s4,0,none⟩)))
  (h5:(fun W'=>W'.ownsRow s5 160 3 (.slice (some ⟨s5,0,none⟩) p.ae.length p.ae.length) p.ae.length (bm.flat o5)∧ ∀ x∈o5,aC.cO W' s5 x) W)
  (b5:nU s5 e5 (blk (some ⟨s5,0,none⟩) ++ o5.filterMap aC.bt))
  (h6:(fun W'=>W'.ownsRow s6 85 5 (.slice (some ⟨s6,0,none⟩) p.ai.length p.ai.length) p.ai.length (bX.flat o6)∧ ∀ x∈o6,aU.cO W' s6 x) W)
  (b6:nU s6 e6 (blk (some ⟨s6,0,none⟩) ++ o6.filterMap aU.bt))
  (a1:o1.map (fun x=>aR.set x none 0)=p.L8.map (fun x=>aR.set x none 0)) (a5:o5.map (fun x=>aC.set x none 0)=p.ae.map (fun x=>aC.set x none 0)) (a6:o6.map (fun x=>aU.set x none 0)=p.ai.map (fun x=>aU.set x none 0)):
  ap W lo (⟨p.id,p.next,o1,some ⟨s1,0,none⟩,p.L8.length,p.aj,some ⟨s2,0,none⟩,p.aj.length,p.L9,some ⟨s3,0,none⟩,p.L9.length,p.ag,some ⟨s4,0,none⟩,p.ag.length,o5,some ⟨s5,0,none⟩,p.ae.length,o6,some ⟨s6,0,none⟩,p.ai.length⟩:af)∧(⟨p.id,p.next,o1,some ⟨s1,0,none⟩,p.L8.length,p.aj,some ⟨s2,0,none⟩,p.aj.length,p.L9,some ⟨s3,0,none⟩,p.L9.length,p.ag,some ⟨s4,0,none⟩,p.ag.length,o5,some ⟨s5,0,none⟩,p.ae.length,o6,some ⟨s6,0,none⟩,p.ai.length⟩:af).pure=p.pure:=by
 have l1:=nf a1;have l5:=nf a5;have l6:=nf a6;refine ⟨⟨?_,cq h2 (by omega),cq h3 (by omega),cq h4 (by omega),?_,?_,fun x hx=>(h1.2 x hx).low (by omega),fun x hx=>(h5.2 x hx).low (by omega),fun x hx=>(h6.2 x hx).low (by omega),?_⟩,?_⟩
 ·have:=cq (base':=lo) h1.1 (by omega)
  simp only [l1];exact this
 ·have:=cq (base':=lo) h5.1 (by omega)
  simp only [l5];exact this
 ·have:=cq (base':=lo) h6.1 (by omega)
  simp only [l6];exact this
 ·simp only [af.Mc]
  have:=b1.append (b2.append (b3.append (b4.append (b5.append b6 (by omega) (by omega) (by omega)) (by omega) (by omega) (by omega)) (by omega) (by omega) (by omega)) (by omega) (by omega) (by omega)) (by omega) (by omega) (by omega)
  simp only [List.append_assoc] at this;exact this.1
 ·show aE.mk _ _ _ _ _ _ _ _=aE.mk _ _ _ _ _ _ _ _
  have e1:o1.map (·.toaD)=p.L8.map (·.toaD):=rX (fun _=>rfl) a1;have e5:o5.map (·.toci)=p.ae.map (·.toci):=rX (fun _=>rfl) a5;have e6:o6.map (·.todS)=p.ai.map (·.todS):=rX (fun _=>rfl) a6;rw [e1,e5,e6]
structure CM (w W:World) (p:af) (cur:Array Value):Prop where
 src:W.heap[w.heap.size]? =some (.cells p.cells 68 (0,0))
 res:W.heap[w.heap.size+1]? =some (.cells ar 48 (0,0))
 var:W.heap[w.heap.size+1+1]? =some (.cells cur 48 (0,0))
 cd:Below w.heap.size w W
theorem CM.lt {w W:World} {p:af} {cur:Array Value} (h:CM w W p cur):w.heap.size+1+1 < W.heap.size:=(J2.1 h.var).1
theorem CM.below {w W W':World} {p:af} {cur:Array Value} (h:CM w W p cur) (hb:Below W.heap.size W W'):CM w W' p cur:=by
 have:=h.lt
 exact ⟨(hb.block _ (by omega)).trans h.src,(hb.block _ (by omega)).trans h.res,(hb.block _ (by omega)).trans h.var,h.cd.trans (hb.mono h.cd.size)⟩
theorem CM.set {w W:World} {p:af} {cur:Array Value} (h:CM w W p cur) (i:Nat) (v:Value):CM w (W.setCell ⟨w.heap.size+1+1,i,none⟩ v) p (cur.setIfInBounds i v):=
 ⟨(K6 W _ v _ (by show ¬ w.heap.size=w.heap.size+1+1; omega)).trans h.src,(K6 W _ v _ (by show ¬ w.heap.size+1=w.heap.size+1+1; omega)).trans h.res,heap_setCell_same W _ i cur _ v h.var,h.cd.setCell (by show w.heap.size≤w.heap.size+1+1; omega) v⟩
abbrev sl (S n:Nat):Value:= .slice (some ⟨S,0,none⟩) n n
abbrev abX (v w:World) (i:Nat) (x:Value):World:=v.setCell ⟨w.heap.size+1+1,i,none⟩ x
theorem Ve (p:af) (w:World) (hs:p.yq) (hc:p.ep w):
  Calls J3 29 #[.agg p.cells] w fun e w'=> ∃ p',e= .returned (.agg p'.cells)∧ap w' w.heap.size p'∧p'.pure=p.pure∧Below w.heap.size w w':=by
 have HS:Hid p.yq:=hs;have HC:Hid (p.ep w):=hc;have Hz:Hid (CM w (((w.alloc (.cells p.row 68)).alloc (.cells ar 48)).alloc (.cells #[.int .i64 p.id,.int .i64 p.next,.slice none 0 0,.slice none 0 0,.slice none 0 0,.slice none 0 0,.slice none 0 0,.slice none 0 0] 48)) p #[.int .i64 p.id,.int .i64 p.next,.slice none 0 0,.slice none 0 0,.slice none 0 0,.slice none 0 0,.slice none 0 0,.slice none 0 0]):=⟨(dR w _ _ _).1,(dR w _ _ _).2.1,(dR w _ _ _).2.2.1,fg w _ _ _⟩
 have HLO:Hid (w.heap.size+1+1 < (((w.alloc (.cells p.row 68)).alloc (.cells ar 48)).alloc (.cells #[.int .i64 p.id,.int .i64 p.next,.slice none 0 0,.slice none 0 0,.slice none 0 0,.slice none 0 0,.slice none 0 0,.slice none 0 0] 48)).heap.size):=Hz.I.lt;clear hs hc;unfold af.cells
 go_enter Tryz.func29,Tryz.ntmps29
 go_wp2_with fail;generalize ((w.alloc (.cells p.row 68)).alloc (.cells ar 48)).alloc (.cells #[.int .i64 p.id,.int .i64 p.next,.slice none 0 0,.slice none 0 0,.slice none 0 0,.slice none 0 0,.slice none 0 0,.slice none 0 0] 48)=W0 at *;refine (ET p.aN p.L8 p.aW W0 HS.I.dl (fun x hx=>(HS.I.L8 x hx).prog) (HC.I.L8.below Hz.I.cd)).mono ?_;rintro e v1 ⟨rfl,o1,Dz⟩;have wm:Hid (CM w (abX v1 w 2 (sl W0.heap.size p.L8.length)) p #[.int .i64 p.id,.int .i64 p.next,sl W0.heap.size p.L8.length,.slice none 0 0,.slice none 0 0,.slice none 0 0,.slice none 0 0,.slice none 0 0]):=(Hz.I.below Dz.cd).set 2 _;have wh:Hid (fV (w.heap.size+1+1+1) (fun W'=>W'.ownsRow W0.heap.size 148 12 (sl W0.heap.size p.L8.length) p.L8.length (bg.flat o1)∧ ∀ x∈o1,aR.cO W' W0.heap.size x) (abX v1 w 2 (sl W0.heap.size p.L8.length))):=dK (p8 Dz (lo:=w.heap.size+1+1+1) Hz.I.lt) (Kp _ _);have fQ:Hid (nU W0.heap.size v1.heap.size (blk (some ⟨W0.heap.size,0,none⟩) ++ o1.filterMap aR.bt)∧W0.heap.size≤v1.heap.size∧o1.map (fun x=>aR.set x none 0)=p.L8.map (fun x=>aR.set x none 0)):=⟨uh Dz,Dz.cd.size,Dz.alike⟩
 have HV1:Hid (v1.heap.size=(abX v1 w 2 (sl W0.heap.size p.L8.length)).heap.size):=by show _=_; simp [World.setCell]
 have hvar:=(Hz.I.below Dz.cd).var;have d1:v1.cell? ⟨w.heap.size+1+1,2,none⟩=some (.slice none 0 0):=by simp [World.cell?,hvar]
 have f1:v1.frozen? ⟨w.heap.size+1+1,2,none⟩=false:=by simp [World.frozen?,hvar]
 clear hvar Dz;have m1:(abX v1 w 2 (sl W0.heap.size p.L8.length)).cell? ⟨w.heap.size,3,none⟩=some (.slice p.bc p.aj.length p.bF):=by have:=wm.I.src; simp [World.cell?,this,af.cells]
 unfold abX sl at *;go_wp2_with fail;generalize v1.setCell ⟨w.heap.size+1+1,2,none⟩ (.slice (some ⟨W0.heap.size,0,none⟩) p.L8.length p.L8.length)=W1 at *;clear m1 d1 f1 Hz;generalize cm:W0.heap.size=S1 at *;have HG1:Hid (W0.heap.size=S1∧v1.heap.size=W1.heap.size):=⟨cm,HV1.I⟩
 clear cm HV1;refine (Hf p.bc p.aj p.bF W1 HS.I.fx (HC.I.aj.below wm.I.cd)).mono ?_;rintro e v2 ⟨rfl,hcp2,hb2⟩;have xD:Hid (CM w (abX v2 w 3 (sl W1.heap.size p.aj.length)) p #[.int .i64 p.id,.int .i64 p.next,sl S1 p.L8.length,sl W1.heap.size p.aj.length,.slice none 0 0,.slice none 0 0,.slice none 0 0,.slice none 0 0]):=(wm.I.below hb2).set 3 _;have zz:Hid (fV (w.heap.size+1+1+1) (fun W'=>W'.ownsRow W1.heap.size 184 3 (sl W1.heap.size p.aj.length) p.aj.length (dm.flat p.aj)) (abX v2 w 3 (sl W1.heap.size p.aj.length))):=dK (sE hcp2 (lo:=w.heap.size+1+1+1) wm.I.lt) (Kp _ _);have rc:Hid (fV (w.heap.size+1+1+1) (fun W'=>W'.ownsRow S1 148 12 (sl S1 p.L8.length) p.L8.length (bg.flat o1)∧ ∀ x∈o1,aR.cO W' S1 x) (abX v2 w 3 (sl W1.heap.size p.aj.length))):=dK wh.I hb2;clear wh;have wh:=rc;clear rc;have cy:Hid (nU W1.heap.size v2.heap.size (blk (some ⟨W1.heap.size,0,none⟩))∧W1.heap.size≤v2.heap.size):=⟨zL hcp2,hb2.size⟩
 have FD:Hid (v2.heap.size=(abX v2 w 3 (sl W1.heap.size p.aj.length)).heap.size):=by show _=_; simp [World.setCell]
 have hvar:=(wm.I.below hb2).var;have d2:v2.cell? ⟨w.heap.size+1+1,3,none⟩=some (.slice none 0 0):=by simp [World.cell?,hvar]
 have f2:v2.frozen? ⟨w.heap.size+1+1,3,none⟩=false:=by simp [World.frozen?,hvar]
 clear hvar hcp2 hb2;have m2:(abX v2 w 3 (sl W1.heap.size p.aj.length)).cell? ⟨w.heap.size,4,none⟩=some (.slice p.ay p.L9.length p.aO):=by have:=xD.I.src; simp [World.cell?,this,af.cells]
 unfold abX sl at *;go_wp2_with fail;generalize v2.setCell ⟨w.heap.size+1+1,3,none⟩ (.slice (some ⟨W1.heap.size,0,none⟩) p.aj.length p.aj.length)=W2 at *;clear m2 d2 f2 wm;generalize hS2:W1.heap.size=S2 at *;have HG2:Hid (W1.heap.size=S2∧v2.heap.size=W2.heap.size):=⟨hS2,FD.I⟩
 clear hS2 FD;refine (Df p.ay p.L9 p.aO W2 HS.I.cD (HC.I.L9.below xD.I.cd)).mono ?_;rintro e v3 ⟨rfl,hcp3,hb3⟩;have Fz:Hid (CM w (abX v3 w 4 (sl W2.heap.size p.L9.length)) p #[.int .i64 p.id,.int .i64 p.next,sl S1 p.L8.length,sl S2 p.aj.length,sl W2.heap.size p.L9.length,.slice none 0 0,.slice none 0 0,.slice none 0 0]):=(xD.I.below hb3).set 4 _;have Ci:Hid (fV (w.heap.size+1+1+1) (fun W'=>W'.ownsRow W2.heap.size 187 2 (sl W2.heap.size p.L9.length) p.L9.length (bJ.flat p.L9)) (abX v3 w 4 (sl W2.heap.size p.L9.length))):=dK (sE hcp3 (lo:=w.heap.size+1+1+1) xD.I.lt) (Kp _ _);have rc:Hid (fV (w.heap.size+1+1+1) (fun W'=>W'.ownsRow S1 148 12 (sl S1 p.L8.length) p.L8.length (bg.flat o1)∧ ∀ x∈o1,aR.cO W' S1 x) (abX v3 w 4 (sl W2.heap.size p.L9.length))):=dK wh.I hb3;clear wh;have wh:=rc;clear rc;have iP:Hid (fV (w.heap.size+1+1+1) (fun W'=>W'.ownsRow S2 184 3 (sl S2 p.aj.length) p.aj.length (dm.flat p.aj)) (abX v3 w 4 (sl W2.heap.size p.L9.length))):=dK zz.I hb3;clear zz;have zz:=iP;clear iP;have oh:Hid (nU W2.heap.size v3.heap.size (blk (some ⟨W2.heap.size,0,none⟩))∧W2.heap.size≤v3.heap.size):=⟨zL hcp3,hb3.size⟩
 have Fx:Hid (v3.heap.size=(abX v3 w 4 (sl W2.heap.size p.L9.length)).heap.size):=by show _=_; simp [World.setCell]
 have hvar:=(xD.I.below hb3).var;have d3:v3.cell? ⟨w.heap.size+1+1,4,none⟩=some (.slice none 0 0):=by simp [World.cell?,hvar]
 have f3:v3.frozen? ⟨w.heap.size+1+1,4,none⟩=false:=by simp [World.frozen?,hvar]
 clear hvar hcp3 hb3;have m3:(abX v3 w 4 (sl W2.heap.size p.L9.length)).cell? ⟨w.heap.size,5,none⟩=some (.slice p.ax p.ag.length p.aP):=by have:=Fz.I.src; simp [World.cell?,this,af.cells]
 unfold abX sl at *;go_wp2_with fail;generalize v3.setCell ⟨w.heap.size+1+1,4,none⟩ (.slice (some ⟨W2.heap.size,0,none⟩) p.L9.length p.L9.length)=W3 at *;clear m3 d3 f3 xD;generalize NO:W2.heap.size=S3 at *;have HG3:Hid (W2.heap.size=S3∧v3.heap.size=W3.heap.size):=⟨NO,Fx.I⟩
 clear NO Fx;refine (CQ p.ax p.ag p.aP W3 HS.I.cC (HC.I.ag.below Fz.I.cd)).mono ?_;rintro e v4 ⟨rfl,hcp4,hb4⟩;have FA:Hid (CM w (abX v4 w 5 (sl W3.heap.size p.ag.length)) p #[.int .i64 p.id,.int .i64 p.next,sl S1 p.L8.length,sl S2 p.aj.length,sl S3 p.L9.length,sl W3.heap.size p.ag.length,.slice none 0 0,.slice none 0 0]):=(Fz.I.below hb4).set 5 _;have EF:Hid (fV (w.heap.size+1+1+1) (fun W'=>W'.ownsRow W3.heap.size 190 3 (sl W3.heap.size p.ag.length) p.ag.length (bG.flat p.ag)) (abX v4 w 5 (sl W3.heap.size p.ag.length))):=dK (sE hcp4 (lo:=w.heap.size+1+1+1) Fz.I.lt) (Kp _ _);have rc:Hid (fV (w.heap.size+1+1+1) (fun W'=>W'.ownsRow S1 148 12 (sl S1 p.L8.length) p.L8.length (bg.flat o1)∧ ∀ x∈o1,aR.cO W' S1 x) (abX v4 w 5 (sl W3.heap.size p.ag.length))):=dK wh.I hb4;clear wh;have wh:=rc;clear rc;have iP:Hid (fV (w.heap.size+1+1+1) (fun W'=>W'.ownsRow S2 184 3 (sl S2 p.aj.length) p.aj.length (dm.flat p.aj)) (abX v4 w 5 (sl W3.heap.size p.ag.length))):=dK zz.I hb4;clear zz;have zz:=iP;clear iP;have Ar:Hid (fV (w.heap.size+1+1+1) (fun W'=>W'.ownsRow S3 187 2 (sl S3 p.L9.length) p.L9.length (bJ.flat p.L9)) (abX v4 w 5 (sl W3.heap.size p.ag.length))):=dK Ci.I hb4;clear Ci;have Ci:=Ar;clear Ar;have HB4:Hid (nU W3.heap.size v4.heap.size (blk (some ⟨W3.heap.size,0,none⟩))∧W3.heap.size≤v4.heap.size):=⟨zL hcp4,hb4.size⟩
 have HV4:Hid (v4.heap.size=(abX v4 w 5 (sl W3.heap.size p.ag.length)).heap.size):=by show _=_; simp [World.setCell]
 have hvar:=(Fz.I.below hb4).var;have d4:v4.cell? ⟨w.heap.size+1+1,5,none⟩=some (.slice none 0 0):=by simp [World.cell?,hvar]
 have f4:v4.frozen? ⟨w.heap.size+1+1,5,none⟩=false:=by simp [World.frozen?,hvar]
 clear hvar hcp4 hb4;have m4:(abX v4 w 5 (sl W3.heap.size p.ag.length)).cell? ⟨w.heap.size,6,none⟩=some (.slice p.am p.ae.length p.aG):=by have:=FA.I.src; simp [World.cell?,this,af.cells]
 unfold abX sl at *;go_wp2_with fail;generalize v4.setCell ⟨w.heap.size+1+1,5,none⟩ (.slice (some ⟨W3.heap.size,0,none⟩) p.ag.length p.ag.length)=W4 at *;clear m4 d4 f4 Fz;generalize hS4:W3.heap.size=S4 at *;have HG4:Hid (W3.heap.size=S4∧v4.heap.size=W4.heap.size):=⟨hS4,HV4.I⟩
 clear hS4 HV4;refine (Br p.am p.ae p.aG W4 HS.I.cb (fun x hx=>(HS.I.ae x hx).1) (HC.I.ae.below FA.I.cd)).mono ?_;rintro e v5 ⟨rfl,o5,uP⟩;have Ik:Hid (CM w (abX v5 w 6 (sl W4.heap.size p.ae.length)) p #[.int .i64 p.id,.int .i64 p.next,sl S1 p.L8.length,sl S2 p.aj.length,sl S3 p.L9.length,sl S4 p.ag.length,sl W4.heap.size p.ae.length,.slice none 0 0]):=(FA.I.below uP.cd).set 6 _;have Hy:Hid (fV (w.heap.size+1+1+1) (fun W'=>W'.ownsRow W4.heap.size 160 3 (sl W4.heap.size p.ae.length) p.ae.length (bm.flat o5)∧ ∀ x∈o5,aC.cO W' W4.heap.size x) (abX v5 w 6 (sl W4.heap.size p.ae.length))):=dK (p8 uP (lo:=w.heap.size+1+1+1) FA.I.lt) (Kp _ _);have rc:Hid (fV (w.heap.size+1+1+1) (fun W'=>W'.ownsRow S1 148 12 (sl S1 p.L8.length) p.L8.length (bg.flat o1)∧ ∀ x∈o1,aR.cO W' S1 x) (abX v5 w 6 (sl W4.heap.size p.ae.length))):=dK wh.I uP.cd;clear wh;have wh:=rc;clear rc;have iP:Hid (fV (w.heap.size+1+1+1) (fun W'=>W'.ownsRow S2 184 3 (sl S2 p.aj.length) p.aj.length (dm.flat p.aj)) (abX v5 w 6 (sl W4.heap.size p.ae.length))):=dK zz.I uP.cd;clear zz;have zz:=iP;clear iP;have Ar:Hid (fV (w.heap.size+1+1+1) (fun W'=>W'.ownsRow S3 187 2 (sl S3 p.L9.length) p.L9.length (bJ.flat p.L9)) (abX v5 w 6 (sl W4.heap.size p.ae.length))):=dK Ci.I uP.cd;clear Ci;have Ci:=Ar;clear Ar;have GS:Hid (fV (w.heap.size+1+1+1) (fun W'=>W'.ownsRow S4 190 3 (sl S4 p.ag.length) p.ag.length (bG.flat p.ag)) (abX v5 w 6 (sl W4.heap.size p.ae.length))):=dK EF.I uP.cd;clear EF;have EF:=GS;clear GS;have Dk:Hid (nU W4.heap.size v5.heap.size (blk (some ⟨W4.heap.size,0,none⟩) ++ o5.filterMap aC.bt)∧W4.heap.size≤v5.heap.size∧o5.map (fun x=>aC.set x none 0)=p.ae.map (fun x=>aC.set x none 0)):=⟨uh uP,uP.cd.size,uP.alike⟩
 have HV5:Hid (v5.heap.size=(abX v5 w 6 (sl W4.heap.size p.ae.length)).heap.size):=by show _=_; simp [World.setCell]
 have hvar:=(FA.I.below uP.cd).var;have d5:v5.cell? ⟨w.heap.size+1+1,6,none⟩=some (.slice none 0 0):=by simp [World.cell?,hvar]
 have f5:v5.frozen? ⟨w.heap.size+1+1,6,none⟩=false:=by simp [World.frozen?,hvar]
 clear hvar uP;have m5:(abX v5 w 6 (sl W4.heap.size p.ae.length)).cell? ⟨w.heap.size,7,none⟩=some (.slice p.aK p.ai.length p.aV):=by have:=Ik.I.src; simp [World.cell?,this,af.cells]
 unfold abX sl at *;go_wp2_with fail;generalize v5.setCell ⟨w.heap.size+1+1,6,none⟩ (.slice (some ⟨W4.heap.size,0,none⟩) p.ae.length p.ae.length)=W5 at *;clear m5 d5 f5 FA;generalize hS5:W4.heap.size=S5 at *;have HG5:Hid (W4.heap.size=S5∧v5.heap.size=W5.heap.size):=⟨hS5,HV5.I⟩
 clear hS5 HV5;refine (Fh p.aK p.ai p.aV W5 HS.I.dH (fun x hx=>(HS.I.ai x hx).1) (HC.I.ai.below Ik.I.cd)).mono ?_;rintro e v6 ⟨rfl,o6,tL⟩;have Jw:Hid (CM w (abX v6 w 7 (sl W5.heap.size p.ai.length)) p #[.int .i64 p.id,.int .i64 p.next,sl S1 p.L8.length,sl S2 p.aj.length,sl S3 p.L9.length,sl S4 p.ag.length,sl S5 p.ae.length,sl W5.heap.size p.ai.length]):=(Ik.I.below tL.cd).set 7 _;have pE:Hid (fV (w.heap.size+1+1+1) (fun W'=>W'.ownsRow W5.heap.size 85 5 (sl W5.heap.size p.ai.length) p.ai.length (bX.flat o6)∧ ∀ x∈o6,aU.cO W' W5.heap.size x) (abX v6 w 7 (sl W5.heap.size p.ai.length))):=dK (p8 tL (lo:=w.heap.size+1+1+1) Ik.I.lt) (Kp _ _);have rc:Hid (fV (w.heap.size+1+1+1) (fun W'=>W'.ownsRow S1 148 12 (sl S1 p.L8.length) p.L8.length (bg.flat o1)∧ ∀ x∈o1,aR.cO W' S1 x) (abX v6 w 7 (sl W5.heap.size p.ai.length))):=dK wh.I tL.cd;clear wh;have wh:=rc;clear rc;have iP:Hid (fV (w.heap.size+1+1+1) (fun W'=>W'.ownsRow S2 184 3 (sl S2 p.aj.length) p.aj.length (dm.flat p.aj)) (abX v6 w 7 (sl W5.heap.size p.ai.length))):=dK zz.I tL.cd;clear zz;have zz:=iP;clear iP;have Ar:Hid (fV (w.heap.size+1+1+1) (fun W'=>W'.ownsRow S3 187 2 (sl S3 p.L9.length) p.L9.length (bJ.flat p.L9)) (abX v6 w 7 (sl W5.heap.size p.ai.length))):=dK Ci.I tL.cd;clear Ci;have Ci:=Ar;clear Ar;have GS:Hid (fV (w.heap.size+1+1+1) (fun W'=>W'.ownsRow S4 190 3 (sl S4 p.ag.length) p.ag.length (bG.flat p.ag)) (abX v6 w 7 (sl W5.heap.size p.ai.length))):=dK EF.I tL.cd;clear EF;have EF:=GS;clear GS;have HZ5:Hid (fV (w.heap.size+1+1+1) (fun W'=>W'.ownsRow S5 160 3 (sl S5 p.ae.length) p.ae.length (bm.flat o5)∧ ∀ x∈o5,aC.cO W' S5 x) (abX v6 w 7 (sl W5.heap.size p.ai.length))):=dK Hy.I tL.cd;clear Hy;have Hy:=HZ5;clear HZ5;have HB6:Hid (nU W5.heap.size v6.heap.size (blk (some ⟨W5.heap.size,0,none⟩) ++ o6.filterMap aU.bt)∧W5.heap.size≤v6.heap.size∧o6.map (fun x=>aU.set x none 0)=p.ai.map (fun x=>aU.set x none 0)):=⟨uh tL,tL.cd.size,tL.alike⟩
 have HV6:Hid (v6.heap.size=(abX v6 w 7 (sl W5.heap.size p.ai.length)).heap.size):=by show _=_; simp [World.setCell]
 have hvar:=(Ik.I.below tL.cd).var;have d6:v6.cell? ⟨w.heap.size+1+1,7,none⟩=some (.slice none 0 0):=by simp [World.cell?,hvar]
 have f6:v6.frozen? ⟨w.heap.size+1+1,7,none⟩=false:=by simp [World.frozen?,hvar]
 clear hvar tL;have hvar:=Jw.I.var;have hres:=Jw.I.res;have x0:(abX v6 w 7 (sl W5.heap.size p.ai.length)).cell? ⟨w.heap.size+1+1,0,none⟩=some (.int .i64 p.id):=by simp [World.cell?,hvar]
 have y0:(abX v6 w 7 (sl W5.heap.size p.ai.length)).cell? ⟨w.heap.size+1,0,none⟩=some (.int .i64 0):=by simp [World.cell?,hres]
 have z0:(abX v6 w 7 (sl W5.heap.size p.ai.length)).frozen? ⟨w.heap.size+1,0,none⟩=false:=by simp [World.frozen?,hres]
 have x1:(abX v6 w 7 (sl W5.heap.size p.ai.length)).cell? ⟨w.heap.size+1+1,1,none⟩=some (.int .i64 p.next):=by simp [World.cell?,hvar]
 have y1:(abX v6 w 7 (sl W5.heap.size p.ai.length)).cell? ⟨w.heap.size+1,1,none⟩=some (.int .i64 0):=by simp [World.cell?,hres]
 have z1:(abX v6 w 7 (sl W5.heap.size p.ai.length)).frozen? ⟨w.heap.size+1,1,none⟩=false:=by simp [World.frozen?,hres]
 have x2:(abX v6 w 7 (sl W5.heap.size p.ai.length)).cell? ⟨w.heap.size+1+1,2,none⟩=some (sl S1 p.L8.length):=by simp [World.cell?,hvar]
 have y2:(abX v6 w 7 (sl W5.heap.size p.ai.length)).cell? ⟨w.heap.size+1,2,none⟩=some (.slice none 0 0):=by simp [World.cell?,hres]
 have z2:(abX v6 w 7 (sl W5.heap.size p.ai.length)).frozen? ⟨w.heap.size+1,2,none⟩=false:=by simp [World.frozen?,hres]
 have x3:(abX v6 w 7 (sl W5.heap.size p.ai.length)).cell? ⟨w.heap.size+1+1,3,none⟩=some (sl S2 p.aj.length):=by simp [World.cell?,hvar]
 have y3:(abX v6 w 7 (sl W5.heap.size p.ai.length)).cell? ⟨w.heap.size+1,3,none⟩=some (.slice none 0 0):=by simp [World.cell?,hres]
 have z3:(abX v6 w 7 (sl W5.heap.size p.ai.length)).frozen? ⟨w.heap.size+1,3,none⟩=false:=by simp [World.frozen?,hres]
 have x4:(abX v6 w 7 (sl W5.heap.size p.ai.length)).cell? ⟨w.heap.size+1+1,4,none⟩=some (sl S3 p.L9.length):=by simp [World.cell?,hvar]
 have y4:(abX v6 w 7 (sl W5.heap.size p.ai.length)).cell? ⟨w.heap.size+1,4,none⟩=some (.slice none 0 0):=by simp [World.cell?,hres]
 have z4:(abX v6 w 7 (sl W5.heap.size p.ai.length)).frozen? ⟨w.heap.size+1,4,none⟩=false:=by simp [World.frozen?,hres]
 have x5:(abX v6 w 7 (sl W5.heap.size p.ai.length)).cell? ⟨w.heap.size+1+1,5,none⟩=some (sl S4 p.ag.length):=by simp [World.cell?,hvar]
 have y5:(abX v6 w 7 (sl W5.heap.size p.ai.length)).cell? ⟨w.heap.size+1,5,none⟩=some (.slice none 0 0):=by simp [World.cell?,hres]
 have z5:(abX v6 w 7 (sl W5.heap.size p.ai.length)).frozen? ⟨w.heap.size+1,5,none⟩=false:=by simp [World.frozen?,hres]
 have x6:(abX v6 w 7 (sl W5.heap.size p.ai.length)).cell? ⟨w.heap.size+1+1,6,none⟩=some (sl S5 p.ae.length):=by simp [World.cell?,hvar]
 have y6:(abX v6 w 7 (sl W5.heap.size p.ai.length)).cell? ⟨w.heap.size+1,6,none⟩=some (.slice none 0 0):=by simp [World.cell?,hres]
 have z6:(abX v6 w 7 (sl W5.heap.size p.ai.length)).frozen? ⟨w.heap.size+1,6,none⟩=false:=by simp [World.frozen?,hres]
 have x7:(abX v6 w 7 (sl W5.heap.size p.ai.length)).cell? ⟨w.heap.size+1+1,7,none⟩=some (sl W5.heap.size p.ai.length):=by simp [World.cell?,hvar]
 have y7:(abX v6 w 7 (sl W5.heap.size p.ai.length)).cell? ⟨w.heap.size+1,7,none⟩=some (.slice none 0 0):=by simp [World.cell?,hres]
 have z7:(abX v6 w 7 (sl W5.heap.size p.ai.length)).frozen? ⟨w.heap.size+1,7,none⟩=false:=by simp [World.frozen?,hres]
 clear hvar hres;unfold abX sl at *;go_wp2_with fail;have h9:=ri (vs:= [.int .i64 p.id,.int .i64 p.next,sl S1 p.L8.length,sl S2 p.aj.length,sl S3 p.L9.length,sl S4 p.ag.length,sl S5 p.ae.length,sl W5.heap.size p.ai.length]) Jw.I.res rfl;have h10:Below w.heap.size w (bn (abX v6 w 7 (sl W5.heap.size p.ai.length)) (w.heap.size+1) 0 [.int .i64 p.id,.int .i64 p.next,sl S1 p.L8.length,sl S2 p.aj.length,sl S3 p.L9.length,sl S4 p.ag.length,sl S5 p.ae.length,sl W5.heap.size p.ai.length]):=eU _ (by omega) Jw.I.cd;have h11:ap (bn (abX v6 w 7 (sl W5.heap.size p.ai.length)) (w.heap.size+1) 0 [.int .i64 p.id,.int .i64 p.next,sl S1 p.L8.length,sl S2 p.aj.length,sl S3 p.L9.length,sl S4 p.ag.length,sl S5 p.ae.length,sl W5.heap.size p.ai.length]) (w.heap.size+1+1+1) (⟨p.id,p.next,o1,some ⟨S1,0,none⟩,p.L8.length,p.aj,some ⟨S2,0,none⟩,p.aj.length,p.L9,some ⟨S3,0,none⟩,p.L9.length,p.ag,some ⟨S4,0,none⟩,p.ag.length,o5,some ⟨S5,0,none⟩,p.ae.length,o6,some ⟨W5.heap.size,0,none⟩,p.ai.length⟩:af)∧(⟨p.id,p.next,o1,some ⟨S1,0,none⟩,p.L8.length,p.aj,some ⟨S2,0,none⟩,p.aj.length,p.L9,some ⟨S3,0,none⟩,p.L9.length,p.ag,some ⟨S4,0,none⟩,p.ag.length,o5,some ⟨S5,0,none⟩,p.ae.length,o6,some ⟨W5.heap.size,0,none⟩,p.ai.length⟩:af).pure=p.pure:=
  Dy ⟨HLO.I,by have:=HG1.I.2; have:=HG2.I.1; omega,by have:=HG2.I.2; have:=HG3.I.1; omega,by have:=HG3.I.2; have:=HG4.I.1; omega,by have:=HG4.I.2; have:=HG5.I.1; omega,by have:=HG5.I.2; omega⟩
   ⟨fQ.I.2.1,cy.I.2,oh.I.2,HB4.I.2,Dk.I.2.1,HB6.I.2.1⟩
   (ni wh.I) fQ.I.1 (ni zz.I) cy.I.1 (ni Ci.I) oh.I.1 (ni EF.I) HB4.I.1 (ni Hy.I) Dk.I.1 (ni pE.I) HB6.I.1 fQ.I.2.2 Dk.I.2.2 HB6.I.2.2
 have l1:=nf fQ.I.2.2;have l5:=nf Dk.I.2.2;have l6:=nf HB6.I.2.2;simp only [bn,Nat.reduceAdd,Nat.zero_add] at h9 h10 h11;refine bodyPost_ret (v:= .agg #[.int .i64 p.id,.int .i64 p.next,.slice (some ⟨S1,0,none⟩) p.L8.length p.L8.length,.slice (some ⟨S2,0,none⟩) p.aj.length p.aj.length,.slice (some ⟨S3,0,none⟩) p.L9.length p.L9.length,.slice (some ⟨S4,0,none⟩) p.ag.length p.ag.length,.slice (some ⟨S5,0,none⟩) p.ae.length p.ae.length,.slice (some ⟨W5.heap.size,0,none⟩) p.ai.length p.ai.length]) (results_cell_row Tryz.results29 _ _ (w.heap.size+1) _ _ (0,0) _ rfl h9 Tryz.underlying48 rfl (by kernel_rfl)) rfl ?_;exact ⟨(⟨p.id,p.next,o1,some ⟨S1,0,none⟩,p.L8.length,p.aj,some ⟨S2,0,none⟩,p.aj.length,p.L9,some ⟨S3,0,none⟩,p.L9.length,p.ag,some ⟨S4,0,none⟩,p.ag.length,o5,some ⟨S5,0,none⟩,p.ae.length,o6,some ⟨W5.heap.size,0,none⟩,p.ai.length⟩:af),by simp only [l1,l5,l6],h11.1.lower (by omega),h11.2,h10⟩
theorem Vb (p q:af) (w:World) (hs:p.pure.Small) (hp:q.pure=p.pure) (h:af.At w p) (h':af.At w q):
  Calls J3 15 #[.agg p.cells,.agg q.cells] w fun e w'=>e= .returned (.bool true)∧Below w.heap.size w w':=by
 have e0:q.id=p.id:=congrArg aE.id hp;have e1:q.next=p.next:=congrArg aE.next hp;have g1:q.L8.map (·.toaD)=p.L8.map (·.toaD):=congrArg aE.L8 hp;have g2:q.aj=p.aj:=congrArg aE.aj hp;have g3:q.L9=p.L9:=congrArg aE.L9 hp;have g4:q.ag=p.ag:=congrArg aE.ag hp;have g5:q.ae.map (·.toci)=p.ae.map (·.toci):=congrArg aE.ae hp;have g6:q.ai.map (·.todS)=p.ai.map (·.todS):=congrArg aE.ai hp;have l1:q.L8.length=p.L8.length:=by have:=congrArg List.length g1; simpa using this
 have l5:q.ae.length=p.ae.length:=by have:=congrArg List.length g5; simpa using this
 have l6:q.ai.length=p.ai.length:=by have:=congrArg List.length g6; simpa using this
 have hq:q.cells= #[.int .i64 p.id,.int .i64 p.next,.slice q.aN p.L8.length q.aW,.slice q.bc p.aj.length q.bF,.slice q.ay p.L9.length q.aO,.slice q.ax p.ag.length q.aP,.slice q.am p.ae.length q.aG,.slice q.aK p.ai.length q.aV] :=by unfold af.cells; rw [e0,e1,l1,g2,g3,g4,l5,l6]
 have HX:Hid (((w.alloc (.cells p.row 48)).alloc (.cells #[.int .i64 p.id,.int .i64 p.next,.slice q.aN p.L8.length q.aW,.slice q.bc p.aj.length q.bF,.slice q.ay p.L9.length q.aO,.slice q.ax p.ag.length q.aP,.slice q.am p.ae.length q.aG,.slice q.aK p.ai.length q.aV] 48)).heap[w.heap.size]? =some (.cells p.row 48 (0,0))∧((w.alloc (.cells p.row 48)).alloc (.cells #[.int .i64 p.id,.int .i64 p.next,.slice q.aN p.L8.length q.aW,.slice q.bc p.aj.length q.bF,.slice q.ay p.L9.length q.aO,.slice q.ax p.ag.length q.aP,.slice q.am p.ae.length q.aG,.slice q.aK p.ai.length q.aV] 48)).heap[w.heap.size+1]? =some (.cells #[.int .i64 p.id,.int .i64 p.next,.slice q.aN p.L8.length q.aW,.slice q.bc p.aj.length q.bF,.slice q.ay p.L9.length q.aO,.slice q.ax p.ag.length q.aP,.slice q.am p.ae.length q.aG,.slice q.aK p.ai.length q.aV] 48 (0,0))∧Below w.heap.size w ((w.alloc (.cells p.row 48)).alloc (.cells #[.int .i64 p.id,.int .i64 p.next,.slice q.aN p.L8.length q.aW,.slice q.bc p.aj.length q.bF,.slice q.ay p.L9.length q.aO,.slice q.ax p.ag.length q.aP,.slice q.am p.ae.length q.aG,.slice q.aK p.ai.length q.aV] 48))):=⟨(cZ _ _ _).1,(cZ _ _ _).2,dT _ _ _⟩
 have HL:Hid (af.At w p∧af.At w q∧p.pure.Small):=⟨h,h',hs⟩
 have HG:Hid (q.L8.map (·.toaD)=p.L8.map (·.toaD)∧q.ae.map (·.toci)=p.ae.map (·.toci)∧q.ai.map (·.todS)=p.ai.map (·.todS)∧q.aj=p.aj∧q.L9=p.L9∧q.ag=p.ag):=⟨g1,g5,g6,g2,g3,g4⟩
 rw [hq];clear h h' hs hp hq g1 g2 g3 g4 g5 g6 l1 l5 l6 e0 e1;unfold af.cells
 go_enter Tryz.func15,Tryz.ntmps15
 go_wp2_with fail;generalize (w.alloc (.cells p.row 48)).alloc (.cells #[.int .i64 p.id,.int .i64 p.next,.slice q.aN p.L8.length q.aW,.slice q.bc p.aj.length q.bF,.slice q.ay p.L9.length q.aO,.slice q.ax p.ag.length q.aP,.slice q.am p.ae.length q.aG,.slice q.aK p.ai.length q.aV] 48)=W0 at *;refine (Ff p.aN q.aN p.L8 q.L8 p.aW q.aW W0 (gv HL.I.2.2).L8 (fun x hx=>(cY HL.I.2.2 hx).1.prog) HG.I.1 (HL.I.1.1.below HX.I.2.2) (HL.I.2.1.1.below HX.I.2.2)).mono ?_;rintro e W1 ⟨rfl,hb1⟩;have HY:Hid (W1.heap[w.heap.size]? =some (.cells p.row 48 (0,0))∧W1.heap[w.heap.size+1]? =some (.cells #[.int .i64 p.id,.int .i64 p.next,.slice q.aN p.L8.length q.aW,.slice q.bc p.aj.length q.bF,.slice q.ay p.L9.length q.aO,.slice q.ax p.ag.length q.aP,.slice q.am p.ae.length q.aG,.slice q.aK p.ai.length q.aV] 48 (0,0))∧Below w.heap.size w W1):=⟨(hb1.block _ (J2.1 HX.I.1).1).trans HX.I.1,(hb1.block _ (J2.1 HX.I.2.1).1).trans HX.I.2.1,HX.I.2.2.trans (hb1.mono HX.I.2.2.size)⟩
 clear hb1 HX;have HX:=HY;clear HY;have m1:W1.cell? ⟨w.heap.size,3,none⟩=some (.slice p.bc p.aj.length p.bF):=by have:=HX.I.1; simp [World.cell?,this]
 have n1:W1.cell? ⟨w.heap.size+1,3,none⟩=some (.slice q.bc p.aj.length q.bF):=by have:=HX.I.2.1; simp [World.cell?,this]
 go_wp2_with fail;clear m1 n1;refine (Hr p.bc q.bc p.aj p.bF q.bF W1 (gv HL.I.2.2).aj (HL.I.1.2.1.below HX.I.2.2) (by have h5:=HL.I.2.1.2.1.below HX.I.2.2; rw [HG.I.2.2.2.1] at h5; exact h5)).mono ?_;rintro e W2 ⟨rfl,hb2⟩;have HY:Hid (W2.heap[w.heap.size]? =some (.cells p.row 48 (0,0))∧W2.heap[w.heap.size+1]? =some (.cells #[.int .i64 p.id,.int .i64 p.next,.slice q.aN p.L8.length q.aW,.slice q.bc p.aj.length q.bF,.slice q.ay p.L9.length q.aO,.slice q.ax p.ag.length q.aP,.slice q.am p.ae.length q.aG,.slice q.aK p.ai.length q.aV] 48 (0,0))∧Below w.heap.size w W2):=⟨(hb2.block _ (J2.1 HX.I.1).1).trans HX.I.1,(hb2.block _ (J2.1 HX.I.2.1).1).trans HX.I.2.1,HX.I.2.2.trans (hb2.mono HX.I.2.2.size)⟩
 clear hb2 HX;have HX:=HY;clear HY;have m2:W2.cell? ⟨w.heap.size,4,none⟩=some (.slice p.ay p.L9.length p.aO):=by have:=HX.I.1; simp [World.cell?,this]
 have n2:W2.cell? ⟨w.heap.size+1,4,none⟩=some (.slice q.ay p.L9.length q.aO):=by have:=HX.I.2.1; simp [World.cell?,this]
 go_wp2_with fail;clear m2 n2;refine (CI p.ay q.ay p.L9 p.aO q.aO W2 (gv HL.I.2.2).L9 (HL.I.1.2.2.1.below HX.I.2.2) (by have h5:=HL.I.2.1.2.2.1.below HX.I.2.2; rw [HG.I.2.2.2.2.1] at h5; exact h5)).mono ?_;rintro e W3 ⟨rfl,hb3⟩;have HY:Hid (W3.heap[w.heap.size]? =some (.cells p.row 48 (0,0))∧W3.heap[w.heap.size+1]? =some (.cells #[.int .i64 p.id,.int .i64 p.next,.slice q.aN p.L8.length q.aW,.slice q.bc p.aj.length q.bF,.slice q.ay p.L9.length q.aO,.slice q.ax p.ag.length q.aP,.slice q.am p.ae.length q.aG,.slice q.aK p.ai.length q.aV] 48 (0,0))∧Below w.heap.size w W3):=⟨(hb3.block _ (J2.1 HX.I.1).1).trans HX.I.1,(hb3.block _ (J2.1 HX.I.2.1).1).trans HX.I.2.1,HX.I.2.2.trans (hb3.mono HX.I.2.2.size)⟩
 clear hb3 HX;have HX:=HY;clear HY;have m3:W3.cell? ⟨w.heap.size,5,none⟩=some (.slice p.ax p.ag.length p.aP):=by have:=HX.I.1; simp [World.cell?,this]
 have n3:W3.cell? ⟨w.heap.size+1,5,none⟩=some (.slice q.ax p.ag.length q.aP):=by have:=HX.I.2.1; simp [World.cell?,this]
 go_wp2_with fail;clear m3 n3;refine (Cs p.ax q.ax p.ag p.aP q.aP W3 (gv HL.I.2.2).ag (HL.I.1.2.2.2.1.below HX.I.2.2) (by have h5:=HL.I.2.1.2.2.2.1.below HX.I.2.2; rw [HG.I.2.2.2.2.2] at h5; exact h5)).mono ?_;rintro e W4 ⟨rfl,hb4⟩;have HY:Hid (W4.heap[w.heap.size]? =some (.cells p.row 48 (0,0))∧W4.heap[w.heap.size+1]? =some (.cells #[.int .i64 p.id,.int .i64 p.next,.slice q.aN p.L8.length q.aW,.slice q.bc p.aj.length q.bF,.slice q.ay p.L9.length q.aO,.slice q.ax p.ag.length q.aP,.slice q.am p.ae.length q.aG,.slice q.aK p.ai.length q.aV] 48 (0,0))∧Below w.heap.size w W4):=⟨(hb4.block _ (J2.1 HX.I.1).1).trans HX.I.1,(hb4.block _ (J2.1 HX.I.2.1).1).trans HX.I.2.1,HX.I.2.2.trans (hb4.mono HX.I.2.2.size)⟩
 clear hb4 HX;have HX:=HY;clear HY;have m4:W4.cell? ⟨w.heap.size,6,none⟩=some (.slice p.am p.ae.length p.aG):=by have:=HX.I.1; simp [World.cell?,this]
 have n4:W4.cell? ⟨w.heap.size+1,6,none⟩=some (.slice q.am p.ae.length q.aG):=by have:=HX.I.2.1; simp [World.cell?,this]
 go_wp2_with fail;clear m4 n4;refine (AK p.am q.am p.ae q.ae p.aG q.aG W4 (gv HL.I.2.2).ae (fun x hx=>(nO HL.I.2.2 hx).2.1) HG.I.2.1 (HL.I.1.2.2.2.2.1.below HX.I.2.2) (HL.I.2.1.2.2.2.2.1.below HX.I.2.2)).mono ?_;rintro e W5 ⟨rfl,iJ⟩;have HY:Hid (W5.heap[w.heap.size]? =some (.cells p.row 48 (0,0))∧W5.heap[w.heap.size+1]? =some (.cells #[.int .i64 p.id,.int .i64 p.next,.slice q.aN p.L8.length q.aW,.slice q.bc p.aj.length q.bF,.slice q.ay p.L9.length q.aO,.slice q.ax p.ag.length q.aP,.slice q.am p.ae.length q.aG,.slice q.aK p.ai.length q.aV] 48 (0,0))∧Below w.heap.size w W5):=⟨(iJ.block _ (J2.1 HX.I.1).1).trans HX.I.1,(iJ.block _ (J2.1 HX.I.2.1).1).trans HX.I.2.1,HX.I.2.2.trans (iJ.mono HX.I.2.2.size)⟩
 clear iJ HX;have HX:=HY;clear HY;have m5:W5.cell? ⟨w.heap.size,7,none⟩=some (.slice p.aK p.ai.length p.aV):=by have:=HX.I.1; simp [World.cell?,this]
 have n5:W5.cell? ⟨w.heap.size+1,7,none⟩=some (.slice q.aK p.ai.length q.aV):=by have:=HX.I.2.1; simp [World.cell?,this]
 go_wp2_with fail;clear m5 n5;refine (Ef p.aK q.aK p.ai q.ai p.aV q.aV W5 (gv HL.I.2.2).ai (fun x hx=>(qf HL.I.2.2 hx).2.1) HG.I.2.2.1 (HL.I.1.2.2.2.2.2.below HX.I.2.2) (HL.I.2.1.2.2.2.2.2.below HX.I.2.2)).mono ?_;rintro e W6 ⟨rfl,jQ⟩;have HY:Hid (W6.heap[w.heap.size]? =some (.cells p.row 48 (0,0))∧W6.heap[w.heap.size+1]? =some (.cells #[.int .i64 p.id,.int .i64 p.next,.slice q.aN p.L8.length q.aW,.slice q.bc p.aj.length q.bF,.slice q.ay p.L9.length q.aO,.slice q.ax p.ag.length q.aP,.slice q.am p.ae.length q.aG,.slice q.aK p.ai.length q.aV] 48 (0,0))∧Below w.heap.size w W6):=⟨(jQ.block _ (J2.1 HX.I.1).1).trans HX.I.1,(jQ.block _ (J2.1 HX.I.2.1).1).trans HX.I.2.1,HX.I.2.2.trans (jQ.mono HX.I.2.2.size)⟩
 clear jQ HX;have HX:=HY;clear HY;go_wp2;go_ret;exact ⟨rfl,HX.I.2.2⟩
end
section
open Go.RowKit
section
variable {w w1 w2:World} {bs bs':List Nat}
end
section
variable {α:Type} {K:Kind α}
theorem bl.owns {T:TypeId} {w:World} {base g cap:Nat} {l:List α} (h:bl K T w base g cap l):w.ownsRow base T K.n (.slice (some ⟨g,0,none⟩) l.length cap) l.length (K.flat l):=by
 obtain ⟨cur,h1,h2,h3,h4,h5,h6⟩:=h;exact ⟨K.dM l,.inr ⟨g,cap,cur,rfl,h2,h1,h3,h4,h5,h6⟩⟩
theorem bl.fX {T:TypeId} {w:World} {base cap:Nat} {a:Option Addr} {l:List α} (h:w.ownsRow base T K.n (.slice a l.length cap) l.length (K.flat l)) (hl: ¬ l.length=0): ∃ g,a=some ⟨g,0,none⟩∧bl K T w base g cap l:=by
 rcases h.2 with ⟨_,h0⟩ | ⟨g,c,cur,hv,h1,h2,h3,h4,h5,h6⟩
 ·exact absurd h0 hl
 ·simp only [LD] at hv
  obtain ⟨rfl,-,rfl⟩:=hv;exact ⟨g,rfl,cur,h2,h1,h3,h4,h5,h6⟩
theorem bl.eO {T:TypeId} {w:World} {base g cap j:Nat} {A B:List α} {x:α} (h:bl K T w base g cap (A ++ x :: B)) (hA:A.length=j) {r:Nat} (hr:r < K.n):(∃ u,w.cell? ⟨g,j * K.n+r,none⟩=some u)∧w.frozen? ⟨g,j * K.n+r,none⟩=false:=by
 have hx:(A ++ x :: B)[j]? =some x:=by
  subst hA;rw [Qo (Ki _)];simp
 obtain ⟨h1,h2⟩:=h.cell hx hr;rw [List.getElem?_eq_getElem (by rw [K.len]; exact hr)] at h1;exact ⟨⟨_,h1⟩,h2⟩
theorem bl.uD {T:TypeId} {w:World} {base g cap j:Nat} {A B:List α} {x:α} (h:bl K T w base g cap (A ++ x :: B)) (hA:A.length=j) {r:Nat} (hr:r < K.n):w.cell? ⟨g,j * K.n+r,none⟩=(K.vals x)[r]? :=by
 have hx:(A ++ x :: B)[j]? =some x:=by
  subst hA;rw [Qo (Ki _)];simp
 exact (h.cell hx hr).1
theorem mz {l:List α} {k:Nat} {x:α} (hx:l[k]? =some x):l.drop k=x :: l.drop (k+1):=by
 obtain ⟨hk,rfl⟩:=Lj.1 hx;exact List.drop_eq_getElem_cons hk
def aJ (f:Int→α→α) (c:α→Nat):Int→List α→List α
 | _,[] => []
 | k,x :: r=>f k x :: aJ f c (k+c x) r
def aF (c:α→Nat):List α→Nat
 | [] =>0
 | x :: r=>c x+aF c r
theorem oz (c:α→Nat): ∀ l r:List α,aF c (l ++ r)=aF c l+aF c r
 | [],r=>by simp [aF]
 | x :: l,r=>by simp only [Qw,aF,oz c l r]; omega
theorem nA (f:Int→α→α) (c:α→Nat): ∀ (k:Int) (l r:List α),aJ f c k (l ++ r)=aJ f c k l ++ aJ f c (k+aF c l) r
 | k,[],r=>by simp [aJ,aF]
 | k,x :: l,r=>by
  simp only [Qw,aJ,aF,nA f c (k+c x) l r];rw [show k+(c x:Int)+(aF c l:Int)=k+((c x+aF c l:Nat):Int) by omega]
theorem bE (f:Int→α→α) (c:α→Nat): ∀ (k:Int) (l:List α),(aJ f c k l).length=l.length
 | _,[] =>rfl
 | k,x :: r=>by simp [aJ,bE f c (k+c x) r]
theorem kr {c:α→Nat} {n:Nat} (h: ∀ x,c x=n): ∀ l:List α,aF c l=l.length * n
 | [] =>by simp [aF]
 | x :: r=>by rw [aF,h x,kr h r,List.length_cons,Nat.succ_mul]; omega
theorem du {c:α→Nat} {l:List α} {i:Nat} {x:α} (hx:l[i]? =some x):aF c (l.take i)+c x≤aF c l:=by
 have e:=kL hx
 have:aF c l=aF c (l.take i ++ x :: l.drop (i+1)):=by rw [← e]
 rw [this,oz,aF];omega
theorem gK {c:α→Nat} {l:List α} {i:Nat} {x:α} (hx:l[i]? =some x):aF c (l.take (i+1))=aF c (l.take i)+c x:=by
 rw [cj hx,oz];simp [aF]
theorem jK {f:Int→α→α} {c:α→Nat} {k:Int} {l:List α} {i:Nat} {x:α} (hx:l[i]? =some x):(aJ f c k l)[i]? =some (f (k+aF c (l.take i)) x):=by
 have hi:i < l.length:=(Lj.1 hx).1;have e:aJ f c k l=aJ f c k (l.take i ++ x :: l.drop (i+1)):=by rw [← kL hx]
 have hn:(aJ f c k (l.take i)).length=i:=by rw [bE,List.length_take]; omega
 rw [e,nA,Qo (by omega),hn,Nat.sub_self];rfl
theorem kE {f:Int→α→α} {c:α→Nat} {k:Int} {l:List α} {i:Nat} {x:α} (hx:l[i]? =some x):aJ f c k (l.take (i+1))=aJ f c k (l.take i) ++ [f (k+aF c (l.take i)) x] :=by
 rw [cj hx,nA];rfl
end
end
section
open Go.RowKit
attribute [local go_sem] Oper.semAt_some
theorem P2.count {m:Int} {n:Nat} {Z:Nat→Int} {cs:Array Value} (h:P2 m n Z cs):cs[1]? =some (.int .i64 n):=by
 rw [h.2 1 (by decide)]; rfl
theorem P2.major {m:Int} {n:Nat} {Z:Nat→Int} {cs:Array Value} (h:P2 m n Z cs):cs[0]? =some (.int .i64 m):=by
 rw [h.2 0 (by decide)]; rfl
theorem P2.win {m:Int} {n:Nat} {Z:Nat→Int} {cs:Array Value} (h:P2 m n Z cs) (hn:n≤20) {j:Nat} (hj:j < n * 3):cs[2+j]? =some (.int .i64 (Z j)):=by
 rw [h.2 (2+j) (by omega)];unfold va;rw [if_neg (by omega),if_neg (by omega),if_pos (by omega),show 2+j - 2=j by omega]
def Z4 (Z:Nat→Int) (k:Nat):Value:= .agg #[.int .i64 (Z (k * 3)),.int .i64 (Z (k * 3+1)),.int .i64 (Z (k * 3+2))]
end
end Go.Proofs.YteidkehoekbcaaaGreat
