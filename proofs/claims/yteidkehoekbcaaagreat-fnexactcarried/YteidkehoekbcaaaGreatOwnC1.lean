/- What the proof leans on, part 1. -/
import Derived.Test.YteidkehoekbcaaaGreatOwnK5
import Derived.Test.YteidkehoekbcaaaGreatOwnK7
import Derived.Test.YteidkehoekbcaaaGreatOwnK15
import Derived.Test.YteidkehoekbcaaaGreatOwnK16
import Derived.Test.YteidkehoekbcaaaGreatOwnK17
import Derived.Test.YteidkehoekbcaaaGreatOwnK18
import Derived.Test.YteidkehoekbcaaaGreatOwnK19
import Derived.Test.YteidkehoekbcaaaGreatOwnK20
import Derived.Test.YteidkehoekbcaaaGreatOwnC0
import Derived.Deep.AppendSrc
set_option maxRecDepth 100000
set_option maxHeartbeats 8000000
open Array renaming getElem?_eq_some_iff->J2
open Bool renaming and_eq_true->J7,false_eq_true->J5
open Function renaming comp_def->Ls
open Go renaming callsIn_wide->LO,heap_alloc_new->Kj,wpList_append_own_at->KD,wp_at_succ->Kd,wp_at_zero->Kc
open Go.Proofs renaming enters_of->LP
open Go.Proofs.AnyZI renaming keys_gives->RD,keys_in->RC,sorted_in->RE
open Go.Proofs.Tryz renaming func129->aeI,prog->J3
open Go.RowKit.Below renaming heap_alloc->adD,heap_setCell->K6,refl->Kp
open Go.World renaming cell?_of_block->J1,news_of_block->KE,ownsRow_nil->Ke,putObj_heap_other->adX
open List renaming append_assoc->Lm,filterMap_append->LW,getElem?_eq_getElem->Kz,length_map->KG,map_append->Kl,map_map->Lv,mem_append->Kg,mem_append_left->Lz,mem_append_right->Ly,mem_cons->Kt,mem_filterMap->Lq,mem_flatMap->Rt,mem_map->Lr,mem_of_getElem?->KA,mem_singleton->KB,nil_append->Ll,nodup_append->Kf,not_mem_nil->Ku,pairwise_append->aeB,take_length->LQ
open Nat renaming le_refl->Ki,le_trans->LG,zero_add->Li,zero_le->Ky
open Option renaming map_eq_some_iff->Kw
open Option.some renaming injEq->LF
open Prod.mk renaming injEq->Kx

namespace Go.Proofs.YteidkehoekbcaaaGreat
section
open Go.RowKit
attribute [local go_sem ↓] Kc Kd
structure af.ep (w:World) (p:af):Prop where
 L8:bg.ep w p.aN p.L8
 aj:dm.ep w p.bc p.aj
 L9:bJ.ep w p.ay p.L9
 ag:bG.ep w p.ax p.ag
 ae:bm.ep w p.am p.ae
 ai:bX.ep w p.aK p.ai
theorem af.ep.below {w w':World} {p:af} (h:p.ep w) (hb:Below w.heap.size w w'):p.ep w':=⟨h.L8.below hb,h.aj.below hb,h.L9.below hb,h.ag.below hb,h.ae.below hb,h.ai.below hb⟩
structure af.Ud (p:af):Prop where
 dl:p.L8.length≤maxLen
 fx:p.aj.length≤maxLen
 cD:p.L9.length≤maxLen
 cC:p.ag.length≤maxLen
 cb:p.ae.length≤maxLen
 dH:p.ai.length≤maxLen
 L8: ∀ x∈p.L8,((x.prog.length≤maxLen∧ ∀ o∈x.prog,o.2.2.2.size≤maxLen)∧x.held.size≤maxLen∧x.got.size≤maxLen)
 ag: ∀ x∈p.ag,(x.text.size≤maxLen)
 ae: ∀ x∈p.ae,(x.Ma.length≤maxLen∧ ∀ s∈x.Ma,s.size≤maxLen)
 ai: ∀ x∈p.ai,(x.Ma.length≤maxLen∧ ∀ s∈x.Ma,s.size≤maxLen)
structure af.yq (p:af):Prop where
 dl:p.L8.length≤1048576
 fx:p.aj.length≤1048576
 cD:p.L9.length≤1048576
 cC:p.ag.length≤1048576
 cb:p.ae.length≤1048576
 dH:p.ai.length≤1048576
 L8: ∀ x∈p.L8,x.dX
 ag: ∀ x∈p.ag,(x.text.size≤1048576)
 ae: ∀ x∈p.ae,(x.Ma.length≤1048576∧ ∀ s∈x.Ma,s.size≤1048576)
 ai: ∀ x∈p.ai,(x.Ma.length≤1048576∧ ∀ s∈x.Ma,s.size≤1048576)
def aE.total (p:aE):Nat:=p.L8.length+g9 (fun x:aD=>x.prog.length) p.L8+p.aj.length+p.L9.length+p.ag.length+(p.ae.length+g9 (fun x:ci=>x.Ma.length) p.ae)+(p.ai.length+g9 (fun x:dS=>x.Ma.length) p.ai)
theorem af.Bf (p:af):p.pure.total=p.L8.length+g9 (fun x:ao=>x.prog.length) p.L8+p.aj.length+p.L9.length+p.ag.length+(p.ae.length+g9 (fun x:au=>x.Ma.length) p.ae)+(p.ai.length+g9 (fun x:aM=>x.Ma.length) p.ai):=by
 simp only [aE.total,af.pure,g9,KG,Lv];rfl
theorem U6 (p:af) (left:Int) (w:World) (hb:p.Ud) (hc:p.ep w) (h0:0≤left) (h1:left≤1048576):
  Calls J3 27 #[.agg p.cells,.int .i64 left] w fun e w'=>jZ w left p.pure.total p.yq e w':=by
 have HB:Hid p.Ud:=hb;have HX:Hid ((w.alloc (.cells p.row 68)).heap[w.heap.size]? =some (.cells p.row 68 (0,0))∧Below w.heap.size w (w.alloc (.cells p.row 68))):=⟨Kj _ _,(Kp _ _).alloc (Ki _) _⟩
 have HC:Hid (p.ep w):=hc;clear hb hc;unfold af.cells
 go_enter Tryz.func27,Tryz.ntmps27
 go_wp2_with fail;generalize w.alloc (.cells p.row 68)=W0 at *;refine (E1 p.aN p.L8 p.aW left W0 HB.I.dl (HC.I.L8.below HX.I.2) HB.I.L8 (by omega) (by omega)).mono ?_;rintro e W1 ⟨r1,rfl,a1,b1,s1,hb1⟩;have HQ1:Hid (0≤r1→(p.L8.length≤1048576∧ ∀ x∈p.L8,x.dX)∧r1+(p.L8.length+g9 (fun x:ao=>x.prog.length) p.L8:Nat)≤left):=s1;have HY:Hid (W1.heap[w.heap.size]? =some (.cells p.row 68 (0,0))∧Below w.heap.size w W1):=⟨(hb1.block _ (J2.1 HX.I.1).1).trans HX.I.1,HX.I.2.trans (hb1.mono HX.I.2.size)⟩
 clear hb1 s1 HX;have HX:=HY;clear HY;by_cases n1:r1 < 0
 ·go_wp2
  go_ret;exact cT HX.I.2 h0
 have m1:W1.cell? ⟨w.heap.size,3,none⟩=some (.slice p.bc p.aj.length p.bF):=by have:=HX.I.1; simp [World.cell?,this]
 go_wp2_with fail;clear m1;refine (Hq p.bc p.aj p.bF r1 W1 HB.I.fx (by omega) (by omega)).mono ?_;rintro e W2 ⟨r2,rfl,a2,b2,s2,hb2⟩;have ky:Hid (0≤r2→(p.aj.length≤1048576)∧r2+(p.aj.length:Nat)≤r1):=s2;have HY:Hid (W2.heap[w.heap.size]? =some (.cells p.row 68 (0,0))∧Below w.heap.size w W2):=⟨(hb2.block _ (J2.1 HX.I.1).1).trans HX.I.1,HX.I.2.trans (hb2.mono HX.I.2.size)⟩
 clear hb2 s2 HX;have HX:=HY;clear HY;by_cases n2:r2 < 0
 ·go_wp2
  go_ret;exact cT HX.I.2 h0
 have m2:W2.cell? ⟨w.heap.size,4,none⟩=some (.slice p.ay p.L9.length p.aO):=by have:=HX.I.1; simp [World.cell?,this]
 go_wp2_with fail;clear m2;refine (Dq p.ay p.L9 p.aO r2 W2 HB.I.cD (by omega) (by omega)).mono ?_;rintro e W3 ⟨r3,rfl,a3,b3,s3,hb3⟩;have Ck:Hid (0≤r3→(p.L9.length≤1048576)∧r3+(p.L9.length:Nat)≤r2):=s3;have HY:Hid (W3.heap[w.heap.size]? =some (.cells p.row 68 (0,0))∧Below w.heap.size w W3):=⟨(hb3.block _ (J2.1 HX.I.1).1).trans HX.I.1,HX.I.2.trans (hb3.mono HX.I.2.size)⟩
 clear hb3 s3 HX;have HX:=HY;clear HY;by_cases n3:r3 < 0
 ·go_wp2
  go_ret;exact cT HX.I.2 h0
 have m3:W3.cell? ⟨w.heap.size,5,none⟩=some (.slice p.ax p.ag.length p.aP):=by have:=HX.I.1; simp [World.cell?,this]
 go_wp2_with fail;clear m3;refine (C4 p.ax p.ag p.aP r3 W3 HB.I.cC (HC.I.ag.below HX.I.2) HB.I.ag (by omega) (by omega)).mono ?_;rintro e W4 ⟨r4,rfl,a4,b4,s4,hb4⟩;have Xc:Hid (0≤r4→(p.ag.length≤1048576∧ ∀ x∈p.ag,(x.text.size≤1048576))∧r4+(p.ag.length:Nat)≤r3):=s4;have HY:Hid (W4.heap[w.heap.size]? =some (.cells p.row 68 (0,0))∧Below w.heap.size w W4):=⟨(hb4.block _ (J2.1 HX.I.1).1).trans HX.I.1,HX.I.2.trans (hb4.mono HX.I.2.size)⟩
 clear hb4 s4 HX;have HX:=HY;clear HY;by_cases n4:r4 < 0
 ·go_wp2
  go_ret;exact cT HX.I.2 h0
 have m4:W4.cell? ⟨w.heap.size,6,none⟩=some (.slice p.am p.ae.length p.aG):=by have:=HX.I.1; simp [World.cell?,this]
 go_wp2_with fail;clear m4;refine (Ca p.am p.ae p.aG r4 W4 HB.I.cb (HC.I.ae.below HX.I.2) HB.I.ae (by omega) (by omega)).mono ?_;rintro e W5 ⟨r5,rfl,a5,b5,s5,iJ⟩;have Xb:Hid (0≤r5→(p.ae.length≤1048576∧ ∀ x∈p.ae,(x.Ma.length≤1048576∧ ∀ s∈x.Ma,s.size≤1048576))∧r5+(p.ae.length+g9 (fun x:au=>x.Ma.length) p.ae:Nat)≤r4):=s5;have HY:Hid (W5.heap[w.heap.size]? =some (.cells p.row 68 (0,0))∧Below w.heap.size w W5):=⟨(iJ.block _ (J2.1 HX.I.1).1).trans HX.I.1,HX.I.2.trans (iJ.mono HX.I.2.size)⟩
 clear iJ s5 HX;have HX:=HY;clear HY;by_cases n5:r5 < 0
 ·go_wp2
  go_ret;exact cT HX.I.2 h0
 have m5:W5.cell? ⟨w.heap.size,7,none⟩=some (.slice p.aK p.ai.length p.aV):=by have:=HX.I.1; simp [World.cell?,this]
 go_wp2_with fail;clear m5;refine (EC p.aK p.ai p.aV r5 W5 HB.I.dH (HC.I.ai.below HX.I.2) HB.I.ai (by omega) (by omega)).mono ?_;rintro e W6 ⟨r6,rfl,a6,b6,s6,jQ⟩;have HQ6:Hid (0≤r6→(p.ai.length≤1048576∧ ∀ x∈p.ai,(x.Ma.length≤1048576∧ ∀ s∈x.Ma,s.size≤1048576))∧r6+(p.ai.length+g9 (fun x:aM=>x.Ma.length) p.ai:Nat)≤r5):=s6;have HY:Hid (W6.heap[w.heap.size]? =some (.cells p.row 68 (0,0))∧Below w.heap.size w W6):=⟨(jQ.block _ (J2.1 HX.I.1).1).trans HX.I.1,HX.I.2.trans (jQ.mono HX.I.2.size)⟩
 clear jQ s6 HX;have HX:=HY;clear HY;by_cases n6:r6 < 0
 ·go_wp2
  go_ret;exact cT HX.I.2 h0
 go_wp2;go_ret;exact ⟨r6,rfl,by omega,by omega,fun _=>⟨⟨(HQ1.I (by omega)).1.1,(ky.I (by omega)).1,(Ck.I (by omega)).1,(Xc.I (by omega)).1.1,(Xb.I (by omega)).1.1,(HQ6.I (by omega)).1.1,(HQ1.I (by omega)).1.2,(Xc.I (by omega)).1.2,(Xb.I (by omega)).1.2,(HQ6.I (by omega)).1.2⟩,by rw [af.Bf]; have t1:=(HQ1.I (by omega)).2; have t2:=(ky.I (by omega)).2; have t3:=(Ck.I (by omega)).2; have t4:=(Xc.I (by omega)).2; have t5:=(Xb.I (by omega)).2; have t6:=(HQ6.I (by omega)).2; omega⟩,HX.I.2⟩
theorem p8 {α:Type} {N:gd α} {K:Kind α} {w w':World} {len lo:Nat} {l I:List α} (h:sd N K w w' len l I) (hl:lo≤w.heap.size):fV lo (fun W'=>W'.ownsRow w.heap.size N.T K.n (.slice (some ⟨w.heap.size,0,none⟩) len len) len (K.flat I)∧ ∀ x∈I,N.cO W' w.heap.size x) w':=fun W' hs _=>
 ⟨aL h.row fun g hg=>hs g (by have:=(cf h.row hg).1; omega) (cf h.row hg).2,fun x hx=>((h.mine x hx).low (by omega)).same fun g hk=>hs g (by have:=((h.mine x hx).lt hk).1; omega) ((h.mine x hx).lt hk).2⟩
theorem sE {w w':World} {T n len lo:Nat} {xs:List Value} (h:w'.ownsRow w.heap.size T n (.slice (some ⟨w.heap.size,0,none⟩) len len) len xs) (hl:lo≤w.heap.size):fV lo (fun W'=>W'.ownsRow w.heap.size T n (.slice (some ⟨w.heap.size,0,none⟩) len len) len xs) w':=fun W' hs _=>
 aL h fun g hg=>hs g (by have:=(cf h hg).1; omega) (cf h hg).2
theorem uh {α:Type} {N:gd α} {K:Kind α} {w w':World} {len:Nat} {l I:List α} (h:sd N K w w' len l I):nU w.heap.size w'.heap.size (blk (some ⟨w.heap.size,0,none⟩) ++ I.filterMap N.bt):=by
 have h1:=(cf h.row (g:=w.heap.size) (by rw [fZ]; rfl)).2;have hk:nU (w.heap.size+1) w'.heap.size (I.filterMap N.bt):=⟨h.nodup,fun g hg=>by
  obtain ⟨x,hx,hk⟩:=dP.1 hg;exact (h.mine x hx).lt hk⟩
 have hb:nU w.heap.size (w.heap.size+1) (blk (some ⟨w.heap.size,0,none⟩)):=⟨by simp [blk],fun g hg=>by rw [fZ] at hg; simp at hg; omega⟩
 exact hb.append hk (Ki _) (by omega) (by omega)
theorem zL {w w':World} {T n len:Nat} {xs:List Value} (h:w'.ownsRow w.heap.size T n (.slice (some ⟨w.heap.size,0,none⟩) len len) len xs):nU w.heap.size w'.heap.size (blk (some ⟨w.heap.size,0,none⟩)):=
 ⟨by simp [blk],fun g hg=>cf h hg⟩
theorem ni {lo:Nat} {F:World→Prop} {W:World} {vs:List Value} (h:fV (lo+1+1) F W):F (bn W lo 0 vs):=(h.step (fun g h1 _=>de _ (by omega)) (by rw [fH]; exact Ki _)).here
theorem rX {α β:Type} {N:gd α} {f:α→β} (hf: ∀ x,f (N.set x none 0)=f x) {l I:List α} (h:I.map (fun x=>N.set x none 0)=l.map (fun x=>N.set x none 0)):I.map f=l.map f:=by
 have:=congrArg (List.map f) h
 simp only [Lv,Ls,hf] at this;exact this
theorem nf {α:Type} {N:gd α} {l I:List α} (h:I.map (fun x=>N.set x none 0)=l.map (fun x=>N.set x none 0)):I.length=l.length:=by
 have:=congrArg List.length h
 simpa using this
theorem Dy {p:af} {W:World} {lo s1 e1 s2 e2 s3 e3 s4 e4 s5 e5 s6 e6:Nat} {o1:List ao} {o5:List au} {o6:List aM} (hs:lo≤s1∧e1≤s2∧e2≤s3∧e3≤s4∧e4≤s5∧e5≤s6) (hz:s1≤e1∧s2≤e2∧s3≤e3∧s4≤e4∧s5≤e5∧s6≤e6)
  (h1:(fun W'=>W'.ownsRow s1 148 12 (.slice (some ⟨s1,0,none⟩) p.L8.length p.L8.length) p.L8.length (bg.flat o1)∧ ∀ x∈o1,aR.cO W' s1 x) W)
  (b1:nU s1 e1 (blk (some ⟨s1,0,none⟩) ++ o1.filterMap aR.bt))
  (h2:(fun W'=>W'.ownsRow s2 184 3 (.slice (some ⟨s2,0,none⟩) p.aj.length p.aj.length) p.aj.length (dm.flat p.aj)) W)
  (b2:nU s2 e2 (blk (some ⟨s2,0,none⟩)))
  (h3:(fun W'=>W'.ownsRow s3 187 2 (.slice (some ⟨s3,0,none⟩) p.L9.length p.L9.length) p.L9.length (bJ.flat p.L9)) W)
  (b3:nU s3 e3 (blk (some ⟨s3,0,none⟩)))
  (h4:(fun W'=>W'.ownsRow s4 190 3 (.slice (some ⟨s4,0,none⟩) p.ag.length p.ag.length) p.ag.length (bG.flat p.ag)) W)
  (b4:nU s4 e4 (blk (some ⟨s4,0,none⟩)))
  (h5:(fun W'=>W'.ownsRow s5 160 3 (.slice (some ⟨s5,0,none⟩) p.ae.length p.ae.length) p.ae.length (bm.flat o5)∧ ∀ x∈o5,aC.cO W' s5 x) W)
  (b5:nU s5 e5 (blk (some ⟨s5,0,none⟩) ++ o5.filterMap aC.bt))
  (h6:(fun W'=>W'.ownsRow s6 85 5 (.slice (some ⟨s6,0,none⟩) p.ai.length p.ai.length) p.ai.length (bX.flat o6)∧ ∀ x∈o6,aU.cO W' s6 x) W)
  (b6:nU s6 e6 (blk (some ⟨s6,0,none⟩) ++ o6.filterMap aU.bt))
  (a1:o1.map (fun x=>aR.set x none 0)=p.L8.map (fun x=>aR.set x none 0)) (a5:o5.map (fun x=>aC.set x none 0)=p.ae.map (fun x=>aC.set x none 0)) (a6:o6.map (fun x=>aU.set x none 0)=p.ai.map (fun x=>aU.set x none 0)):
  ap W lo (⟨p.id,p.next,o1,some ⟨s1,0,none⟩,p.L8.length,p.aj,some ⟨s2,0,none⟩,p.aj.length,p.L9,some ⟨s3,0,none⟩,p.L9.length,p.ag,some ⟨s4,0,none⟩,p.ag.length,o5,some ⟨s5,0,none⟩,p.ae.length,o6,some ⟨s6,0,none⟩,p.ai.length⟩:af)∧(⟨p.id,p.next,o1,some ⟨s1,0,none⟩,p.L8.length,p.aj,some ⟨s2,0,none⟩,p.aj.length,p.L9,some ⟨s3,0,none⟩,p.L9.length,p.ag,some ⟨s4,0,none⟩,p.ag.length,o5,some ⟨s5,0,none⟩,p.ae.length,o6,some ⟨s6,0,none⟩,p.ai.length⟩:af).pure=p.pure:=by
 have l1:=nf a1;have l5:=nf a5;have l6:=nf a6;refine ⟨⟨?_,cq h2 (by omega),cq h3 (by omega),cq h4 (by omega),?_,?_,fun x hx=>(h1.2 x hx).low (by omega),fun x hx=>(h5.2 x hx).low (by omega),fun x hx=>(h6.2 x hx).low (by omega),?_⟩,?_⟩
 ·have:=cq (base':=lo) h1.1 (by omega)
  simp only [l1];exact this
 ·have:=cq (base':=lo) h5.1 (by omega)
  simp only [l5];exact this
 ·have:=cq (base':=lo) h6.1 (by omega)
  simp only [l6];exact this
 ·simp only [af.Mc]
  have:=b1.append (b2.append (b3.append (b4.append (b5.append b6 (by omega) (by omega) (by omega)) (by omega) (by omega) (by omega)) (by omega) (by omega) (by omega)) (by omega) (by omega) (by omega)) (by omega) (by omega) (by omega)
  simp only [Lm] at this;exact this.1
 ·show aE.mk _ _ _ _ _ _ _ _=aE.mk _ _ _ _ _ _ _ _
  have e1:o1.map (·.toaD)=p.L8.map (·.toaD):=rX (fun _=>rfl) a1;have e5:o5.map (·.toci)=p.ae.map (·.toci):=rX (fun _=>rfl) a5;have e6:o6.map (·.todS)=p.ai.map (·.todS):=rX (fun _=>rfl) a6;rw [e1,e5,e6]
structure CM (w W:World) (p:af) (cur:Array Value):Prop where
 src:W.heap[w.heap.size]? =some (.cells p.cells 68 (0,0))
 res:W.heap[w.heap.size+1]? =some (.cells ar 48 (0,0))
 var:W.heap[w.heap.size+1+1]? =some (.cells cur 48 (0,0))
 cd:Below w.heap.size w W
theorem CM.lt {w W:World} {p:af} {cur:Array Value} (h:CM w W p cur):w.heap.size+1+1 < W.heap.size:=(J2.1 h.var).1
theorem CM.below {w W W':World} {p:af} {cur:Array Value} (h:CM w W p cur) (hb:Below W.heap.size W W'):CM w W' p cur:=by
 have:=h.lt
 exact ⟨(hb.block _ (by omega)).trans h.src,(hb.block _ (by omega)).trans h.res,(hb.block _ (by omega)).trans h.var,h.cd.trans (hb.mono h.cd.size)⟩
theorem CM.set {w W:World} {p:af} {cur:Array Value} (h:CM w W p cur) (i:Nat) (v:Value):CM w (W.setCell ⟨w.heap.size+1+1,i,none⟩ v) p (cur.setIfInBounds i v):=
 ⟨(K6 W _ v _ (by show ¬ w.heap.size=w.heap.size+1+1; omega)).trans h.src,(K6 W _ v _ (by show ¬ w.heap.size+1=w.heap.size+1+1; omega)).trans h.res,heap_setCell_same W _ i cur _ v h.var,h.cd.setCell (by show w.heap.size≤w.heap.size+1+1; omega) v⟩
abbrev slz (S n:Nat):Value:= .slice (some ⟨S,0,none⟩) n n
abbrev tvz (v w:World) (i:Nat) (x:Value):World:=v.setCell ⟨w.heap.size+1+1,i,none⟩ x
theorem Ve (p:af) (w:World) (hs:p.yq) (hc:p.ep w):
  Calls J3 29 #[.agg p.cells] w fun e w'=> ∃ p',e= .returned (.agg p'.cells)∧ap w' w.heap.size p'∧p'.pure=p.pure∧Below w.heap.size w w':=by
 have HS:Hid p.yq:=hs;have HC:Hid (p.ep w):=hc;have Hz:Hid (CM w (((w.alloc (.cells p.row 68)).alloc (.cells ar 48)).alloc (.cells #[.int .i64 p.id,.int .i64 p.next,.slice none 0 0,.slice none 0 0,.slice none 0 0,.slice none 0 0,.slice none 0 0,.slice none 0 0] 48)) p #[.int .i64 p.id,.int .i64 p.next,.slice none 0 0,.slice none 0 0,.slice none 0 0,.slice none 0 0,.slice none 0 0,.slice none 0 0]):=⟨(dR w _ _ _).1,(dR w _ _ _).2.1,(dR w _ _ _).2.2.1,fg w _ _ _⟩
 have HLO:Hid (w.heap.size+1+1 < (((w.alloc (.cells p.row 68)).alloc (.cells ar 48)).alloc (.cells #[.int .i64 p.id,.int .i64 p.next,.slice none 0 0,.slice none 0 0,.slice none 0 0,.slice none 0 0,.slice none 0 0,.slice none 0 0] 48)).heap.size):=Hz.I.lt;clear hs hc;unfold af.cells
 go_enter Tryz.func29,Tryz.ntmps29
 go_wp2_with fail;generalize ((w.alloc (.cells p.row 68)).alloc (.cells ar 48)).alloc (.cells #[.int .i64 p.id,.int .i64 p.next,.slice none 0 0,.slice none 0 0,.slice none 0 0,.slice none 0 0,.slice none 0 0,.slice none 0 0] 48)=W0 at *;refine (ET p.aN p.L8 p.aW W0 HS.I.dl (fun x hx=>(HS.I.L8 x hx).prog) (HC.I.L8.below Hz.I.cd)).mono ?_;rintro e v1 ⟨rfl,o1,Dz⟩;have wm:Hid (CM w (tvz v1 w 2 (slz W0.heap.size p.L8.length)) p #[.int .i64 p.id,.int .i64 p.next,slz W0.heap.size p.L8.length,.slice none 0 0,.slice none 0 0,.slice none 0 0,.slice none 0 0,.slice none 0 0]):=(Hz.I.below Dz.cd).set 2 _;have wh:Hid (fV (w.heap.size+1+1+1) (fun W'=>W'.ownsRow W0.heap.size 148 12 (slz W0.heap.size p.L8.length) p.L8.length (bg.flat o1)∧ ∀ x∈o1,aR.cO W' W0.heap.size x) (tvz v1 w 2 (slz W0.heap.size p.L8.length))):=dK (p8 Dz (lo:=w.heap.size+1+1+1) Hz.I.lt) (Kp _ _);have fQ:Hid (nU W0.heap.size v1.heap.size (blk (some ⟨W0.heap.size,0,none⟩) ++ o1.filterMap aR.bt)∧W0.heap.size≤v1.heap.size∧o1.map (fun x=>aR.set x none 0)=p.L8.map (fun x=>aR.set x none 0)):=⟨uh Dz,Dz.cd.size,Dz.alike⟩
 have HV1:Hid (v1.heap.size=(tvz v1 w 2 (slz W0.heap.size p.L8.length)).heap.size):=by show _=_; simp [World.setCell]
 have hvar:=(Hz.I.below Dz.cd).var;have d1:v1.cell? ⟨w.heap.size+1+1,2,none⟩=some (.slice none 0 0):=by simp [World.cell?,hvar]
 have f1:v1.frozen? ⟨w.heap.size+1+1,2,none⟩=false:=by simp [World.frozen?,hvar]
 clear hvar Dz;have m1:(tvz v1 w 2 (slz W0.heap.size p.L8.length)).cell? ⟨w.heap.size,3,none⟩=some (.slice p.bc p.aj.length p.bF):=by have:=wm.I.src; simp [World.cell?,this,af.cells]
 unfold tvz slz at *;go_wp2_with fail;generalize v1.setCell ⟨w.heap.size+1+1,2,none⟩ (.slice (some ⟨W0.heap.size,0,none⟩) p.L8.length p.L8.length)=W1 at *;clear m1 d1 f1 Hz;generalize cm:W0.heap.size=S1 at *;have HG1:Hid (W0.heap.size=S1∧v1.heap.size=W1.heap.size):=⟨cm,HV1.I⟩
 clear cm HV1;refine (Hf p.bc p.aj p.bF W1 HS.I.fx (HC.I.aj.below wm.I.cd)).mono ?_;rintro e v2 ⟨rfl,hcp2,hb2⟩;have xD:Hid (CM w (tvz v2 w 3 (slz W1.heap.size p.aj.length)) p #[.int .i64 p.id,.int .i64 p.next,slz S1 p.L8.length,slz W1.heap.size p.aj.length,.slice none 0 0,.slice none 0 0,.slice none 0 0,.slice none 0 0]):=(wm.I.below hb2).set 3 _;have zz:Hid (fV (w.heap.size+1+1+1) (fun W'=>W'.ownsRow W1.heap.size 184 3 (slz W1.heap.size p.aj.length) p.aj.length (dm.flat p.aj)) (tvz v2 w 3 (slz W1.heap.size p.aj.length))):=dK (sE hcp2 (lo:=w.heap.size+1+1+1) wm.I.lt) (Kp _ _);have rc:Hid (fV (w.heap.size+1+1+1) (fun W'=>W'.ownsRow S1 148 12 (slz S1 p.L8.length) p.L8.length (bg.flat o1)∧ ∀ x∈o1,aR.cO W' S1 x) (tvz v2 w 3 (slz W1.heap.size p.aj.length))):=dK wh.I hb2;clear wh;have wh:=rc;clear rc;have cy:Hid (nU W1.heap.size v2.heap.size (blk (some ⟨W1.heap.size,0,none⟩))∧W1.heap.size≤v2.heap.size):=⟨zL hcp2,hb2.size⟩
 have FD:Hid (v2.heap.size=(tvz v2 w 3 (slz W1.heap.size p.aj.length)).heap.size):=by show _=_; simp [World.setCell]
 have hvar:=(wm.I.below hb2).var;have d2:v2.cell? ⟨w.heap.size+1+1,3,none⟩=some (.slice none 0 0):=by simp [World.cell?,hvar]
 have f2:v2.frozen? ⟨w.heap.size+1+1,3,none⟩=false:=by simp [World.frozen?,hvar]
 clear hvar hcp2 hb2;have m2:(tvz v2 w 3 (slz W1.heap.size p.aj.length)).cell? ⟨w.heap.size,4,none⟩=some (.slice p.ay p.L9.length p.aO):=by have:=xD.I.src; simp [World.cell?,this,af.cells]
 unfold tvz slz at *;go_wp2_with fail;generalize v2.setCell ⟨w.heap.size+1+1,3,none⟩ (.slice (some ⟨W1.heap.size,0,none⟩) p.aj.length p.aj.length)=W2 at *;clear m2 d2 f2 wm;generalize hS2:W1.heap.size=S2 at *;have HG2:Hid (W1.heap.size=S2∧v2.heap.size=W2.heap.size):=⟨hS2,FD.I⟩
 clear hS2 FD;refine (Df p.ay p.L9 p.aO W2 HS.I.cD (HC.I.L9.below xD.I.cd)).mono ?_;rintro e v3 ⟨rfl,hcp3,hb3⟩;have Fz:Hid (CM w (tvz v3 w 4 (slz W2.heap.size p.L9.length)) p #[.int .i64 p.id,.int .i64 p.next,slz S1 p.L8.length,slz S2 p.aj.length,slz W2.heap.size p.L9.length,.slice none 0 0,.slice none 0 0,.slice none 0 0]):=(xD.I.below hb3).set 4 _;have Ci:Hid (fV (w.heap.size+1+1+1) (fun W'=>W'.ownsRow W2.heap.size 187 2 (slz W2.heap.size p.L9.length) p.L9.length (bJ.flat p.L9)) (tvz v3 w 4 (slz W2.heap.size p.L9.length))):=dK (sE hcp3 (lo:=w.heap.size+1+1+1) xD.I.lt) (Kp _ _);have rc:Hid (fV (w.heap.size+1+1+1) (fun W'=>W'.ownsRow S1 148 12 (slz S1 p.L8.length) p.L8.length (bg.flat o1)∧ ∀ x∈o1,aR.cO W' S1 x) (tvz v3 w 4 (slz W2.heap.size p.L9.length))):=dK wh.I hb3;clear wh;have wh:=rc;clear rc;have iP:Hid (fV (w.heap.size+1+1+1) (fun W'=>W'.ownsRow S2 184 3 (slz S2 p.aj.length) p.aj.length (dm.flat p.aj)) (tvz v3 w 4 (slz W2.heap.size p.L9.length))):=dK zz.I hb3;clear zz;have zz:=iP;clear iP;have oh:Hid (nU W2.heap.size v3.heap.size (blk (some ⟨W2.heap.size,0,none⟩))∧W2.heap.size≤v3.heap.size):=⟨zL hcp3,hb3.size⟩
 have Fx:Hid (v3.heap.size=(tvz v3 w 4 (slz W2.heap.size p.L9.length)).heap.size):=by show _=_; simp [World.setCell]
 have hvar:=(xD.I.below hb3).var;have d3:v3.cell? ⟨w.heap.size+1+1,4,none⟩=some (.slice none 0 0):=by simp [World.cell?,hvar]
 have f3:v3.frozen? ⟨w.heap.size+1+1,4,none⟩=false:=by simp [World.frozen?,hvar]
 clear hvar hcp3 hb3;have m3:(tvz v3 w 4 (slz W2.heap.size p.L9.length)).cell? ⟨w.heap.size,5,none⟩=some (.slice p.ax p.ag.length p.aP):=by have:=Fz.I.src; simp [World.cell?,this,af.cells]
 unfold tvz slz at *;go_wp2_with fail;generalize v3.setCell ⟨w.heap.size+1+1,4,none⟩ (.slice (some ⟨W2.heap.size,0,none⟩) p.L9.length p.L9.length)=W3 at *;clear m3 d3 f3 xD;generalize NO:W2.heap.size=S3 at *;have HG3:Hid (W2.heap.size=S3∧v3.heap.size=W3.heap.size):=⟨NO,Fx.I⟩
 clear NO Fx;refine (CQ p.ax p.ag p.aP W3 HS.I.cC (HC.I.ag.below Fz.I.cd)).mono ?_;rintro e v4 ⟨rfl,hcp4,hb4⟩;have FA:Hid (CM w (tvz v4 w 5 (slz W3.heap.size p.ag.length)) p #[.int .i64 p.id,.int .i64 p.next,slz S1 p.L8.length,slz S2 p.aj.length,slz S3 p.L9.length,slz W3.heap.size p.ag.length,.slice none 0 0,.slice none 0 0]):=(Fz.I.below hb4).set 5 _;have EF:Hid (fV (w.heap.size+1+1+1) (fun W'=>W'.ownsRow W3.heap.size 190 3 (slz W3.heap.size p.ag.length) p.ag.length (bG.flat p.ag)) (tvz v4 w 5 (slz W3.heap.size p.ag.length))):=dK (sE hcp4 (lo:=w.heap.size+1+1+1) Fz.I.lt) (Kp _ _);have rc:Hid (fV (w.heap.size+1+1+1) (fun W'=>W'.ownsRow S1 148 12 (slz S1 p.L8.length) p.L8.length (bg.flat o1)∧ ∀ x∈o1,aR.cO W' S1 x) (tvz v4 w 5 (slz W3.heap.size p.ag.length))):=dK wh.I hb4;clear wh;have wh:=rc;clear rc;have iP:Hid (fV (w.heap.size+1+1+1) (fun W'=>W'.ownsRow S2 184 3 (slz S2 p.aj.length) p.aj.length (dm.flat p.aj)) (tvz v4 w 5 (slz W3.heap.size p.ag.length))):=dK zz.I hb4;clear zz;have zz:=iP;clear iP;have Ar:Hid (fV (w.heap.size+1+1+1) (fun W'=>W'.ownsRow S3 187 2 (slz S3 p.L9.length) p.L9.length (bJ.flat p.L9)) (tvz v4 w 5 (slz W3.heap.size p.ag.length))):=dK Ci.I hb4;clear Ci;have Ci:=Ar;clear Ar;have HB4:Hid (nU W3.heap.size v4.heap.size (blk (some ⟨W3.heap.size,0,none⟩))∧W3.heap.size≤v4.heap.size):=⟨zL hcp4,hb4.size⟩
 have HV4:Hid (v4.heap.size=(tvz v4 w 5 (slz W3.heap.size p.ag.length)).heap.size):=by show _=_; simp [World.setCell]
 have hvar:=(Fz.I.below hb4).var;have d4:v4.cell? ⟨w.heap.size+1+1,5,none⟩=some (.slice none 0 0):=by simp [World.cell?,hvar]
 have f4:v4.frozen? ⟨w.heap.size+1+1,5,none⟩=false:=by simp [World.frozen?,hvar]
 clear hvar hcp4 hb4;have m4:(tvz v4 w 5 (slz W3.heap.size p.ag.length)).cell? ⟨w.heap.size,6,none⟩=some (.slice p.am p.ae.length p.aG):=by have:=FA.I.src; simp [World.cell?,this,af.cells]
 unfold tvz slz at *;go_wp2_with fail;generalize v4.setCell ⟨w.heap.size+1+1,5,none⟩ (.slice (some ⟨W3.heap.size,0,none⟩) p.ag.length p.ag.length)=W4 at *;clear m4 d4 f4 Fz;generalize hS4:W3.heap.size=S4 at *;have HG4:Hid (W3.heap.size=S4∧v4.heap.size=W4.heap.size):=⟨hS4,HV4.I⟩
 clear hS4 HV4;refine (Br p.am p.ae p.aG W4 HS.I.cb (fun x hx=>(HS.I.ae x hx).1) (HC.I.ae.below FA.I.cd)).mono ?_;rintro e v5 ⟨rfl,o5,uP⟩;have Ik:Hid (CM w (tvz v5 w 6 (slz W4.heap.size p.ae.length)) p #[.int .i64 p.id,.int .i64 p.next,slz S1 p.L8.length,slz S2 p.aj.length,slz S3 p.L9.length,slz S4 p.ag.length,slz W4.heap.size p.ae.length,.slice none 0 0]):=(FA.I.below uP.cd).set 6 _;have Hy:Hid (fV (w.heap.size+1+1+1) (fun W'=>W'.ownsRow W4.heap.size 160 3 (slz W4.heap.size p.ae.length) p.ae.length (bm.flat o5)∧ ∀ x∈o5,aC.cO W' W4.heap.size x) (tvz v5 w 6 (slz W4.heap.size p.ae.length))):=dK (p8 uP (lo:=w.heap.size+1+1+1) FA.I.lt) (Kp _ _);have rc:Hid (fV (w.heap.size+1+1+1) (fun W'=>W'.ownsRow S1 148 12 (slz S1 p.L8.length) p.L8.length (bg.flat o1)∧ ∀ x∈o1,aR.cO W' S1 x) (tvz v5 w 6 (slz W4.heap.size p.ae.length))):=dK wh.I uP.cd;clear wh;have wh:=rc;clear rc;have iP:Hid (fV (w.heap.size+1+1+1) (fun W'=>W'.ownsRow S2 184 3 (slz S2 p.aj.length) p.aj.length (dm.flat p.aj)) (tvz v5 w 6 (slz W4.heap.size p.ae.length))):=dK zz.I uP.cd;clear zz;have zz:=iP;clear iP;have Ar:Hid (fV (w.heap.size+1+1+1) (fun W'=>W'.ownsRow S3 187 2 (slz S3 p.L9.length) p.L9.length (bJ.flat p.L9)) (tvz v5 w 6 (slz W4.heap.size p.ae.length))):=dK Ci.I uP.cd;clear Ci;have Ci:=Ar;clear Ar;have GS:Hid (fV (w.heap.size+1+1+1) (fun W'=>W'.ownsRow S4 190 3 (slz S4 p.ag.length) p.ag.length (bG.flat p.ag)) (tvz v5 w 6 (slz W4.heap.size p.ae.length))):=dK EF.I uP.cd;clear EF;have EF:=GS;clear GS;have Dk:Hid (nU W4.heap.size v5.heap.size (blk (some ⟨W4.heap.size,0,none⟩) ++ o5.filterMap aC.bt)∧W4.heap.size≤v5.heap.size∧o5.map (fun x=>aC.set x none 0)=p.ae.map (fun x=>aC.set x none 0)):=⟨uh uP,uP.cd.size,uP.alike⟩
 have HV5:Hid (v5.heap.size=(tvz v5 w 6 (slz W4.heap.size p.ae.length)).heap.size):=by show _=_; simp [World.setCell]
 have hvar:=(FA.I.below uP.cd).var;have d5:v5.cell? ⟨w.heap.size+1+1,6,none⟩=some (.slice none 0 0):=by simp [World.cell?,hvar]
 have f5:v5.frozen? ⟨w.heap.size+1+1,6,none⟩=false:=by simp [World.frozen?,hvar]
 clear hvar uP;have m5:(tvz v5 w 6 (slz W4.heap.size p.ae.length)).cell? ⟨w.heap.size,7,none⟩=some (.slice p.aK p.ai.length p.aV):=by have:=Ik.I.src; simp [World.cell?,this,af.cells]
 unfold tvz slz at *;go_wp2_with fail;generalize v5.setCell ⟨w.heap.size+1+1,6,none⟩ (.slice (some ⟨W4.heap.size,0,none⟩) p.ae.length p.ae.length)=W5 at *;clear m5 d5 f5 FA;generalize hS5:W4.heap.size=S5 at *;have HG5:Hid (W4.heap.size=S5∧v5.heap.size=W5.heap.size):=⟨hS5,HV5.I⟩
 clear hS5 HV5;refine (Fh p.aK p.ai p.aV W5 HS.I.dH (fun x hx=>(HS.I.ai x hx).1) (HC.I.ai.below Ik.I.cd)).mono ?_;rintro e v6 ⟨rfl,o6,tL⟩;have Jw:Hid (CM w (tvz v6 w 7 (slz W5.heap.size p.ai.length)) p #[.int .i64 p.id,.int .i64 p.next,slz S1 p.L8.length,slz S2 p.aj.length,slz S3 p.L9.length,slz S4 p.ag.length,slz S5 p.ae.length,slz W5.heap.size p.ai.length]):=(Ik.I.below tL.cd).set 7 _;have pE:Hid (fV (w.heap.size+1+1+1) (fun W'=>W'.ownsRow W5.heap.size 85 5 (slz W5.heap.size p.ai.length) p.ai.length (bX.flat o6)∧ ∀ x∈o6,aU.cO W' W5.heap.size x) (tvz v6 w 7 (slz W5.heap.size p.ai.length))):=dK (p8 tL (lo:=w.heap.size+1+1+1) Ik.I.lt) (Kp _ _);have rc:Hid (fV (w.heap.size+1+1+1) (fun W'=>W'.ownsRow S1 148 12 (slz S1 p.L8.length) p.L8.length (bg.flat o1)∧ ∀ x∈o1,aR.cO W' S1 x) (tvz v6 w 7 (slz W5.heap.size p.ai.length))):=dK wh.I tL.cd;clear wh;have wh:=rc;clear rc;have iP:Hid (fV (w.heap.size+1+1+1) (fun W'=>W'.ownsRow S2 184 3 (slz S2 p.aj.length) p.aj.length (dm.flat p.aj)) (tvz v6 w 7 (slz W5.heap.size p.ai.length))):=dK zz.I tL.cd;clear zz;have zz:=iP;clear iP;have Ar:Hid (fV (w.heap.size+1+1+1) (fun W'=>W'.ownsRow S3 187 2 (slz S3 p.L9.length) p.L9.length (bJ.flat p.L9)) (tvz v6 w 7 (slz W5.heap.size p.ai.length))):=dK Ci.I tL.cd;clear Ci;have Ci:=Ar;clear Ar;have GS:Hid (fV (w.heap.size+1+1+1) (fun W'=>W'.ownsRow S4 190 3 (slz S4 p.ag.length) p.ag.length (bG.flat p.ag)) (tvz v6 w 7 (slz W5.heap.size p.ai.length))):=dK EF.I tL.cd;clear EF;have EF:=GS;clear GS;have HZ5:Hid (fV (w.heap.size+1+1+1) (fun W'=>W'.ownsRow S5 160 3 (slz S5 p.ae.length) p.ae.length (bm.flat o5)∧ ∀ x∈o5,aC.cO W' S5 x) (tvz v6 w 7 (slz W5.heap.size p.ai.length))):=dK Hy.I tL.cd;clear Hy;have Hy:=HZ5;clear HZ5;have HB6:Hid (nU W5.heap.size v6.heap.size (blk (some ⟨W5.heap.size,0,none⟩) ++ o6.filterMap aU.bt)∧W5.heap.size≤v6.heap.size∧o6.map (fun x=>aU.set x none 0)=p.ai.map (fun x=>aU.set x none 0)):=⟨uh tL,tL.cd.size,tL.alike⟩
 have HV6:Hid (v6.heap.size=(tvz v6 w 7 (slz W5.heap.size p.ai.length)).heap.size):=by show _=_; simp [World.setCell]
 have hvar:=(Ik.I.below tL.cd).var;have d6:v6.cell? ⟨w.heap.size+1+1,7,none⟩=some (.slice none 0 0):=by simp [World.cell?,hvar]
 have f6:v6.frozen? ⟨w.heap.size+1+1,7,none⟩=false:=by simp [World.frozen?,hvar]
 clear hvar tL;have hvar:=Jw.I.var;have hres:=Jw.I.res;have x0:(tvz v6 w 7 (slz W5.heap.size p.ai.length)).cell? ⟨w.heap.size+1+1,0,none⟩=some (.int .i64 p.id):=by simp [World.cell?,hvar]
 have y0:(tvz v6 w 7 (slz W5.heap.size p.ai.length)).cell? ⟨w.heap.size+1,0,none⟩=some (.int .i64 0):=by simp [World.cell?,hres]
 have z0:(tvz v6 w 7 (slz W5.heap.size p.ai.length)).frozen? ⟨w.heap.size+1,0,none⟩=false:=by simp [World.frozen?,hres]
 have x1:(tvz v6 w 7 (slz W5.heap.size p.ai.length)).cell? ⟨w.heap.size+1+1,1,none⟩=some (.int .i64 p.next):=by simp [World.cell?,hvar]
 have y1:(tvz v6 w 7 (slz W5.heap.size p.ai.length)).cell? ⟨w.heap.size+1,1,none⟩=some (.int .i64 0):=by simp [World.cell?,hres]
 have z1:(tvz v6 w 7 (slz W5.heap.size p.ai.length)).frozen? ⟨w.heap.size+1,1,none⟩=false:=by simp [World.frozen?,hres]
 have x2:(tvz v6 w 7 (slz W5.heap.size p.ai.length)).cell? ⟨w.heap.size+1+1,2,none⟩=some (slz S1 p.L8.length):=by simp [World.cell?,hvar]
 have y2:(tvz v6 w 7 (slz W5.heap.size p.ai.length)).cell? ⟨w.heap.size+1,2,none⟩=some (.slice none 0 0):=by simp [World.cell?,hres]
 have z2:(tvz v6 w 7 (slz W5.heap.size p.ai.length)).frozen? ⟨w.heap.size+1,2,none⟩=false:=by simp [World.frozen?,hres]
 have x3:(tvz v6 w 7 (slz W5.heap.size p.ai.length)).cell? ⟨w.heap.size+1+1,3,none⟩=some (slz S2 p.aj.length):=by simp [World.cell?,hvar]
 have y3:(tvz v6 w 7 (slz W5.heap.size p.ai.length)).cell? ⟨w.heap.size+1,3,none⟩=some (.slice none 0 0):=by simp [World.cell?,hres]
 have z3:(tvz v6 w 7 (slz W5.heap.size p.ai.length)).frozen? ⟨w.heap.size+1,3,none⟩=false:=by simp [World.frozen?,hres]
 have x4:(tvz v6 w 7 (slz W5.heap.size p.ai.length)).cell? ⟨w.heap.size+1+1,4,none⟩=some (slz S3 p.L9.length):=by simp [World.cell?,hvar]
 have y4:(tvz v6 w 7 (slz W5.heap.size p.ai.length)).cell? ⟨w.heap.size+1,4,none⟩=some (.slice none 0 0):=by simp [World.cell?,hres]
 have z4:(tvz v6 w 7 (slz W5.heap.size p.ai.length)).frozen? ⟨w.heap.size+1,4,none⟩=false:=by simp [World.frozen?,hres]
 have x5:(tvz v6 w 7 (slz W5.heap.size p.ai.length)).cell? ⟨w.heap.size+1+1,5,none⟩=some (slz S4 p.ag.length):=by simp [World.cell?,hvar]
 have y5:(tvz v6 w 7 (slz W5.heap.size p.ai.length)).cell? ⟨w.heap.size+1,5,none⟩=some (.slice none 0 0):=by simp [World.cell?,hres]
 have z5:(tvz v6 w 7 (slz W5.heap.size p.ai.length)).frozen? ⟨w.heap.size+1,5,none⟩=false:=by simp [World.frozen?,hres]
 have x6:(tvz v6 w 7 (slz W5.heap.size p.ai.length)).cell? ⟨w.heap.size+1+1,6,none⟩=some (slz S5 p.ae.length):=by simp [World.cell?,hvar]
 have y6:(tvz v6 w 7 (slz W5.heap.size p.ai.length)).cell? ⟨w.heap.size+1,6,none⟩=some (.slice none 0 0):=by simp [World.cell?,hres]
 have z6:(tvz v6 w 7 (slz W5.heap.size p.ai.length)).frozen? ⟨w.heap.size+1,6,none⟩=false:=by simp [World.frozen?,hres]
 have x7:(tvz v6 w 7 (slz W5.heap.size p.ai.length)).cell? ⟨w.heap.size+1+1,7,none⟩=some (slz W5.heap.size p.ai.length):=by simp [World.cell?,hvar]
 have y7:(tvz v6 w 7 (slz W5.heap.size p.ai.length)).cell? ⟨w.heap.size+1,7,none⟩=some (.slice none 0 0):=by simp [World.cell?,hres]
 have z7:(tvz v6 w 7 (slz W5.heap.size p.ai.length)).frozen? ⟨w.heap.size+1,7,none⟩=false:=by simp [World.frozen?,hres]
 clear hvar hres;unfold tvz slz at *;go_wp2_with fail;have h9:=ri (vs:= [.int .i64 p.id,.int .i64 p.next,slz S1 p.L8.length,slz S2 p.aj.length,slz S3 p.L9.length,slz S4 p.ag.length,slz S5 p.ae.length,slz W5.heap.size p.ai.length]) Jw.I.res rfl;have h10:Below w.heap.size w (bn (tvz v6 w 7 (slz W5.heap.size p.ai.length)) (w.heap.size+1) 0 [.int .i64 p.id,.int .i64 p.next,slz S1 p.L8.length,slz S2 p.aj.length,slz S3 p.L9.length,slz S4 p.ag.length,slz S5 p.ae.length,slz W5.heap.size p.ai.length]):=eU _ (by omega) Jw.I.cd;have h11:ap (bn (tvz v6 w 7 (slz W5.heap.size p.ai.length)) (w.heap.size+1) 0 [.int .i64 p.id,.int .i64 p.next,slz S1 p.L8.length,slz S2 p.aj.length,slz S3 p.L9.length,slz S4 p.ag.length,slz S5 p.ae.length,slz W5.heap.size p.ai.length]) (w.heap.size+1+1+1) (⟨p.id,p.next,o1,some ⟨S1,0,none⟩,p.L8.length,p.aj,some ⟨S2,0,none⟩,p.aj.length,p.L9,some ⟨S3,0,none⟩,p.L9.length,p.ag,some ⟨S4,0,none⟩,p.ag.length,o5,some ⟨S5,0,none⟩,p.ae.length,o6,some ⟨W5.heap.size,0,none⟩,p.ai.length⟩:af)∧(⟨p.id,p.next,o1,some ⟨S1,0,none⟩,p.L8.length,p.aj,some ⟨S2,0,none⟩,p.aj.length,p.L9,some ⟨S3,0,none⟩,p.L9.length,p.ag,some ⟨S4,0,none⟩,p.ag.length,o5,some ⟨S5,0,none⟩,p.ae.length,o6,some ⟨W5.heap.size,0,none⟩,p.ai.length⟩:af).pure=p.pure:=
  Dy ⟨HLO.I,by have:=HG1.I.2; have:=HG2.I.1; omega,by have:=HG2.I.2; have:=HG3.I.1; omega,by have:=HG3.I.2; have:=HG4.I.1; omega,by have:=HG4.I.2; have:=HG5.I.1; omega,by have:=HG5.I.2; omega⟩
   ⟨fQ.I.2.1,cy.I.2,oh.I.2,HB4.I.2,Dk.I.2.1,HB6.I.2.1⟩
   (ni wh.I) fQ.I.1 (ni zz.I) cy.I.1 (ni Ci.I) oh.I.1 (ni EF.I) HB4.I.1 (ni Hy.I) Dk.I.1 (ni pE.I) HB6.I.1 fQ.I.2.2 Dk.I.2.2 HB6.I.2.2
 have l1:=nf fQ.I.2.2;have l5:=nf Dk.I.2.2;have l6:=nf HB6.I.2.2;simp only [bn,Nat.reduceAdd,Li] at h9 h10 h11;refine bodyPost_ret (v:= .agg #[.int .i64 p.id,.int .i64 p.next,.slice (some ⟨S1,0,none⟩) p.L8.length p.L8.length,.slice (some ⟨S2,0,none⟩) p.aj.length p.aj.length,.slice (some ⟨S3,0,none⟩) p.L9.length p.L9.length,.slice (some ⟨S4,0,none⟩) p.ag.length p.ag.length,.slice (some ⟨S5,0,none⟩) p.ae.length p.ae.length,.slice (some ⟨W5.heap.size,0,none⟩) p.ai.length p.ai.length]) (results_cell_row Tryz.results29 _ _ (w.heap.size+1) _ _ (0,0) _ rfl h9 Tryz.underlying48 rfl (by kernel_rfl)) rfl ?_;exact ⟨(⟨p.id,p.next,o1,some ⟨S1,0,none⟩,p.L8.length,p.aj,some ⟨S2,0,none⟩,p.aj.length,p.L9,some ⟨S3,0,none⟩,p.L9.length,p.ag,some ⟨S4,0,none⟩,p.ag.length,o5,some ⟨S5,0,none⟩,p.ae.length,o6,some ⟨W5.heap.size,0,none⟩,p.ai.length⟩:af),by simp only [l1,l5,l6],h11.1.lower (by omega),h11.2,h10⟩
theorem Vb (p q:af) (w:World) (hs:p.pure.Small) (hp:q.pure=p.pure) (h:af.At w p) (h':af.At w q):
  Calls J3 15 #[.agg p.cells,.agg q.cells] w fun e w'=>e= .returned (.bool true)∧Below w.heap.size w w':=by
 have e0:q.id=p.id:=congrArg aE.id hp;have e1:q.next=p.next:=congrArg aE.next hp;have g1:q.L8.map (·.toaD)=p.L8.map (·.toaD):=congrArg aE.L8 hp;have g2:q.aj=p.aj:=congrArg aE.aj hp;have g3:q.L9=p.L9:=congrArg aE.L9 hp;have g4:q.ag=p.ag:=congrArg aE.ag hp;have g5:q.ae.map (·.toci)=p.ae.map (·.toci):=congrArg aE.ae hp;have g6:q.ai.map (·.todS)=p.ai.map (·.todS):=congrArg aE.ai hp;have l1:q.L8.length=p.L8.length:=by have:=congrArg List.length g1; simpa using this
 have l5:q.ae.length=p.ae.length:=by have:=congrArg List.length g5; simpa using this
 have l6:q.ai.length=p.ai.length:=by have:=congrArg List.length g6; simpa using this
 have hq:q.cells= #[.int .i64 p.id,.int .i64 p.next,.slice q.aN p.L8.length q.aW,.slice q.bc p.aj.length q.bF,.slice q.ay p.L9.length q.aO,.slice q.ax p.ag.length q.aP,.slice q.am p.ae.length q.aG,.slice q.aK p.ai.length q.aV] :=by unfold af.cells; rw [e0,e1,l1,g2,g3,g4,l5,l6]
 have HX:Hid (((w.alloc (.cells p.row 48)).alloc (.cells #[.int .i64 p.id,.int .i64 p.next,.slice q.aN p.L8.length q.aW,.slice q.bc p.aj.length q.bF,.slice q.ay p.L9.length q.aO,.slice q.ax p.ag.length q.aP,.slice q.am p.ae.length q.aG,.slice q.aK p.ai.length q.aV] 48)).heap[w.heap.size]? =some (.cells p.row 48 (0,0))∧((w.alloc (.cells p.row 48)).alloc (.cells #[.int .i64 p.id,.int .i64 p.next,.slice q.aN p.L8.length q.aW,.slice q.bc p.aj.length q.bF,.slice q.ay p.L9.length q.aO,.slice q.ax p.ag.length q.aP,.slice q.am p.ae.length q.aG,.slice q.aK p.ai.length q.aV] 48)).heap[w.heap.size+1]? =some (.cells #[.int .i64 p.id,.int .i64 p.next,.slice q.aN p.L8.length q.aW,.slice q.bc p.aj.length q.bF,.slice q.ay p.L9.length q.aO,.slice q.ax p.ag.length q.aP,.slice q.am p.ae.length q.aG,.slice q.aK p.ai.length q.aV] 48 (0,0))∧Below w.heap.size w ((w.alloc (.cells p.row 48)).alloc (.cells #[.int .i64 p.id,.int .i64 p.next,.slice q.aN p.L8.length q.aW,.slice q.bc p.aj.length q.bF,.slice q.ay p.L9.length q.aO,.slice q.ax p.ag.length q.aP,.slice q.am p.ae.length q.aG,.slice q.aK p.ai.length q.aV] 48))):=⟨(cZ _ _ _).1,(cZ _ _ _).2,dT _ _ _⟩
 have HL:Hid (af.At w p∧af.At w q∧p.pure.Small):=⟨h,h',hs⟩
 have HG:Hid (q.L8.map (·.toaD)=p.L8.map (·.toaD)∧q.ae.map (·.toci)=p.ae.map (·.toci)∧q.ai.map (·.todS)=p.ai.map (·.todS)∧q.aj=p.aj∧q.L9=p.L9∧q.ag=p.ag):=⟨g1,g5,g6,g2,g3,g4⟩
 rw [hq];clear h h' hs hp hq g1 g2 g3 g4 g5 g6 l1 l5 l6 e0 e1;unfold af.cells
 go_enter Tryz.func15,Tryz.ntmps15
 go_wp2_with fail;generalize (w.alloc (.cells p.row 48)).alloc (.cells #[.int .i64 p.id,.int .i64 p.next,.slice q.aN p.L8.length q.aW,.slice q.bc p.aj.length q.bF,.slice q.ay p.L9.length q.aO,.slice q.ax p.ag.length q.aP,.slice q.am p.ae.length q.aG,.slice q.aK p.ai.length q.aV] 48)=W0 at *;refine (Ff p.aN q.aN p.L8 q.L8 p.aW q.aW W0 (gv HL.I.2.2).L8 (fun x hx=>(cY HL.I.2.2 hx).1.prog) HG.I.1 (HL.I.1.1.below HX.I.2.2) (HL.I.2.1.1.below HX.I.2.2)).mono ?_;rintro e W1 ⟨rfl,hb1⟩;have HY:Hid (W1.heap[w.heap.size]? =some (.cells p.row 48 (0,0))∧W1.heap[w.heap.size+1]? =some (.cells #[.int .i64 p.id,.int .i64 p.next,.slice q.aN p.L8.length q.aW,.slice q.bc p.aj.length q.bF,.slice q.ay p.L9.length q.aO,.slice q.ax p.ag.length q.aP,.slice q.am p.ae.length q.aG,.slice q.aK p.ai.length q.aV] 48 (0,0))∧Below w.heap.size w W1):=⟨(hb1.block _ (J2.1 HX.I.1).1).trans HX.I.1,(hb1.block _ (J2.1 HX.I.2.1).1).trans HX.I.2.1,HX.I.2.2.trans (hb1.mono HX.I.2.2.size)⟩
 clear hb1 HX;have HX:=HY;clear HY;have m1:W1.cell? ⟨w.heap.size,3,none⟩=some (.slice p.bc p.aj.length p.bF):=by have:=HX.I.1; simp [World.cell?,this]
 have n1:W1.cell? ⟨w.heap.size+1,3,none⟩=some (.slice q.bc p.aj.length q.bF):=by have:=HX.I.2.1; simp [World.cell?,this]
 go_wp2_with fail;clear m1 n1;refine (Hr p.bc q.bc p.aj p.bF q.bF W1 (gv HL.I.2.2).aj (HL.I.1.2.1.below HX.I.2.2) (by have h5:=HL.I.2.1.2.1.below HX.I.2.2; rw [HG.I.2.2.2.1] at h5; exact h5)).mono ?_;rintro e W2 ⟨rfl,hb2⟩;have HY:Hid (W2.heap[w.heap.size]? =some (.cells p.row 48 (0,0))∧W2.heap[w.heap.size+1]? =some (.cells #[.int .i64 p.id,.int .i64 p.next,.slice q.aN p.L8.length q.aW,.slice q.bc p.aj.length q.bF,.slice q.ay p.L9.length q.aO,.slice q.ax p.ag.length q.aP,.slice q.am p.ae.length q.aG,.slice q.aK p.ai.length q.aV] 48 (0,0))∧Below w.heap.size w W2):=⟨(hb2.block _ (J2.1 HX.I.1).1).trans HX.I.1,(hb2.block _ (J2.1 HX.I.2.1).1).trans HX.I.2.1,HX.I.2.2.trans (hb2.mono HX.I.2.2.size)⟩
 clear hb2 HX;have HX:=HY;clear HY;have m2:W2.cell? ⟨w.heap.size,4,none⟩=some (.slice p.ay p.L9.length p.aO):=by have:=HX.I.1; simp [World.cell?,this]
 have n2:W2.cell? ⟨w.heap.size+1,4,none⟩=some (.slice q.ay p.L9.length q.aO):=by have:=HX.I.2.1; simp [World.cell?,this]
 go_wp2_with fail;clear m2 n2;refine (CI p.ay q.ay p.L9 p.aO q.aO W2 (gv HL.I.2.2).L9 (HL.I.1.2.2.1.below HX.I.2.2) (by have h5:=HL.I.2.1.2.2.1.below HX.I.2.2; rw [HG.I.2.2.2.2.1] at h5; exact h5)).mono ?_;rintro e W3 ⟨rfl,hb3⟩;have HY:Hid (W3.heap[w.heap.size]? =some (.cells p.row 48 (0,0))∧W3.heap[w.heap.size+1]? =some (.cells #[.int .i64 p.id,.int .i64 p.next,.slice q.aN p.L8.length q.aW,.slice q.bc p.aj.length q.bF,.slice q.ay p.L9.length q.aO,.slice q.ax p.ag.length q.aP,.slice q.am p.ae.length q.aG,.slice q.aK p.ai.length q.aV] 48 (0,0))∧Below w.heap.size w W3):=⟨(hb3.block _ (J2.1 HX.I.1).1).trans HX.I.1,(hb3.block _ (J2.1 HX.I.2.1).1).trans HX.I.2.1,HX.I.2.2.trans (hb3.mono HX.I.2.2.size)⟩
 clear hb3 HX;have HX:=HY;clear HY;have m3:W3.cell? ⟨w.heap.size,5,none⟩=some (.slice p.ax p.ag.length p.aP):=by have:=HX.I.1; simp [World.cell?,this]
 have n3:W3.cell? ⟨w.heap.size+1,5,none⟩=some (.slice q.ax p.ag.length q.aP):=by have:=HX.I.2.1; simp [World.cell?,this]
 go_wp2_with fail;clear m3 n3;refine (Cs p.ax q.ax p.ag p.aP q.aP W3 (gv HL.I.2.2).ag (HL.I.1.2.2.2.1.below HX.I.2.2) (by have h5:=HL.I.2.1.2.2.2.1.below HX.I.2.2; rw [HG.I.2.2.2.2.2] at h5; exact h5)).mono ?_;rintro e W4 ⟨rfl,hb4⟩;have HY:Hid (W4.heap[w.heap.size]? =some (.cells p.row 48 (0,0))∧W4.heap[w.heap.size+1]? =some (.cells #[.int .i64 p.id,.int .i64 p.next,.slice q.aN p.L8.length q.aW,.slice q.bc p.aj.length q.bF,.slice q.ay p.L9.length q.aO,.slice q.ax p.ag.length q.aP,.slice q.am p.ae.length q.aG,.slice q.aK p.ai.length q.aV] 48 (0,0))∧Below w.heap.size w W4):=⟨(hb4.block _ (J2.1 HX.I.1).1).trans HX.I.1,(hb4.block _ (J2.1 HX.I.2.1).1).trans HX.I.2.1,HX.I.2.2.trans (hb4.mono HX.I.2.2.size)⟩
 clear hb4 HX;have HX:=HY;clear HY;have m4:W4.cell? ⟨w.heap.size,6,none⟩=some (.slice p.am p.ae.length p.aG):=by have:=HX.I.1; simp [World.cell?,this]
 have n4:W4.cell? ⟨w.heap.size+1,6,none⟩=some (.slice q.am p.ae.length q.aG):=by have:=HX.I.2.1; simp [World.cell?,this]
 go_wp2_with fail;clear m4 n4;refine (AK p.am q.am p.ae q.ae p.aG q.aG W4 (gv HL.I.2.2).ae (fun x hx=>(nO HL.I.2.2 hx).2.1) HG.I.2.1 (HL.I.1.2.2.2.2.1.below HX.I.2.2) (HL.I.2.1.2.2.2.2.1.below HX.I.2.2)).mono ?_;rintro e W5 ⟨rfl,iJ⟩;have HY:Hid (W5.heap[w.heap.size]? =some (.cells p.row 48 (0,0))∧W5.heap[w.heap.size+1]? =some (.cells #[.int .i64 p.id,.int .i64 p.next,.slice q.aN p.L8.length q.aW,.slice q.bc p.aj.length q.bF,.slice q.ay p.L9.length q.aO,.slice q.ax p.ag.length q.aP,.slice q.am p.ae.length q.aG,.slice q.aK p.ai.length q.aV] 48 (0,0))∧Below w.heap.size w W5):=⟨(iJ.block _ (J2.1 HX.I.1).1).trans HX.I.1,(iJ.block _ (J2.1 HX.I.2.1).1).trans HX.I.2.1,HX.I.2.2.trans (iJ.mono HX.I.2.2.size)⟩
 clear iJ HX;have HX:=HY;clear HY;have m5:W5.cell? ⟨w.heap.size,7,none⟩=some (.slice p.aK p.ai.length p.aV):=by have:=HX.I.1; simp [World.cell?,this]
 have n5:W5.cell? ⟨w.heap.size+1,7,none⟩=some (.slice q.aK p.ai.length q.aV):=by have:=HX.I.2.1; simp [World.cell?,this]
 go_wp2_with fail;clear m5 n5;refine (Ef p.aK q.aK p.ai q.ai p.aV q.aV W5 (gv HL.I.2.2).ai (fun x hx=>(qf HL.I.2.2 hx).2.1) HG.I.2.2.1 (HL.I.1.2.2.2.2.2.below HX.I.2.2) (HL.I.2.1.2.2.2.2.2.below HX.I.2.2)).mono ?_;rintro e W6 ⟨rfl,jQ⟩;have HY:Hid (W6.heap[w.heap.size]? =some (.cells p.row 48 (0,0))∧W6.heap[w.heap.size+1]? =some (.cells #[.int .i64 p.id,.int .i64 p.next,.slice q.aN p.L8.length q.aW,.slice q.bc p.aj.length q.bF,.slice q.ay p.L9.length q.aO,.slice q.ax p.ag.length q.aP,.slice q.am p.ae.length q.aG,.slice q.aK p.ai.length q.aV] 48 (0,0))∧Below w.heap.size w W6):=⟨(jQ.block _ (J2.1 HX.I.1).1).trans HX.I.1,(jQ.block _ (J2.1 HX.I.2.1).1).trans HX.I.2.1,HX.I.2.2.trans (jQ.mono HX.I.2.2.size)⟩
 clear jQ HX;have HX:=HY;clear HY;go_wp2;go_ret;exact ⟨rfl,HX.I.2.2⟩
end
section
open Go.RowKit Go.Maps
attribute [local go_sem ↓] Kc Kd
theorem Shelf.frm {α:Type} {vs:α→Array Value} {num:α→Int} {T:TypeId} {w w':World} {base b:Nat} {l:List (α × Nat)} (h:Shelf vs num T w base b l) (hs: ∀ g,base≤g→g < w.heap.size→w'.heap[g]? =w.heap[g]?):Shelf vs num T w' base b l:=h.same fun g hg=>hs g (h.low g hg) (h.lt g hg)
theorem cJ.same {w w':World} {base o:Nat} {S:aZ} (h:cJ w base o S) (hs: ∀ g,base≤g→g < w.heap.size→w'.heap[g]? =w.heap[g]?):cJ w' base o S:=
 ⟨(hs o h.low (J2.1 h.opn).1).trans h.opn,h.L8.frm hs,h.aj.frm hs,h.L9.frm hs,h.ag.frm hs,h.ae.frm hs,h.ai.frm hs,fun p hp=>(h.eI p hp).same fun g hg=>hs g ((h.eI p hp).lt hg).1 ((h.eI p hp).lt hg).2,fun p hp=>(h.eE p hp).same fun g hg=>hs g ((h.eE p hp).lt hg).1 ((h.eE p hp).lt hg).2,fun p hp=>(h.eR p hp).same fun g hg=>hs g ((h.eR p hp).lt hg).1 ((h.eR p hp).lt hg).2,h.nodup,h.low⟩
def aZ.all (S:aZ) (o:Nat):List Nat:=o :: (S.boxes ++ S.kids)
theorem cJ.xy {w:World} {base o:Nat} {S:aZ} (h:cJ w base o S): ∀ g∈S.all o,base≤g∧g < w.heap.size:=fun g hg=>by
 rcases Kt.1 hg with rfl | hg
 ·exact ⟨h.low,(J2.1 h.opn).1⟩
 rcases Kg.1 hg with hg | hg
 ·unfold aZ.boxes at hg
  simp only [Kg] at hg;rcases hg with hg | hg | hg | hg | hg | hg
  ·exact ⟨h.L8.low g hg,h.L8.lt g hg⟩
  ·exact ⟨h.aj.low g hg,h.aj.lt g hg⟩
  ·exact ⟨h.L9.low g hg,h.L9.lt g hg⟩
  ·exact ⟨h.ag.low g hg,h.ag.lt g hg⟩
  ·exact ⟨h.ae.low g hg,h.ae.lt g hg⟩
  ·exact ⟨h.ai.low g hg,h.ai.lt g hg⟩
 ·simp only [aZ.kids,Kg,kids,Lq] at hg
  rcases hg with ⟨q,hq,hk⟩ | ⟨q,hq,hk⟩ | ⟨q,hq,hk⟩
  ·exact (h.eI q hq).lt hk
  ·exact (h.eE q hq).lt hk
  ·exact (h.eR q hq).lt hk
theorem abb {S:aZ} {o g:Nat} (hg:g∈S.lq.map (·.2)):g∈S.all o:=by
 unfold aZ.all aZ.boxes;simp only [Kt,Kg];exact .inr (.inl (.inr (.inr (.inr (.inr (.inr (.inr hg)))))))
structure B2 (w0 w:World) (K b:Nat) (l:List (aZ × Nat)) (W:World):Prop where
 low:Below w0.heap.size w0 W
 TN:W.heap[K]? =w.heap[K]?
 map:cF W b (l.map fun p=>(p.1.q.id,p.2))
 part: ∀ p∈l,∃ base,b < base∧K < base∧cJ W base p.2 p.1
 nodup:(l.flatMap fun p=>p.1.lq.map (·.2)).Nodup
 apart:l.Pairwise fun p q=> ∀ g∈p.1.all p.2,∀ g'∈q.1.all q.2,g < g'
theorem B2.below {w0 w W W2:World} {K b:Nat} {l:List (aZ × Nat)} (h:B2 w0 w K b l W) (hK:K < W.heap.size) (hb:Below W.heap.size W W2):B2 w0 w K b l W2:=
 ⟨h.low.trans (hb.mono h.low.size),(hb.block K hK).trans h.TN,h.map.below hb,fun p hp=>(h.part p hp).imp fun _ hp=>⟨hp.1,hp.2.1,hp.2.2.same fun g _ hg=>hb.block g hg⟩,h.nodup,h.apart⟩
theorem kf {w w':World} {b g:Nat} (h:w.mapTurned w' b) (hg:g≠b):w'.heap[g]? =w.heap[g]? :=by
 obtain ⟨es,c,es',c',-,rfl⟩:=h;simp [ChangeMaps.setBlock,Ne.symm hg]
theorem T5 {w w':World} {b:Nat} (h:w.mapTurned w' b):w'.heap.size=w.heap.size:=by
 obtain ⟨es,c,es',c',-,rfl⟩:=h;simp [ChangeMaps.setBlock]
theorem TG {w0 w w':World} {b:Nat} (h:w.mapTurned w' b) (hb:w0.heap.size≤b) (hl:Below w0.heap.size w0 w):Below w0.heap.size w0 w':=by
 have h2:=fun g (hg:g≠b)=>kf (g:=g) h hg
 obtain ⟨es,c,es',c',-,rfl⟩:=h;exact ⟨hl.os,hl.tape,hl.output,by simpa [ChangeMaps.setBlock] using hl.size,fun g hg=>(h2 g (by omega)).trans (hl.block g hg)⟩
theorem B2.more {w0 w W1 W2:World} {K b base o:Nat} {l:List (aZ × Nat)} {S:aZ} (h:B2 w0 w K b l W1) (hb0:w0.heap.size≤b) (hKb:K≠b) (ho:cJ W1 base o S) (hbase:b < base) (hKbase:K < base) (aa5: ∀ p∈l,∀ g∈p.1.all p.2,g < base) (hlast: ∀ p∈l,p.1.q.id < S.q.id)
  (hm:cF W2 b (oK (S.q.id,o) (l.map fun p=>(p.1.q.id,p.2)))) (ht:W1.mapTurned W2 b):B2 w0 w K b (l ++ [(S,o)]) W2:=by
 refine ⟨TG ht hb0 h.low,(kf ht hKb).trans h.TN,?_,fun p hp=> ?_,?_,?_⟩
 ·rw [Uz (fun q hq=>by obtain ⟨p,hp,rfl⟩:=Lr.1 hq; exact hlast p hp)] at hm
  simpa using hm
 ·rcases Kg.1 hp with hp | hp
  ·obtain ⟨bs,h1,h3,h2⟩:=h.part p hp
   exact ⟨bs,h1,h3,h2.same fun g hg _=>kf ht (by omega)⟩
  ·rw [KB.1 hp]
   exact ⟨base,hbase,hKbase,ho.same fun g hg _=>kf ht (by omega)⟩
 ·rw [List.flatMap_append,Kf]
  refine ⟨h.nodup,by simpa using (List.nodup_cons.1 ho.ai.nodup).2,fun g hg g' hg' e=> ?_⟩;obtain ⟨p,hp,hg⟩:=Rt.1 hg;have h1:=aa5 p hp g (abb hg);have h2:=ho.ai.low g' (List.mem_cons_of_mem _ (by simpa using hg'));omega
 ·refine aeB.2 ⟨h.apart,List.pairwise_singleton _ _,fun p hp q hq g hg g' hg'=> ?_⟩
  rw [KB.1 hq] at hg';have h1:=aa5 p hp g hg;have h2:=(ho.xy g' hg').1;omega
theorem kwf_in {z:Int} (h:cv z 1 1000=true):(Lit.int .i64 z).wf=true:=by
 have h2:=bz.1 h;have e1:IntKind.min .i64≤0:=by decide
 have e2:100000≤IntKind.max .i64:=by decide
 simp only [Lit.wf,J7,decide_eq_true_eq];omega
theorem D2 {α:Type} {num:α→Int} {ok:α→Bool} : ∀ {l:List α} {last:Int},aw num ok last l=true→(∀ x∈l,last < num x)∧l.Pairwise (fun x y=>num x < num y)
 | [],_,_=>⟨(fun x hx=>by cases hx),List.Pairwise.nil⟩
 | x :: r,last,h=>by
  simp only [aw,J7,decide_eq_true_eq] at h;obtain ⟨h1,h2⟩:=D2 h.2;refine ⟨fun y hy=> ?_,List.Pairwise.cons (fun y hy=>h1 y hy) h2⟩;rcases Kt.1 hy with rfl | hy
  ·exact h.1.1.2
  ·have:=h1 y hy; have:=h.1.1.2; omega
def Vk (w0 w:World) (K b:Nat) (ps:List af) (e:Ending) (W:World):Prop:=Below w0.heap.size w0 W∧((aw (·.id) bK 0 (ps.map (·.pure))=false∧e= .returned (.bool false))∨(aw (·.id) bK 0 (ps.map (·.pure))=true∧e= .returned (.bool true)∧ ∃ l,l.map (·.1.pure)=ps.map (·.pure)∧B2 w0 w K b l W))
theorem Tr (w0 w:World) (K b:Nat) (a:Option Addr) (ps:List af) (cap:Nat) (hw:Below w0.heap.size w0 w) (hb0:w0.heap.size≤b) (hK:K < w.heap.size) (hKb:K≠b) (hc:w.cell? ⟨K,63,none⟩=some (.map (some b))) (hm:cF w b []) (hl:ps.length≤1048576) (hk:kp.bU w0 a ps) (hg: ∀ p∈ps,p.Good w0):
  Calls J3 100 #[.pointer (some ⟨K,0,none⟩),.slice a ps.length cap] w fun e w'=>Vk w0 w K b ps e w':=by
 have S:Hid (B2 w0 w K b [] w):=⟨hw,rfl,hm,(by simp),(by simp),List.Pairwise.nil⟩
 have HC:=aA (And.intro hc (And.intro hK (And.intro hKb hb0)));have HG:=aA (And.intro hk hg);clear hw hm hc hk hg hK hKb hb0
 go_enter Tryz.func100,Tryz.ntmps100
 go_wp2_with fail
 go_loopw [5,12] (fun q i wr=> ∃ (n:Nat) (l:List (aZ × Nat)),n≤ps.length∧i= .int .i64 n∧q= .int .i64 (bW (fun x:aE=>x.id) 0 ((ps.map (·.pure)).take n))∧Hid (B2 w0 w K b l wr∧w.heap.size≤wr.heap.size∧l.map (·.1.pure)=(ps.map (·.pure)).take n∧aw (·.id) bK 0 ((ps.map (·.pure)).take n)=true)) (fun _ i _=>ps.length - (Go.RowKit.intOf i).toNat)
 case atStart=>exact ⟨0,[],Ky _,rfl,rfl,S.I,Ki _,rfl,rfl⟩
 case round=>
  clear S;obtain ⟨n,l,hn,rfl,rfl,S⟩:=hrel;by_cases hlt:n < ps.length
  ·have i0:(0:Int)≤(n:Int):=by omega
   have i1:(n:Int) < (ps.length:Int):=by omega
   obtain ⟨p,hp⟩: ∃ p,ps[n]? =some p:=⟨_,Kz hlt⟩
   have HP:Hid ((ps.map (·.pure))[n]? =some p.pure):=by show (ps.map (·.pure))[n]? =_; rw [List.getElem?_map,hp]; rfl
   have hmem:=KA hp;obtain ⟨gs,rfl,⟨c0,c1,c2,c3,c4,c5,c6,c7⟩,-⟩:=ic (HG.I.1.below S.I.1.low) hp;go_upto_region 5 with fail;have hz:Below wr.heap.size wr (wr.alloc (.cells p.row 48)):=(Kp _ _).alloc (Ki _) _;have HSZ:=aA S.I.2.1;have HL:=aA S.I.2.2;replace S:=aA (S.I.1.below (by have:=HC.I.2.1; have:=HSZ.I; omega) hz);have Uc:Hid ((wr.alloc (.cells p.row 48)).heap[wr.heap.size]? =some (.cells p.row 48 (0,0))∧w.heap.size≤(wr.alloc (.cells p.row 48)).heap.size):=⟨Kj _ _,by have:=hz.size; have:=HSZ.I; omega⟩
   have Mb:=iO p (wr.alloc (.cells p.row 48)) ((HG.I.2 p hmem).below S.I.low);unfold af.cells at Mb;clear c0 c1 c2 c3 c4 c5 c6 c7 hz HSZ hmem hp;generalize wr.alloc (.cells p.row 48)=W at *;have c0:W.cell? ⟨wr.heap.size,0,none⟩=some (.int .i64 p.id):=by simp [World.cell?,Uc.I.1]
   have c1:W.cell? ⟨wr.heap.size,1,none⟩=some (.int .i64 p.next):=by simp [World.cell?,Uc.I.1]
   have c2:W.cell? ⟨wr.heap.size,2,none⟩=some (.slice p.aN p.L8.length p.aW):=by simp [World.cell?,Uc.I.1]
   have c3:W.cell? ⟨wr.heap.size,3,none⟩=some (.slice p.bc p.aj.length p.bF):=by simp [World.cell?,Uc.I.1]
   have c4:W.cell? ⟨wr.heap.size,4,none⟩=some (.slice p.ay p.L9.length p.aO):=by simp [World.cell?,Uc.I.1]
   have c5:W.cell? ⟨wr.heap.size,5,none⟩=some (.slice p.ax p.ag.length p.aP):=by simp [World.cell?,Uc.I.1]
   have c6:W.cell? ⟨wr.heap.size,6,none⟩=some (.slice p.am p.ae.length p.aG):=by simp [World.cell?,Uc.I.1]
   have c7:W.cell? ⟨wr.heap.size,7,none⟩=some (.slice p.aK p.ai.length p.aV):=by simp [World.cell?,Uc.I.1]
   go_wp2_with fail;clear c0 c1 c2 c3 c4 c5 c6 c7;refine Mb.mono ?_;clear Mb;rintro e W1 ⟨hb1,⟨hr,rfl⟩ | ⟨hr,o,T,rfl,ho,hp⟩⟩
   ·have HN:Hid (aw (·.id) bK 0 (ps.map (·.pure))=false):=bS HP.I fun hh=>hr ((ch _).1 hh.2.2)
    have HE:=aA (S.I.low.trans (hb1.mono S.I.low.size));clear hb1 hr;go_wp2;go_ret;exact ⟨HE.I,.inl ⟨HN.I,rfl⟩⟩
   have HF:Hid (∀ q∈l,∀ g∈q.1.all q.2,g < W.heap.size):=fun q hq g hg=>by
    obtain ⟨bs,-,-,h2⟩:=S.I.part q hq;exact (h2.xy g hg).2
   have hmb:b < W.heap.size:=S.I.map.lt;replace S:=aA (S.I.below (by have:=HC.I.2.1; have:=Uc.I.2; omega) hb1);have hid:T.q.id=p.id:=congrArg aE.id hp;have d0:W1.cell? ⟨o,0,none⟩=some (.int .i64 p.id):=by have h:=ho.opn.cell 0; rw [h]; show some (Value.int IntKind.i64 T.q.id)=_; rw [hid]
   have HO:Hid (cJ W1 W.heap.size o T∧T.pure=p.pure∧b < W.heap.size∧w.heap.size≤W1.heap.size∧aQ p.pure):=⟨ho,hp,hmb,by have:=hb1.size; have:=Uc.I.2; omega,hr⟩
   have HKW:Hid (K < W.heap.size):=by show K < _; have:=HC.I.2.1; have:=Uc.I.2; omega
   have HID:=aA hid;clear ho hp hmb hb1 hid hr Uc;by_cases hle:p.id≤bW (fun x:aE=>x.id) 0 ((ps.map (·.pure)).take n)
   ·have HN:Hid (aw (·.id) bK 0 (ps.map (·.pure))=false):=bS HP.I fun hh=>by have h2:=hh.2.1; have h3:bW (fun x:aE=>x.id) 0 ((ps.map (·.pure)).take n) < p.id:=h2; omega
    go_wp2;go_ret;exact ⟨S.I.low,.inl ⟨HN.I,rfl⟩⟩
   have HI:Hid (cv p.pure.id 1 1000=true):=by have h1:=HO.I.2.2.2.2.id; rw [bz] at h1; exact eB (by omega) (by omega)
   have HWF:Hid ((Lit.int .i64 p.id).wf=true):=kwf_in HI.I;have HT:Hid (aw (·.id) bK 0 ((ps.map (·.pure)).take (n+1))=true):=ed HL.I.2 HP.I HI.I (by show _ < p.id; omega) ((ch _).2 HO.I.2.2.2.2);have j6:Hid (∀ q∈l,q.1.q.id < p.id):=fun q hq=>by
    have h1:=(D2 HT.I).2;rw [cj HP.I,aeB] at h1;exact h1.2.2 q.1.pure (by rw [← HL.I.1]; exact Lr.2 ⟨q,hq,rfl⟩) p.pure (by simp)
   obtain ⟨W2,hrun,hm2,ht2⟩:=(S.I.map.below (Kp _ _).drew).put Tryz.underlying104 HWF.I o (by
    rw [Tf]
    have:l.find? (fun q=>q.1.q.id == p.id)=none:=List.find?_eq_none.2 fun q hq=>by have:=j6.I q hq; simp; omega
    rw [this];rfl) (by have h5:=congrArg List.length HL.I.1; simp at h5 ⊢; omega)
   have HW:Hid (cF W2 b (oK (p.id,o) (l.map fun p=>(p.1.q.id,p.2)))∧W1.drew.mapTurned W2 b):=⟨hm2,ht2⟩
   have hob:o≠b:=by have h1:=HO.I.1.low; have h2:=HO.I.2.2.1; omega
   have d1:W2.cell? ⟨o,0,none⟩=some (.int .i64 p.id):=(J1 (w:=W1.drew) (a:=⟨o,0,none⟩) (kf ht2 hob)).trans d0;have HD:=aA d1;clear hm2 ht2 hob d1;have VH:=aA d0;have hleB:decide (p.id≤bW (fun x:aE=>x.id) 0 ((ps.map (·.pure)).take n))=false:=decide_eq_false hle;clear hle;go_upto_region 8 with fail;clear d0 hleB;replace S:=aA (S.I.below (by have:=HC.I.2.1; have:=HO.I.2.2.2.1; omega) (Kp _ _).drew);refine wp_region_held_drew (S:=fun W=>W.heap[K]? =w.heap[K]? ∧W.cell? ⟨o,0,none⟩=some (.int .i64 p.id)) (by kernel_rfl) ⟨S.I.TN,VH.I⟩ (fun _=> ?_);have mH:Hid (W1.drew.heap[K]? =w.heap[K]? ∧W1.drew.cell? ⟨o,0,none⟩=some (.int .i64 p.id)):=⟨S.I.TN,VH.I⟩
   have HCK:Hid (∀ W:World,W.heap[K]? =w.heap[K]? →W.cell? ⟨K,63,none⟩=some (.map (some b))):=fun W h=>(J1 (w:=w) (a:=⟨K,63,none⟩) h).trans HC.I.1
   refine tt 0 mH.I ?_;refine tt 1 mH.I ?_;refine tt 2 mH.I ?_;refine tt 3 mH.I ?_ (hy:=fun w0 hS0=>by have e1:=HCK.I w0 hS0.1; go_simp; try with_reducible rfl);refine tt 4 mH.I ?_;refine tt 5 mH.I ?_;refine tt 6 mH.I ?_;refine tt 7 mH.I ?_ (hy:=fun w0 hS0=>by have e1:=hS0.2; go_simp; try with_reducible rfl);refine tt 8 mH.I ?_;refine L7 9 (fun Q hQ=> ?_);have VG:=hrun;unfold dt at VG;clear hrun;go_wp2_with fail;have zz:Hid (W2.heap[K]? =w.heap[K]? ∧W2.cell? ⟨o,0,none⟩=some (.int .i64 p.id)):=⟨(kf HW.I.2 HC.I.2.2.1).trans S.I.TN,HD.I⟩
   refine hQ.out _ _ zz.I (fun _=> ?_);clear hQ Q VG;refine wpAnyH_done (by kernel_rfl) ?_ _;have d0:=HD.I;go_wp2;go_roundw
   case rel=>
    refine ⟨n+1,l ++ [(T,o)],by omega,by go_num,by rw [eG HP.I]; rfl,?_,?_,?_,HT.I⟩
    ·exact S.I.more HC.I.2.2.2 HC.I.2.2.1 (HO.I.1.same fun g _ _=>rfl) HO.I.2.2.1 HKW.I HF.I (fun q hq=>by rw [HID.I]; exact j6.I q hq) (by rw [HID.I]; exact HW.I.1) HW.I.2
    ·rw [T5 HW.I.2]; exact HO.I.2.2.2.1
    ·rw [cj HP.I,Kl,HL.I.1]; simp [HO.I.2.1]
   case measure=>simp [Go.RowKit.intOf]; omega
  ·have i1: ¬ (n:Int) < (ps.length:Int):=by omega
   go_wp2;go_ret;have h:=S.I.2.2;rw [List.take_of_length_le (by simp; omega)] at h;exact ⟨S.I.1.low,.inr ⟨h.2,rfl,l,h.1,S.I.1⟩⟩
end
section
open Go.RowKit
abbrev afh (q:af):List Nat:=blk q.bc ++ (blk q.ay ++ (blk q.ax ++ (blk q.am ++ (q.ae.filterMap aC.bt ++ (blk q.aK ++ q.ai.filterMap aU.bt)))))
abbrev afg (q:af):List Nat:=blk q.aN ++ q.L8.filterMap aR.bt ++ blk q.bc ++ blk q.ay ++ blk q.ax ++ blk q.am ++ q.ae.filterMap aC.bt
abbrev afk (q:af):List Nat:=blk q.aN ++ q.L8.filterMap aR.bt ++ blk q.bc ++ blk q.ay ++ blk q.ax
theorem qC {Z A A' K k R:List Nat} (h:(Z ++ (A ++ (K ++ R))).Nodup) (hA:A'.Nodup) (hk:k.Nodup) (h1: ∀ g∈A',g∉Z∧g∉K∧g∉k∧g∉R) (h2: ∀ g∈k,g∉Z∧g∉K∧g∉R):(Z ++ (A' ++ ((K ++ k) ++ R))).Nodup:=by
 simp only [Kf,Kg] at h ⊢;obtain ⟨hz,⟨-,⟨hK,hR,hKR⟩,-⟩,hzz⟩:=h;refine ⟨hz,⟨hA,⟨⟨hK,hk,fun a ha b hb e=>(h2 b hb).2.1 (e ▸ ha)⟩,hR,fun a ha b hb e=> ?_⟩,fun a ha b hb e=> ?_⟩,fun a ha b hb e=> ?_⟩
 ·rcases ha with ha | ha
  ·exact hKR a ha b hb e
  ·exact (h2 a ha).2.2 (e ▸ hb)
 ·subst e
  rcases hb with (hb | hb) | hb
  ·exact (h1 a ha).2.1 hb
  ·exact (h1 a ha).2.2.1 hb
  ·exact (h1 a ha).2.2.2 hb
 ·subst e
  rcases hb with hb | (hb | hb) | hb
  ·exact (h1 a hb).1 ha
  ·exact hzz a ha a (.inr (.inl hb)) rfl
  ·exact (h2 a hb).1 ha
  ·exact hzz a ha a (.inr (.inr hb)) rfl
theorem fN (a:Option Addr):(blk a).Nodup:=by cases a <;> simp [blk]
theorem qj {α:Type} (N:gd α) (x:α):([x].filterMap N.bt).Nodup:=by
 cases h:N.bt x <;> simp [h]
theorem dd {α:Type} {N:gd α} {l:List α} {y:α} {g:Nat} (hy:y∈l) (hk:N.bt y=some g):(∃ a,a∈l∧N.bt a=some g)=True:=by simp only [eq_iff_iff,iff_true]; exact ⟨y,hy,hk⟩
theorem j5 {α:Type} {N:gd α} {x:α} {g:Nat} :g∈ [x].filterMap N.bt↔N.bt x=some g:=by simp
theorem ap.yg {w w':World} {base:Nat} {q:af} {x:ao} {a:Option Addr} {c:Nat} (h:ap w base q) (hm:aR.cO w base x) (hx: ∀ g,aR.bt x=some g→g∉q.Mc)
  (ho:w'.ownsRow base 148 12 (.slice a (q.L8.length+1) c) (q.L8.length+1) (bg.flat (q.L8 ++ [x]))) (hg: ∀ g,g < w.heap.size→g∉blk q.aN→w'.heap[g]? =w.heap[g]?) (hb: ∀ g∈blk a,g∈blk q.aN∨g=w.heap.size):
  ap w' base ({ q with L8:=q.L8 ++ [x],aN:=a,aW:=c } :af)∧ ∀ g∈({ q with L8:=q.L8 ++ [x],aN:=a,aW:=c } :af).Mc,g∈q.Mc∨aR.bt x=some g∨g=w.heap.size:=by
 have hbs:q.Mc= [] ++ (blk q.aN ++ (q.L8.filterMap aR.bt ++ (afh q))):=by simp [af.Mc]
 have rN:({ q with L8:=q.L8 ++ [x],aN:=a,aW:=c } :af).Mc= [] ++ (blk a ++ ((q.L8.filterMap aR.bt ++ [x].filterMap aR.bt) ++ (afh q))):=by simp only [af.Mc,Lm,LW,Ll]
 have hnd:=h.nodup;rw [hbs] at hnd;have hlt: ∀ g∈q.Mc,g < w.heap.size:=fun g hg=>(h.lt g hg).2
 have uW: ∀ g∈q.Mc,g∉blk q.aN→w'.heap[g]? =w.heap[g]? :=fun g bR hn=>hg g (hlt g bR) hn
 have nc: ∀ g,(g∈ [] ∨g∈q.L8.filterMap aR.bt∨g∈(afh q))→g∉blk q.aN:=fun g bR hA=>by
  obtain ⟨-,h2,h3⟩:=Kf.1 hnd;obtain ⟨-,-,h4⟩:=Kf.1 h2;rcases bR with bR | bR | bR
  ·exact h3 g bR g (Lz _ hA) rfl
  ·exact h4 g hA g (Lz _ bR) rfl
  ·exact h4 g hA g (Ly _ bR) rfl
 have hmem: ∀ g,(g∈ [] ∨g∈q.L8.filterMap aR.bt∨g∈(afh q))→g∈q.Mc:=fun g bR=>by
  rw [hbs];simp only [Kg];simp only [Kg] at bR;rcases bR with bR | bR | bR
  ·exact .inl bR
  ·exact .inr (.inr (.inl bR))
  ·exact .inr (.inr (.inr bR))
 have hs: ∀ g,(g∈ [] ∨g∈q.L8.filterMap aR.bt∨g∈(afh q))→w'.heap[g]? =w.heap[g]? :=fun g bR=>uW g (hmem g bR) (nc g bR)
 have hxs: ∀ g,aR.bt x=some g→w'.heap[g]? =w.heap[g]? :=fun g hk=>hg g (hm.lt hk).2 fun hA=>hx g hk (by rw [hbs]; simp only [Kg]; exact .inr (.inl hA))
 refine ⟨⟨(by simpa using ho),aL h.aj fun g bR=>hs g (.inr <| .inr (by simp [bR])),aL h.L9 fun g bR=>hs g (.inr <| .inr (by simp [bR])),aL h.ag fun g bR=>hs g (.inr <| .inr (by simp [bR])),aL h.ae fun g bR=>hs g (.inr <| .inr (by simp [bR])),aL h.ai fun g bR=>hs g (.inr <| .inr (by simp [bR])),fun y hy=>by
  rcases Kg.1 hy with hy | hy
  ·exact (h.eI y hy).same fun g hk=>hs g (.inr (.inl (Lq.2 ⟨y,hy,hk⟩)))
  ·simp only [Kt,Ku,or_false] at hy
   subst hy;exact hm.same hxs,fun y hy=>(h.eE y hy).same fun g hk=>hs g (.inr <| .inr (by simp only [Kg,Lq]; simp [dd hy hk])),fun y hy=>(h.eR y hy).same fun g hk=>hs g (.inr <| .inr (by simp only [Kg,Lq]; simp [dd hy hk])),?_⟩,?_⟩
 ·rw [rN]
  refine qC hnd (fN a) (qj _ x) (fun g iE=> ?_) (fun g EI=> ?_)
  ·have key: ∀ g',(g'∈ [] ∨g'∈q.L8.filterMap aR.bt∨g'∈(afh q))→g'≠g:=fun g' hg' e=>by
    rcases hb g iE with h1 | h1
    ·exact nc g' hg' (e ▸ h1)
    ·have:=hlt g' (hmem g' hg')
     omega
   refine ⟨fun hz=>key g (.inl hz) rfl,fun hz=>key g (.inr (.inl hz)) rfl,fun hz=> ?_,fun hz=>key g (.inr (.inr hz)) rfl⟩;rw [j5] at hz;rcases hb g iE with h1 | h1
   ·exact hx g hz (by rw [hbs]; simp only [Kg]; exact .inr (.inl h1))
   ·have:=(hm.lt hz).2
    omega
  ·rw [j5] at EI
   have hn:=hx g EI;exact ⟨fun hz=>hn (hmem g (.inl hz)),fun hz=>hn (hmem g (.inr (.inl hz))),fun hz=>hn (hmem g (.inr (.inr hz)))⟩
 ·intro g bR
  rw [rN] at bR;rw [hbs];simp only [Kg] at bR ⊢;rcases bR with bR | bR | (bR | bR) | bR
  ·exact .inl (.inl bR)
  ·rcases hb g bR with h1 | h1
   ·exact .inl (.inr (.inl h1))
   ·exact .inr (.inr h1)
  ·exact .inl (.inr (.inr (.inl bR)))
  ·exact .inr (.inl (j5.1 bR))
  ·exact .inl (.inr (.inr (.inr bR)))
theorem ap.sD {w w':World} {base:Nat} {q:af} {x:au} {a:Option Addr} {c:Nat} (h:ap w base q) (hm:aC.cO w base x) (hx: ∀ g,aC.bt x=some g→g∉q.Mc)
  (ho:w'.ownsRow base 160 3 (.slice a (q.ae.length+1) c) (q.ae.length+1) (bm.flat (q.ae ++ [x]))) (hg: ∀ g,g < w.heap.size→g∉blk q.am→w'.heap[g]? =w.heap[g]?) (hb: ∀ g∈blk a,g∈blk q.am∨g=w.heap.size):
  ap w' base ({ q with ae:=q.ae ++ [x],am:=a,aG:=c } :af)∧ ∀ g∈({ q with ae:=q.ae ++ [x],am:=a,aG:=c } :af).Mc,g∈q.Mc∨aC.bt x=some g∨g=w.heap.size:=by
 have hbs:q.Mc=(afk q) ++ (blk q.am ++ (q.ae.filterMap aC.bt ++ (blk q.aK ++ q.ai.filterMap aU.bt))):=by simp [af.Mc,Lm]
 have rN:({ q with ae:=q.ae ++ [x],am:=a,aG:=c } :af).Mc=(afk q) ++ (blk a ++ ((q.ae.filterMap aC.bt ++ [x].filterMap aC.bt) ++ (blk q.aK ++ q.ai.filterMap aU.bt))):=by simp only [af.Mc,Lm,LW]
 have hnd:=h.nodup;rw [hbs] at hnd;have hlt: ∀ g∈q.Mc,g < w.heap.size:=fun g hg=>(h.lt g hg).2
 have uW: ∀ g∈q.Mc,g∉blk q.am→w'.heap[g]? =w.heap[g]? :=fun g bR hn=>hg g (hlt g bR) hn
 have nc: ∀ g,(g∈(afk q)∨g∈q.ae.filterMap aC.bt∨g∈(blk q.aK ++ q.ai.filterMap aU.bt))→g∉blk q.am:=fun g bR hA=>by
  obtain ⟨-,h2,h3⟩:=Kf.1 hnd;obtain ⟨-,-,h4⟩:=Kf.1 h2;rcases bR with bR | bR | bR
  ·exact h3 g bR g (Lz _ hA) rfl
  ·exact h4 g hA g (Lz _ bR) rfl
  ·exact h4 g hA g (Ly _ bR) rfl
 have hmem: ∀ g,(g∈(afk q)∨g∈q.ae.filterMap aC.bt∨g∈(blk q.aK ++ q.ai.filterMap aU.bt))→g∈q.Mc:=fun g bR=>by
  rw [hbs];simp only [Kg];simp only [Kg] at bR;rcases bR with bR | bR | bR
  ·exact .inl bR
  ·exact .inr (.inr (.inl bR))
  ·exact .inr (.inr (.inr bR))
 have hs: ∀ g,(g∈(afk q)∨g∈q.ae.filterMap aC.bt∨g∈(blk q.aK ++ q.ai.filterMap aU.bt))→w'.heap[g]? =w.heap[g]? :=fun g bR=>uW g (hmem g bR) (nc g bR)
 have hxs: ∀ g,aC.bt x=some g→w'.heap[g]? =w.heap[g]? :=fun g hk=>hg g (hm.lt hk).2 fun hA=>hx g hk (by rw [hbs]; simp only [Kg]; exact .inr (.inl hA))
 refine ⟨⟨aL h.L8 fun g bR=>hs g (.inl (by simp [bR])),aL h.aj fun g bR=>hs g (.inl (by simp [bR])),aL h.L9 fun g bR=>hs g (.inl (by simp [bR])),aL h.ag fun g bR=>hs g (.inl (by simp [bR])),(by simpa using ho),aL h.ai fun g bR=>hs g (.inr <| .inr (by simp [bR])),fun y hy=>(h.eI y hy).same fun g hk=>hs g (.inl (by simp only [Kg,Lq]; simp [dd hy hk])),fun y hy=>by
  rcases Kg.1 hy with hy | hy
  ·exact (h.eE y hy).same fun g hk=>hs g (.inr (.inl (Lq.2 ⟨y,hy,hk⟩)))
  ·simp only [Kt,Ku,or_false] at hy
   subst hy;exact hm.same hxs,fun y hy=>(h.eR y hy).same fun g hk=>hs g (.inr <| .inr (by simp only [Kg,Lq]; simp [dd hy hk])),?_⟩,?_⟩
 ·rw [rN]
  refine qC hnd (fN a) (qj _ x) (fun g iE=> ?_) (fun g EI=> ?_)
  ·have key: ∀ g',(g'∈(afk q)∨g'∈q.ae.filterMap aC.bt∨g'∈(blk q.aK ++ q.ai.filterMap aU.bt))→g'≠g:=fun g' hg' e=>by
    rcases hb g iE with h1 | h1
    ·exact nc g' hg' (e ▸ h1)
    ·have:=hlt g' (hmem g' hg')
     omega
   refine ⟨fun hz=>key g (.inl hz) rfl,fun hz=>key g (.inr (.inl hz)) rfl,fun hz=> ?_,fun hz=>key g (.inr (.inr hz)) rfl⟩;rw [j5] at hz;rcases hb g iE with h1 | h1
   ·exact hx g hz (by rw [hbs]; simp only [Kg]; exact .inr (.inl h1))
   ·have:=(hm.lt hz).2
    omega
  ·rw [j5] at EI
   have hn:=hx g EI;exact ⟨fun hz=>hn (hmem g (.inl hz)),fun hz=>hn (hmem g (.inr (.inl hz))),fun hz=>hn (hmem g (.inr (.inr hz)))⟩
 ·intro g bR
  rw [rN] at bR;rw [hbs];simp only [Kg] at bR ⊢;rcases bR with bR | bR | (bR | bR) | bR
  ·exact .inl (.inl bR)
  ·rcases hb g bR with h1 | h1
   ·exact .inl (.inr (.inl h1))
   ·exact .inr (.inr h1)
  ·exact .inl (.inr (.inr (.inl bR)))
  ·exact .inr (.inl (j5.1 bR))
  ·exact .inl (.inr (.inr (.inr bR)))
theorem ap.yf {w w':World} {base:Nat} {q:af} {x:aM} {a:Option Addr} {c:Nat} (h:ap w base q) (hm:aU.cO w base x) (hx: ∀ g,aU.bt x=some g→g∉q.Mc)
  (ho:w'.ownsRow base 85 5 (.slice a (q.ai.length+1) c) (q.ai.length+1) (bX.flat (q.ai ++ [x]))) (hg: ∀ g,g < w.heap.size→g∉blk q.aK→w'.heap[g]? =w.heap[g]?) (hb: ∀ g∈blk a,g∈blk q.aK∨g=w.heap.size):
  ap w' base ({ q with ai:=q.ai ++ [x],aK:=a,aV:=c } :af)∧ ∀ g∈({ q with ai:=q.ai ++ [x],aK:=a,aV:=c } :af).Mc,g∈q.Mc∨aU.bt x=some g∨g=w.heap.size:=by
 have hbs:q.Mc=(afg q) ++ (blk q.aK ++ (q.ai.filterMap aU.bt ++ [])):=by simp [af.Mc,Lm]
 have rN:({ q with ai:=q.ai ++ [x],aK:=a,aV:=c } :af).Mc=(afg q) ++ (blk a ++ ((q.ai.filterMap aU.bt ++ [x].filterMap aU.bt) ++ [])):=by simp only [af.Mc,Lm,LW,List.append_nil]
 have hnd:=h.nodup;rw [hbs] at hnd;have hlt: ∀ g∈q.Mc,g < w.heap.size:=fun g hg=>(h.lt g hg).2
 have uW: ∀ g∈q.Mc,g∉blk q.aK→w'.heap[g]? =w.heap[g]? :=fun g bR hn=>hg g (hlt g bR) hn
 have nc: ∀ g,(g∈(afg q)∨g∈q.ai.filterMap aU.bt∨g∈ [])→g∉blk q.aK:=fun g bR hA=>by
  obtain ⟨-,h2,h3⟩:=Kf.1 hnd;obtain ⟨-,-,h4⟩:=Kf.1 h2;rcases bR with bR | bR | bR
  ·exact h3 g bR g (Lz _ hA) rfl
  ·exact h4 g hA g (Lz _ bR) rfl
  ·exact h4 g hA g (Ly _ bR) rfl
 have hmem: ∀ g,(g∈(afg q)∨g∈q.ai.filterMap aU.bt∨g∈ [])→g∈q.Mc:=fun g bR=>by
  rw [hbs];simp only [Kg];simp only [Kg] at bR;rcases bR with bR | bR | bR
  ·exact .inl bR
  ·exact .inr (.inr (.inl bR))
  ·exact .inr (.inr (.inr bR))
 have hs: ∀ g,(g∈(afg q)∨g∈q.ai.filterMap aU.bt∨g∈ [])→w'.heap[g]? =w.heap[g]? :=fun g bR=>uW g (hmem g bR) (nc g bR)
 have hxs: ∀ g,aU.bt x=some g→w'.heap[g]? =w.heap[g]? :=fun g hk=>hg g (hm.lt hk).2 fun hA=>hx g hk (by rw [hbs]; simp only [Kg]; exact .inr (.inl hA))
 refine ⟨⟨aL h.L8 fun g bR=>hs g (.inl (by simp [bR])),aL h.aj fun g bR=>hs g (.inl (by simp [bR])),aL h.L9 fun g bR=>hs g (.inl (by simp [bR])),aL h.ag fun g bR=>hs g (.inl (by simp [bR])),aL h.ae fun g bR=>hs g (.inl (by simp [bR])),(by simpa using ho),fun y hy=>(h.eI y hy).same fun g hk=>hs g (.inl (by simp only [Kg,Lq]; simp [dd hy hk])),fun y hy=>(h.eE y hy).same fun g hk=>hs g (.inl (by simp only [Kg,Lq]; simp [dd hy hk])),fun y hy=>by
  rcases Kg.1 hy with hy | hy
  ·exact (h.eR y hy).same fun g hk=>hs g (.inr (.inl (Lq.2 ⟨y,hy,hk⟩)))
  ·simp only [Kt,Ku,or_false] at hy
   subst hy;exact hm.same hxs,?_⟩,?_⟩
 ·rw [rN]
  refine qC hnd (fN a) (qj _ x) (fun g iE=> ?_) (fun g EI=> ?_)
  ·have key: ∀ g',(g'∈(afg q)∨g'∈q.ai.filterMap aU.bt∨g'∈ [])→g'≠g:=fun g' hg' e=>by
    rcases hb g iE with h1 | h1
    ·exact nc g' hg' (e ▸ h1)
    ·have:=hlt g' (hmem g' hg')
     omega
   refine ⟨fun hz=>key g (.inl hz) rfl,fun hz=>key g (.inr (.inl hz)) rfl,fun hz=> ?_,fun hz=>key g (.inr (.inr hz)) rfl⟩;rw [j5] at hz;rcases hb g iE with h1 | h1
   ·exact hx g hz (by rw [hbs]; simp only [Kg]; exact .inr (.inl h1))
   ·have:=(hm.lt hz).2
    omega
  ·rw [j5] at EI
   have hn:=hx g EI;exact ⟨fun hz=>hn (hmem g (.inl hz)),fun hz=>hn (hmem g (.inr (.inl hz))),fun hz=>hn (hmem g (.inr (.inr hz)))⟩
 ·intro g bR
  rw [rN] at bR;rw [hbs];simp only [Kg] at bR ⊢;rcases bR with bR | bR | (bR | bR) | bR
  ·exact .inl (.inl bR)
  ·rcases hb g bR with h1 | h1
   ·exact .inl (.inr (.inl h1))
   ·exact .inr (.inr h1)
  ·exact .inl (.inr (.inr (.inl bR)))
  ·exact .inr (.inl (j5.1 bR))
  ·exact .inl (.inr (.inr (.inr bR)))
def Zp (E:TypeId) (B:Nat) (W W':World):Prop:=W.heap.size≤W'.heap.size∧ ∀ b,B≤b→b < W.heap.size→(∀ c fr,W.heap[b]? ≠some (.cells c E fr))→W'.heap[b]? =W.heap[b]?
def Zu (E:TypeId) (B:Nat) (W W':World):Prop:=W.heap.size≤W'.heap.size∧ ∀ b c t fr,t≠E→B≤b→W.heap[b]? =some (.cells c t fr)→W'.heap[b]? =some (.cells c t fr)
theorem Zp.refl (E:TypeId) (B:Nat) (W:World):Zp E B W W:=⟨Ki _,fun _ _ _ _=>rfl⟩
theorem Zp.trans {E:TypeId} {B:Nat} {X Y Z:World} (h:Zp E B X Y) (k:Zp E B Y Z):Zp E B X Z:=
 ⟨LG h.1 k.1,fun b hb hl hn=>(k.2 b hb (Nat.lt_of_lt_of_le hl h.1) (by rw [h.2 b hb hl hn]; exact hn)).trans (h.2 b hb hl hn)⟩
theorem Zp.of {E:TypeId} {B:Nat} {X Y:World} (h:Kept B X Y):Zp E B X Y:=⟨h.1,fun b hb hl _=>h.2 b hb hl⟩
theorem Zp.cells {E:TypeId} {B:Nat} {W W':World} (h:Zp E B W W'):Zu E B W W':=
 ⟨h.1,fun b c t fr ht hb hc=>(h.2 b hb (J2.1 hc).1 (fun c2 fr2 e=>by rw [hc] at e; cases e; exact ht rfl)).trans hc⟩
theorem Zu.trans {E:TypeId} {B:Nat} {X Y Z:World} (h:Zu E B X Y) (k:Zu E B Y Z):Zu E B X Z:=
 ⟨LG h.1 k.1,fun b c t fr ht hb hc=>k.2 b c t fr ht hb (h.2 b c t fr ht hb hc)⟩
theorem Zy {E:TypeId} {B:Nat} {W:World} {l:Nat} {r:Loop} (h:W.heap[l]? =some (.loop r)) (o:Obj):Zu E B W (W.putObj l o):=
 ⟨by simp,fun b c t fr _ _ hc=>(adX (fun e=>by subst e; rw [h] at hc; cases hc)).trans hc⟩
def abB (E:TypeId) (P:Program) (Xi:Nat) (fa:Array Value) (encs:Nat→Array Value) (N B:Nat):Prop:=
 ∀ (l:Nat) (M:Nat→World→Prop) (YP:World→Prop) (W:World),B≤W.heap.size→(∀ k X o,M k X→M k (X.alloc o))→
  (∀ k X,k < N→M k X→YieldAt Fence.wide 4 P l (encs k) X fun e X'=>(e= .returned (.bool true)∧M (k+1) X'∧Zu E B X X')∨(e= .returned (.bool false)∧YP X'))→
  M 0 W→CallsIn Fence.wide 5 P Xi (fa ++ #[.func (.yield l) #[] #[]]) W fun e X'=>(∃ v,e= .returned v)∧(M N X'∨YP X')
def Z7 (E:TypeId) (B:Nat) (J:Nat→World→Prop) (Jx:World→Prop) (k:Nat) (W:World):Exit→Act→World→Prop
 | .normal,_,W'=>Zp E B W W'∧J (k+1) W'
 | .ret,_,W'=>Zp E B W W'∧Jx W'
 | _,_,_=>False
theorem aae {E:TypeId} {P:Program} {g:Operand} {ps:Array Tmp} {assign body:Code} {Q:Exit→Act→World→Prop} {a:Act} {w:World} {Xi:Nat} {fa:Array Value}
  (hg:a.eval g= .func (.func Xi) fa #[]) (eg: ∀ args w,(callFunc Xi args).run P w= .ok (.enter Xi args) w) {encs:Nat→Array Value} {N:Nat} (hit:abB E P Xi fa encs N w.heap.size) (hps: ∀ k,(encs k).size=ps.size)
  (J:Nat→World→Prop) (Jx:World→Prop) (hJa: ∀ k X o,J k X→J k (X.alloc o)) (hJp: ∀ k X l r o,w.heap.size≤l→X.heap[l]? =some (.loop r)→J k X→J k (X.putObj l o)) (hJx: ∀ X l r o,w.heap.size≤l→X.heap[l]? =some (.loop r)→Jx X→Jx (X.putObj l o)) (h0:J 0 w)
  (YJ:Nat→Act→World→Prop) (hAx: ∀ k a X l r o,X.heap[l]? =some (.loop r)→YJ k a X→YJ k a (X.putObj l o))
  (hassign: ∀ (l k:Nat) (W:World) (K:Act→World→Prop),k < N→J k W→w.heap.size≤W.heap.size→(∀ a' W',Zp E w.heap.size W W'→J k W'→YJ k a' W'→K a' W')→
   assign.wpIn (Fence.wide.inRound l) 4 P (Exit.then K (fun _ _ _=>False)) { tmps:=(ps.zip (encs k)).foldl (fun t (p,v)=>t.setIfInBounds p v) a.tmps,defers:= [] } W)
  (hbody: ∀ (l k:Nat) (a':Act) (W:World),k < N→J k W→YJ k a' W→w.heap.size≤W.heap.size→body.wpIn (Fence.wide.inRound l) 4 P (Z7 E w.heap.size J Jx k W) a' W)
  (hdone: ∀ W,J N W→W.heap[w.heap.size]? =some (.deferred (some []))→Q .normal { a with defers:= { target:= .collected w.heap.size,args:= #[] } :: a.defers } W)
  (hstop: ∀ W,Jx W→W.heap[w.heap.size]? =some (.deferred (some []))→Q .ret { a with defers:= { target:= .collected w.heap.size,args:= #[] } :: a.defers } W):
  (Code.rangeFunc g ps assign body).wpIn Fence.wide 6 P Q a w:=by
 refine wpIn_rangeFunc fun fn _=> ?_
 -- the record of the loop, in each of its states
 let Zn:LoopState→Option Code→Loop:=fun st pe=>Loop.mk st pe fn a.tmps ps assign body w.heap.size
 let B:=w.heap.size
 let W1:=(w.alloc (.deferred (some []))).alloc (.loop (Zn .ready none))
 have s1:W1.heap.size=B+1+1:=by simp [W1,B]
 have hl1:W1.heap[B+1]? =some (.loop (Zn .ready none)):=by
  have:=World.alloc_heap_new (w.alloc (.deferred (some []))) (.loop (Zn .ready none))
  rwa [World.size_alloc] at this
 have hd1:W1.heap[B]? =some (.deferred (some [])):=(adD _ _ _ (by simp [B])).trans (World.alloc_heap_new w _);have b1:Below B w W1:=((Kp _ _).alloc (Ki _) _).alloc (by simp) _;refine ⟨B+1,[{ target:= .collected B,args:= #[] }],W1,{ target:= .fn (.func Xi) #[],args:=fa ++ #[.func (.yield (B+1)) #[] #[]] },W1,Xi,fa ++ #[.func (.yield (B+1)) #[] #[]],W1,
  run_enterLoop_outer _ _ _ _ _,?_,fun _ _=>trivial,?_,fun h=>by simp [Fence.wide] at h,?_⟩
 ·simp only [resolve,hg]
  simp [go_sem]
 ·simp [invoke,go_sem,eg]
 let M:Nat→World→Prop:=fun k X=>J k X∧X.heap[B+1]? =some (.loop (Zn .ready none))∧X.heap[B]? =some (.deferred (some []))
 let YP:World→Prop:=fun X=>Jx X∧X.heap[B+1]? =some (.loop (Zn .done (some .ret)))∧X.heap[B]? =some (.deferred (some []))
 refine (hit (B+1) M YP W1 (by omega) ?_ ?_ ⟨hJa 0 _ _ (hJa 0 _ _ h0),hl1,hd1⟩).mono ?_
 ·rintro k X o ⟨hj,hl,hd⟩
  have z:=(J2.1 hl).1;exact ⟨hJa k _ o hj,(adD X o _ z).trans hl,(adD X o _ (by omega)).trans hd⟩
 ·rintro k X hk ⟨hj,hl,hd⟩
  have z:=(J2.1 hl).1;refine ⟨fn,_,assign,body,run_yield (r:=Zn .ready none) hl (hps k),roundIn_of_wpIn trivial (hassign (B+1) k X _ hk hj (by omega) ?_)⟩;intro a' Y Ze YX YF;have YB:Y.heap[B+1]? =some (.loop (Zn .ready none)):=(Ze.2 _ (by omega) z (fun c fr h=>by rw [hl] at h; cases h)).trans hl;have YQ:Y.heap[B]? =some (.deferred (some [])):=(Ze.2 _ (Ki _) (by omega) (fun c fr h=>by rw [hd] at h; cases h)).trans hd;have YZ:=(J2.1 YB).1;refine ⟨_,run_beginRound YB rfl,?_⟩;have YT:(Y.putObj (B+1) (.loop (Zn .busy none))).heap[B+1]? =some (.loop (Zn .busy none)):=World.putObj_heap_same YZ;have Za:(Y.putObj (B+1) (.loop (Zn .busy none))).heap[B]? =some (.deferred (some [])):=(adX (by omega)).trans YQ;refine wpIn_mono (hbody (B+1) k a' _ hk (hJp k _ _ _ _ (by omega) YB YX) (hAx k a' Y _ _ _ YB YF) (by simp only [World.putObj_size]; omega)) ?_;rintro e a3 V hp;have fin:Zp E B (Y.putObj (B+1) (.loop (Zn .busy none))) V→V.heap[B+1]? =some (.loop (Zn .busy none))∧V.heap[B]? =some (.deferred (some [])):=fun YD=>
   ⟨(YD.2 _ (by omega) (by simp only [World.putObj_size]; exact YZ) (fun c fr h=>by rw [YT] at h; cases h)).trans YT,(YD.2 _ (Ki _) (by simp only [World.putObj_size]; omega) (fun c fr h=>by rw [Za] at h; cases h)).trans Za⟩
  cases e with
  | normal=>
   obtain ⟨YD,Y2⟩:=hp;obtain ⟨l3,d3⟩:=fin YD;have z3:=(J2.1 l3).1;exact ⟨_,_,run_endRound none l3,.inl ⟨rfl,⟨hJp _ _ _ _ _ (by omega) l3 Y2,World.putObj_heap_same z3,(adX (by omega)).trans d3⟩,
    (Ze.cells.trans (Zy YB _)).trans (YD.cells.trans (Zy l3 _))⟩⟩
  | ret=>
   obtain ⟨YD,Y2⟩:=hp;obtain ⟨l3,d3⟩:=fin YD;have z3:=(J2.1 l3).1;exact ⟨_,_,run_endRound (some .ret) l3,.inr ⟨rfl,⟨hJx _ _ _ _ (by omega) l3 Y2,World.putObj_heap_same z3,(adX (by omega)).trans d3⟩⟩⟩
  | exit _=>exact hp.elim
  | goto _=>exact hp.elim
  | panic _=>exact hp.elim
  | outgrown=>exact hp.elim
 ·rintro e X ⟨⟨v,rfl⟩,⟨hj,hl,hd⟩ | ⟨hj,hl,hd⟩⟩
  ·have z:=(J2.1 hl).1
   exact ⟨none,_,run_endLoop hl (by simp [Zn]),hdone _ (hJp _ _ _ _ _ (by omega) hl hj) ((adX (by omega)).trans hd)⟩
  ·have z:=(J2.1 hl).1
   exact ⟨some .ret,_,run_endLoop hl (by simp [Zn]),wpIn_ret (hstop _ (hJx _ _ _ _ (by omega) hl hj) ((adX (by omega)).trans hd))⟩
theorem yS:(Tryz.prog.info? 184).map (fun i=>(i.zero,i.size,i.bytes))=some (some (.agg #[.int .i64 0,.int .i64 0,.int .i64 0]),3,24):=by kernel_rfl
theorem so:(Tryz.prog.info? 187).map (fun i=>(i.zero,i.size,i.bytes))=some (some (.agg #[.int .i64 0,.bool false]),2,16):=by kernel_rfl
theorem sj:(Tryz.prog.info? 190).map (fun i=>(i.zero,i.size,i.bytes))=some (some (.agg #[.int .i64 0,.bool false,.string ⟨#[]⟩]),3,32):=by kernel_rfl
theorem kh:(Tryz.prog.info? 160).map (fun i=>(i.zero,i.size,i.bytes))=some (some (.agg #[.int .i64 0,.int .i64 0,.slice none 0 0]),3,40):=by kernel_rfl
theorem na:(Tryz.prog.info? 85).map (fun i=>(i.zero,i.size,i.bytes))=some (some (.agg #[.int .i64 0,.bool false,.bool false,.int .i64 0,.slice none 0 0]),5,48):=by kernel_rfl
theorem nb:(Tryz.prog.info? 148).map (fun i=>(i.zero,i.size,i.bytes))=some (some (.agg cE),12,128):=by kernel_rfl
theorem i6 {w:World} {base g:Nat} {e:TypeId} {size:Nat} (hg:w.heap[g]? =some (.cells #[] e (0,0))) (hb:base≤g):w.ownsRow base e size (.slice (some ⟨g,0,none⟩) 0 0) 0 [] :=
 ⟨by simp,.inr ⟨g,0,#[],rfl,hb,hg,Ki _,Ky _,by simp,by simp⟩⟩
theorem kK {P:Program} (w:World) (base:Nat) (t ty e:TypeId) (i:TypeInfo) (z:Value) (size bytes:Nat) (ht:P.underlying t=some (.slice e)) (hi:P.info? e=some i) (hz:i.zero=some z)
  (hsize:i.size=size) (hby:i.bytes=bytes) (hzs:z.cells.size=size) (hsz:0 < size) (g:Nat) (hg:w.heap[g]? =some (.cells #[] e (0,0))) (hbg:base≤g) (a:Option Addr) (n cap:Nat) (xs:List Value) (h:Row w a xs) (hl:xs.length=n * size) (h1: ∀ u∈xs,u.oneCell'=true)
  (h63:n≤1048576) (hb:bytes≤1000) (lY:base≤w.heap.size):
  ∃ a' cap' w',(Builtin.append_ #[t,t] ty #[.slice (some ⟨g,0,none⟩) 0 0,.slice a n cap]).run P w= .ok (.slice a' n cap') w'∧w'.ownsRow base e size (.slice a' n cap') n xs∧w.grownBy w' (some g)∧ ∀ q∈blk a',q=g∨q=w.heap.size:=by
 cases a with
 | none=>
  have hx:xs= [] :=by
   cases xs with
   | nil=>rfl
   | cons u r=>
    obtain ⟨g,e',_⟩:=h 0 u rfl;cases e'
  subst hx;have hn:n=0:=by
   cases n with
   | zero=>rfl
   | succ n=>simp only [List.length_nil,Nat.succ_mul] at hl; omega
  subst hn;refine ⟨some ⟨g,0,none⟩,0,w,?_,i6 hg hbg,⟨rfl,rfl,rfl,Ki _,fun _ _ _=>rfl⟩,fun q hq=>by simp [blk] at hq; exact .inl hq⟩;simp [Builtin.append_,run_underlying ht,sizeOf,typeInfo,hi,Builtin.lenOf,Builtin.firstCells,storeCells]
 | some ad=>
  have hnews: ∀ j u,xs[j]? =some u→w.cell? (ad.add j)=some u:=fun j u hu=>by
   obtain ⟨g,e',hc⟩:=h j u hu;cases e';rw [qZ];exact hc
  obtain ⟨v',w',hr,ho,hgr,-,hbl⟩:=run_append_own_at (P:=P) w base t ty e i z size bytes ht hi hz hsize hby hzs hsz (.slice (some ⟨g,0,none⟩) 0 0) 0 [] (i6 hg hbg) ad n cap xs hl hnews h1 (by unfold maxLen; omega) (by rw [Li]; have:=Nat.mul_le_mul h63 hb; omega) lY;simp only [Li,Ll] at ho;obtain ⟨a',cap',rfl,-⟩:=cr ho;refine ⟨a',cap',w',hr,ho,hgr,fun q hq=> ?_⟩;rw [fZ] at hq;cases a' with
  | none=>simp at hq
  | some ad'=>
   simp only [Option.map_some,LF] at hq;subst hq;rcases hbl with hbl | hbl
   ·exact .inl (by simpa [Value.ownBlock] using hbl)
   ·exact .inr (by simpa [Value.ownBlock] using hbl)
theorem Ec {l:List bD} : ∀ u∈dm.flat l,u.oneCell'=true:=fun u hu=>by
 obtain ⟨x,_,hx⟩:=Rt.1 hu;simp only [dm,yz,Kt,Ku,or_false] at hx;rcases hx with rfl | rfl | rfl <;> rfl
theorem xB {l:List aB} : ∀ u∈bJ.flat l,u.oneCell'=true:=fun u hu=>by
 obtain ⟨x,_,hx⟩:=Rt.1 hu;simp only [bJ,rY,Kt,Ku,or_false] at hx;rcases hx with rfl | rfl <;> rfl
theorem xV {l:List az} : ∀ u∈bG.flat l,u.oneCell'=true:=fun u hu=>by
 obtain ⟨x,_,hx⟩:=Rt.1 hu;simp only [bG,sn,Kt,Ku,or_false] at hx;rcases hx with rfl | rfl | rfl <;> rfl
theorem Iq (w:World) (base g:Nat) (hg:w.heap[g]? =some (.cells #[] 184 (0,0))) (hbg:base≤g) (a:Option Addr) (l:List bD) (cap:Nat) (h:Row w a (dm.flat l)) (hl:l.length≤1048576) (lY:base≤w.heap.size):
  ∃ a' cap' w',(Builtin.append_ #[42,42] 42 #[.slice (some ⟨g,0,none⟩) 0 0,.slice a l.length cap]).run J3 w= .ok (.slice a' l.length cap') w'∧w'.ownsRow base 184 3 (.slice a' l.length cap') l.length (dm.flat l)∧w.grownBy w' (some g)∧ ∀ q∈blk a',q=g∨q=w.heap.size:=by
 obtain ⟨i,hi,e⟩:=Kw.1 yS;simp only [Kx] at e;exact kK w base _ _ 184 i _ 3 24 Tryz.underlying42 hi e.1 e.2.1 e.2.2 rfl (by decide) g hg hbg a l.length cap _ h (dm.dM l) Ec hl (by decide) lY
theorem Fp (w:World) (base g:Nat) (hg:w.heap[g]? =some (.cells #[] 187 (0,0))) (hbg:base≤g) (a:Option Addr) (l:List aB) (cap:Nat) (h:Row w a (bJ.flat l)) (hl:l.length≤1048576) (lY:base≤w.heap.size):
  ∃ a' cap' w',(Builtin.append_ #[43,43] 43 #[.slice (some ⟨g,0,none⟩) 0 0,.slice a l.length cap]).run J3 w= .ok (.slice a' l.length cap') w'∧w'.ownsRow base 187 2 (.slice a' l.length cap') l.length (bJ.flat l)∧w.grownBy w' (some g)∧ ∀ q∈blk a',q=g∨q=w.heap.size:=by
 obtain ⟨i,hi,e⟩:=Kw.1 so;simp only [Kx] at e;exact kK w base _ _ 187 i _ 2 16 Tryz.underlying43 hi e.1 e.2.1 e.2.2 rfl (by decide) g hg hbg a l.length cap _ h (bJ.dM l) xB hl (by decide) lY
theorem ED (w:World) (base g:Nat) (hg:w.heap[g]? =some (.cells #[] 190 (0,0))) (hbg:base≤g) (a:Option Addr) (l:List az) (cap:Nat) (h:Row w a (bG.flat l)) (hl:l.length≤1048576) (lY:base≤w.heap.size):
  ∃ a' cap' w',(Builtin.append_ #[44,44] 44 #[.slice (some ⟨g,0,none⟩) 0 0,.slice a l.length cap]).run J3 w= .ok (.slice a' l.length cap') w'∧w'.ownsRow base 190 3 (.slice a' l.length cap') l.length (bG.flat l)∧w.grownBy w' (some g)∧ ∀ q∈blk a',q=g∨q=w.heap.size:=by
 obtain ⟨i,hi,e⟩:=Kw.1 sj;simp only [Kx] at e;exact kK w base _ _ 190 i _ 3 32 Tryz.underlying44 hi e.1 e.2.1 e.2.2 rfl (by decide) g hg hbg a l.length cap _ h (bG.dM l) xV hl (by decide) lY
theorem Gg (w:World) (base g:Nat) (hg:w.heap[g]? =some (.cells #[] 234 (0,0))) (hbg:base≤g) (a:Option Addr) (l:List dN) (cap:Nat) (h:Row w a (fk.flat l)) (hl:l.length≤1048576) (lY:base≤w.heap.size):
  ∃ a' cap' w',(Builtin.append_ #[146,146] 146 #[.slice (some ⟨g,0,none⟩) 0 0,.slice a l.length cap]).run J3 w= .ok (.slice a' l.length cap') w'∧w'.ownsRow base 234 4 (.slice a' l.length cap') l.length (fk.flat l)∧w.grownBy w' (some g)∧ ∀ q∈blk a',q=g∨q=w.heap.size:=by
 obtain ⟨i,hi,e⟩:=Kw.1 D5;simp only [Kx] at e;exact kK w base _ _ 234 i _ 4 40 Tryz.underlying146 hi e.1 e.2.1 e.2.2 rfl (by decide) g hg hbg a l.length cap _ h (fk.dM l) FE hl (by decide) lY
theorem tO (w:World) (base g:Nat) (hg:w.heap[g]? =some (.cells #[] 9 (0,0))) (hbg:base≤g) (a:Option Addr) (l:List ByteArray) (cap:Nat) (h:Row w a (bT.flat l)) (hl:l.length≤1048576) (lY:base≤w.heap.size):
  ∃ a' cap' w',(Builtin.append_ #[83,83] 83 #[.slice (some ⟨g,0,none⟩) 0 0,.slice a l.length cap]).run J3 w= .ok (.slice a' l.length cap') w'∧w'.ownsRow base 9 1 (.slice a' l.length cap') l.length (bT.flat l)∧w.grownBy w' (some g)∧ ∀ q∈blk a',q=g∨q=w.heap.size:=by
 obtain ⟨i,hi,e⟩:=Kw.1 zD;simp only [Kx] at e;exact kK w base _ _ 9 i _ 1 16 Tryz.underlying83 hi e.1 e.2.1 e.2.2 rfl (by decide) g hg hbg a l.length cap _ h (bT.dM l) yK hl (by decide) lY
section
variable {P:Program} {Q:Exit→Act→World→Prop} {K:Act→World→Prop} {o:Oper} {a:Act} {w:World}
end
end
section
open Go.RowKit Go.Maps Go.Sort Go.Shelf
theorem tr (mb:Option Nat) (W:World):Calls J3 192 #[.map mb] W fun e w'=>e= .returned (.func (.func 222) #[] #[.pointer (some ⟨W.heap.size,0,none⟩)])∧w'=W.alloc (.cells #[.map mb] 173):=
 (LO (n:=5)).1 (RC Tryz.keysBuffer Fence.wide 5 trivial rfl mb W)
theorem oF (Bm b:Nat) (m:df) (W:World) (hBm:Bm < W.heap.size) (hc:W.cell? ⟨Bm,0,none⟩=some (.map (some b))) (h:cF W b m) (hm:m.length≤1048576):
  Calls J3 124 #[.func (.func 222) #[] #[.pointer (some ⟨Bm,0,none⟩)]] W fun e w'=> ∃ v:Value,e= .returned v∧w'.ownsRow W.heap.size 2 1 v m.length (m.map fun p=> .int .i64 p.1)∧Below W.heap.size W w':=by
 have hsz:Maps.size (gA m)=m.length:=size_map m;have hseq:SeqGives Fence.wide 2 J3 222 #[.pointer (some ⟨Bm,0,none⟩)] encZ (fun ss=>ss.Perm (intKeys (gA m))) (Maps.size (gA m)) W:=
  RD (ρ:=Tryz.keysBuffer_ren) { Tryz.keysBuffer with } Fence.wide _ trivial rfl (by omega) Bm b m.length (gA m) W hBm hc h.1
 have cS:=RE Tryz.sortedA Fence.wide 5 trivial trivial trivial trivial rfl (by omega) (Tryz.sortsA _) (LP aeI (by kernel_rfl) rfl) 222 #[.pointer (some ⟨Bm,0,none⟩)] trivial (LP Tryz.func222 (by kernel_rfl) rfl) _ _ (by rw [hsz]; unfold maxLen; omega) (by rw [hsz]; omega) _ hseq
 change CallsIn _ _ J3 124 _ _ _ at cS
 refine (LO.1 cS).mono ?_;rintro e w' ⟨v,ss,rfl,hS,hrow,hnil,kj⟩;refine ⟨v,rfl,?_,kj⟩;rw [jG h.2 hS] at hrow;have hl:ss.length=m.length:=by
  rw [hS.length_eq,lU,KG]
 rw [hl,Lv] at hrow;exact hrow
theorem wt:(Tryz.prog.info? 256).map (fun i=>(i.zero,i.size,i.bytes))=some (some (.pointer none),1,8):=by kernel_rfl
theorem wF (Me:Int) (b:Nat) (m:df) (w:World) (h:cF w b m) (hm:m.length≤1048576) (hwf: ∀ p∈m,(Lit.int .i64 p.1).wf=true):
  Calls J3 153 #[.agg #[.int .i64 Me,.map (some b)]] w fun e w'=> ∃ a cap,e= .returned (.slice a m.length cap)∧w'.ownsRow w.heap.size 256 1 (.slice a m.length cap) m.length (m.map fun p=>dt p.2)∧Below w.heap.size w w':=by
 obtain ⟨i0,hi,e0⟩:=Kw.1 wt;simp only [Kx] at e0;have HI:Hid (Tryz.prog.info? 256=some i0∧i0.zero=some (.pointer none)∧i0.size=1∧i0.bytes=8):=⟨hi,e0⟩
 have HM:Hid (cF w b m∧ ∀ p∈m,(Lit.int .i64 p.1).wf=true):=⟨h,hwf⟩
 have hbl:b < w.heap.size:=h.lt;clear hi e0 h hwf
 go_enter Tryz.func153,Tryz.ntmps153
 go_wp2_with (go_at_call 192; refine (tr _ _).mono ?_; rintro e w' ⟨rfl,rfl⟩);refine (oF (w.heap.size+1) b m _ (by simp) (by simp) (HM.I.1.below (((Kp _ w).alloc (Ki _) _).alloc (by simp) _)) hm).mono ?_;rintro e w2 ⟨v,rfl,hown,hb2⟩;have cy:Hid (Below w.heap.size w w2):=(((Kp _ w).alloc (Ki _) _).alloc (by simp) _).trans (hb2.mono (by simp; omega));have HS:Hid (w2.heap[w.heap.size]? =some (.cells #[.int .i64 Me,.map (some b)] 175 (0,0))):=(hb2.block _ (by simp; omega)).trans ((PU (by simp)).trans (Kj _ _));obtain ⟨a,cap,hv,hrow⟩:=cr hown;have HR:Hid (Row w2 a (m.map fun p=> .int .i64 p.1)):=hrow;rw [hv];clear hv hown hrow hb2 v;go_wp2_with fail
 go_loopw [3,11] (fun l i wr=> ∃ k:Nat,k≤m.length∧i= .int .i64 k∧ ∃ a' cap',l= .slice a' k cap'∧Hid (wr.ownsRow w2.heap.size 256 1 (.slice a' k cap') k ((m.take k).map fun p=>dt p.2)∧Below w2.heap.size w2 wr)) (fun _ i _=>m.length - (intOf i).toNat)
 case atStart=>exact ⟨0,Ky _,rfl,none,0,rfl,⟨Ke _ _ _ _,Kp _ _⟩⟩
 case round=>
  obtain ⟨k,hk,rfl,a',cap',rfl,HO⟩:=hrel;by_cases hlt:k < m.length
  ·have qE:(0:Int)≤(k:Int):=by omega
   have i1:(k:Int) < (m.length:Int):=by omega
   obtain ⟨p,hp⟩: ∃ p,m[k]? =some p:=⟨_,Kz hlt⟩
   have hpm:=KA hp;obtain ⟨g,ha,hc⟩:=(HR.I.below HO.I.2) k (.int .i64 p.1) (by simp [hp]);subst ha;have oE:=cy.I.size;have kT:=HO.I.2.size;have ut:cF wr b m:=HM.I.1.below (cy.I.trans (HO.I.2.mono oE));have hlk:=ut.look Tryz.underlying173 (pS wr) (HM.I.2 p hpm) false;rw [jI ut.2 hpm] at hlk;have hsw:wr.heap[w.heap.size]? =some (.cells #[.int .i64 Me,.map (some b)] 175 (0,0)):=(HO.I.2.block _ (J2.1 HS.I).1).trans HS.I;have s1:wr.cell? ⟨w.heap.size,1,none⟩=some (.map (some b)):=by simp [World.cell?,hsw]
   have HP:Hid (m[k]? =some p):=hp;simp only [qz,dt,J5,if_false] at hlk;clear hp hpm ut hsw;go_wp2_with (at_builtin; refine KD _ rfl _ _ 254 rfl w2.heap.size 256 i0 (.pointer none) 1 8 Tryz.underlying254 HI.I.1 HI.I.2.1 HI.I.2.2.1 HI.I.2.2.2 rfl (by decide) (.slice a' k cap') k ((m.take k).map fun p=>dt p.2) rfl (HO.I.1.alloc _) ⟨wr.heap.size,0,none⟩ 1 1 [.pointer (some ⟨p.2,0,none⟩)] (by rfl) rfl (KE (cs:= #[.pointer (some ⟨p.2,0,none⟩)]) (t:=256) (fr:=(0,0)) (Kj wr _)) (by simp [Value.oneCell']) (by unfold maxLen; omega) (by omega) (by simp; omega) ?_; intro v' w5 hown' hgrow hnil jV; obtain ⟨a5,im,rfl,-⟩:=cr hown'; have HN:Hid (w5.ownsRow w2.heap.size 256 1 (.slice a5 (k+1) im) (k+1) ((m.take (k+1)).map fun p=>dt p.2)∧Below w2.heap.size w2 w5):=⟨by rw [cj HP.I,Kl]; exact hown',(HO.I.2.alloc kT _).grown hgrow (by simp; omega) (fun q hq=>(HO.I.1.lt q hq).1)⟩; clear hown' hgrow hnil jV);go_roundw
   case rel=>exact ⟨k+1,by omega,by go_num,a5,im,rfl,HN⟩
   case measure=>simp [intOf]; omega
  ·have i1: ¬ (k:Int) < (m.length:Int):=by omega
   have e:k=m.length:=by omega
   subst e;go_wp2;go_ret;refine ⟨a',cap',rfl,?_,cy.I.trans (HO.I.2.mono cy.I.size)⟩
   have:=cq HO.I.1 cy.I.size
   rwa [LQ] at this
theorem vq (mb:Option Nat) (W:World):Calls J3 190 #[.map mb] W fun e w'=>e= .returned (.func (.func 220) #[] #[.pointer (some ⟨W.heap.size,0,none⟩)])∧w'=W.alloc (.cells #[.map mb] 167):=
 (LO (n:=5)).1 (RC Tryz.keysEvent Fence.wide 5 trivial rfl mb W)
theorem pD (Bm b:Nat) (m:df) (W:World) (hBm:Bm < W.heap.size) (hc:W.cell? ⟨Bm,0,none⟩=some (.map (some b))) (h:cF W b m) (hm:m.length≤1048576):
  Calls J3 124 #[.func (.func 220) #[] #[.pointer (some ⟨Bm,0,none⟩)]] W fun e w'=> ∃ v:Value,e= .returned v∧w'.ownsRow W.heap.size 2 1 v m.length (m.map fun p=> .int .i64 p.1)∧Below W.heap.size W w':=by
 have hsz:Maps.size (gA m)=m.length:=size_map m;have hseq:SeqGives Fence.wide 2 J3 220 #[.pointer (some ⟨Bm,0,none⟩)] encZ (fun ss=>ss.Perm (intKeys (gA m))) (Maps.size (gA m)) W:=
  RD (ρ:=Tryz.keysEvent_ren) { Tryz.keysEvent with } Fence.wide _ trivial rfl (by omega) Bm b m.length (gA m) W hBm hc h.1
 have cS:=RE Tryz.sortedA Fence.wide 5 trivial trivial trivial trivial rfl (by omega) (Tryz.sortsA _) (LP aeI (by kernel_rfl) rfl) 220 #[.pointer (some ⟨Bm,0,none⟩)] trivial (LP Tryz.func220 (by kernel_rfl) rfl) _ _ (by rw [hsz]; unfold maxLen; omega) (by rw [hsz]; omega) _ hseq
 change CallsIn _ _ J3 124 _ _ _ at cS
 refine (LO.1 cS).mono ?_;rintro e w' ⟨v,ss,rfl,hS,hrow,hnil,kj⟩;refine ⟨v,rfl,?_,kj⟩;rw [jG h.2 hS] at hrow;have hl:ss.length=m.length:=by
  rw [hS.length_eq,lU,KG]
 rw [hl,Lv] at hrow;exact hrow
theorem zk:(Tryz.prog.info? 250).map (fun i=>(i.zero,i.size,i.bytes))=some (some (.pointer none),1,8):=by kernel_rfl
theorem yh (Me:Int) (b:Nat) (m:df) (w:World) (h:cF w b m) (hm:m.length≤1048576) (hwf: ∀ p∈m,(Lit.int .i64 p.1).wf=true):
  Calls J3 151 #[.agg #[.int .i64 Me,.map (some b)]] w fun e w'=> ∃ a cap,e= .returned (.slice a m.length cap)∧w'.ownsRow w.heap.size 250 1 (.slice a m.length cap) m.length (m.map fun p=>dt p.2)∧Below w.heap.size w w':=by
 obtain ⟨i0,hi,e0⟩:=Kw.1 zk;simp only [Kx] at e0;have HI:Hid (Tryz.prog.info? 250=some i0∧i0.zero=some (.pointer none)∧i0.size=1∧i0.bytes=8):=⟨hi,e0⟩
 have HM:Hid (cF w b m∧ ∀ p∈m,(Lit.int .i64 p.1).wf=true):=⟨h,hwf⟩
 have hbl:b < w.heap.size:=h.lt;clear hi e0 h hwf
 go_enter Tryz.func151,Tryz.ntmps151
 go_wp2_with (go_at_call 190; refine (vq _ _).mono ?_; rintro e w' ⟨rfl,rfl⟩);refine (pD (w.heap.size+1) b m _ (by simp) (by simp) (HM.I.1.below (((Kp _ w).alloc (Ki _) _).alloc (by simp) _)) hm).mono ?_;rintro e w2 ⟨v,rfl,hown,hb2⟩;have cy:Hid (Below w.heap.size w w2):=(((Kp _ w).alloc (Ki _) _).alloc (by simp) _).trans (hb2.mono (by simp; omega));have HS:Hid (w2.heap[w.heap.size]? =some (.cells #[.int .i64 Me,.map (some b)] 169 (0,0))):=(hb2.block _ (by simp; omega)).trans ((PU (by simp)).trans (Kj _ _));obtain ⟨a,cap,hv,hrow⟩:=cr hown;have HR:Hid (Row w2 a (m.map fun p=> .int .i64 p.1)):=hrow;rw [hv];clear hv hown hrow hb2 v;go_wp2_with fail
 go_loopw [3,11] (fun l i wr=> ∃ k:Nat,k≤m.length∧i= .int .i64 k∧ ∃ a' cap',l= .slice a' k cap'∧Hid (wr.ownsRow w2.heap.size 250 1 (.slice a' k cap') k ((m.take k).map fun p=>dt p.2)∧Below w2.heap.size w2 wr)) (fun _ i _=>m.length - (intOf i).toNat)
 case atStart=>exact ⟨0,Ky _,rfl,none,0,rfl,⟨Ke _ _ _ _,Kp _ _⟩⟩
 case round=>
  obtain ⟨k,hk,rfl,a',cap',rfl,HO⟩:=hrel;by_cases hlt:k < m.length
  ·have qE:(0:Int)≤(k:Int):=by omega
   have i1:(k:Int) < (m.length:Int):=by omega
   obtain ⟨p,hp⟩: ∃ p,m[k]? =some p:=⟨_,Kz hlt⟩
   have hpm:=KA hp;obtain ⟨g,ha,hc⟩:=(HR.I.below HO.I.2) k (.int .i64 p.1) (by simp [hp]);subst ha;have oE:=cy.I.size;have kT:=HO.I.2.size;have ut:cF wr b m:=HM.I.1.below (cy.I.trans (HO.I.2.mono oE));have hlk:=ut.look Tryz.underlying167 (rE wr) (HM.I.2 p hpm) false;rw [jI ut.2 hpm] at hlk;have hsw:wr.heap[w.heap.size]? =some (.cells #[.int .i64 Me,.map (some b)] 169 (0,0)):=(HO.I.2.block _ (J2.1 HS.I).1).trans HS.I;have s1:wr.cell? ⟨w.heap.size,1,none⟩=some (.map (some b)):=by simp [World.cell?,hsw]
   have HP:Hid (m[k]? =some p):=hp;simp only [qz,dt,J5,if_false] at hlk;clear hp hpm ut hsw;go_wp2_with (at_builtin; refine KD _ rfl _ _ 248 rfl w2.heap.size 250 i0 (.pointer none) 1 8 Tryz.underlying248 HI.I.1 HI.I.2.1 HI.I.2.2.1 HI.I.2.2.2 rfl (by decide) (.slice a' k cap') k ((m.take k).map fun p=>dt p.2) rfl (HO.I.1.alloc _) ⟨wr.heap.size,0,none⟩ 1 1 [.pointer (some ⟨p.2,0,none⟩)] (by rfl) rfl (KE (cs:= #[.pointer (some ⟨p.2,0,none⟩)]) (t:=250) (fr:=(0,0)) (Kj wr _)) (by simp [Value.oneCell']) (by unfold maxLen; omega) (by omega) (by simp; omega) ?_; intro v' w5 hown' hgrow hnil jV; obtain ⟨a5,im,rfl,-⟩:=cr hown'; have HN:Hid (w5.ownsRow w2.heap.size 250 1 (.slice a5 (k+1) im) (k+1) ((m.take (k+1)).map fun p=>dt p.2)∧Below w2.heap.size w2 w5):=⟨by rw [cj HP.I,Kl]; exact hown',(HO.I.2.alloc kT _).grown hgrow (by simp; omega) (fun q hq=>(HO.I.1.lt q hq).1)⟩; clear hown' hgrow hnil jV);go_roundw
   case rel=>exact ⟨k+1,by omega,by go_num,a5,im,rfl,HN⟩
   case measure=>simp [intOf]; omega
  ·have i1: ¬ (k:Int) < (m.length:Int):=by omega
   have e:k=m.length:=by omega
   subst e;go_wp2;go_ret;refine ⟨a',cap',rfl,?_,cy.I.trans (HO.I.2.mono cy.I.size)⟩
   have:=cq HO.I.1 cy.I.size
   rwa [LQ] at this
theorem Z2 (mb:Option Nat) (W:World):Calls J3 125 #[.map mb] W fun e w'=>e= .returned (.func (.func 162) #[] #[.pointer (some ⟨W.heap.size,0,none⟩)])∧w'=W.alloc (.cells #[.map mb] 104):=
 (LO (n:=5)).1 (RC Tryz.keysOpen Fence.wide 5 trivial rfl mb W)
theorem ZF (Bm b:Nat) (m:df) (W:World) (hBm:Bm < W.heap.size) (hc:W.cell? ⟨Bm,0,none⟩=some (.map (some b))) (h:cF W b m) (hm:m.length≤1048576):
  Calls J3 124 #[.func (.func 162) #[] #[.pointer (some ⟨Bm,0,none⟩)]] W fun e w'=> ∃ v:Value,e= .returned v∧w'.ownsRow W.heap.size 2 1 v m.length (m.map fun p=> .int .i64 p.1)∧Below W.heap.size W w':=by
 have hsz:Maps.size (gA m)=m.length:=size_map m;have hseq:SeqGives Fence.wide 2 J3 162 #[.pointer (some ⟨Bm,0,none⟩)] encZ (fun ss=>ss.Perm (intKeys (gA m))) (Maps.size (gA m)) W:=
  RD (ρ:=Tryz.keysOpen_ren) { Tryz.keysOpen with } Fence.wide _ trivial rfl (by omega) Bm b m.length (gA m) W hBm hc h.1
 have cS:=RE Tryz.sortedA Fence.wide 5 trivial trivial trivial trivial rfl (by omega) (Tryz.sortsA _) (LP aeI (by kernel_rfl) rfl) 162 #[.pointer (some ⟨Bm,0,none⟩)] trivial (LP Tryz.func162 (by kernel_rfl) rfl) _ _ (by rw [hsz]; unfold maxLen; omega) (by rw [hsz]; omega) _ hseq
 change CallsIn _ _ J3 124 _ _ _ at cS
 refine (LO.1 cS).mono ?_;rintro e w' ⟨v,ss,rfl,hS,hrow,hnil,kj⟩;refine ⟨v,rfl,?_,kj⟩;rw [jG h.2 hS] at hrow;have hl:ss.length=m.length:=by
  rw [hS.length_eq,lU,KG]
 rw [hl,Lv] at hrow;exact hrow
end
end Go.Proofs.YteidkehoekbcaaaGreat
