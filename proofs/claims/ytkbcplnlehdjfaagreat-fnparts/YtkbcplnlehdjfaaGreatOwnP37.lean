/- What the proof leans on, part 37. -/
import Derived.Test.YtkbcplnlehdjfaaGreatOwnP36
set_option maxRecDepth 100000
set_option maxHeartbeats 8000000
open Array renaming getElem?_eq_some_iff->J2
open Bool renaming and_eq_true->J7
open Function renaming comp_def->Ls
open Go renaming heap_alloc_new->Kj,setRow_heap->KU,setRow_other->KH,wp_at_succ->Kd,wp_at_zero->Kc
open Go.Proofs.Tryz renaming prog->J3
open Go.RowKit.Below renaming refl->Kp
open List renaming getElem?_eq_getElem->Kz,getElem?_eq_some_iff->Lj,getElem?_map->Kk,getElem?_set_self->LU,map_set->PN,mem_of_getElem?->KA
open Nat renaming le_refl->Ki,le_trans->LG
open Option renaming map_eq_some_iff->Kw

namespace Go.Proofs.YtkbcplnlehdjfaaGreat
section
open Go.RowKit
structure yr (w:World) (base:Nat) (q q2:af) (W:World):Prop where
 own:ap W base q2
 kept:aI w W q.Mc
 far: ∀ g∈q2.Mc,g∈q.Mc∨w.heap.size≤g
def jH (w:World) (base:Nat) (q:af) (f:aE) (e:Ending) (w':World):Prop:= ∃ q2:af,e= .returned (.agg q2.cells)∧q2.pure=f∧yr w base q q2 w'
structure Fr (w:World) (M base:Nat) (q0 z q:af) (W:World):Prop where
 box:av W w.heap.size z
 own:ap W base q
 kept:aI w W q0.Mc
 far: ∀ g∈q.Mc,g∈q0.Mc∨M≤g
 lo: ∀ g∈q0.Mc,base≤g∧g < w.heap.size
 sz:w.heap.size < M∧M≤W.heap.size∧base≤w.heap.size
section
variable {w W W2:World} {M base:Nat} {q0 z q q2:af}
theorem Fr.yO (h:Fr w M base q0 z q W) {X:Nat} (h1:w.heap.size≤X) (h2:X < M):X∉q.Mc:=fun hm=>by
 rcases h.far X hm with h3 | h3
 ·have:=(h.lo X h3).2; omega
 ·omega
theorem Fr.start (h:ap w base q) (hb:base≤w.heap.size) (hx:av W w.heap.size q) (hw:Below w.heap.size w W) (hM:w.heap.size < M∧M≤W.heap.size):Fr w M base q q q W:=
 ⟨hx,h.below hw,aI.dI hw,fun _ hg=> .inl hg,h.lt,hM.1,hM.2,hb⟩
theorem Fr.call (h:Fr w M base q0 z q W) (ht:yr W base q q2 W2):Fr w M base q0 z q2 W2∧ ∀ X,w.heap.size≤X→X < M→W2.heap[X]? =W.heap[X]? :=by
 have hk: ∀ X,w.heap.size≤X→X < M→W2.heap[X]? =W.heap[X]? :=fun X h1 h2=>ht.kept.same X (by have:=h.sz; omega) (h.yO h1 h2)
 refine ⟨⟨(hk _ (Ki _) h.sz.1).trans h.box,ht.own,⟨ht.kept.os.trans h.kept.os,ht.kept.tape.trans h.kept.tape,ht.kept.output.trans h.kept.output,LG h.kept.size ht.kept.size,fun g h1 h2=>(ht.kept.same g (by have:=h.kept.size; omega) fun hm=> ?_).trans (h.kept.same g h1 h2)⟩,fun g hg=> ?_,h.lo,h.sz.1,LG h.sz.2.1 ht.kept.size,h.sz.2.2⟩,hk⟩
 ·rcases h.far g hm with h3 | h3
  ·exact h2 h3
  ·have:=h.sz; omega
 ·rcases ht.far g hg with h3 | h3
  ·exact h.far g h3
  ·exact .inr (by have:=h.sz; omega)
theorem Fr.reads (h:Fr w M base q0 z q W) (hb:Below W.heap.size W W2):Fr w M base q0 z q W2∧ ∀ X,X < M→W2.heap[X]? =W.heap[X]? :=
 ⟨⟨h.box.below hb,h.own.below hb,⟨hb.os.trans h.kept.os,hb.tape.trans h.kept.tape,hb.output.trans h.kept.output,LG h.kept.size hb.size,fun g h1 h2=>(hb.block g (by have:=h.kept.size; omega)).trans (h.kept.same g h1 h2)⟩,h.far,h.lo,h.sz.1,LG h.sz.2.1 hb.size,h.sz.2.2⟩,fun X hX=>hb.block X (by have:=h.sz; omega)⟩
theorem Fr.other (h:Fr w M base q0 z q W) {X:Nat} (h1:w.heap.size≤X) (h2:X < M) (cs:Array Value) (hz:av (W.setRow X cs) w.heap.size q2):Fr w M base q0 q2 q (W.setRow X cs):=
 ⟨hz,h.own.same fun g hg=>KH _ _ _ _ fun e=>h.yO h1 h2 (e ▸ hg),⟨h.kept.os,h.kept.tape,h.kept.output,by simpa using h.kept.size,fun g h3 h4=>(KH _ _ _ _ (by omega)).trans (h.kept.same g h3 h4)⟩,h.far,h.lo,h.sz.1,by simpa using h.sz.2.1,h.sz.2.2⟩
theorem Fr.put (h:Fr w M base q0 z q W):Fr w M base q0 q q (W.setRow w.heap.size q.cells):=h.other (Ki _) h.sz.1 _ (KU _ _ _ _ _ _ h.box)
theorem Fr.mK (h:Fr w M base q0 z q W) {X:Nat} (h1:w.heap.size < X) (h2:X < M) (cs:Array Value):yr w base q0 q (W.setRow X cs):=by
 have h3:=h.other (q2:=z) (Nat.le_of_lt h1) h2 cs ((KH _ _ _ _ (by omega)).trans h.box);exact ⟨h3.own,h3.kept,fun g hg=>(h3.far g hg).imp_right fun h4=>by have:=h.sz; omega⟩
end
end
section
open Go.RowKit Go.Maps
attribute [local go_sem ↓] Kc Kd
structure DZ (now:Int) (base:Nat) (w:World) (q0:af) (k:Nat) (q:af) (wr:World):Prop where
 box:av wr w.heap.size q
 mK:wr.heap[w.heap.size+1]? =some (.cells ar 32 (0,0))
 own:ap wr base q
 cd:Below base w wr
 wk:Wk now q.pure
 same:gj now q.pure=gj now q0.pure
 cnt:(lF now q.pure.L8).length=k
 short: ∀ x∈q.L8,x.prog.length≤1048576
 low: ∀ g∈q.Mc,g < w.heap.size
theorem un {q:af} {gs:Nat} (h:q.aN=some ⟨gs,0,none⟩):gs∈q.Mc:=by
 unfold af.Mc;rw [h];simp [blk]
theorem Eb {now:Int} {q:af} {n:Nat} {y:ao} {code:Int} (hw:Wk now q.pure) (hy:q.L8[n]? =some y) (hp:q.pure.L8[n]? =some y.toaD) (hc:mL y.toaD=code) (hs: ∀ x∈q.L8,x.prog.length≤1048576):
  ({ q with next:=gf q.next y.toaD,L8:=q.L8.set n (pF q.next code y) } :af).pure=gu q.pure y.toaD∧({ q with next:=gf q.next y.toaD,L8:=q.L8.set n (pF q.next code y) } :af).Mc=q.Mc∧(∀ x∈({ q with next:=gf q.next y.toaD,L8:=q.L8.set n (pF q.next code y) } :af).L8,x.prog.length≤1048576):=by
 refine ⟨?_,?_,fun x hx=> ?_⟩
 ·unfold gu
  rw [rp hw.kW hp rfl,hc]
  show ({ q.pure with next:=gf q.next y.toaD,L8:=(q.L8.set n (pF q.next code y)).map (·.toaD) } :aE)=_
  rw [PN];rfl
 ·unfold af.Mc
  simp only [re hy (show (pF q.next code y).aY=y.aY from rfl)]
 ·rcases List.mem_or_eq_of_mem_set hx with h5 | h5
  ·exact hs x h5
  ·rw [h5]
   show (iY q.next code y.toaD).prog.length≤_
   rw [(rD _ _ _).2];exact hs y (KA hy)
theorem ti (q0:af) (now:Int) (base:Nat) (w:World) (h:ap w base q0) (hb:base≤w.heap.size) (hk:Wk now q0.pure) (hs: ∀ x∈q0.L8,x.prog.length≤1048576):
  Calls J3 106 #[.agg q0.cells,.int .i64 now] w fun e w'=> ∃ q:af,e= .returned (.agg q.cells)∧q.pure=gj now q0.pure∧ap w' base q∧Below base w w':=by
 have b1:Below w.heap.size w ((w.alloc (.cells q0.cells 32)).alloc (.cells ar 32)):=dT _ _ _;have HB:Hid (DZ now base w q0 (lF now q0.pure.L8).length q0 ((w.alloc (.cells q0.cells 32)).alloc (.cells ar 32))∧base≤w.heap.size):=⟨⟨(cZ _ _ _).1,(cZ _ _ _).2,h.below b1,b1.mono hb,hk,rfl,rfl,hs,fun g hg=>(h.lt g hg).2⟩,hb⟩
 clear h hb hk hs b1;unfold af.cells at *
 go_enter Tryz.func106,Tryz.ntmps106
 go_wp2_with fail;generalize (w.alloc (.cells #[.int .i64 q0.id,.int .i64 q0.next,.slice q0.aN q0.L8.length q0.aW,.slice q0.bc q0.aj.length q0.bF,.slice q0.ay q0.L9.length q0.aO,.slice q0.ax q0.ag.length q0.aP,.slice q0.am q0.ae.length q0.aG,.slice q0.aK q0.ai.length q0.aV] 32)).alloc (.cells ar 32)=W at *
 go_loopg [] (lF now q0.pure.L8).length (fun k wr=> ∃ q:af,Hid (DZ now base w q0 k q wr))
 case atStart=>exact ⟨q0,HB.I.1⟩
 case round=>
  obtain ⟨q,HO⟩:=hrel
  rename World=>W1
  have hql:q.L8.length≤6:=by have h5:=HO.I.wk.low; simpa [af.pure] using h5
  go_wp2_with fail
  go_loopw [5,6] (fun b i wr=> ∃ (k:Nat) (z:Int),k≤q.L8.length∧i= .int .i64 k∧b= .int .i64 z∧Hid (eN l8 (og now) q.pure.L8 k z∧Below W1.heap.size W1 wr)) (fun _ i _=>q.L8.length - (Go.RowKit.intOf i).toNat)
  case atStart=>exact ⟨0,-1,Nat.zero_le _,rfl,rfl,⟨eN.start _ _ _,Kp _ _⟩⟩
  case round=>
   obtain ⟨k,z,hk,rfl,rfl,HA⟩:=hrel;have HW:Hid (av wr w.heap.size q∧ap wr base q):=⟨HO.I.box.below HA.I.2,HO.I.own.below HA.I.2⟩
   obtain ⟨m0,m1,m2,m3,m4,m5,m6,m7⟩:=HW.I.1.cells;by_cases hlt:k < q.L8.length
   ·have i0:(0:Int)≤(k:Int):=by omega
    have i1:(k:Int) < (q.L8.length:Int):=by omega
    clear m0 m1 m3 m4 m5 m6 m7;obtain ⟨x,hx⟩: ∃ x,q.L8[k]? =some x:=⟨_,Kz hlt⟩
    have HX:Hid (q.L8[k]? =some x∧q.pure.L8[k]? =some x.toaD):=⟨hx,by show (q.L8.map (·.toaD))[k]? =_; rw [Kk,hx]; rfl⟩
    obtain ⟨gs,ha,hat⟩:=cn HW.I.2.at.1 hx;have HG:Hid (q.aN=some ⟨gs,0,none⟩):=ha;rw [ha] at m2;obtain ⟨d0,d1,d2,d3,d4,d5,d6,d7,d8,d9,tH,tS⟩:=hat;clear hx ha;have hgl:w.heap.size < wr.heap.size:=(J2.1 HW.I.1).1;have HN:Hid (av (wr.alloc (.cells x.row 43)) w.heap.size q∧ap (wr.alloc (.cells x.row 43)) base q∧jx (wr.alloc (.cells x.row 43)) wr.heap.size x∧Below W1.heap.size W1 (wr.alloc (.cells x.row 43))):=⟨HW.I.1.below ((Kp _ _).alloc (Ki _) _),HW.I.2.below ((Kp _ _).alloc (Ki _) _),Kj _ _,HA.I.2.alloc HA.I.2.size _⟩
    go_wp2_with fail;generalize wr.alloc (.cells x.row 43)=W5 at *;generalize wr.heap.size=X at *;clear d0 d1 d2 d3 d4 d5 d6 d7 d8 d9 tH tS m2 hgl;obtain ⟨-,-,m2,-⟩:=HN.I.1.cells;rw [HG.I] at m2;obtain ⟨-,-,-,b3,-,-,b6,-⟩:=HN.I.2.2.1.cells;by_cases hs:2≤x.Md;rotate_left
    ·have d1:decide (2≤x.Md)=false:=decide_eq_false hs
     have HY:Hid (eN l8 (og now) q.pure.L8 (k+1) z):=HA.I.1.skip HX.I.2 (by show (decide (2≤x.Md) && _)=false; rw [d1]; rfl);clear hs;refine aT (fun w'=>(w'.cell? ⟨w.heap.size,2,none⟩=some (.slice (some ⟨gs,0,none⟩) q.L8.length q.aW)∧w'.cell? ⟨X,3,none⟩=some (.int .i64 x.Md)∧w'.cell? ⟨X,6,none⟩=some (.int .i64 x.Mg))∧Hid (Below W5.heap.size W5 w')) (by kernel_rfl) ⟨⟨m2,b3,b6⟩,(Kp _ _).drew⟩ ?_
     iterate 4 (refine PI ?_)
     iterate 4 (refine nl ?_; simp only [pt,sb,s0,s1])
     iterate 2 (refine PI ?_)
     iterate 13 (refine nl ?_; simp only [pt,sb,s0,s1])
     (refine PI ?_)
     refine bk (by kernel_rfl) ?_ _;intro w1 cm;have HV:Hid (Below W1.heap.size W1 w1):=HN.I.2.2.2.trans (cm.2.I.mono HN.I.2.2.2.size);clear cm;go_wp2;go_roundw
     case rel=>exact ⟨k+1,z,by omega,by go_num,rfl,⟨HY.I,HV.I⟩⟩
     case measure=>simp [Go.RowKit.intOf]; omega
    have d1:decide (2≤x.Md)=true:=decide_eq_true hs;cases hv:cv x.Mg 1 now
    ·have VB:Hid (Ending.returned (.bool (cv x.Mg 1 now))=Ending.returned (.bool false)):=by show _=_; rw [hv]
     have HY:Hid (eN l8 (og now) q.pure.L8 (k+1) z):=HA.I.1.skip HX.I.2 (by show (_ && cv x.Mg 1 now)=false; rw [hv,Bool.and_false]);clear hs hv;refine aT (fun w'=>(w'.cell? ⟨w.heap.size,2,none⟩=some (.slice (some ⟨gs,0,none⟩) q.L8.length q.aW)∧w'.cell? ⟨X,3,none⟩=some (.int .i64 x.Md)∧w'.cell? ⟨X,6,none⟩=some (.int .i64 x.Mg))∧Hid (Below W5.heap.size W5 w')) (by kernel_rfl) ⟨⟨m2,b3,b6⟩,(Kp _ _).drew⟩ ?_
     iterate 7 (refine PI ?_)
     refine cl (.bool false) 78 #[.int .i64 x.Mg,.int .i64 1,.int .i64 now] ?_ ?_ ?_
     ·intro w0 hS0
      obtain ⟨⟨o2,o3,o6⟩,hH⟩:=hS0
      go_simp
      try with_reducible rfl
     ·intro w0 hS0
      refine (dx x.Mg 1 now w0).mono ?_;rintro e w2 ⟨rfl,rfl⟩;exact ⟨VB.I,hS0⟩
     simp only [pt,sb,s0,s1]
     iterate 2 (refine PI ?_)
     iterate 13 (refine nl ?_; simp only [pt,sb,s0,s1])
     (refine PI ?_)
     refine bk (by kernel_rfl) ?_ _;intro w1 cm;have HV:Hid (Below W1.heap.size W1 w1):=HN.I.2.2.2.trans (cm.2.I.mono HN.I.2.2.2.size);clear cm;go_wp2;go_roundw
     case rel=>exact ⟨k+1,z,by omega,by go_num,rfl,⟨HY.I,HV.I⟩⟩
     case measure=>simp [Go.RowKit.intOf]; omega
    have VB:Hid (Ending.returned (.bool (cv x.Mg 1 now))=Ending.returned (.bool true)):=by show _=_; rw [hv]
    have HF:Hid (og now x.toaD=true):=by show (decide (2≤x.Md) && cv x.Mg 1 now)=true; rw [hv,d1]; rfl
    clear hs hv;by_cases hz:z < 0
    ·have dz:decide (z < 0)=true:=decide_eq_true hz
     have HY:Hid (eN l8 (og now) q.pure.L8 (k+1) k):=HA.I.1.first hz HX.I.2 HF.I;refine aT (fun w'=>(w'.cell? ⟨w.heap.size,2,none⟩=some (.slice (some ⟨gs,0,none⟩) q.L8.length q.aW)∧w'.cell? ⟨X,3,none⟩=some (.int .i64 x.Md)∧w'.cell? ⟨X,6,none⟩=some (.int .i64 x.Mg))∧Hid (Below W5.heap.size W5 w')) (by kernel_rfl) ⟨⟨m2,b3,b6⟩,(Kp _ _).drew⟩ ?_
     iterate 7 (refine PI ?_)
     refine cl (.bool true) 78 #[.int .i64 x.Mg,.int .i64 1,.int .i64 now] ?_ ?_ ?_
     ·intro w0 hS0
      obtain ⟨⟨o2,o3,o6⟩,hH⟩:=hS0
      go_simp
      try with_reducible rfl
     ·intro w0 hS0
      refine (dx x.Mg 1 now w0).mono ?_;rintro e w2 ⟨rfl,rfl⟩;exact ⟨VB.I,hS0⟩
     simp only [pt,sb,s0,s1]
     iterate 5 (refine PI ?_)
     iterate 9 (refine nl ?_; simp only [pt,sb,s0,s1])
     iterate 2 (refine PI ?_)
     refine bk (by kernel_rfl) ?_ _;intro w1 cm;have HV:Hid (Below W1.heap.size W1 w1):=HN.I.2.2.2.trans (cm.2.I.mono HN.I.2.2.2.size);clear cm;go_wp2;go_roundw
     case rel=>exact ⟨k+1,k,by omega,by go_num,rfl,⟨HY.I,HV.I⟩⟩
     case measure=>simp [Go.RowKit.intOf]; omega
    have dz:decide (z < 0)=false:=decide_eq_false hz;obtain ⟨n,y0,hzn,hn,hy0,hbe⟩:=HA.I.1.got hz;subst hzn;have Fm:Hid (eN l8 (og now) q.pure.L8 (k+1) (if l8 x.toaD y0 then (k:Int) else (n:Int))):=eN.next hn hy0 hbe HX.I.2 HF.I;obtain ⟨y,hy,rfl⟩: ∃ y,q.L8[n]? =some y∧y.toaD=y0:=by
     have h5:(q.L8.map (·.toaD))[n]? =some y0:=hy0;rw [Kk,Kw] at h5;exact h5
    have j0:(0:Int)≤(n:Int):=by omega
    have j1:(n:Int) < (q.L8.length:Int):=by omega
    obtain ⟨gs2,ha2,g8⟩:=cn HN.I.2.1.at.1 hy;rw [HG.I] at ha2;cases ha2;obtain ⟨-,-,-,-,-,-,y6,-⟩:=g8;clear hy hy0 hbe hz;by_cases hw:x.Mg < y.Mg
    ·have dw:decide (x.Mg < y.Mg)=true:=decide_eq_true hw
     have HY:Hid (eN l8 (og now) q.pure.L8 (k+1) k):=by have h5:=Fm.I; rwa [show l8 x.toaD y.toaD=true from dw,if_pos rfl] at h5
     clear hw Fm;refine aT (fun w'=>(w'.cell? ⟨w.heap.size,2,none⟩=some (.slice (some ⟨gs,0,none⟩) q.L8.length q.aW)∧w'.cell? ⟨X,3,none⟩=some (.int .i64 x.Md)∧w'.cell? ⟨X,6,none⟩=some (.int .i64 x.Mg)∧w'.cell? ⟨gs,n * 12+6,none⟩=some (.int .i64 y.Mg))∧Hid (Below W5.heap.size W5 w')) (by kernel_rfl) ⟨⟨m2,b3,b6,y6⟩,(Kp _ _).drew⟩ ?_
     iterate 7 (refine PI ?_)
     refine cl (.bool true) 78 #[.int .i64 x.Mg,.int .i64 1,.int .i64 now] ?_ ?_ ?_
     ·intro w0 hS0
      obtain ⟨⟨o2,o3,o6,o7⟩,hH⟩:=hS0
      go_simp
      try with_reducible rfl
     ·intro w0 hS0
      refine (dx x.Mg 1 now w0).mono ?_;rintro e w2 ⟨rfl,rfl⟩;exact ⟨VB.I,hS0⟩
     simp only [pt,sb,s0,s1]
     iterate 16 (refine PI ?_)
     refine bk (by kernel_rfl) ?_ _;intro w1 cm;have HV:Hid (Below W1.heap.size W1 w1):=HN.I.2.2.2.trans (cm.2.I.mono HN.I.2.2.2.size);clear cm;go_wp2;go_roundw
     case rel=>exact ⟨k+1,k,by omega,by go_num,rfl,⟨HY.I,HV.I⟩⟩
     case measure=>simp [Go.RowKit.intOf]; omega
    ·have dw:decide (x.Mg < y.Mg)=false:=decide_eq_false hw
     have HY:Hid (eN l8 (og now) q.pure.L8 (k+1) n):=by have h5:=Fm.I; rwa [show l8 x.toaD y.toaD=false from dw,if_neg Bool.false_ne_true] at h5
     clear hw Fm;refine aT (fun w'=>(w'.cell? ⟨w.heap.size,2,none⟩=some (.slice (some ⟨gs,0,none⟩) q.L8.length q.aW)∧w'.cell? ⟨X,3,none⟩=some (.int .i64 x.Md)∧w'.cell? ⟨X,6,none⟩=some (.int .i64 x.Mg)∧w'.cell? ⟨gs,n * 12+6,none⟩=some (.int .i64 y.Mg))∧Hid (Below W5.heap.size W5 w')) (by kernel_rfl) ⟨⟨m2,b3,b6,y6⟩,(Kp _ _).drew⟩ ?_
     iterate 7 (refine PI ?_)
     refine cl (.bool true) 78 #[.int .i64 x.Mg,.int .i64 1,.int .i64 now] ?_ ?_ ?_
     ·intro w0 hS0
      obtain ⟨⟨o2,o3,o6,o7⟩,hH⟩:=hS0
      go_simp
      try with_reducible rfl
     ·intro w0 hS0
      refine (dx x.Mg 1 now w0).mono ?_;rintro e w2 ⟨rfl,rfl⟩;exact ⟨VB.I,hS0⟩
     simp only [pt,sb,s0,s1]
     iterate 16 (refine PI ?_)
     refine bk (by kernel_rfl) ?_ _;intro w1 cm;have HV:Hid (Below W1.heap.size W1 w1):=HN.I.2.2.2.trans (cm.2.I.mono HN.I.2.2.2.size);clear cm;go_wp2;go_roundw
     case rel=>exact ⟨k+1,n,by omega,by go_num,rfl,⟨HY.I,HV.I⟩⟩
     case measure=>simp [Go.RowKit.intOf]; omega
   ·have i1: ¬ (k:Int) < (q.L8.length:Int):=by omega
    have HE:Hid (eN l8 (og now) q.pure.L8 q.L8.length z):=by have h5:=HA.I.1; rwa [show k=q.L8.length by omega] at h5
    have hfl:q.pure.L8.take q.L8.length=q.pure.L8:=by rw [List.take_of_length_le]; simp [af.pure]
    have Ih:Hid (wr.heap[w.heap.size+1]? =some (.cells ar 32 (0,0))∧Below base w wr):=⟨(HA.I.2.block _ (J2.1 HO.I.mK).1).trans HO.I.mK,HO.I.cd.trans (HA.I.2.mono (by have:=HO.I.cd.size; have:=HB.I.2; omega))⟩
    by_cases hz:z < 0
    ·have HD:Hid (lZ now q.pure.L8=none):=by have h5:=HE.I.none' hz; rwa [hfl] at h5
     have dz:decide (z < 0)=true:=decide_eq_true hz;clear hfl hz;go_wp2_with (refine ec 4 48 q.row Ih.I.1 ?_);refine gZ Tryz.results106 Ih.I.1 ?_;exact ⟨q,rfl,by rw [← HO.I.same]; exact (Co HD.I).symm,HW.I.2.same fun g hg=>KH _ _ _ _ (by have:=HO.I.low g hg; omega),below_setRow Ih.I.2 (by have:=HB.I.2; omega) _⟩
    have dz:decide (z < 0)=false:=decide_eq_false hz;obtain ⟨n,y0,hzn,hn,hy0,hbe⟩:=HE.I.got hz;subst hzn;rw [hfl] at hbe;obtain ⟨y,hy,rfl⟩: ∃ y,q.L8[n]? =some y∧y.toaD=y0:=by
     have h5:(q.L8.map (·.toaD))[n]? =some y0:=hy0;rw [Kk,Kw] at h5;exact h5
    have HD:Hid (lZ now q.pure.L8=some y.toaD∧q.L8[n]? =some y∧q.pure.L8[n]? =some y.toaD):=⟨hbe,hy,hy0⟩
    have j0:(0:Int)≤(n:Int):=by omega
    have j1:(n:Int) < (q.L8.length:Int):=by omega
    obtain ⟨gs,ha,hat⟩:=cn HW.I.2.at.1 hy;have HG:Hid (q.aN=some ⟨gs,0,none⟩):=ha;have d3:=hat.2.2.2.1;rw [ha] at m2;have hdu:=(Wk.mem hbe)
    have hst:2≤y.Md:=by have h5:=hdu.2; unfold og at h5; simp only [J7,decide_eq_true_eq] at h5; exact h5.1
    have hop:=HO.I.wk.op y.toaD hdu.1 hst;have hro:=HO.I.wk.room;have hle:=HO.I.short y (KA hy);have Mb:=fun code=>vT q n base y code wr HW.I.2 (by have:=HO.I.cd.size; have:=HA.I.2.size; have:=HB.I.2; omega) hy hop hle (by have h5:q.pure.next=q.next:=rfl; omega)
    clear hfl hz hbe hy hy0 hat ha hdu hst hop hro hle hn;unfold af.cells at Mb;simp only [HG.I] at Mb;cases e2:(y.Md == 2)
    ·skip
     replace Mb:=Mb 2;have HCO:Hid (mL y.toaD=2):=by show mL y.toaD=_; unfold mL; rw [if_neg (by simpa using e2)]
     go_wp2_with fail;clear m0 m1 m2 m3 m4 m5 m6 m7 d3 e2;refine Mb.mono ?_;clear Mb;rintro e w2 ⟨q2,rfl,pv,DU,hb2,hk2⟩;have ky:Hid (q2.pure=gu q.pure y.toaD∧q2.Mc=q.Mc∧(∀ x∈q2.L8,x.prog.length≤1048576)):=by rw [← HG.I] at pv; rw [pv]; exact Eb HO.I.wk HD.I.2.1 HD.I.2.2 HCO.I HO.I.short
     clear pv;have hgl:=HO.I.low gs (by rw [show q.Mc=q.Mc from rfl]; exact un HG.I);have hww:w.heap.size+1 < wr.heap.size:=(J2.1 Ih.I.1).1;have H2:Hid (av w2 w.heap.size q∧w2.heap[w.heap.size+1]? =some (.cells ar 32 (0,0))∧ap w2 base q2∧Below base w w2):=⟨(hk2.same _ (by omega) (by simp [blk]; omega)).trans HW.I.1,(hk2.same _ (by omega) (by simp [blk]; omega)).trans Ih.I.1,DU,Ih.I.2.trans hb2⟩
     clear DU hb2 hk2 hgl hww;have HI:Hid (DZ now base w q0 (lF now q2.pure.L8).length q2 (w2.setRow w.heap.size q2.cells)∧(lF now q2.pure.L8).length < gk):=by
      have hst:=HO.I.wk.step HD.I.1;have hc:=HO.I.cnt;have hbb:=HB.I.2;rw [ky.I.1];refine ⟨⟨KU _ _ _ _ _ _ H2.I.1,(KH _ _ _ _ (by omega)).trans H2.I.2.1,H2.I.2.2.1.same fun g hg=>KH _ _ _ _ (by rw [ky.I.2.1] at hg; have:=HO.I.low g hg; omega),below_setRow H2.I.2.2.2 hbb _,by rw [ky.I.1]; exact hst.1,by rw [ky.I.1,← HO.I.same]; exact (vn HO.I.wk HD.I.1).symm,by rw [ky.I.1],ky.I.2.2,fun g hg=>HO.I.low g (by rw [← ky.I.2.1]; exact hg)⟩,by omega⟩
     go_wp2_with (refine ec 2 59 q2.cells H2.I.1 ?_)
     go_roundg (lF now q2.pure.L8).length
     case rel=>exact ⟨q2,HI.I.1⟩
     case measure=>exact HI.I.2
    ·skip
     replace Mb:=Mb 0;have HCO:Hid (mL y.toaD=0):=by show mL y.toaD=_; unfold mL; rw [if_pos (by simpa using e2)]
     go_wp2_with fail;clear m0 m1 m2 m3 m4 m5 m6 m7 d3 e2;refine Mb.mono ?_;clear Mb;rintro e w2 ⟨q2,rfl,pv,DU,hb2,hk2⟩;have ky:Hid (q2.pure=gu q.pure y.toaD∧q2.Mc=q.Mc∧(∀ x∈q2.L8,x.prog.length≤1048576)):=by rw [← HG.I] at pv; rw [pv]; exact Eb HO.I.wk HD.I.2.1 HD.I.2.2 HCO.I HO.I.short
     clear pv;have hgl:=HO.I.low gs (by rw [show q.Mc=q.Mc from rfl]; exact un HG.I);have hww:w.heap.size+1 < wr.heap.size:=(J2.1 Ih.I.1).1;have H2:Hid (av w2 w.heap.size q∧w2.heap[w.heap.size+1]? =some (.cells ar 32 (0,0))∧ap w2 base q2∧Below base w w2):=⟨(hk2.same _ (by omega) (by simp [blk]; omega)).trans HW.I.1,(hk2.same _ (by omega) (by simp [blk]; omega)).trans Ih.I.1,DU,Ih.I.2.trans hb2⟩
     clear DU hb2 hk2 hgl hww;have HI:Hid (DZ now base w q0 (lF now q2.pure.L8).length q2 (w2.setRow w.heap.size q2.cells)∧(lF now q2.pure.L8).length < gk):=by
      have hst:=HO.I.wk.step HD.I.1;have hc:=HO.I.cnt;have hbb:=HB.I.2;rw [ky.I.1];refine ⟨⟨KU _ _ _ _ _ _ H2.I.1,(KH _ _ _ _ (by omega)).trans H2.I.2.1,H2.I.2.2.1.same fun g hg=>KH _ _ _ _ (by rw [ky.I.2.1] at hg; have:=HO.I.low g hg; omega),below_setRow H2.I.2.2.2 hbb _,by rw [ky.I.1]; exact hst.1,by rw [ky.I.1,← HO.I.same]; exact (vn HO.I.wk HD.I.1).symm,by rw [ky.I.1],ky.I.2.2,fun g hg=>HO.I.low g (by rw [← ky.I.2.1]; exact hg)⟩,by omega⟩
     go_wp2_with (refine ec 2 59 q2.cells H2.I.1 ?_)
     go_roundg (lF now q2.pure.L8).length
     case rel=>exact ⟨q2,HI.I.1⟩
     case measure=>exact HI.I.2
end
section
open Go.RowKit
section
variable {w W w':World} {M base n m gs:Nat} {q0 z q q2:af} {x y:ao}
theorem tN (ha:q.aN=some ⟨gs,0,none⟩):gs∈q.Mc:=by unfold af.Mc; rw [ha]; simp [blk]
theorem yr.of (ho:ap w' base q2) (hk:aI w w' (blk q.aN)) (hb:q2.Mc=q.Mc):yr w base q q2 w':=
 ⟨ho,hk.mono fun g hg=>by unfold af.Mc; exact List.mem_append_left _ hg,fun g hg=> .inl (hb ▸ hg)⟩
theorem yr.refl (h:ap w base q):yr w base q q w:=⟨h,aI.refl _ _,fun _ hg=> .inl hg⟩
theorem nT {nx:Int} (hx:q.L8[n]? =some x) (hy:y.aY=x.aY):({ q with next:=nx,L8:=q.L8.set n y } :af).Mc=q.Mc:=by
 unfold af.Mc;simp only [re hx hy]
theorem jd {nx:Int} :({ q with next:=nx,L8:=q.L8.set n y } :af).cells=({ q with next:=nx } :af).cells:=by unfold af.cells; simp
theorem mj (hx:q.L8[n]? =some x):q.pure.L8[n]? =some x.toaD:=by show (q.L8.map (·.toaD))[n]? =_; rw [Kk,hx]; rfl
theorem iu (hx:q.L8[n]? =some x):x.toaD∈q.pure.L8:=KA (mj hx)
theorem g7 {nx:Int} {f:aD→aD} (hr:q.pure.L8.Pairwise (fun x y=>x.id < y.id)) (hx:q.L8[n]? =some x) (hy:y.toaD=f x.toaD):({ q with next:=nx,L8:=q.L8.set n y } :af).pure= { q.pure with next:=nx,L8:=ce x.id f q.pure.L8 } :=by
 rw [rp hr (mj hx) rfl,← hy]
 show ({ q.pure with next:=nx,L8:=(q.L8.set n y).map (·.toaD) } :aE)=_
 rw [PN];rfl
theorem bB (code:Int) (h:ap w base q) (hb:base≤w.heap.size) (hr:aQ q.pure) (hx:q.L8[n]? =some x) (h0: ¬ x.Md=0):Calls J3 219 #[.agg q.cells,.int .i64 n,.int .i64 code] w (jH w base q (bu code x.id q.pure)):=by
 have h1:=(hr.proc (iu hx)).2.1;have h2:=iT h1 h0;have h3:=iF h1;unfold jY at h3;simp only [J7] at h3;have h4:=(lK h3.1.1.1.2).2;refine (ve q n base x code w h hb hx h2 (by omega)).mono ?_;rintro e w' ⟨rfl,ho,-,hk⟩;exact ⟨({ q with L8:=q.L8.set n (fE code x) } :af),congrArg (fun c=>Ending.returned (.agg c)) (jd (nx:=q.next)).symm,g7 hr.kW hx (f:=jT code) rfl,yr.of ho hk (nT hx rfl)⟩
theorem lP (h:ap w base q) (hb:base≤w.heap.size) (hr:aQ q.pure) (hx:q.L8[n]? =some x) (h0: ¬ x.Md=0) (hn:q.next≤1000000000):Calls J3 188 #[.agg q.cells,.int .i64 n,.int .i64 0] w (jH w base q (gF (fun y=>y) q.pure x.toaD)):=by
 have h1:=(hr.proc (iu hx)).2.1;have h2:=iT h1 h0;have h3:=iF h1;unfold jY at h3;simp only [J7] at h3;have h4:=(lK h3.1.1.1.2).2;have h5:=bz.1 hr.next;refine (vT q n base x 0 w h hb hx h2 (by omega) ⟨by have:q.pure.next=q.next:=rfl; omega,hn⟩).mono ?_;rintro e w' ⟨q2,rfl,rfl,ho,-,hk⟩;exact ⟨_,rfl,g7 hr.kW hx (f:=iY q.next 0) rfl,yr.of ho hk (nT hx rfl)⟩
theorem oT (h:ap w base q) (hb:base≤w.heap.size) (hr:q.pure.L8.Pairwise (fun x y=>x.id < y.id)) (hx:q.L8[n]? =some x) (hn:0≤q.next∧q.next≤1000000000):Calls J3 98 #[.agg q.cells,.int .i64 n] w (jH w base q { q.pure with next:=q.next+1,L8:=ce x.id (fun y=> { y with RU:=q.next }) q.pure.L8 }):=by
 refine (qG q n base x w h hb hx hn).mono ?_;rintro e w' ⟨q2,rfl,rfl,ho,-,hk⟩;exact ⟨_,rfl,g7 hr hx (f:=fun y=> { y with RU:=q.next }) rfl,yr.of ho hk (nT hx rfl)⟩
theorem Fr.kB {j:Nat} {v:Value} (h:Fr w M base q0 z q W) (hx:q.L8[n]? =some x) (ha:q.aN=some ⟨gs,0,none⟩) (hy:y.prog=x.prog∧y.aY=x.aY∧y.bH=x.bH) (hj:j < 12)
  (hv:bg.vals y=(bg.vals x).set j v):
  Fr w M base q0 z ({ q with L8:=q.L8.set n y } :af) (W.setCell ⟨gs,n * 12+j,none⟩ v)∧(∀ X,w.heap.size≤X→X < M→(W.setCell ⟨gs,n * 12+j,none⟩ v).heap[X]? =W.heap[X]?)∧(∃ u,W.cell? ⟨gs,n * 12+j,none⟩=some u)∧W.frozen? ⟨gs,n * 12+j,none⟩=false:=by
 have h1:(bg.vals y)[j]? =some v:=by rw [hv,LU (by rw [bg.len]; exact hj)]
 have h2: ∀ r,r < 12→r≠j→(bg.vals y)[r]? =(bg.vals x)[r]? :=fun r _ hr=>by rw [hv,List.getElem?_set_ne (by omega)]
 have h3:=h.own.kB (n:=n) (j:=j) (x:=x) (y:=y) (vs:= [v]) hx ha hy (by simp; omega) (fun r hr=>by simp at hr; subst hr; rw [Nat.add_zero,h1]; rfl) (fun r hr hn=>h2 r hr (by simp at hn; omega));have hg:gs∈q.Mc:=tN ha;have hs: ∀ X,w.heap.size≤X→X < M→(W.setCell ⟨gs,n * 12+j,none⟩ v).heap[X]? =W.heap[X]? :=fun X a b=>aH fun e=>h.yO a b (e ▸ hg)
 have hc:(∃ u,W.cell? ⟨gs,n * 12+j,none⟩=some u)∧W.frozen? ⟨gs,n * 12+j,none⟩=false:=by
  obtain ⟨g,hg,hrow⟩:=bl.fX (K:=bg) h.own.L8 (by have:=(Lj.1 hx).1; omega);rw [ha] at hg;cases hg;have h7:=hrow.cell hx (r:=j) hj;exact ⟨⟨_,h7.1.trans (Kz (by rw [bg.len]; exact hj))⟩,h7.2⟩
 exact ⟨⟨(hs _ (Ki _) h.sz.1).trans h.box,h3.1,⟨h.kept.os,h.kept.tape,h.kept.output,by simpa [World.setCell] using h.kept.size,fun g a b=>(aH fun e=>by
  rcases h.far gs hg with c | c
  ·exact b (e ▸ c)
  ·have:=h.sz; omega).trans (h.kept.same g a b)⟩,fun g hg=>h.far g (h3.2.2 ▸ hg),h.lo,h.sz.1,by simpa [World.setCell] using h.sz.2.1,h.sz.2.2⟩,hs,hc⟩
theorem pm {k:Int} {f g:aD→aD} (hf: ∀ y,(f y).id=y.id) (l:List aD):ce k g (ce k f l)=ce k (fun y=>g (f y)) l:=by
 unfold ce;rw [List.map_map];refine List.map_congr_left fun z _=> ?_
 simp only [Ls];by_cases e:z.id=k
 ·rw [if_pos e,if_pos e,if_pos (by rw [hf]; exact e)]
 ·rw [if_neg e,if_neg e,if_neg e]
theorem us {nx:Int} (hr:q.pure.L8.Pairwise (fun x y=>x.id < y.id)) (hx:q.L8[n]? =some x) (hy:y.id=x.id):({ q with next:=nx,L8:=q.L8.set n y } :af).pure.L8.Pairwise (fun x y=>x.id < y.id):=by
 rw [g7 (f:=fun z=> { y.toaD with id:=z.id }) hr hx (by show y.toaD= { y.toaD with id:=x.id }; rw [← hy])];refine rW (f:=fun z=> { y.toaD with id:=z.id }) ?_ hr;intro _; rfl
theorem Hi (hx:q.L8[n]? =some x):({ q with L8:=q.L8.set n x } :af)=q:=by
 have hn:=(Lj.1 hx).1;have e:q.L8.set n x=q.L8:=by
  rw [← (Lj.1 hx).2]; simp
 rw [e]
theorem Fr.again {j:Nat} {v:Value} (h:Fr w M base q0 z { q with L8:=q.L8.set n x } W) (hn:n < q.L8.length) (ha:q.aN=some ⟨gs,0,none⟩) (hy:y.prog=x.prog∧y.aY=x.aY∧y.bH=x.bH) (hj:j < 12) (hv:bg.vals y=(bg.vals x).set j v):
  Fr w M base q0 z ({ q with L8:=q.L8.set n y } :af) (W.setCell ⟨gs,n * 12+j,none⟩ v)∧(∀ X,w.heap.size≤X→X < M→(W.setCell ⟨gs,n * 12+j,none⟩ v).heap[X]? =W.heap[X]?)∧(∃ u,W.cell? ⟨gs,n * 12+j,none⟩=some u)∧W.frozen? ⟨gs,n * 12+j,none⟩=false:=by
 have h1:=h.kB (n:=n) (y:=y) (x:=x) (j:=j) (v:=v) (by show (q.L8.set n x)[n]? =_; rw [LU hn]) ha hy hj hv;simpa only [List.set_set] using h1
end
end
section
open Go.RowKit Go.Maps
attribute [local go_sem ↓] Kc Kd
theorem uy (p:af) (w:World):Calls J3 105 #[.agg p.cells] w fun e w'=>e= .returned (.bool (decide (p.next≤999999980)))∧Below w.heap.size w w':=by
 have HB:Hid (av (w.alloc (.cells p.cells 32)) w.heap.size p∧Below w.heap.size w (w.alloc (.cells p.cells 32))):=⟨Kj _ _,(Kp _ _).alloc (Ki _) _⟩
 unfold af.cells at *;obtain ⟨-,m1,-⟩:=HB.I.1.cells
 go_enter Tryz.func105,Tryz.ntmps105
 go_wp2;go_ret;exact ⟨rfl,HB.I.2⟩
end
section
open Go.RowKit
def j9 (o:dN):Array Value:= #[.int .i64 o.1,.int .i64 o.2.1,.int .i64 o.2.2.1,.string o.2.2.2]
def oo (W:World) (X:Nat) (o:dN):Prop:=W.heap[X]? =some (.cells (j9 o) 134 (0,0))
theorem oo.cells {W:World} {X:Nat} {o:dN} (h:oo W X o):W.cell? ⟨X,0,none⟩=some (.int .i64 o.1)∧W.cell? ⟨X,1,none⟩=some (.int .i64 o.2.1)∧W.cell? ⟨X,2,none⟩=some (.int .i64 o.2.2.1)∧W.cell? ⟨X,3,none⟩=some (.string o.2.2.2):=by
 unfold oo at h;simp [World.cell?,h,j9]
structure FO (w:World) (base:Nat) (q0 z q:af) (o:dN) (W:World):Prop where
 fr:Fr w (w.heap.size+3) base q0 z q W
 op:oo W (w.heap.size+1) o
 an:W.heap[w.heap.size+2]? =some (.cells ar 32 (0,0))
section
variable {w W W2:World} {base:Nat} {q0 z q q2:af} {o:dN}
theorem FO.start (h:ap w base q) (hb:base≤w.heap.size):FO w base q q q o (((w.alloc (.cells q.cells 32)).alloc (.cells (j9 o) 134)).alloc (.cells ar 32)):=by
 have h3:=dR w (.cells q.cells 32) (.cells (j9 o) 134) (.cells ar 32);exact ⟨Fr.start h hb h3.1 (fg _ _ _ _) ⟨by omega,by rw [h3.2.2.2]; omega⟩,h3.2.1,h3.2.2.1⟩
theorem FO.call (h:FO w base q0 z q o W) (ht:yr W base q q2 W2):FO w base q0 z q2 o W2:=by
 have h5:=h.fr.call ht;exact ⟨h5.1,(h5.2 _ (by omega) (by omega)).trans h.op,(h5.2 _ (by omega) (by omega)).trans h.an⟩
theorem FO.reads (h:FO w base q0 z q o W) (hb:Below W.heap.size W W2):FO w base q0 z q o W2:=by
 have h5:=h.fr.reads hb;exact ⟨h5.1,(h5.2 _ (by omega)).trans h.op,(h5.2 _ (by omega)).trans h.an⟩
theorem FO.put (h:FO w base q0 z q o W):FO w base q0 q q o (W.setRow w.heap.size q.cells):=⟨h.fr.put,(KH _ _ _ _ (by omega)).trans h.op,(KH _ _ _ _ (by omega)).trans h.an⟩
theorem FO.done (h:FO w base q0 z q o W) (cs:Array Value):yr w base q0 q (W.setRow (w.heap.size+2) cs):=h.fr.mK (by omega) (by omega) cs
theorem FO.again {n gs j:Nat} {x y:ao} {v:Value} (h:FO w base q0 z { q with L8:=q.L8.set n x } o W) (hn:n < q.L8.length) (ha:q.aN=some ⟨gs,0,none⟩) (hy:y.prog=x.prog∧y.aY=x.aY∧y.bH=x.bH) (hj:j < 12) (hv:bg.vals y=(bg.vals x).set j v):
  FO w base q0 z ({ q with L8:=q.L8.set n y } :af) o (W.setCell ⟨gs,n * 12+j,none⟩ v)∧(∃ u,W.cell? ⟨gs,n * 12+j,none⟩=some u)∧W.frozen? ⟨gs,n * 12+j,none⟩=false:=by
 have h5:=h.fr.again hn ha hy hj hv;exact ⟨⟨h5.1,(h5.2.1 _ (by omega) (by omega)).trans h.op,(h5.2.1 _ (by omega) (by omega)).trans h.an⟩,h5.2.2⟩
theorem FO.low (h:FO w base q0 z q o W):base≤W.heap.size:=by have:=h.fr.sz; omega
theorem FO.m2 {gs:Nat} (h:FO w base q0 z q o W) (ha:z.aN=some ⟨gs,0,none⟩):W.cell? ⟨w.heap.size,2,none⟩=some (.slice (some ⟨gs,0,none⟩) z.L8.length z.aW):=by rw [← ha]; exact h.fr.box.cells.2.2.1
end
end
section
open Go.RowKit Go.Maps
attribute [local go_sem ↓] Kc Kd
theorem sT (q:af) (n base:Nat) (x:ao) (st on wait now:Int) (held:ByteArray) (w:World) (h:ap w base q) (hb:base≤w.heap.size) (hr:aQ q.pure) (hx:q.L8[n]? =some x) (hn:q.next≤1000000000) (eu:0≤now∧now≤1000000000) (hw: -1≤wait∧wait≤1000):
  Calls J3 233 #[.agg q.cells,.int .i64 n,.int .i64 st,.int .i64 on,.string held,.int .i64 wait,.int .i64 now] w (jH w base q (kC st on held (kZ now wait) x.id q.pure)):=by
 obtain ⟨gs,ha,-⟩:=cn h.at.1 hx;have hnl:n < q.L8.length:=(Lj.1 hx).1;have b1:=dT w (.cells q.cells 32) (.cells ar 32);have h2:=cZ w (.cells q.cells 32) (.cells ar 32);have S:Hid (Fr w (w.heap.size+2) base q q ({ q with L8:=q.L8.set n x } :af) ((w.alloc (.cells q.cells 32)).alloc (.cells ar 32))∧((w.alloc (.cells q.cells 32)).alloc (.cells ar 32)).heap[w.heap.size+1]? =some (.cells ar 32 (0,0))):=⟨by rw [Hi hx]; exact Fr.start h hb h2.1 b1 ⟨by omega,by have:=(J2.1 h2.2).1; omega⟩,h2.2⟩
 have j0:(0:Int)≤(n:Int):=by omega
 have j1:(n:Int) < (q.L8.length:Int):=by omega
 have HR:Hid (aQ q.pure∧(0≤q.next∧q.next≤1000000000)∧q.L8[n]? =some x∧n < q.L8.length∧q.aN=some ⟨gs,0,none⟩):=⟨hr,⟨by have h5:=bz.1 hr.next; have:q.pure.next=q.next:=rfl; omega,hn⟩,hx,hnl,ha⟩
 obtain ⟨n0,n1⟩:=eu;obtain ⟨w0,w1⟩:=hw;clear h hb hr hx hn b1 h2 ha hnl
 go_enter Tryz.func233,Tryz.ntmps233
 go_upto_region 1 with fail;generalize (w.alloc (.cells q.cells 32)).alloc (.cells ar 32)=A at *;have m:=S.I.1.box.cells.2.2.1;rw [HR.I.2.2.2.2] at m;obtain ⟨s,k,⟨u,c⟩,f⟩:=S.I.1.again (y:= { x with Md:=st }) (j:=3) (v:= .int .i64 st) HR.I.2.2.2.1 HR.I.2.2.2.2 ⟨rfl,rfl,rfl⟩ (by decide) rfl;replace S:=aA (And.intro s ((k _ (by omega) (by omega)).trans S.I.2));clear s k;go_upto_region 2 with fail;generalize A.setCell ⟨gs,n * 12+3,none⟩ (.int .i64 st)=A at *;clear m c f u;have m:=S.I.1.box.cells.2.2.1;rw [HR.I.2.2.2.2] at m;obtain ⟨s,k,⟨u,c⟩,f⟩:=S.I.1.again (y:= { x with Md:=st,on:=on }) (j:=7) (v:= .int .i64 on) HR.I.2.2.2.1 HR.I.2.2.2.2 ⟨rfl,rfl,rfl⟩ (by decide) rfl;replace S:=aA (And.intro s ((k _ (by omega) (by omega)).trans S.I.2));clear s k;go_upto_region 3 with fail;generalize A.setCell ⟨gs,n * 12+7,none⟩ (.int .i64 on)=A at *;clear m c f u;have m:=S.I.1.box.cells.2.2.1;rw [HR.I.2.2.2.2] at m;obtain ⟨s,k,⟨u,c⟩,f⟩:=S.I.1.again (y:= { x with Md:=st,on:=on,held:=held }) (j:=8) (v:= .string held) HR.I.2.2.2.1 HR.I.2.2.2.2 ⟨rfl,rfl,rfl⟩ (by decide) rfl;replace S:=aA (And.intro s ((k _ (by omega) (by omega)).trans S.I.2));clear s k;go_upto_region 4 with fail;generalize A.setCell ⟨gs,n * 12+8,none⟩ (.string held)=A at *;clear m c f u;have m:=S.I.1.box.cells.2.2.1;rw [HR.I.2.2.2.2] at m;obtain ⟨s,k,⟨u,c⟩,f⟩:=S.I.1.again (y:= { x with Md:=st,on:=on,held:=held,Mg:= -1 }) (j:=6) (v:= .int .i64 (-1)) HR.I.2.2.2.1 HR.I.2.2.2.2 ⟨rfl,rfl,rfl⟩ (by decide) rfl;replace S:=aA (And.intro s ((k _ (by omega) (by omega)).trans S.I.2));clear s k;go_upto_region 5 with fail;generalize A.setCell ⟨gs,n * 12+6,none⟩ (.int .i64 (-1))=A at *;clear m c f u;by_cases FN:0≤wait
 ·have dw:decide (wait≥0)=true:=decide_eq_true FN
  have m:=S.I.1.box.cells.2.2.1;rw [HR.I.2.2.2.2] at m;obtain ⟨s,k,⟨u,c⟩,f⟩:=S.I.1.again (y:= { x with Md:=st,on:=on,held:=held,Mg:=now+wait }) (j:=6) (v:= .int .i64 (now+wait)) HR.I.2.2.2.1 HR.I.2.2.2.2 ⟨rfl,rfl,rfl⟩ (by decide) rfl;replace S:=aA (And.intro s ((k _ (by omega) (by omega)).trans S.I.2));clear s k;go_upto_region 7 with fail;generalize A.setCell ⟨gs,n * 12+6,none⟩ (.int .i64 (now+wait))=A at *;clear m c f u;have hp:({ q with L8:=q.L8.set n { x with Md:=st,on:=on,held:=held,Mg:=now+wait } } :af).pure=_:=g7 (nx:=q.next) (f:=fun y=> { y with Md:=st,on:=on,held:=held,Mg:=now+wait }) HR.I.1.kW HR.I.2.2.1 rfl;have Mb:=oT (n:=n) (x:= { x with Md:=st,on:=on,held:=held,Mg:=now+wait }) S.I.1.own (by have:=S.I.1.sz; omega) (us HR.I.1.kW HR.I.2.2.1 rfl) (by show (q.L8.set n _)[n]? =_; rw [LU HR.I.2.2.2.1]) HR.I.2.1;rw [jd (nx:=q.next),hp] at Mb;have HE:Hid ({ q.pure with next:=q.next+1,L8:=ce x.id (fun y=> { y with RU:=q.next }) (ce x.id (fun y=> { y with Md:=st,on:=on,held:=held,Mg:=now+wait }) q.pure.L8) } =kC st on held (kZ now wait) x.id q.pure):=by show _=kC st on held (kZ now wait) x.id q.pure; rw [pm (by intro _; rfl)]; unfold kZ; rw [if_pos FN]; rfl
  clear hp FN;go_wp2_with (refine eT 7 S.I.1.box ?_);refine Mb.mono ?_;clear Mb;rintro e W ⟨q2,rfl,hp2,ht⟩;have h5:=S.I.1.call ht;have H5:=aA (And.intro h5.1 ((h5.2 _ (by omega) (by omega)).trans S.I.2));have HP:Hid (q2.pure=_):=hp2;clear hp2 ht h5;go_wp2_with (refine ec 14 50 q2.cells H5.I.2 ?_);refine gZ Tryz.results233 H5.I.2 ?_;exact ⟨q2,rfl,HP.I.trans HE.I,H5.I.1.mK (by omega) (by omega) _⟩
 ·have dw:decide (wait≥0)=false:=decide_eq_false FN
  go_upto_region 7 with fail;have hp:({ q with L8:=q.L8.set n { x with Md:=st,on:=on,held:=held,Mg:= -1 } } :af).pure=_:=g7 (nx:=q.next) (f:=fun y=> { y with Md:=st,on:=on,held:=held,Mg:= -1 }) HR.I.1.kW HR.I.2.2.1 rfl;have Mb:=oT (n:=n) (x:= { x with Md:=st,on:=on,held:=held,Mg:= -1 }) S.I.1.own (by have:=S.I.1.sz; omega) (us HR.I.1.kW HR.I.2.2.1 rfl) (by show (q.L8.set n _)[n]? =_; rw [LU HR.I.2.2.2.1]) HR.I.2.1;rw [jd (nx:=q.next),hp] at Mb;have HE:Hid ({ q.pure with next:=q.next+1,L8:=ce x.id (fun y=> { y with RU:=q.next }) (ce x.id (fun y=> { y with Md:=st,on:=on,held:=held,Mg:= -1 }) q.pure.L8) } =kC st on held (kZ now wait) x.id q.pure):=by show _=kC st on held (kZ now wait) x.id q.pure; rw [pm (by intro _; rfl)]; unfold kZ; rw [if_neg FN]; rfl
  clear hp FN;go_wp2_with (refine eT 7 S.I.1.box ?_);refine Mb.mono ?_;clear Mb;rintro e W ⟨q2,rfl,hp2,ht⟩;have h5:=S.I.1.call ht;have H5:=aA (And.intro h5.1 ((h5.2 _ (by omega) (by omega)).trans S.I.2));have HP:Hid (q2.pure=_):=hp2;clear hp2 ht h5;go_wp2_with (refine ec 14 50 q2.cells H5.I.2 ?_);refine gZ Tryz.results233 H5.I.2 ?_;exact ⟨q2,rfl,HP.I.trans HE.I,H5.I.1.mK (by omega) (by omega) _⟩
end
end Go.Proofs.YtkbcplnlehdjfaaGreat
