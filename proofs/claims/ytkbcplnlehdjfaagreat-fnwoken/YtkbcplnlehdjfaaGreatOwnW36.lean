/- What the proof leans on, part 36. -/
import Derived.Test.YtkbcplnlehdjfaaGreatOwnW35
set_option maxRecDepth 100000
set_option maxHeartbeats 8000000
open Array renaming getElem?_eq_some_iff->J2
open Function renaming comp_def->Ls
open Go renaming frozen_of_row->Ko,setRow_heap->KU,setRow_other->KH
open Go.Proofs.Tryz renaming prog->J3
open Go.RowKit.Below renaming refl->Kp
open List renaming getElem?_eq_some_iff->Lj,getElem?_map->Kk,map_map->Lv,mem_append->Kg,mem_append_left->Lz,mem_append_right->Ly,mem_cons_of_mem->LB,mem_filterMap->Lq,mem_of_getElem?->KA,nodup_append->Kf,nodup_cons->Lp
open Nat renaming le_refl->Ki,le_trans->LG,zero_le->Ky
open Option renaming map_eq_some_iff->Kw

namespace Go.Proofs.YtkbcplnlehdjfaaGreat
section
open Go.RowKit
structure yr (w:World) (base:Nat) (q q2:af) (W:World):Prop where
 own:ap W base q2
 kept:aI w W q.Mc
 far: ∀ g∈q2.Mc,g∈q.Mc∨w.heap.size≤g
def jH (w:World) (base:Nat) (q:af) (f:aE) (e:Ending) (w':World):Prop:= ∃ q2:af,e= .returned (.agg q2.cells)∧q2.pure=f∧yr w base q q2 w'
structure Fr (w:World) (M base:Nat) (q0 z q:af) (W:World):Prop where
 box:av W w.heap.size z
 own:ap W base q
 kept:aI w W q0.Mc
 far: ∀ g∈q.Mc,g∈q0.Mc∨M≤g
 lo: ∀ g∈q0.Mc,base≤g∧g < w.heap.size
 sz:w.heap.size < M∧M≤W.heap.size∧base≤w.heap.size
section
variable {w W W2:World} {M base:Nat} {q0 z q q2:af}
theorem Fr.yO (h:Fr w M base q0 z q W) {X:Nat} (h1:w.heap.size≤X) (h2:X < M):X∉q.Mc:=fun hm=>by
 rcases h.far X hm with h3 | h3
 ·have:=(h.lo X h3).2; omega
 ·omega
theorem Fr.start (h:ap w base q) (hb:base≤w.heap.size) (hx:av W w.heap.size q) (hw:Below w.heap.size w W) (hM:w.heap.size < M∧M≤W.heap.size):Fr w M base q q q W:=
 ⟨hx,h.below hw,aI.dI hw,fun _ hg=> .inl hg,h.lt,hM.1,hM.2,hb⟩
theorem Fr.call (h:Fr w M base q0 z q W) (ht:yr W base q q2 W2):Fr w M base q0 z q2 W2∧ ∀ X,w.heap.size≤X→X < M→W2.heap[X]? =W.heap[X]? :=by
 have hk: ∀ X,w.heap.size≤X→X < M→W2.heap[X]? =W.heap[X]? :=fun X h1 h2=>ht.kept.same X (by have:=h.sz; omega) (h.yO h1 h2)
 refine ⟨⟨(hk _ (Ki _) h.sz.1).trans h.box,ht.own,⟨ht.kept.os.trans h.kept.os,ht.kept.tape.trans h.kept.tape,ht.kept.output.trans h.kept.output,LG h.kept.size ht.kept.size,fun g h1 h2=>(ht.kept.same g (by have:=h.kept.size; omega) fun hm=> ?_).trans (h.kept.same g h1 h2)⟩,fun g hg=> ?_,h.lo,h.sz.1,LG h.sz.2.1 ht.kept.size,h.sz.2.2⟩,hk⟩
 ·rcases h.far g hm with h3 | h3
  ·exact h2 h3
  ·have:=h.sz; omega
 ·rcases ht.far g hg with h3 | h3
  ·exact h.far g h3
  ·exact .inr (by have:=h.sz; omega)
theorem Fr.reads (h:Fr w M base q0 z q W) (hb:Below W.heap.size W W2):Fr w M base q0 z q W2∧ ∀ X,X < M→W2.heap[X]? =W.heap[X]? :=
 ⟨⟨h.box.below hb,h.own.below hb,⟨hb.os.trans h.kept.os,hb.tape.trans h.kept.tape,hb.output.trans h.kept.output,LG h.kept.size hb.size,fun g h1 h2=>(hb.block g (by have:=h.kept.size; omega)).trans (h.kept.same g h1 h2)⟩,h.far,h.lo,h.sz.1,LG h.sz.2.1 hb.size,h.sz.2.2⟩,fun X hX=>hb.block X (by have:=h.sz; omega)⟩
theorem Fr.other (h:Fr w M base q0 z q W) {X:Nat} (h1:w.heap.size≤X) (h2:X < M) (cs:Array Value) (hz:av (W.setRow X cs) w.heap.size q2):Fr w M base q0 q2 q (W.setRow X cs):=
 ⟨hz,h.own.same fun g hg=>KH _ _ _ _ fun e=>h.yO h1 h2 (e ▸ hg),⟨h.kept.os,h.kept.tape,h.kept.output,by simpa using h.kept.size,fun g h3 h4=>(KH _ _ _ _ (by omega)).trans (h.kept.same g h3 h4)⟩,h.far,h.lo,h.sz.1,by simpa using h.sz.2.1,h.sz.2.2⟩
theorem Fr.put (h:Fr w M base q0 z q W):Fr w M base q0 q q (W.setRow w.heap.size q.cells):=h.other (Ki _) h.sz.1 _ (KU _ _ _ _ _ _ h.box)
theorem Fr.mK (h:Fr w M base q0 z q W) {X:Nat} (h1:w.heap.size < X) (h2:X < M) (cs:Array Value):yr w base q0 q (W.setRow X cs):=by
 have h3:=h.other (q2:=z) (Nat.le_of_lt h1) h2 cs ((KH _ _ _ _ (by omega)).trans h.box);exact ⟨h3.own,h3.kept,fun g hg=>(h3.far g hg).imp_right fun h4=>by have:=h.sz; omega⟩
end
end
section
open Go.RowKit Go.Maps
attribute [local go_sem ↓] Go.wp_at_zero Go.wp_at_succ
structure DZ (now:Int) (base:Nat) (w:World) (q0:af) (k:Nat) (q:af) (wr:World):Prop where
 box:av wr w.heap.size q
 mK:wr.heap[w.heap.size+1]? =some (.cells ar 32 (0,0))
 own:ap wr base q
 cd:Below base w wr
 wk:Wk now q.pure
 same:gj now q.pure=gj now q0.pure
 cnt:(lF now q.pure.L8).length=k
 short: ∀ x∈q.L8,x.prog.length≤1048576
 low: ∀ g∈q.Mc,g < w.heap.size
theorem un {q:af} {gs:Nat} (h:q.aN=some ⟨gs,0,none⟩):gs∈q.Mc:=by
 unfold af.Mc;rw [h];simp [blk]
theorem Eb {now:Int} {q:af} {n:Nat} {y:ao} {code:Int} (hw:Wk now q.pure) (hy:q.L8[n]? =some y) (hp:q.pure.L8[n]? =some y.toaD) (hc:mL y.toaD=code) (hs: ∀ x∈q.L8,x.prog.length≤1048576):
  ({ q with next:=gf q.next y.toaD,L8:=q.L8.set n (pF q.next code y) } :af).pure=gu q.pure y.toaD∧({ q with next:=gf q.next y.toaD,L8:=q.L8.set n (pF q.next code y) } :af).Mc=q.Mc∧(∀ x∈({ q with next:=gf q.next y.toaD,L8:=q.L8.set n (pF q.next code y) } :af).L8,x.prog.length≤1048576):=by
 refine ⟨?_,?_,fun x hx=> ?_⟩
 ·unfold gu
  rw [rp hw.kW hp rfl,hc]
  show ({ q.pure with next:=gf q.next y.toaD,L8:=(q.L8.set n (pF q.next code y)).map (·.toaD) } :aE)=_
  rw [List.map_set];rfl
 ·unfold af.Mc
  simp only [re hy (show (pF q.next code y).aY=y.aY from rfl)]
 ·rcases List.mem_or_eq_of_mem_set hx with h5 | h5
  ·exact hs x h5
  ·rw [h5]
   show (iY q.next code y.toaD).prog.length≤_
   rw [(rD _ _ _).2];exact hs y (KA hy)
theorem ti (q0:af) (now:Int) (base:Nat) (w:World) (h:ap w base q0) (hb:base≤w.heap.size) (hk:Wk now q0.pure) (hs: ∀ x∈q0.L8,x.prog.length≤1048576):
  Calls J3 106 #[.agg q0.cells,.int .i64 now] w fun e w'=> ∃ q:af,e= .returned (.agg q.cells)∧q.pure=gj now q0.pure∧ap w' base q∧Below base w w':=by
 have b1:Below w.heap.size w ((w.alloc (.cells q0.cells 32)).alloc (.cells ar 32)):=dT _ _ _;have HB:Hid (DZ now base w q0 (lF now q0.pure.L8).length q0 ((w.alloc (.cells q0.cells 32)).alloc (.cells ar 32))∧base≤w.heap.size):=⟨⟨(cZ _ _ _).1,(cZ _ _ _).2,h.below b1,b1.mono hb,hk,rfl,rfl,hs,fun g hg=>(h.lt g hg).2⟩,hb⟩
 clear h hb hk hs b1;unfold af.cells at *
 go_enter Tryz.func106,Tryz.ntmps106
 go_wp2_with fail;generalize (w.alloc (.cells #[.int .i64 q0.id,.int .i64 q0.next,.slice q0.aN q0.L8.length q0.aW,.slice q0.bc q0.aj.length q0.bF,.slice q0.ay q0.L9.length q0.aO,.slice q0.ax q0.ag.length q0.aP,.slice q0.am q0.ae.length q0.aG,.slice q0.aK q0.ai.length q0.aV] 32)).alloc (.cells ar 32)=W at *
 go_loopg [] (lF now q0.pure.L8).length (fun k wr=> ∃ q:af,Hid (DZ now base w q0 k q wr))
 case atStart=>exact ⟨q0,HB.I.1⟩
 case round=>
  obtain ⟨q,HO⟩:=hrel
  rename World=>W1
  have hql:q.L8.length≤6:=by have h5:=HO.I.wk.low; simpa [af.pure] using h5
  go_wp2_with fail
  go_loopw [5,6] (fun b i wr=> ∃ (k:Nat) (z:Int),k≤q.L8.length∧i= .int .i64 k∧b= .int .i64 z∧Hid (eN l8 (og now) q.pure.L8 k z∧Below W1.heap.size W1 wr)) (fun _ i _=>q.L8.length - (Go.RowKit.intOf i).toNat)
  case atStart=>exact ⟨0,-1,Ky _,rfl,rfl,⟨eN.start _ _ _,Kp _ _⟩⟩
  case round=>
   obtain ⟨k,z,hk,rfl,rfl,HA⟩:=hrel;have HW:Hid (av wr w.heap.size q∧ap wr base q):=⟨HO.I.box.below HA.I.2,HO.I.own.below HA.I.2⟩
   obtain ⟨m0,m1,m2,m3,m4,m5,m6,m7⟩:=HW.I.1.cells;by_cases hlt:k < q.L8.length
   ·have i0:(0:Int)≤(k:Int):=by omega
    have i1:(k:Int) < (q.L8.length:Int):=by omega
    clear m0 m1 m3 m4 m5 m6 m7;obtain ⟨x,hx⟩: ∃ x,q.L8[k]? =some x:=⟨_,List.getElem?_eq_getElem hlt⟩
    have HX:Hid (q.L8[k]? =some x∧q.pure.L8[k]? =some x.toaD):=⟨hx,by show (q.L8.map (·.toaD))[k]? =_; rw [Kk,hx]; rfl⟩
    obtain ⟨gs,ha,hat⟩:=cn HW.I.2.at.1 hx;have HG:Hid (q.aN=some ⟨gs,0,none⟩):=ha;rw [ha] at m2;obtain ⟨d0,d1,d2,d3,d4,d5,d6,d7,d8,d9,tH,tS⟩:=hat;clear hx ha;have hgl:w.heap.size < wr.heap.size:=(J2.1 HW.I.1).1;have HN:Hid (av (wr.alloc (.cells x.row 43)) w.heap.size q∧ap (wr.alloc (.cells x.row 43)) base q∧jx (wr.alloc (.cells x.row 43)) wr.heap.size x∧Below W1.heap.size W1 (wr.alloc (.cells x.row 43))):=⟨HW.I.1.below ((Kp _ _).alloc (Ki _) _),HW.I.2.below ((Kp _ _).alloc (Ki _) _),heap_alloc_new _ _,HA.I.2.alloc HA.I.2.size _⟩
    go_wp2_with fail;generalize wr.alloc (.cells x.row 43)=W5 at *;generalize wr.heap.size=X at *;clear d0 d1 d2 d3 d4 d5 d6 d7 d8 d9 tH tS m2 hgl;obtain ⟨-,-,m2,-⟩:=HN.I.1.cells;rw [HG.I] at m2;obtain ⟨-,-,-,b3,-,-,b6,-⟩:=HN.I.2.2.1.cells;by_cases hs:2≤x.Md;rotate_left
    ·have d1:decide (2≤x.Md)=false:=decide_eq_false hs
     have HY:Hid (eN l8 (og now) q.pure.L8 (k+1) z):=HA.I.1.skip HX.I.2 (by show (decide (2≤x.Md) && _)=false; rw [d1]; rfl);clear hs;refine aT (fun w'=>(w'.cell? ⟨w.heap.size,2,none⟩=some (.slice (some ⟨gs,0,none⟩) q.L8.length q.aW)∧w'.cell? ⟨X,3,none⟩=some (.int .i64 x.Md)∧w'.cell? ⟨X,6,none⟩=some (.int .i64 x.Mg))∧Hid (Below W5.heap.size W5 w')) (by kernel_rfl) ⟨⟨m2,b3,b6⟩,(Kp _ _).drew⟩ ?_
     iterate 4 (refine PI ?_)
     iterate 4 (refine nl ?_; simp only [pt,sb,s0,s1])
     iterate 2 (refine PI ?_)
     iterate 13 (refine nl ?_; simp only [pt,sb,s0,s1])
     (refine PI ?_)
     refine bk (by kernel_rfl) ?_ _;intro w1 cm;have HV:Hid (Below W1.heap.size W1 w1):=HN.I.2.2.2.trans (cm.2.I.mono HN.I.2.2.2.size);clear cm;go_wp2;go_roundw
     case rel=>exact ⟨k+1,z,by omega,by go_num,rfl,⟨HY.I,HV.I⟩⟩
     case measure=>simp [Go.RowKit.intOf]; omega
    have d1:decide (2≤x.Md)=true:=decide_eq_true hs;cases hv:cv x.Mg 1 now
    ·have VB:Hid (Ending.returned (.bool (cv x.Mg 1 now))=Ending.returned (.bool false)):=by show _=_; rw [hv]
     have HY:Hid (eN l8 (og now) q.pure.L8 (k+1) z):=HA.I.1.skip HX.I.2 (by show (_ && cv x.Mg 1 now)=false; rw [hv,Bool.and_false]);clear hs hv;refine aT (fun w'=>(w'.cell? ⟨w.heap.size,2,none⟩=some (.slice (some ⟨gs,0,none⟩) q.L8.length q.aW)∧w'.cell? ⟨X,3,none⟩=some (.int .i64 x.Md)∧w'.cell? ⟨X,6,none⟩=some (.int .i64 x.Mg))∧Hid (Below W5.heap.size W5 w')) (by kernel_rfl) ⟨⟨m2,b3,b6⟩,(Kp _ _).drew⟩ ?_
     iterate 7 (refine PI ?_)
     refine cl (.bool false) 78 #[.int .i64 x.Mg,.int .i64 1,.int .i64 now] ?_ ?_ ?_
     ·intro w0 hS0
      obtain ⟨⟨o2,o3,o6⟩,hH⟩:=hS0
      go_simp
      try with_reducible rfl
     ·intro w0 hS0
      refine (dx x.Mg 1 now w0).mono ?_;rintro e w2 ⟨rfl,rfl⟩;exact ⟨VB.I,hS0⟩
     simp only [pt,sb,s0,s1]
     iterate 2 (refine PI ?_)
     iterate 13 (refine nl ?_; simp only [pt,sb,s0,s1])
     (refine PI ?_)
     refine bk (by kernel_rfl) ?_ _;intro w1 cm;have HV:Hid (Below W1.heap.size W1 w1):=HN.I.2.2.2.trans (cm.2.I.mono HN.I.2.2.2.size);clear cm;go_wp2;go_roundw
     case rel=>exact ⟨k+1,z,by omega,by go_num,rfl,⟨HY.I,HV.I⟩⟩
     case measure=>simp [Go.RowKit.intOf]; omega
    have VB:Hid (Ending.returned (.bool (cv x.Mg 1 now))=Ending.returned (.bool true)):=by show _=_; rw [hv]
    have HF:Hid (og now x.toaD=true):=by show (decide (2≤x.Md) && cv x.Mg 1 now)=true; rw [hv,d1]; rfl
    clear hs hv;by_cases hz:z < 0
    ·have dz:decide (z < 0)=true:=decide_eq_true hz
     have HY:Hid (eN l8 (og now) q.pure.L8 (k+1) k):=HA.I.1.first hz HX.I.2 HF.I;refine aT (fun w'=>(w'.cell? ⟨w.heap.size,2,none⟩=some (.slice (some ⟨gs,0,none⟩) q.L8.length q.aW)∧w'.cell? ⟨X,3,none⟩=some (.int .i64 x.Md)∧w'.cell? ⟨X,6,none⟩=some (.int .i64 x.Mg))∧Hid (Below W5.heap.size W5 w')) (by kernel_rfl) ⟨⟨m2,b3,b6⟩,(Kp _ _).drew⟩ ?_
     iterate 7 (refine PI ?_)
     refine cl (.bool true) 78 #[.int .i64 x.Mg,.int .i64 1,.int .i64 now] ?_ ?_ ?_
     ·intro w0 hS0
      obtain ⟨⟨o2,o3,o6⟩,hH⟩:=hS0
      go_simp
      try with_reducible rfl
     ·intro w0 hS0
      refine (dx x.Mg 1 now w0).mono ?_;rintro e w2 ⟨rfl,rfl⟩;exact ⟨VB.I,hS0⟩
     simp only [pt,sb,s0,s1]
     iterate 5 (refine PI ?_)
     iterate 9 (refine nl ?_; simp only [pt,sb,s0,s1])
     iterate 2 (refine PI ?_)
     refine bk (by kernel_rfl) ?_ _;intro w1 cm;have HV:Hid (Below W1.heap.size W1 w1):=HN.I.2.2.2.trans (cm.2.I.mono HN.I.2.2.2.size);clear cm;go_wp2;go_roundw
     case rel=>exact ⟨k+1,k,by omega,by go_num,rfl,⟨HY.I,HV.I⟩⟩
     case measure=>simp [Go.RowKit.intOf]; omega
    have dz:decide (z < 0)=false:=decide_eq_false hz;obtain ⟨n,y0,hzn,hn,hy0,hbe⟩:=HA.I.1.got hz;subst hzn;have Fm:Hid (eN l8 (og now) q.pure.L8 (k+1) (if l8 x.toaD y0 then (k:Int) else (n:Int))):=eN.next hn hy0 hbe HX.I.2 HF.I;obtain ⟨y,hy,rfl⟩: ∃ y,q.L8[n]? =some y∧y.toaD=y0:=by
     have h5:(q.L8.map (·.toaD))[n]? =some y0:=hy0;rw [Kk,Kw] at h5;exact h5
    have j0:(0:Int)≤(n:Int):=by omega
    have j1:(n:Int) < (q.L8.length:Int):=by omega
    obtain ⟨gs2,ha2,g8⟩:=cn HN.I.2.1.at.1 hy;rw [HG.I] at ha2;cases ha2;obtain ⟨-,-,-,-,-,-,y6,-⟩:=g8;clear hy hy0 hbe hz;by_cases hw:x.Mg < y.Mg
    ·have dw:decide (x.Mg < y.Mg)=true:=decide_eq_true hw
     have HY:Hid (eN l8 (og now) q.pure.L8 (k+1) k):=by have h5:=Fm.I; rwa [show l8 x.toaD y.toaD=true from dw,if_pos rfl] at h5
     clear hw Fm;refine aT (fun w'=>(w'.cell? ⟨w.heap.size,2,none⟩=some (.slice (some ⟨gs,0,none⟩) q.L8.length q.aW)∧w'.cell? ⟨X,3,none⟩=some (.int .i64 x.Md)∧w'.cell? ⟨X,6,none⟩=some (.int .i64 x.Mg)∧w'.cell? ⟨gs,n * 12+6,none⟩=some (.int .i64 y.Mg))∧Hid (Below W5.heap.size W5 w')) (by kernel_rfl) ⟨⟨m2,b3,b6,y6⟩,(Kp _ _).drew⟩ ?_
     iterate 7 (refine PI ?_)
     refine cl (.bool true) 78 #[.int .i64 x.Mg,.int .i64 1,.int .i64 now] ?_ ?_ ?_
     ·intro w0 hS0
      obtain ⟨⟨o2,o3,o6,o7⟩,hH⟩:=hS0
      go_simp
      try with_reducible rfl
     ·intro w0 hS0
      refine (dx x.Mg 1 now w0).mono ?_;rintro e w2 ⟨rfl,rfl⟩;exact ⟨VB.I,hS0⟩
     simp only [pt,sb,s0,s1]
     iterate 16 (refine PI ?_)
     refine bk (by kernel_rfl) ?_ _;intro w1 cm;have HV:Hid (Below W1.heap.size W1 w1):=HN.I.2.2.2.trans (cm.2.I.mono HN.I.2.2.2.size);clear cm;go_wp2;go_roundw
     case rel=>exact ⟨k+1,k,by omega,by go_num,rfl,⟨HY.I,HV.I⟩⟩
     case measure=>simp [Go.RowKit.intOf]; omega
    ·have dw:decide (x.Mg < y.Mg)=false:=decide_eq_false hw
     have HY:Hid (eN l8 (og now) q.pure.L8 (k+1) n):=by have h5:=Fm.I; rwa [show l8 x.toaD y.toaD=false from dw,if_neg Bool.false_ne_true] at h5
     clear hw Fm;refine aT (fun w'=>(w'.cell? ⟨w.heap.size,2,none⟩=some (.slice (some ⟨gs,0,none⟩) q.L8.length q.aW)∧w'.cell? ⟨X,3,none⟩=some (.int .i64 x.Md)∧w'.cell? ⟨X,6,none⟩=some (.int .i64 x.Mg)∧w'.cell? ⟨gs,n * 12+6,none⟩=some (.int .i64 y.Mg))∧Hid (Below W5.heap.size W5 w')) (by kernel_rfl) ⟨⟨m2,b3,b6,y6⟩,(Kp _ _).drew⟩ ?_
     iterate 7 (refine PI ?_)
     refine cl (.bool true) 78 #[.int .i64 x.Mg,.int .i64 1,.int .i64 now] ?_ ?_ ?_
     ·intro w0 hS0
      obtain ⟨⟨o2,o3,o6,o7⟩,hH⟩:=hS0
      go_simp
      try with_reducible rfl
     ·intro w0 hS0
      refine (dx x.Mg 1 now w0).mono ?_;rintro e w2 ⟨rfl,rfl⟩;exact ⟨VB.I,hS0⟩
     simp only [pt,sb,s0,s1]
     iterate 16 (refine PI ?_)
     refine bk (by kernel_rfl) ?_ _;intro w1 cm;have HV:Hid (Below W1.heap.size W1 w1):=HN.I.2.2.2.trans (cm.2.I.mono HN.I.2.2.2.size);clear cm;go_wp2;go_roundw
     case rel=>exact ⟨k+1,n,by omega,by go_num,rfl,⟨HY.I,HV.I⟩⟩
     case measure=>simp [Go.RowKit.intOf]; omega
   ·have i1: ¬ (k:Int) < (q.L8.length:Int):=by omega
    have HE:Hid (eN l8 (og now) q.pure.L8 q.L8.length z):=by have h5:=HA.I.1; rwa [show k=q.L8.length by omega] at h5
    have hfl:q.pure.L8.take q.L8.length=q.pure.L8:=by rw [List.take_of_length_le]; simp [af.pure]
    have Ih:Hid (wr.heap[w.heap.size+1]? =some (.cells ar 32 (0,0))∧Below base w wr):=⟨(HA.I.2.block _ (J2.1 HO.I.mK).1).trans HO.I.mK,HO.I.cd.trans (HA.I.2.mono (by have:=HO.I.cd.size; have:=HB.I.2; omega))⟩
    by_cases hz:z < 0
    ·have HD:Hid (lZ now q.pure.L8=none):=by have h5:=HE.I.none' hz; rwa [hfl] at h5
     have dz:decide (z < 0)=true:=decide_eq_true hz;clear hfl hz;go_wp2_with (refine ec 4 48 q.row Ih.I.1 ?_);refine gZ Tryz.results106 Ih.I.1 ?_;exact ⟨q,rfl,by rw [← HO.I.same]; exact (Co HD.I).symm,HW.I.2.same fun g hg=>KH _ _ _ _ (by have:=HO.I.low g hg; omega),below_setRow Ih.I.2 (by have:=HB.I.2; omega) _⟩
    have dz:decide (z < 0)=false:=decide_eq_false hz;obtain ⟨n,y0,hzn,hn,hy0,hbe⟩:=HE.I.got hz;subst hzn;rw [hfl] at hbe;obtain ⟨y,hy,rfl⟩: ∃ y,q.L8[n]? =some y∧y.toaD=y0:=by
     have h5:(q.L8.map (·.toaD))[n]? =some y0:=hy0;rw [Kk,Kw] at h5;exact h5
    have HD:Hid (lZ now q.pure.L8=some y.toaD∧q.L8[n]? =some y∧q.pure.L8[n]? =some y.toaD):=⟨hbe,hy,hy0⟩
    have j0:(0:Int)≤(n:Int):=by omega
    have j1:(n:Int) < (q.L8.length:Int):=by omega
    obtain ⟨gs,ha,hat⟩:=cn HW.I.2.at.1 hy;have HG:Hid (q.aN=some ⟨gs,0,none⟩):=ha;have d3:=hat.2.2.2.1;rw [ha] at m2;have hdu:=(Wk.mem hbe)
    have hst:2≤y.Md:=by have h5:=hdu.2; unfold og at h5; simp only [Bool.and_eq_true,decide_eq_true_eq] at h5; exact h5.1
    have hop:=HO.I.wk.op y.toaD hdu.1 hst;have hro:=HO.I.wk.room;have hle:=HO.I.short y (KA hy);have Mb:=fun code=>vT q n base y code wr HW.I.2 (by have:=HO.I.cd.size; have:=HA.I.2.size; have:=HB.I.2; omega) hy hop hle (by have h5:q.pure.next=q.next:=rfl; omega)
    clear hfl hz hbe hy hy0 hat ha hdu hst hop hro hle hn;unfold af.cells at Mb;simp only [HG.I] at Mb;cases e2:(y.Md == 2)
    ·skip
     replace Mb:=Mb 2;have HCO:Hid (mL y.toaD=2):=by show mL y.toaD=_; unfold mL; rw [if_neg (by simpa using e2)]
     go_wp2_with fail;clear m0 m1 m2 m3 m4 m5 m6 m7 d3 e2;refine Mb.mono ?_;clear Mb;rintro e w2 ⟨q2,rfl,pv,DU,hb2,hk2⟩;have ky:Hid (q2.pure=gu q.pure y.toaD∧q2.Mc=q.Mc∧(∀ x∈q2.L8,x.prog.length≤1048576)):=by rw [← HG.I] at pv; rw [pv]; exact Eb HO.I.wk HD.I.2.1 HD.I.2.2 HCO.I HO.I.short
     clear pv;have hgl:=HO.I.low gs (by rw [show q.Mc=q.Mc from rfl]; exact un HG.I);have hww:w.heap.size+1 < wr.heap.size:=(J2.1 Ih.I.1).1;have H2:Hid (av w2 w.heap.size q∧w2.heap[w.heap.size+1]? =some (.cells ar 32 (0,0))∧ap w2 base q2∧Below base w w2):=⟨(hk2.same _ (by omega) (by simp [blk]; omega)).trans HW.I.1,(hk2.same _ (by omega) (by simp [blk]; omega)).trans Ih.I.1,DU,Ih.I.2.trans hb2⟩
     clear DU hb2 hk2 hgl hww;have HI:Hid (DZ now base w q0 (lF now q2.pure.L8).length q2 (w2.setRow w.heap.size q2.cells)∧(lF now q2.pure.L8).length < gk):=by
      have hst:=HO.I.wk.step HD.I.1;have hc:=HO.I.cnt;have hbb:=HB.I.2;rw [ky.I.1];refine ⟨⟨KU _ _ _ _ _ _ H2.I.1,(KH _ _ _ _ (by omega)).trans H2.I.2.1,H2.I.2.2.1.same fun g hg=>KH _ _ _ _ (by rw [ky.I.2.1] at hg; have:=HO.I.low g hg; omega),below_setRow H2.I.2.2.2 hbb _,by rw [ky.I.1]; exact hst.1,by rw [ky.I.1,← HO.I.same]; exact (vn HO.I.wk HD.I.1).symm,by rw [ky.I.1],ky.I.2.2,fun g hg=>HO.I.low g (by rw [← ky.I.2.1]; exact hg)⟩,by omega⟩
     go_wp2_with (refine ec 2 59 q2.cells H2.I.1 ?_)
     go_roundg (lF now q2.pure.L8).length
     case rel=>exact ⟨q2,HI.I.1⟩
     case measure=>exact HI.I.2
    ·skip
     replace Mb:=Mb 0;have HCO:Hid (mL y.toaD=0):=by show mL y.toaD=_; unfold mL; rw [if_pos (by simpa using e2)]
     go_wp2_with fail;clear m0 m1 m2 m3 m4 m5 m6 m7 d3 e2;refine Mb.mono ?_;clear Mb;rintro e w2 ⟨q2,rfl,pv,DU,hb2,hk2⟩;have ky:Hid (q2.pure=gu q.pure y.toaD∧q2.Mc=q.Mc∧(∀ x∈q2.L8,x.prog.length≤1048576)):=by rw [← HG.I] at pv; rw [pv]; exact Eb HO.I.wk HD.I.2.1 HD.I.2.2 HCO.I HO.I.short
     clear pv;have hgl:=HO.I.low gs (by rw [show q.Mc=q.Mc from rfl]; exact un HG.I);have hww:w.heap.size+1 < wr.heap.size:=(J2.1 Ih.I.1).1;have H2:Hid (av w2 w.heap.size q∧w2.heap[w.heap.size+1]? =some (.cells ar 32 (0,0))∧ap w2 base q2∧Below base w w2):=⟨(hk2.same _ (by omega) (by simp [blk]; omega)).trans HW.I.1,(hk2.same _ (by omega) (by simp [blk]; omega)).trans Ih.I.1,DU,Ih.I.2.trans hb2⟩
     clear DU hb2 hk2 hgl hww;have HI:Hid (DZ now base w q0 (lF now q2.pure.L8).length q2 (w2.setRow w.heap.size q2.cells)∧(lF now q2.pure.L8).length < gk):=by
      have hst:=HO.I.wk.step HD.I.1;have hc:=HO.I.cnt;have hbb:=HB.I.2;rw [ky.I.1];refine ⟨⟨KU _ _ _ _ _ _ H2.I.1,(KH _ _ _ _ (by omega)).trans H2.I.2.1,H2.I.2.2.1.same fun g hg=>KH _ _ _ _ (by rw [ky.I.2.1] at hg; have:=HO.I.low g hg; omega),below_setRow H2.I.2.2.2 hbb _,by rw [ky.I.1]; exact hst.1,by rw [ky.I.1,← HO.I.same]; exact (vn HO.I.wk HD.I.1).symm,by rw [ky.I.1],ky.I.2.2,fun g hg=>HO.I.low g (by rw [← ky.I.2.1]; exact hg)⟩,by omega⟩
     go_wp2_with (refine ec 2 59 q2.cells H2.I.1 ?_)
     go_roundg (lF now q2.pure.L8).length
     case rel=>exact ⟨q2,HI.I.1⟩
     case measure=>exact HI.I.2
theorem cJ.SA {w w':World} {base o g:Nat} {S:aZ} {f:ao→ao} {nx:Int} (h:cJ w base o S) (hf: ∀ x,(f x).id=x.id∧(f x).prog=x.prog∧(f x).aY=x.aY∧(f x).bH=x.bH)
  (hc: ∀ p∈S.lp,p.2=g→w'.heap[g]? =some (.cells (aX (f p.1)) 43 (0,0))) (hg:g∈S.lp.map (·.2)) (ho:fa w' o { S.q with next:=nx }) (hs: ∀ b∈S.boxes ++ S.kids,b≠g→b≠o→w'.heap[b]? =w.heap[b]?):cJ w' base o (S.ju g f nx):=by
 have iH: ∀ x,aR.bt (f x)=aR.bt x:=fun x=>by show (f x).aY.map (·.block)=x.aY.map (·.block); rw [(hf x).2.2.1]
 have hn:=h.nodup;have hno:=(Lp.1 hn).1;have yD:=(Kf.1 (Lp.1 hn).2)
 have jQ:=yD.1;unfold aZ.boxes at jQ;have hin: ∀ b,b∈S.boxes∨b∈S.kids→b≠o:=fun b hb e=>hno (by rw [← e]; exact Kg.2 hb)
 have hp:=Kf.1 jQ;have l9:g∈S.q.bp :: S.lp.map (·.2):=LB _ hg;have hgr: ∀ b,b∈((S.q.bs :: S.ls.map (·.2)) ++ ((S.q.be :: S.le.map (·.2)) ++ ((S.q.bb :: S.lb.map (·.2)) ++ ((S.q.bf :: S.lf.map (·.2)) ++ (S.q.bq :: S.lq.map (·.2))))))→b≠g:=fun b hb e=>hp.2.2 g l9 b hb e.symm
 have EI: ∀ b∈S.kids,b≠g:=fun b hb e=>yD.2.2 g (by unfold aZ.boxes; exact Lz _ l9) b hb e.symm
 have hbp:S.q.bp≠g:=fun e=>by
  have:=(Lp.1 hp.1).1
  rw [e] at this;exact this hg
 have lW: ∀ b,b∈(S.q.bp :: S.lp.map (·.2))→b≠o:=fun b hb=>hin b (.inl (by unfold aZ.boxes; exact Lz _ hb))
 have hbr: ∀ b,b∈((S.q.bs :: S.ls.map (·.2)) ++ ((S.q.be :: S.le.map (·.2)) ++ ((S.q.bb :: S.lb.map (·.2)) ++ ((S.q.bf :: S.lf.map (·.2)) ++ (S.q.bq :: S.lq.map (·.2))))))→w'.heap[b]? =w.heap[b]? :=fun b hb=>hs b (Lz _ (by unfold aZ.boxes; exact Ly _ hb)) (hgr b hb) (hin b (.inl (by unfold aZ.boxes; exact Ly _ hb)))
 have hkk: ∀ b∈S.kids,w'.heap[b]? =w.heap[b]? :=fun b hb=>hs b (Ly _ hb) (EI b hb) (hin b (.inr hb))
 have hmem: ∀ (b:Nat),(b∈kids aR S.lp∨b∈kids aC S.lf∨b∈kids aU S.lq)→b∈S.kids:=fun b hb=>by simp only [aZ.kids,Kg]; exact hb
 refine ⟨ho,h.L8.sU (fun p _ _=>(hf p.1).1) hc (hs _ (Lz _ (by unfold aZ.boxes; exact Lz _ (by simp))) hbp (lW _ (by simp))) (fun b hb hne=>hs b (Lz _ (by unfold aZ.boxes; exact Lz _ (LB _ hb))) hne (lW b (LB _ hb))),h.aj.same fun b hb=>hbr b (Lz _ hb),h.L9.same fun b hb=>hbr b (Ly _ (Lz _ hb)),h.ag.same fun b hb=>hbr b (Ly _ (Ly _ (Lz _ hb))),h.ae.same fun b hb=>hbr b (Ly _ (Ly _ (Ly _ (Lz _ hb)))),h.ai.same fun b hb=>hbr b (Ly _ (Ly _ (Ly _ (Ly _ hb)))),fun p hp'=> ?_,fun p hp'=>(h.eE p hp').same fun b hb=>hkk b (hmem b (.inr (.inl (Lq.2 ⟨p,hp',hb⟩)))),fun p hp'=>(h.eR p hp').same fun b hb=>hkk b (hmem b (.inr (.inr (Lq.2 ⟨p,hp',hb⟩)))),?_,h.low⟩
 ·obtain ⟨r,hr,rfl⟩:=yy.1 hp'
  have hm:aR.cO w' base r.1:=(h.eI r hr).same fun b hb=>hkk b (hmem b (.inl (Lq.2 ⟨r,hr,hb⟩)))
  split
  ·show w'.ownsRow base _ 4 (.slice (f r.1).aY (f r.1).prog.length (f r.1).bH) (f r.1).prog.length (fk.flat (f r.1).prog)
   rw [(hf r.1).2.1,(hf r.1).2.2.1,(hf r.1).2.2.2];exact hm
  ·exact hm
 ·have e1:(S.ju g f nx).boxes=S.boxes:=by simp only [aZ.boxes,aZ.ju,qb]
  have e2:(S.ju g f nx).kids=S.kids:=by simp only [aZ.kids,aZ.ju,GW iH]
  rw [e1,e2];exact hn
theorem aZ.Sb {S:aZ} {g:Nat} {x:ao} {f:ao→ao} {f':aD→aD} {nx:Int} (Sw:S.pure.L8.Pairwise (fun x y=>x.id < y.id)) (hn: ∀ p∈S.lp,p.2=g→p=(x,g)) (hx:(x,g)∈S.lp) (hf: ∀ y,(f y).toaD=f' y.toaD):
  (S.ju g f nx).pure= { S.pure with next:=nx,L8:=ce x.id f' S.pure.L8 } :=by
 have key:(sU g f S.lp).map (·.1.toaD)=ce x.id f' (S.lp.map (·.1.toaD)):=by
  unfold sU ce;rw [Lv,Lv];refine List.map_congr_left fun p hp=> ?_
  simp only [Ls];by_cases hg:p.2=g
  ·have hpx:=hn p hp hg
   subst hpx;rw [if_pos rfl,if_pos rfl];exact hf x
  ·rw [if_neg hg]
   have hne: ¬ p.1.toaD.id=x.id:=fun e=>by
    have h5:S.pure.L8.Pairwise (fun a b=>a.id < b.id):=Sw;have h6:(S.lp.map (·.1.toaD)).Pairwise (fun a b=>a.id < b.id):=h5;rw [List.pairwise_map] at h6;obtain ⟨i,hi⟩:=List.mem_iff_getElem?.1 hp;obtain ⟨j,hj⟩:=List.mem_iff_getElem?.1 hx;obtain ⟨hi1,rfl⟩:=Lj.1 hi;obtain ⟨DS,hj2⟩:=Lj.1 hj;rw [List.pairwise_iff_getElem] at h6;have OG:(S.lp[j]).1.id=x.id:=by rw [hj2]
    rcases Nat.lt_trichotomy i j with hlt | heq | hgt
    ·have h7:(S.lp[i]).1.id < (S.lp[j]).1.id:=h6 i j hi1 DS hlt
     have h8:(S.lp[i]).1.id=x.id:=e;omega
    ·subst heq; exact hg (by rw [hj2])
    ·have h7:(S.lp[j]).1.id < (S.lp[i]).1.id:=h6 j i DS hi1 hgt
     have h8:(S.lp[i]).1.id=x.id:=e;omega
   rw [if_neg hne]
 show ({ S.pure with next:=nx,L8:=(sU g f S.lp).map (·.1.toaD) } :aE)=_
 rw [key];rfl
theorem aI.cell {w:World} {g i:Nat} {v:Value} :aI w (w.setCell ⟨g,i,none⟩ v) [g] :=aI.set (off:=i) [v] (by simp)
theorem aI.row {w:World} {g:Nat} {cs:Array Value} :aI w (w.drew.setRow g cs) [g] :=by
 have h:=below_setRow (g:=g) (Kp 0 w).drew (Ky _) cs;exact ⟨h.os,h.tape,h.output,h.size,fun b _ hn=>KH _ _ _ _ (by simpa using hn)⟩
theorem Sj (g:Nat) (x:ao) (code:Int) (w:World) (h:w.heap[g]? =some (.cells (aX x) 43 (0,0))) (hpc:0≤x.pc∧x.pc < x.prog.length) (hl:x.prog.length≤1048576):
  Calls J3 218 #[.pointer (some ⟨g,0,none⟩),.int .i64 code] w fun e w'=>e= .returned (.tuple #[])∧w'.heap[g]? =some (.cells (aX (fE code x)) 43 (0,0))∧aI w w' [g] :=by
 have h1:(w.setCell ⟨g,10,none⟩ (.int .i64 code)).heap[g]? =some (.cells (aX ({ x with code:=code } :ao)) 43 (0,0)):=cx (i:=10) (v:= .int .i64 code) h;have h2:((w.setCell ⟨g,10,none⟩ (.int .i64 code)).setCell ⟨g,4,none⟩ (.int .i64 (x.pc+1))).heap[g]? =some (.cells (aX ({ x with code:=code,pc:=x.pc+1 } :ao)) 43 (0,0)):=cx (i:=4) (v:= .int .i64 (x.pc+1)) h1;have qF:w.cell? ⟨g,10,none⟩=some (.int .i64 x.code):=(bo h).2.2.2.2.2.2.2.2.2.2.1;have f10:w.frozen? ⟨g,10,none⟩=false:=Ko _ _ _ _ _ h;have c4:(w.setCell ⟨g,10,none⟩ (.int .i64 code)).cell? ⟨g,4,none⟩=some (.int .i64 x.pc):=(bo h1).2.2.2.2.1;have f4:(w.setCell ⟨g,10,none⟩ (.int .i64 code)).frozen? ⟨g,4,none⟩=false:=Ko _ _ _ _ _ h1;obtain ⟨r0,r1,r2,r3,r4,r5,r6,r7,r8,r9,Ju,Jq⟩:=bo h2;have H2:Hid (((w.setCell ⟨g,10,none⟩ (.int .i64 code)).setCell ⟨g,4,none⟩ (.int .i64 (x.pc+1))).heap[g]? =some (.cells (aX ({ x with code:=code,pc:=x.pc+1 } :ao)) 43 (0,0))∧aI w ((w.setCell ⟨g,10,none⟩ (.int .i64 code)).setCell ⟨g,4,none⟩ (.int .i64 (x.pc+1))) [g]):=⟨h2,aI.cell.trans aI.cell⟩
 have Mb:=kn ({ x with code:=code,pc:=x.pc+1 } :ao) ((w.setCell ⟨g,10,none⟩ (.int .i64 code)).setCell ⟨g,4,none⟩ (.int .i64 (x.pc+1))) hl;obtain ⟨n0,n1⟩:=hpc;have n2:x.pc≤1048576:=by omega
 have hv:dU ({ x with code:=code,pc:=x.pc+1 } :ao).toaD=decide (¬ x.pc+1=x.prog.length):=by
  show cv (x.pc+1) 0 ((x.prog.length:Int) - 1)=_
  by_cases e:x.pc+1=x.prog.length
  ·rw [decide_eq_false (by simpa using e)]
   cases h5:cv (x.pc+1) 0 ((x.prog.length:Int) - 1) with
   | false=>rfl
   | true=>have:=bz.1 h5; omega
  ·rw [decide_eq_true e]
   exact bz.2 (by omega)
 rw [hv] at Mb;simp only [aX] at Mb;clear hv h h1 h2 hl n1
 go_enter Tryz.func218,Tryz.ntmps218
 go_wp2_with fail;clear qF f10 c4 f4 r0 r1 r2 r3 r4 r5 r6 r7 r8 r9 Ju Jq;refine Mb.mono ?_;clear Mb;rintro e w3 ⟨rfl,hb3⟩;have H3:Hid (w3.heap[g]? =some (.cells (aX ({ x with code:=code,pc:=x.pc+1 } :ao)) 43 (0,0))∧aI w w3 [g]):=⟨(hb3.block _ (J2.1 H2.I.1).1).trans H2.I.1,H2.I.2.trans (aI.dI hb3)⟩
 clear hb3 H2;by_cases hlen:x.pc+1=x.prog.length
 ·have PE:Hid (fE code x=(⟨j7 (jM code x.toaD),x.aY,x.bH⟩:ao)):=by show fE code x=_; unfold fE jT; rw [if_pos hlen]
  have e1:decide (¬ x.pc+1=x.prog.length)=false:=decide_eq_false (by simpa using hlen);rw [e1];clear hlen e1;go_wp2_with fail;refine (NI g ({ x with code:=code,pc:=x.pc+1 } :ao) w3 H3.I.1).mono ?_;rintro e w4 ⟨rfl,rfl⟩;go_wp2;refine bodyPost_ret (results_none Tryz.results218 _ _ _) rfl ?_;rw [PE.I];exact ⟨rfl,KU _ _ _ _ _ _ H3.I.1,H3.I.2.trans aI.row⟩
 have PE:Hid (fE code x=(⟨jM code x.toaD,x.aY,x.bH⟩:ao)):=by show fE code x=_; unfold fE jT; rw [if_neg hlen]
 have e1:decide (¬ x.pc+1=x.prog.length)=true:=decide_eq_true hlen;rw [e1];clear hlen e1;have c3:=(bo H3.I.1).2.2.2.1;have f3:w3.frozen? ⟨g,3,none⟩=false:=Ko _ _ _ _ _ H3.I.1;have k3:(w3.setCell ⟨g,3,none⟩ (.int .i64 1)).heap[g]? =some (.cells (aX ({ x with code:=code,pc:=x.pc+1,Md:=1 } :ao)) 43 (0,0)):=cx (i:=3) (v:= .int .i64 1) H3.I.1;have c5:=(bo k3).2.2.2.2.2.1;have f5:(w3.setCell ⟨g,3,none⟩ (.int .i64 1)).frozen? ⟨g,5,none⟩=false:=Ko _ _ _ _ _ k3;have k5:((w3.setCell ⟨g,3,none⟩ (.int .i64 1)).setCell ⟨g,5,none⟩ (.int .i64 0)).heap[g]? =some (.cells (aX ({ x with code:=code,pc:=x.pc+1,Md:=1,left:=0 } :ao)) 43 (0,0)):=cx (i:=5) (v:= .int .i64 0) k3;have c6:=(bo k5).2.2.2.2.2.2.1;have f6:((w3.setCell ⟨g,3,none⟩ (.int .i64 1)).setCell ⟨g,5,none⟩ (.int .i64 0)).frozen? ⟨g,6,none⟩=false:=Ko _ _ _ _ _ k5;have k6:(((w3.setCell ⟨g,3,none⟩ (.int .i64 1)).setCell ⟨g,5,none⟩ (.int .i64 0)).setCell ⟨g,6,none⟩ (.int .i64 0)).heap[g]? =some (.cells (aX ({ x with code:=code,pc:=x.pc+1,Md:=1,left:=0,Mg:=0 } :ao)) 43 (0,0)):=cx (i:=6) (v:= .int .i64 0) k5;have c7:=(bo k6).2.2.2.2.2.2.2.1;have f7:(((w3.setCell ⟨g,3,none⟩ (.int .i64 1)).setCell ⟨g,5,none⟩ (.int .i64 0)).setCell ⟨g,6,none⟩ (.int .i64 0)).frozen? ⟨g,7,none⟩=false:=Ko _ _ _ _ _ k6;have k7:((((w3.setCell ⟨g,3,none⟩ (.int .i64 1)).setCell ⟨g,5,none⟩ (.int .i64 0)).setCell ⟨g,6,none⟩ (.int .i64 0)).setCell ⟨g,7,none⟩ (.int .i64 0)).heap[g]? =some (.cells (aX ({ x with code:=code,pc:=x.pc+1,Md:=1,left:=0,Mg:=0,on:=0 } :ao)) 43 (0,0)):=cx (i:=7) (v:= .int .i64 0) k6;have c8:=(bo k7).2.2.2.2.2.2.2.2.1;have f8:((((w3.setCell ⟨g,3,none⟩ (.int .i64 1)).setCell ⟨g,5,none⟩ (.int .i64 0)).setCell ⟨g,6,none⟩ (.int .i64 0)).setCell ⟨g,7,none⟩ (.int .i64 0)).frozen? ⟨g,8,none⟩=false:=Ko _ _ _ _ _ k7;have k8:(((((w3.setCell ⟨g,3,none⟩ (.int .i64 1)).setCell ⟨g,5,none⟩ (.int .i64 0)).setCell ⟨g,6,none⟩ (.int .i64 0)).setCell ⟨g,7,none⟩ (.int .i64 0)).setCell ⟨g,8,none⟩ (.string ⟨#[]⟩)).heap[g]? =some (.cells (aX ({ x with code:=code,pc:=x.pc+1,Md:=1,left:=0,Mg:=0,on:=0,held:=rM } :ao)) 43 (0,0)):=cx (i:=8) (v:= .string ⟨#[]⟩) k7;have HF:Hid ((((((w3.setCell ⟨g,3,none⟩ (.int .i64 1)).setCell ⟨g,5,none⟩ (.int .i64 0)).setCell ⟨g,6,none⟩ (.int .i64 0)).setCell ⟨g,7,none⟩ (.int .i64 0)).setCell ⟨g,8,none⟩ (.string ⟨#[]⟩)).heap[g]? =some (.cells (aX (⟨jM code x.toaD,x.aY,x.bH⟩:ao)) 43 (0,0))∧aI w (((((w3.setCell ⟨g,3,none⟩ (.int .i64 1)).setCell ⟨g,5,none⟩ (.int .i64 0)).setCell ⟨g,6,none⟩ (.int .i64 0)).setCell ⟨g,7,none⟩ (.int .i64 0)).setCell ⟨g,8,none⟩ (.string ⟨#[]⟩)) [g]):=⟨k8,(((((H3.I.2.trans aI.cell).trans aI.cell).trans aI.cell).trans aI.cell).trans aI.cell)⟩
 clear k3 k5 k6 k7 k8;go_wp2
 go_end0
 rw [PE.I];exact ⟨rfl,HF.I.1,HF.I.2⟩
theorem Sv (o g base:Nat) (S:aZ) (x:ao) (code:Int) (w:World) (h:cJ w base o S) (lY:base≤w.heap.size) (hx:(x,g)∈S.lp) (n0:0≤S.q.next) (n1:S.q.next≤1000000000) (hpc:0≤x.pc∧x.pc < x.prog.length) (hl:x.prog.length≤1048576):
  Calls J3 187 #[.pointer (some ⟨o,0,none⟩),.pointer (some ⟨g,0,none⟩),.int .i64 code] w fun e w'=>e= .returned (.tuple #[])∧cJ w' base o (S.ju g (pF S.q.next code) (gf S.q.next x.toaD))∧Below base w w':=by
 have hgb:w.heap[g]? =some (.cells (aX x) 43 (0,0)):=h.L8.box (x,g) hx;have bR:g∈S.lp.map (·.2):=List.mem_map.2 ⟨(x,g),hx,rfl⟩;have hno: ¬ o=g:=fun e=>by
  have h5:=(Lp.1 h.nodup).1;exact h5 (by rw [e]; simp only [aZ.boxes,Kg,List.mem_cons]; exact .inl (.inl (.inr bR)))
 have hgl:base≤g:=h.L8.low g (LB _ bR);have HC:Hid (cJ w base o S∧(x,g)∈S.lp∧g∈S.lp.map (·.2)∧base≤g∧base≤w.heap.size∧ ¬ o=g∧o < w.heap.size):=⟨h,hx,bR,hgl,lY,hno,(J2.1 h.opn).1⟩
 have Mb:=Sj g x code w hgb hpc hl;clear hgb bR hgl h hx lY hpc hl
 go_enter Tryz.func187,Tryz.ntmps187
 go_wp2_with fail;refine Mb.mono ?_;clear Mb;rintro e w1 ⟨rfl,CT,hk1⟩;have H1:Hid (w1.heap[g]? =some (.cells (aX (fE code x)) 43 (0,0))∧aI w w1 [g] ∧fa w1 o S.q):=⟨CT,hk1,(hk1.same o HC.I.2.2.2.2.2.2 (by simpa using HC.I.2.2.2.2.2.1)).trans HC.I.1.opn⟩
 have s3:=(bo CT).2.2.2.1;clear CT hk1;by_cases hlen:x.pc+1=x.prog.length
 ·have e1:((fE code x).Md == 1)=false:=by show ((jT code x.toaD).Md == 1)=false; unfold jT; rw [if_pos hlen]; rfl
  have HE:Hid (gf S.q.next x.toaD=S.q.next∧pF S.q.next code x=fE code x):=by show _∧_; unfold gf pF fE iY jT; rw [if_pos hlen,if_pos hlen,if_pos hlen]; exact ⟨rfl,rfl⟩
  clear hlen;go_wp2
  go_end0
  have hlt: ∀ b∈S.boxes ++ S.kids,b < w.heap.size:=fun b hb=>HC.I.1.lt b (LB _ hb)
  exact ⟨rfl,HC.I.1.SA (fun y=>⟨(rD _ _ _).1,(rD _ _ _).2,rfl,rfl⟩) (fun p hp hpg=>by have e:=HC.I.1.L8.one hp HC.I.2.1 hpg; subst e; rw [HE.I.2]; exact H1.I.1) HC.I.2.2.1 (by rw [HE.I.1]; exact H1.I.2.2) (fun b hb h5 h6=>H1.I.2.1.same b (hlt b hb) (by simpa using h5)),H1.I.2.1.below HC.I.2.2.2.2.1 (by simpa using HC.I.2.2.2.1)⟩
 have e1:((fE code x).Md == 1)=true:=by show ((jT code x.toaD).Md == 1)=true; unfold jT; rw [if_neg hlen]; rfl
 have HE:Hid (gf S.q.next x.toaD=S.q.next+1∧pF S.q.next code x= { fE code x with RU:=S.q.next }):=by show _∧_; unfold gf pF fE iY jT; rw [if_neg hlen,if_neg hlen,if_neg hlen]; exact ⟨rfl,rfl⟩
 clear hlen;have Mb:=wE o g S.q.next w1 (H1.I.2.2.cell 1) (Ko _ _ _ _ _ H1.I.2.2) ⟨_,(bo H1.I.1).2.2.2.2.2.2.2.2.2.2.2⟩ (Ko _ _ _ _ _ H1.I.1) hno n0 n1;go_wp2_with fail;refine Mb.mono ?_;clear Mb s3 e1;rintro e w2 ⟨rfl,rfl⟩;have HF:Hid (cJ ((w1.setCell ⟨g,11,none⟩ (.int .i64 S.q.next)).setCell ⟨o,1,none⟩ (.int .i64 (S.q.next+1))) base o (S.ju g (pF S.q.next code) (gf S.q.next x.toaD))∧Below base w ((w1.setCell ⟨g,11,none⟩ (.int .i64 S.q.next)).setCell ⟨o,1,none⟩ (.int .i64 (S.q.next+1)))):=by
  have hlt: ∀ b∈S.boxes ++ S.kids,b < w.heap.size:=fun b hb=>HC.I.1.lt b (LB _ hb)
  have hg3:((w1.setCell ⟨g,11,none⟩ (.int .i64 S.q.next)).setCell ⟨o,1,none⟩ (.int .i64 (S.q.next+1))).heap[g]? =some (.cells (aX ({ fE code x with RU:=S.q.next } :ao)) 43 (0,0)):=(aH (fun e=>HC.I.2.2.2.2.2.1 e.symm:g≠o)).trans (cx (i:=11) (v:= .int .i64 S.q.next) H1.I.1);have Bn:fa ((w1.setCell ⟨g,11,none⟩ (.int .i64 S.q.next)).setCell ⟨o,1,none⟩ (.int .i64 (S.q.next+1))) o { S.q with next:=S.q.next+1 } :=by
   have h5:(w1.setCell ⟨g,11,none⟩ (.int .i64 S.q.next)).heap[o]? =_:=(aH HC.I.2.2.2.2.2.1).trans H1.I.2.2;exact cx (i:=1) (v:= .int .i64 (S.q.next+1)) h5
  exact ⟨HC.I.1.SA (fun y=>⟨(rD _ _ _).1,(rD _ _ _).2,rfl,rfl⟩) (fun p hp hpg=>by have e:=HC.I.1.L8.one hp HC.I.2.1 hpg; subst e; rw [HE.I.2]; exact hg3) HC.I.2.2.1 (by rw [HE.I.1]; exact Bn) (fun b hb h5 h6=>(aH h6).trans ((aH h5).trans (H1.I.2.1.same b (hlt b hb) (by simpa using h5)))),bP (bP (H1.I.2.1.below HC.I.2.2.2.2.1 (by simpa using HC.I.2.2.2.1)) HC.I.2.2.2.1) HC.I.1.low⟩
 go_wp2
 go_end0
 exact ⟨rfl,HF.I.1,HF.I.2⟩
end
end Go.Proofs.YtkbcplnlehdjfaaGreat
