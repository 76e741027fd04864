/- What the proof leans on, part 9: HasW, SoPort, SoBuffer, SoBoard, SoSem, SoEvent, KdProc. -/
import Derived.Test.YtkbcplnlehdjfaaGreatOwnB1
import Derived.Test.YtkbcplnlehdjfaaGreatOwnB6
import Derived.Test.YtkbcplnlehdjfaaGreatOwnB7
import Derived.Test.YtkbcplnlehdjfaaGreatOwnB8
set_option maxRecDepth 100000
set_option maxHeartbeats 8000000

namespace Go.Proofs.YtkbcplnlehdjfaaGreat
open Go.RowKit
attribute [local go_sem ↓] Go.wp_at_zero Go.wp_at_succ
theorem AE {w w':World} {o X:Nat} {q:ol} {x:ao} {ms me mb mf:df} (h:fv w w' o X q x ms me mb mf):(w'.cell? ⟨o,4,none⟩=some (.int .i64 5)∧w'.cell? ⟨o,5,none⟩=some (.map (some q.bs))∧w'.cell? ⟨X,7,none⟩=some (.int .i64 x.on))∧Hid (fv w w' o X q x ms me mb mf):=
 ⟨⟨h.opn.cell 4,h.opn.cell 5,(bo h.box).2.2.2.2.2.2.2.1⟩,h⟩
theorem ER (o X:Nat) (q:ol) (x:ao) (ms me mb mf:df) (w:World) (h:fv w w o X q x ms me mb mf) (hw:(Lit.int .i64 x.on).wf=true) (hs:x.state=3):
  Calls Tryz.prog 203 #[.pointer (some ⟨o,0,none⟩),.pointer (some ⟨X,0,none⟩)] w fun e w'=>e= .returned (.bool (ft ms me mb mf x))∧Below w.heap.size w w':=by
 have H:Hid (fv w w o X q x ms me mb mf):=h
 have HW:Hid ((Lit.int .i64 x.on).wf=true):=hw
 have HV:Hid (ft ms me mb mf x=(cy ms x.on).isSome):=by show ft ms me mb mf x=_; simp [ft,hs]
 have k3:w.cell? ⟨X,3,none⟩=some (.int .i64 3):=by rw [(bo h.box).2.2.2.1,hs]
 clear h hw hs
 go_enter Tryz.func203,Tryz.ntmps203
 go_wp2_with fail
 clear k3
 refine aT (fun w'=>(w'.cell? ⟨o,4,none⟩=some (.int .i64 5)∧w'.cell? ⟨o,5,none⟩=some (.map (some q.bs))∧w'.cell? ⟨X,7,none⟩=some (.int .i64 x.on))∧Hid (fv w w' o X q x ms me mb mf)) (by kernel_rfl) (AE H.out.drew) ?_
 iterate 8 (refine yl (v:= ?_) ?_ ?_; rotate_left; (intro w0 hS0; obtain ⟨⟨q0,q1,q2⟩,hH⟩:=hS0; go_simp; try with_reducible rfl); simp only [pt,sb,s0,s1])
 refine cl (.bool (cy ms x.on).isSome) 175 #[.agg #[.int .i64 5,.map (some q.bs)],.int .i64 x.on] ?_ ?_ ?_
 ·intro w0 hS0
  obtain ⟨⟨q0,q1,q2⟩,hH⟩:=hS0
  go_simp
  try with_reducible rfl
 ·intro w0 hS0
  refine (vv 5 q.bs ms x.on w0 hS0.2.out.ms HW.out).mono ?_
  rintro e w2 ⟨rfl,hb2⟩
  exact ⟨rfl,AE (hS0.2.out.below hb2)⟩
 simp only [pt,sb,s0,s1]
 (refine yl (v:= ?_) ?_ ?_; rotate_left; (intro w0 hS0; obtain ⟨⟨q0,q1,q2⟩,hH⟩:=hS0; go_simp; try with_reducible rfl); simp only [pt,sb,s0,s1])
 refine bk (by kernel_rfl) ?_ _
 intro w1 cm
 go_wp2
 go_ret
 exact ⟨al HV.out.symm,cm.2.out.cd⟩
theorem BQ {w w':World} {o X:Nat} {q:ol} {x:ao} {ms me mb mf:df} (h:fv w w' o X q x ms me mb mf):(w'.cell? ⟨o,6,none⟩=some (.int .i64 5)∧w'.cell? ⟨o,7,none⟩=some (.map (some q.be))∧w'.cell? ⟨X,7,none⟩=some (.int .i64 x.on))∧Hid (fv w w' o X q x ms me mb mf):=
 ⟨⟨h.opn.cell 6,h.opn.cell 7,(bo h.box).2.2.2.2.2.2.2.1⟩,h⟩
theorem Ef (o X:Nat) (q:ol) (x:ao) (ms me mb mf:df) (w:World) (h:fv w w o X q x ms me mb mf) (hw:(Lit.int .i64 x.on).wf=true) (hs:x.state=4):
  Calls Tryz.prog 203 #[.pointer (some ⟨o,0,none⟩),.pointer (some ⟨X,0,none⟩)] w fun e w'=>e= .returned (.bool (ft ms me mb mf x))∧Below w.heap.size w w':=by
 have H:Hid (fv w w o X q x ms me mb mf):=h
 have HW:Hid ((Lit.int .i64 x.on).wf=true):=hw
 have HV:Hid (ft ms me mb mf x=(cy me x.on).isSome):=by show ft ms me mb mf x=_; simp [ft,hs]
 have k3:w.cell? ⟨X,3,none⟩=some (.int .i64 4):=by rw [(bo h.box).2.2.2.1,hs]
 clear h hw hs
 go_enter Tryz.func203,Tryz.ntmps203
 go_wp2_with fail
 clear k3
 refine aT (fun w'=>(w'.cell? ⟨o,6,none⟩=some (.int .i64 5)∧w'.cell? ⟨o,7,none⟩=some (.map (some q.be))∧w'.cell? ⟨X,7,none⟩=some (.int .i64 x.on))∧Hid (fv w w' o X q x ms me mb mf)) (by kernel_rfl) (BQ H.out.drew) ?_
 iterate 8 (refine yl (v:= ?_) ?_ ?_; rotate_left; (intro w0 hS0; obtain ⟨⟨q0,q1,q2⟩,hH⟩:=hS0; go_simp; try with_reducible rfl); simp only [pt,sb,s0,s1])
 refine cl (.bool (cy me x.on).isSome) 176 #[.agg #[.int .i64 5,.map (some q.be)],.int .i64 x.on] ?_ ?_ ?_
 ·intro w0 hS0
  obtain ⟨⟨q0,q1,q2⟩,hH⟩:=hS0
  go_simp
  try with_reducible rfl
 ·intro w0 hS0
  refine (qQ 5 q.be me x.on w0 hS0.2.out.me HW.out).mono ?_
  rintro e w2 ⟨rfl,hb2⟩
  exact ⟨rfl,BQ (hS0.2.out.below hb2)⟩
 simp only [pt,sb,s0,s1]
 (refine yl (v:= ?_) ?_ ?_; rotate_left; (intro w0 hS0; obtain ⟨⟨q0,q1,q2⟩,hH⟩:=hS0; go_simp; try with_reducible rfl); simp only [pt,sb,s0,s1])
 refine bk (by kernel_rfl) ?_ _
 intro w1 cm
 go_wp2
 go_ret
 exact ⟨al HV.out.symm,cm.2.out.cd⟩
theorem B8 {w w':World} {o X:Nat} {q:ol} {x:ao} {ms me mb mf:df} (h:fv w w' o X q x ms me mb mf):(w'.cell? ⟨o,10,none⟩=some (.int .i64 5)∧w'.cell? ⟨o,11,none⟩=some (.map (some q.bf))∧w'.cell? ⟨X,7,none⟩=some (.int .i64 x.on))∧Hid (fv w w' o X q x ms me mb mf):=
 ⟨⟨h.opn.cell 10,h.opn.cell 11,(bo h.box).2.2.2.2.2.2.2.1⟩,h⟩
theorem E6 (o X:Nat) (q:ol) (x:ao) (ms me mb mf:df) (w:World) (h:fv w w o X q x ms me mb mf) (hw:(Lit.int .i64 x.on).wf=true) (hs:x.state=5):
  Calls Tryz.prog 203 #[.pointer (some ⟨o,0,none⟩),.pointer (some ⟨X,0,none⟩)] w fun e w'=>e= .returned (.bool (ft ms me mb mf x))∧Below w.heap.size w w':=by
 have H:Hid (fv w w o X q x ms me mb mf):=h
 have HW:Hid ((Lit.int .i64 x.on).wf=true):=hw
 have HV:Hid (ft ms me mb mf x=(cy mf x.on).isSome):=by show ft ms me mb mf x=_; simp [ft,hs]
 have k3:w.cell? ⟨X,3,none⟩=some (.int .i64 5):=by rw [(bo h.box).2.2.2.1,hs]
 clear h hw hs
 go_enter Tryz.func203,Tryz.ntmps203
 go_wp2_with fail
 clear k3
 refine aT (fun w'=>(w'.cell? ⟨o,10,none⟩=some (.int .i64 5)∧w'.cell? ⟨o,11,none⟩=some (.map (some q.bf))∧w'.cell? ⟨X,7,none⟩=some (.int .i64 x.on))∧Hid (fv w w' o X q x ms me mb mf)) (by kernel_rfl) (B8 H.out.drew) ?_
 iterate 8 (refine yl (v:= ?_) ?_ ?_; rotate_left; (intro w0 hS0; obtain ⟨⟨q0,q1,q2⟩,hH⟩:=hS0; go_simp; try with_reducible rfl); simp only [pt,sb,s0,s1])
 refine cl (.bool (cy mf x.on).isSome) 178 #[.agg #[.int .i64 5,.map (some q.bf)],.int .i64 x.on] ?_ ?_ ?_
 ·intro w0 hS0
  obtain ⟨⟨q0,q1,q2⟩,hH⟩:=hS0
  go_simp
  try with_reducible rfl
 ·intro w0 hS0
  refine (mF 5 q.bf mf x.on w0 hS0.2.out.mf HW.out).mono ?_
  rintro e w2 ⟨rfl,hb2⟩
  exact ⟨rfl,B8 (hS0.2.out.below hb2)⟩
 simp only [pt,sb,s0,s1]
 (refine yl (v:= ?_) ?_ ?_; rotate_left; (intro w0 hS0; obtain ⟨⟨q0,q1,q2⟩,hH⟩:=hS0; go_simp; try with_reducible rfl); simp only [pt,sb,s0,s1])
 refine bk (by kernel_rfl) ?_ _
 intro w1 cm
 go_wp2
 go_ret
 exact ⟨al HV.out.symm,cm.2.out.cd⟩
theorem AH {w w':World} {o X:Nat} {q:ol} {x:ao} {ms me mb mf:df} (h:fv w w' o X q x ms me mb mf):(w'.cell? ⟨o,10,none⟩=some (.int .i64 5)∧w'.cell? ⟨o,11,none⟩=some (.map (some q.bf))∧w'.cell? ⟨X,7,none⟩=some (.int .i64 x.on))∧Hid (fv w w' o X q x ms me mb mf):=
 ⟨⟨h.opn.cell 10,h.opn.cell 11,(bo h.box).2.2.2.2.2.2.2.1⟩,h⟩
theorem Fg (o X:Nat) (q:ol) (x:ao) (ms me mb mf:df) (w:World) (h:fv w w o X q x ms me mb mf) (hw:(Lit.int .i64 x.on).wf=true) (hs:x.state=6):
  Calls Tryz.prog 203 #[.pointer (some ⟨o,0,none⟩),.pointer (some ⟨X,0,none⟩)] w fun e w'=>e= .returned (.bool (ft ms me mb mf x))∧Below w.heap.size w w':=by
 have H:Hid (fv w w o X q x ms me mb mf):=h
 have HW:Hid ((Lit.int .i64 x.on).wf=true):=hw
 have HV:Hid (ft ms me mb mf x=(cy mf x.on).isSome):=by show ft ms me mb mf x=_; simp [ft,hs]
 have k3:w.cell? ⟨X,3,none⟩=some (.int .i64 6):=by rw [(bo h.box).2.2.2.1,hs]
 clear h hw hs
 go_enter Tryz.func203,Tryz.ntmps203
 go_wp2_with fail
 clear k3
 refine aT (fun w'=>(w'.cell? ⟨o,10,none⟩=some (.int .i64 5)∧w'.cell? ⟨o,11,none⟩=some (.map (some q.bf))∧w'.cell? ⟨X,7,none⟩=some (.int .i64 x.on))∧Hid (fv w w' o X q x ms me mb mf)) (by kernel_rfl) (AH H.out.drew) ?_
 iterate 8 (refine yl (v:= ?_) ?_ ?_; rotate_left; (intro w0 hS0; obtain ⟨⟨q0,q1,q2⟩,hH⟩:=hS0; go_simp; try with_reducible rfl); simp only [pt,sb,s0,s1])
 refine cl (.bool (cy mf x.on).isSome) 178 #[.agg #[.int .i64 5,.map (some q.bf)],.int .i64 x.on] ?_ ?_ ?_
 ·intro w0 hS0
  obtain ⟨⟨q0,q1,q2⟩,hH⟩:=hS0
  go_simp
  try with_reducible rfl
 ·intro w0 hS0
  refine (mF 5 q.bf mf x.on w0 hS0.2.out.mf HW.out).mono ?_
  rintro e w2 ⟨rfl,hb2⟩
  exact ⟨rfl,AH (hS0.2.out.below hb2)⟩
 simp only [pt,sb,s0,s1]
 (refine yl (v:= ?_) ?_ ?_; rotate_left; (intro w0 hS0; obtain ⟨⟨q0,q1,q2⟩,hH⟩:=hS0; go_simp; try with_reducible rfl); simp only [pt,sb,s0,s1])
 refine bk (by kernel_rfl) ?_ _
 intro w1 cm
 go_wp2
 go_ret
 exact ⟨al HV.out.symm,cm.2.out.cd⟩
theorem zR {w w':World} {o X:Nat} {q:ol} {x:ao} {ms me mb mf:df} (h:fv w w' o X q x ms me mb mf):(w'.cell? ⟨o,8,none⟩=some (.int .i64 5)∧w'.cell? ⟨o,9,none⟩=some (.map (some q.bb))∧w'.cell? ⟨X,7,none⟩=some (.int .i64 x.on))∧Hid (fv w w' o X q x ms me mb mf):=
 ⟨⟨h.opn.cell 8,h.opn.cell 9,(bo h.box).2.2.2.2.2.2.2.1⟩,h⟩
theorem EW (o X:Nat) (q:ol) (x:ao) (ms me mb mf:df) (w:World) (h:fv w w o X q x ms me mb mf) (hw:(Lit.int .i64 x.on).wf=true) (hs:x.state=7):
  Calls Tryz.prog 203 #[.pointer (some ⟨o,0,none⟩),.pointer (some ⟨X,0,none⟩)] w fun e w'=>e= .returned (.bool (ft ms me mb mf x))∧Below w.heap.size w w':=by
 have H:Hid (fv w w o X q x ms me mb mf):=h
 have HW:Hid ((Lit.int .i64 x.on).wf=true):=hw
 have HV:Hid (ft ms me mb mf x=(cy mb x.on).isSome):=by show ft ms me mb mf x=_; simp [ft,hs]
 have k3:w.cell? ⟨X,3,none⟩=some (.int .i64 7):=by rw [(bo h.box).2.2.2.1,hs]
 clear h hw hs
 go_enter Tryz.func203,Tryz.ntmps203
 go_wp2_with fail
 clear k3
 refine aT (fun w'=>(w'.cell? ⟨o,8,none⟩=some (.int .i64 5)∧w'.cell? ⟨o,9,none⟩=some (.map (some q.bb))∧w'.cell? ⟨X,7,none⟩=some (.int .i64 x.on))∧Hid (fv w w' o X q x ms me mb mf)) (by kernel_rfl) (zR H.out.drew) ?_
 iterate 8 (refine yl (v:= ?_) ?_ ?_; rotate_left; (intro w0 hS0; obtain ⟨⟨q0,q1,q2⟩,hH⟩:=hS0; go_simp; try with_reducible rfl); simp only [pt,sb,s0,s1])
 refine cl (.bool (cy mb x.on).isSome) 177 #[.agg #[.int .i64 5,.map (some q.bb)],.int .i64 x.on] ?_ ?_ ?_
 ·intro w0 hS0
  obtain ⟨⟨q0,q1,q2⟩,hH⟩:=hS0
  go_simp
  try with_reducible rfl
 ·intro w0 hS0
  refine (rC 5 q.bb mb x.on w0 hS0.2.out.mb HW.out).mono ?_
  rintro e w2 ⟨rfl,hb2⟩
  exact ⟨rfl,zR (hS0.2.out.below hb2)⟩
 simp only [pt,sb,s0,s1]
 (refine yl (v:= ?_) ?_ ?_; rotate_left; (intro w0 hS0; obtain ⟨⟨q0,q1,q2⟩,hH⟩:=hS0; go_simp; try with_reducible rfl); simp only [pt,sb,s0,s1])
 refine bk (by kernel_rfl) ?_ _
 intro w1 cm
 go_wp2
 go_ret
 exact ⟨al HV.out.symm,cm.2.out.cd⟩
theorem zH (o X:Nat) (q:ol) (x:ao) (ms me mb mf:df) (w:World) (h:fv w w o X q x ms me mb mf) (h3: ¬ x.state=3) (h4: ¬ x.state=4) (h5: ¬ x.state=5) (h6: ¬ x.state=6) (h7: ¬ x.state=7):
  Calls Tryz.prog 203 #[.pointer (some ⟨o,0,none⟩),.pointer (some ⟨X,0,none⟩)] w fun e w'=>e= .returned (.bool (ft ms me mb mf x))∧Below w.heap.size w w':=by
 have HV:Hid (ft ms me mb mf x=true):=by show ft ms me mb mf x=true; simp [ft,h3,h4,h5,h6,h7]
 have k3:=(bo h.box).2.2.2.1
 have s3:(x.state == 3)=false:=by simp [h3]
 have s4:(x.state == 4)=false:=by simp [h4]
 have s5:(x.state == 5)=false:=by simp [h5]
 have s6:(x.state == 6)=false:=by simp [h6]
 have s7:(x.state == 7)=false:=by simp [h7]
 clear h h3 h4 h5 h6 h7
 go_enter Tryz.func203,Tryz.ntmps203
 go_wp2
 go_ret
 exact ⟨al HV.out.symm,Below.refl _ _⟩
theorem Aq (o X:Nat) (q:ol) (x:ao) (ms me mb mf:df) (w:World) (h:fv w w o X q x ms me mb mf) (hw:(Lit.int .i64 x.on).wf=true):
  Calls Tryz.prog 203 #[.pointer (some ⟨o,0,none⟩),.pointer (some ⟨X,0,none⟩)] w fun e w'=>e= .returned (.bool (ft ms me mb mf x))∧Below w.heap.size w w':=by
 by_cases h3:x.state=3
 ·exact ER o X q x ms me mb mf w h hw h3
 by_cases h4:x.state=4
 ·exact Ef o X q x ms me mb mf w h hw h4
 by_cases h5:x.state=5
 ·exact E6 o X q x ms me mb mf w h hw h5
 by_cases h6:x.state=6
 ·exact Fg o X q x ms me mb mf w h hw h6
 by_cases h7:x.state=7
 ·exact EW o X q x ms me mb mf w h hw h7
 exact zH o X q x ms me mb mf w h h3 h4 h5 h6 h7
def GN (w:World) (most:Int) (list:List aM) (k:Nat) (wr:World):Prop:=
 ∃ l:List (aM × Nat),l.map (·.1)=list.take k∧eS cY (fun x:aM=>x.id) 61 125 w wr most l∧aw (fun x:aM=>x.id) (fun x:aM=>dj x.todP) 0 (list.take k)=true∧(k:Int)≤max most 0
theorem tr (a:Option Addr) (list:List aM) (cap:Nat) (most:Int) (w:World) (hl:list.length≤1048576) (h:bZ.bU w a list) (hf: ∀ x∈list,jb w x) (hw: ∀ x∈list,(Lit.int .i64 x.id).wf=true):
  Calls Tryz.prog 152 #[.slice a list.length cap,.int .i64 most] w fun e w'=>jG cY (fun x:aM=>x.id) 61 w most (aw (fun x:aM=>x.id) (fun x:aM=>dj x.todP) 0 list && decide ((list.length:Int)≤max most 0)) list e w':=by
 have hmk:=run_makeMap (P:=Tryz.prog) 123
 have hmn:=nZ
 have H0:Hid (eS cY (fun x:aM=>x.id) 61 125 w (((w.alloc (.cells #[.int .i64 0,.map none] 125)).alloc (.map #[] 0)).alloc (.cells #[.int .i64 most,.map (some (w.heap.size+1))] 125)) most []):=eS.start 125 w most
 have HL:Hid (bZ.bU w a list∧(∀ x∈list,jb w x)∧ ∀ x∈list,(Lit.int .i64 x.id).wf=true):=⟨h,hf,hw⟩
 clear h hf hw
 go_enter Tryz.func152,Tryz.ntmps152
 go_wp2_with fail
 go_loopw [7,15] (fun last i wr=> ∃ k:Nat,k≤list.length∧i= .int .i64 k∧last= .int .i64 (bW (fun x:aM=>x.id) 0 (list.take k))∧Hid (GN w most list k wr)) (fun _ i _=>list.length - (intOf i).toNat)
 case atStart=>exact ⟨0,Nat.zero_le _,rfl,rfl,⟨[],by simp,H0.out,rfl,by simp; omega⟩⟩
 case round=>
  clear H0 hmk
  obtain ⟨k,hk,rfl,rfl,HA⟩:=hrel
  obtain ⟨l,hlm,hin,oT,hkm⟩:=HA.out
  have HT:Hid (l.map (·.1)=list.take k∧aw (fun x:aM=>x.id) (fun x:aM=>dj x.todP) 0 (list.take k)=true∧(k:Int)≤max most 0):=⟨hlm,oT,hkm⟩
  have HI:Hid (eS cY (fun x:aM=>x.id) 61 125 w wr most l):=hin
  clear HA hlm hin oT hkm
  by_cases hlt:k < list.length
  ·have i0:(0:Int)≤(k:Int):=by omega
   have i1:(k:Int) < (list.length:Int):=by omega
   obtain ⟨x,hx⟩: ∃ x,list[k]? =some x:=⟨_,List.getElem?_eq_getElem hlt⟩
   have hmem:=List.mem_of_getElem? hx
   have HX:Hid (list[k]? =some x):=hx
   have HF:Hid (jb w x∧(Lit.int .i64 x.id).wf=true):=⟨HL.out.2.1 x hmem,HL.out.2.2 x hmem⟩
   obtain ⟨gs,ha,hat⟩:=lj (HL.out.1.below HI.out.cd) hx
   obtain ⟨c0,c1,c2,c3,c4⟩:=hat
   subst ha
   clear hx hmem
   go_wp2_with fail
   refine (iM x _).mono ?_
   rintro e w2 ⟨rfl,hb2⟩
   have jA:Hid (eS cY (fun x:aM=>x.id) 61 125 w w2 most l):=(HI.out.below ((Below.refl _ wr).alloc (Nat.le_refl _) (.cells #[.int .i64 x.id,.bool x.out,.bool x.queue,.int .i64 x.max,.slice x.ak x.items.length x.aq] 61))).below hb2
   have HB:Hid (w2.heap[wr.heap.size]? =some (.cells (cY x) 61 (0,0))):=(hb2.block _ (by simp)).trans (heap_alloc_new _ _)
   have HZ:Hid (w.heap.size+1 < wr.heap.size):=by show w.heap.size+1 < wr.heap.size; have:=(Array.getElem?_eq_some_iff.1 HI.out.var).1; omega
   clear hb2 HI c0 c1 c2 c3 c4
   obtain ⟨d0,d1,d2,d3,d4⟩:=gB HB.out
   obtain ⟨r0,r1,v0,v1,z0,z1⟩:=jA.out.cells
   by_cases hle:x.id≤bW (fun x:aM=>x.id) 0 (list.take k)
   ·have HN:Hid ((aw (fun x:aM=>x.id) (fun x:aM=>dj x.todP) 0 list && decide ((list.length:Int)≤max most 0))=false):=by
     show _=false
     rw [bS HX.out (fun hh=>absurd hh.2.1 (by show ¬ bW (fun x:aM=>x.id) 0 (list.take k) < x.id; omega))]; rfl
    go_wp2
    refine bodyPost_ret (v:= .tuple #[.agg #[.int .i64 0,.map none],.bool false]) (by simp [results,Tryz.results152,go_sem, *]) rfl ?_
    exact ⟨(jA.out.ll _ _).2,.inl ⟨HN.out,rfl⟩⟩
   have j5:Hid (bW (fun x:aM=>x.id) 0 (list.take k) < x.id):=by show _ < _; omega
   have hkl:(keysOf (fun x:aM=>x.id) l).length≤1048576:=by
    rw [bY]
    have:=congrArg List.length HT.out.1
    simp only [List.length_map,List.length_take] at this
    omega
   go_wp2_with fail
   refine (sU most (w.heap.size+1) (keysOf (fun x:aM=>x.id) l) x w2 jA.out.eh.map HF.out.2 hkl (HF.out.1.below jA.out.cd)).mono ?_
   rintro e w3 ⟨rfl,hno,fq⟩
   cases fW:iH most (keysOf (fun x:aM=>x.id) l) x.id (dj x.todP) with
   | false=>
    have HN:Hid ((aw (fun x:aM=>x.id) (fun x:aM=>dj x.todP) 0 list && decide ((list.length:Int)≤max most 0))=false):=iB HX.out HT.out.1 HT.out.2.1 j5.out fW
    have AP:Hid (eS cY (fun x:aM=>x.id) 61 125 w w3 most l):=jA.out.below (hno fW)
    clear hno fq fW jA r0 r1 v0 v1 z0 z1 d0 d1 d2 d3 d4 HB
    obtain ⟨r0,r1,v0,v1,z0,z1⟩:=AP.out.cells
    go_wp2
    refine bodyPost_ret (v:= .tuple #[.agg #[.int .i64 0,.map none],.bool false]) (by simp [results,Tryz.results152,go_sem, *]) rfl ?_
    exact ⟨(AP.out.ll _ _).2,.inl ⟨HN.out,rfl⟩⟩
   | true=>
    have HY:Hid (aw (fun x:aM=>x.id) (fun x:aM=>dj x.todP) 0 (list.take (k+1))=true∧((k+1:Nat):Int)≤max most 0):=g7 HX.out HT.out.1 HT.out.2.1 j5.out fW
    obtain ⟨g,ou⟩:=jA.out.lay (x:=x) (e:= .returned (.bool true)) (w':=w3) ⟨rfl,(fun h=>by cases h),fun _=>fq fW⟩ (jz HT.out.1 HT.out.2.1 j5.out)
    have BE:Hid (eS cY (fun x:aM=>x.id) 61 125 w w3 most (l ++ [(x,g)])):=ou
    have oh:Hid (w3.heap[wr.heap.size]? =some (.cells (cY x) 61 (0,0))):=by
     obtain ⟨g',_,_,_,hgr⟩:=fq fW
     exact (hgr.block _ (Array.getElem?_eq_some_iff.1 HB.out).1 (fun e=>by have:=Option.some.inj e; have:=HZ.out; omega)).trans HB.out
    clear hno fq fW jA r0 r1 v0 v1 z0 z1 d0 d1 d2 d3 d4 HB ou
    obtain ⟨d0,d1,d2,d3,d4⟩:=gB oh.out
    go_wp2_with fail
    refine (iM x _).mono ?_
    rintro e w5 ⟨rfl,iJ⟩
    have E1:Hid (eS cY (fun x:aM=>x.id) 61 125 w w5 most (l ++ [(x,g)])):=BE.out.below iJ
    have HE:Hid (bW (fun x:aM=>x.id) 0 (list.take (k+1))=x.id):=eJ HX.out 0
    clear iJ BE
    go_wp2
    go_roundw
    case rel=>exact ⟨k+1,by omega,by go_num,by rw [HE.out],⟨l ++ [(x,g)],by rw [List.map_append,HT.out.1,ck HX.out]; rfl,E1.out,HY.out.1,HY.out.2⟩⟩
    case measure=>simp [intOf]; omega
  ·have i1: ¬ (k:Int) < (list.length:Int):=by omega
   have HK:Hid (list.take k=list∧((list.length:Int)≤max most 0)):=⟨List.take_of_length_le (by omega),by have:=HT.out.2.2; omega⟩
   have HY:Hid ((aw (fun x:aM=>x.id) (fun x:aM=>dj x.todP) 0 list && decide ((list.length:Int)≤max most 0))=true):=by
    show _=true
    have h1:=HT.out.2.1
    rw [HK.out.1] at h1
    rw [h1,decide_eq_true HK.out.2]; rfl
   obtain ⟨r0,r1,v0,v1,z0,z1⟩:=HI.out.cells
   go_wp2
   refine bodyPost_ret (v:= .tuple #[.agg #[.int .i64 most,.map (some (w.heap.size+1))],.bool true]) (by simp [results,Tryz.results152,go_sem, *]) rfl ?_
   exact ⟨(HI.out.ll _ _).2,.inr ⟨HY.out,w.heap.size+1,l,rfl,by rw [HT.out.1,HK.out.1],(HI.out.ll _ _).1⟩⟩
def Cv (w:World) (most:Int) (list:List au) (k:Nat) (wr:World):Prop:=
 ∃ l:List (au × Nat),l.map (·.1)=list.take k∧eS bQ (fun x:au=>x.id) 144 122 w wr most l∧aw (fun x:au=>x.id) (fun x:au=>ct x.tocj) 0 (list.take k)=true∧(k:Int)≤max most 0
theorem rb (a:Option Addr) (list:List au) (cap:Nat) (most:Int) (w:World) (hl:list.length≤1048576) (h:bn.bU w a list) (hf: ∀ x∈list,fN w x) (hw: ∀ x∈list,(Lit.int .i64 x.id).wf=true):
  Calls Tryz.prog 151 #[.slice a list.length cap,.int .i64 most] w fun e w'=>jG bQ (fun x:au=>x.id) 144 w most (aw (fun x:au=>x.id) (fun x:au=>ct x.tocj) 0 list && decide ((list.length:Int)≤max most 0)) list e w':=by
 have hmk:=run_makeMap (P:=Tryz.prog) 120
 have hmn:=ml
 have H0:Hid (eS bQ (fun x:au=>x.id) 144 122 w (((w.alloc (.cells #[.int .i64 0,.map none] 122)).alloc (.map #[] 0)).alloc (.cells #[.int .i64 most,.map (some (w.heap.size+1))] 122)) most []):=eS.start 122 w most
 have HL:Hid (bn.bU w a list∧(∀ x∈list,fN w x)∧ ∀ x∈list,(Lit.int .i64 x.id).wf=true):=⟨h,hf,hw⟩
 clear h hf hw
 go_enter Tryz.func151,Tryz.ntmps151
 go_wp2_with fail
 go_loopw [7,15] (fun last i wr=> ∃ k:Nat,k≤list.length∧i= .int .i64 k∧last= .int .i64 (bW (fun x:au=>x.id) 0 (list.take k))∧Hid (Cv w most list k wr)) (fun _ i _=>list.length - (intOf i).toNat)
 case atStart=>exact ⟨0,Nat.zero_le _,rfl,rfl,⟨[],by simp,H0.out,rfl,by simp; omega⟩⟩
 case round=>
  clear H0 hmk
  obtain ⟨k,hk,rfl,rfl,HA⟩:=hrel
  obtain ⟨l,hlm,hin,oT,hkm⟩:=HA.out
  have HT:Hid (l.map (·.1)=list.take k∧aw (fun x:au=>x.id) (fun x:au=>ct x.tocj) 0 (list.take k)=true∧(k:Int)≤max most 0):=⟨hlm,oT,hkm⟩
  have HI:Hid (eS bQ (fun x:au=>x.id) 144 122 w wr most l):=hin
  clear HA hlm hin oT hkm
  by_cases hlt:k < list.length
  ·have i0:(0:Int)≤(k:Int):=by omega
   have i1:(k:Int) < (list.length:Int):=by omega
   obtain ⟨x,hx⟩: ∃ x,list[k]? =some x:=⟨_,List.getElem?_eq_getElem hlt⟩
   have hmem:=List.mem_of_getElem? hx
   have HX:Hid (list[k]? =some x):=hx
   have HF:Hid (fN w x∧(Lit.int .i64 x.id).wf=true):=⟨HL.out.2.1 x hmem,HL.out.2.2 x hmem⟩
   obtain ⟨gs,ha,hat⟩:=iC (HL.out.1.below HI.out.cd) hx
   obtain ⟨c0,c1,c2⟩:=hat
   subst ha
   clear hx hmem
   go_wp2_with fail
   refine (gR x _).mono ?_
   rintro e w2 ⟨rfl,hb2⟩
   have jA:Hid (eS bQ (fun x:au=>x.id) 144 122 w w2 most l):=(HI.out.below ((Below.refl _ wr).alloc (Nat.le_refl _) (.cells #[.int .i64 x.id,.int .i64 x.max,.slice x.ak x.items.length x.aq] 144))).below hb2
   have HB:Hid (w2.heap[wr.heap.size]? =some (.cells (bQ x) 144 (0,0))):=(hb2.block _ (by simp)).trans (heap_alloc_new _ _)
   have HZ:Hid (w.heap.size+1 < wr.heap.size):=by show w.heap.size+1 < wr.heap.size; have:=(Array.getElem?_eq_some_iff.1 HI.out.var).1; omega
   clear hb2 HI c0 c1 c2
   obtain ⟨d0,d1,d2⟩:=ib HB.out
   obtain ⟨r0,r1,v0,v1,z0,z1⟩:=jA.out.cells
   by_cases hle:x.id≤bW (fun x:au=>x.id) 0 (list.take k)
   ·have HN:Hid ((aw (fun x:au=>x.id) (fun x:au=>ct x.tocj) 0 list && decide ((list.length:Int)≤max most 0))=false):=by
     show _=false
     rw [bS HX.out (fun hh=>absurd hh.2.1 (by show ¬ bW (fun x:au=>x.id) 0 (list.take k) < x.id; omega))]; rfl
    go_wp2
    refine bodyPost_ret (v:= .tuple #[.agg #[.int .i64 0,.map none],.bool false]) (by simp [results,Tryz.results151,go_sem, *]) rfl ?_
    exact ⟨(jA.out.ll _ _).2,.inl ⟨HN.out,rfl⟩⟩
   have j5:Hid (bW (fun x:au=>x.id) 0 (list.take k) < x.id):=by show _ < _; omega
   have hkl:(keysOf (fun x:au=>x.id) l).length≤1048576:=by
    rw [bY]
    have:=congrArg List.length HT.out.1
    simp only [List.length_map,List.length_take] at this
    omega
   go_wp2_with fail
   refine (pF most (w.heap.size+1) (keysOf (fun x:au=>x.id) l) x w2 jA.out.eh.map HF.out.2 hkl (HF.out.1.below jA.out.cd)).mono ?_
   rintro e w3 ⟨rfl,hno,fq⟩
   cases fW:iH most (keysOf (fun x:au=>x.id) l) x.id (ct x.tocj) with
   | false=>
    have HN:Hid ((aw (fun x:au=>x.id) (fun x:au=>ct x.tocj) 0 list && decide ((list.length:Int)≤max most 0))=false):=iB HX.out HT.out.1 HT.out.2.1 j5.out fW
    have AP:Hid (eS bQ (fun x:au=>x.id) 144 122 w w3 most l):=jA.out.below (hno fW)
    clear hno fq fW jA r0 r1 v0 v1 z0 z1 d0 d1 d2 HB
    obtain ⟨r0,r1,v0,v1,z0,z1⟩:=AP.out.cells
    go_wp2
    refine bodyPost_ret (v:= .tuple #[.agg #[.int .i64 0,.map none],.bool false]) (by simp [results,Tryz.results151,go_sem, *]) rfl ?_
    exact ⟨(AP.out.ll _ _).2,.inl ⟨HN.out,rfl⟩⟩
   | true=>
    have HY:Hid (aw (fun x:au=>x.id) (fun x:au=>ct x.tocj) 0 (list.take (k+1))=true∧((k+1:Nat):Int)≤max most 0):=g7 HX.out HT.out.1 HT.out.2.1 j5.out fW
    obtain ⟨g,ou⟩:=jA.out.lay (x:=x) (e:= .returned (.bool true)) (w':=w3) ⟨rfl,(fun h=>by cases h),fun _=>fq fW⟩ (jz HT.out.1 HT.out.2.1 j5.out)
    have BE:Hid (eS bQ (fun x:au=>x.id) 144 122 w w3 most (l ++ [(x,g)])):=ou
    have oh:Hid (w3.heap[wr.heap.size]? =some (.cells (bQ x) 144 (0,0))):=by
     obtain ⟨g',_,_,_,hgr⟩:=fq fW
     exact (hgr.block _ (Array.getElem?_eq_some_iff.1 HB.out).1 (fun e=>by have:=Option.some.inj e; have:=HZ.out; omega)).trans HB.out
    clear hno fq fW jA r0 r1 v0 v1 z0 z1 d0 d1 d2 HB ou
    obtain ⟨d0,d1,d2⟩:=ib oh.out
    go_wp2_with fail
    refine (gR x _).mono ?_
    rintro e w5 ⟨rfl,iJ⟩
    have E1:Hid (eS bQ (fun x:au=>x.id) 144 122 w w5 most (l ++ [(x,g)])):=BE.out.below iJ
    have HE:Hid (bW (fun x:au=>x.id) 0 (list.take (k+1))=x.id):=eJ HX.out 0
    clear iJ BE
    go_wp2
    go_roundw
    case rel=>exact ⟨k+1,by omega,by go_num,by rw [HE.out],⟨l ++ [(x,g)],by rw [List.map_append,HT.out.1,ck HX.out]; rfl,E1.out,HY.out.1,HY.out.2⟩⟩
    case measure=>simp [intOf]; omega
  ·have i1: ¬ (k:Int) < (list.length:Int):=by omega
   have HK:Hid (list.take k=list∧((list.length:Int)≤max most 0)):=⟨List.take_of_length_le (by omega),by have:=HT.out.2.2; omega⟩
   have HY:Hid ((aw (fun x:au=>x.id) (fun x:au=>ct x.tocj) 0 list && decide ((list.length:Int)≤max most 0))=true):=by
    show _=true
    have h1:=HT.out.2.1
    rw [HK.out.1] at h1
    rw [h1,decide_eq_true HK.out.2]; rfl
   obtain ⟨r0,r1,v0,v1,z0,z1⟩:=HI.out.cells
   go_wp2
   refine bodyPost_ret (v:= .tuple #[.agg #[.int .i64 most,.map (some (w.heap.size+1))],.bool true]) (by simp [results,Tryz.results151,go_sem, *]) rfl ?_
   exact ⟨(HI.out.ll _ _).2,.inr ⟨HY.out,w.heap.size+1,l,rfl,by rw [HT.out.1,HK.out.1],(HI.out.ll _ _).1⟩⟩
def Fb (w:World) (most:Int) (list:List az) (k:Nat) (wr:World):Prop:=
 ∃ l:List (az × Nat),l.map (·.1)=list.take k∧eS cK (fun x:az=>x.id) 141 119 w wr most l∧aw (fun x:az=>x.id) (fun x:az=>cU x) 0 (list.take k)=true∧(k:Int)≤max most 0
theorem sE (a:Option Addr) (list:List az) (cap:Nat) (most:Int) (w:World) (hl:list.length≤1048576) (h:bG.bU w a list) (hf: ∀ x∈list,gM w x) (hw: ∀ x∈list,(Lit.int .i64 x.id).wf=true):
  Calls Tryz.prog 150 #[.slice a list.length cap,.int .i64 most] w fun e w'=>jG cK (fun x:az=>x.id) 141 w most (aw (fun x:az=>x.id) (fun x:az=>cU x) 0 list && decide ((list.length:Int)≤max most 0)) list e w':=by
 have hmk:=run_makeMap (P:=Tryz.prog) 117
 have hmn:=nq
 have H0:Hid (eS cK (fun x:az=>x.id) 141 119 w (((w.alloc (.cells #[.int .i64 0,.map none] 119)).alloc (.map #[] 0)).alloc (.cells #[.int .i64 most,.map (some (w.heap.size+1))] 119)) most []):=eS.start 119 w most
 have HL:Hid (bG.bU w a list∧(∀ x∈list,gM w x)∧ ∀ x∈list,(Lit.int .i64 x.id).wf=true):=⟨h,hf,hw⟩
 clear h hf hw
 go_enter Tryz.func150,Tryz.ntmps150
 go_wp2_with fail
 go_loopw [7,15] (fun last i wr=> ∃ k:Nat,k≤list.length∧i= .int .i64 k∧last= .int .i64 (bW (fun x:az=>x.id) 0 (list.take k))∧Hid (Fb w most list k wr)) (fun _ i _=>list.length - (intOf i).toNat)
 case atStart=>exact ⟨0,Nat.zero_le _,rfl,rfl,⟨[],by simp,H0.out,rfl,by simp; omega⟩⟩
 case round=>
  clear H0 hmk
  obtain ⟨k,hk,rfl,rfl,HA⟩:=hrel
  obtain ⟨l,hlm,hin,oT,hkm⟩:=HA.out
  have HT:Hid (l.map (·.1)=list.take k∧aw (fun x:az=>x.id) (fun x:az=>cU x) 0 (list.take k)=true∧(k:Int)≤max most 0):=⟨hlm,oT,hkm⟩
  have HI:Hid (eS cK (fun x:az=>x.id) 141 119 w wr most l):=hin
  clear HA hlm hin oT hkm
  by_cases hlt:k < list.length
  ·have i0:(0:Int)≤(k:Int):=by omega
   have i1:(k:Int) < (list.length:Int):=by omega
   obtain ⟨x,hx⟩: ∃ x,list[k]? =some x:=⟨_,List.getElem?_eq_getElem hlt⟩
   have hmem:=List.mem_of_getElem? hx
   have HX:Hid (list[k]? =some x):=hx
   have HF:Hid (gM w x∧(Lit.int .i64 x.id).wf=true):=⟨HL.out.2.1 x hmem,HL.out.2.2 x hmem⟩
   obtain ⟨gs,ha,hat⟩:=ju (HL.out.1.below HI.out.cd) hx
   obtain ⟨c0,c1,c2⟩:=hat
   subst ha
   clear hx hmem
   go_wp2_with fail
   refine (iu x _).mono ?_
   rintro e w2 ⟨rfl,hb2⟩
   have jA:Hid (eS cK (fun x:az=>x.id) 141 119 w w2 most l):=(HI.out.below ((Below.refl _ wr).alloc (Nat.le_refl _) (.cells #[.int .i64 x.id,.bool x.shown,.string x.text] 141))).below hb2
   have HB:Hid (w2.heap[wr.heap.size]? =some (.cells (cK x) 141 (0,0))):=(hb2.block _ (by simp)).trans (heap_alloc_new _ _)
   have HZ:Hid (w.heap.size+1 < wr.heap.size):=by show w.heap.size+1 < wr.heap.size; have:=(Array.getElem?_eq_some_iff.1 HI.out.var).1; omega
   clear hb2 HI c0 c1 c2
   obtain ⟨d0,d1,d2⟩:=kE HB.out
   obtain ⟨r0,r1,v0,v1,z0,z1⟩:=jA.out.cells
   by_cases hle:x.id≤bW (fun x:az=>x.id) 0 (list.take k)
   ·have HN:Hid ((aw (fun x:az=>x.id) (fun x:az=>cU x) 0 list && decide ((list.length:Int)≤max most 0))=false):=by
     show _=false
     rw [bS HX.out (fun hh=>absurd hh.2.1 (by show ¬ bW (fun x:az=>x.id) 0 (list.take k) < x.id; omega))]; rfl
    go_wp2
    refine bodyPost_ret (v:= .tuple #[.agg #[.int .i64 0,.map none],.bool false]) (by simp [results,Tryz.results150,go_sem, *]) rfl ?_
    exact ⟨(jA.out.ll _ _).2,.inl ⟨HN.out,rfl⟩⟩
   have j5:Hid (bW (fun x:az=>x.id) 0 (list.take k) < x.id):=by show _ < _; omega
   have hkl:(keysOf (fun x:az=>x.id) l).length≤1048576:=by
    rw [bY]
    have:=congrArg List.length HT.out.1
    simp only [List.length_map,List.length_take] at this
    omega
   go_wp2_with fail
   refine (qR most (w.heap.size+1) (keysOf (fun x:az=>x.id) l) x w2 jA.out.eh.map HF.out.2 hkl (HF.out.1.below jA.out.cd)).mono ?_
   rintro e w3 ⟨rfl,hno,fq⟩
   cases fW:iH most (keysOf (fun x:az=>x.id) l) x.id (cU x) with
   | false=>
    have HN:Hid ((aw (fun x:az=>x.id) (fun x:az=>cU x) 0 list && decide ((list.length:Int)≤max most 0))=false):=iB HX.out HT.out.1 HT.out.2.1 j5.out fW
    have AP:Hid (eS cK (fun x:az=>x.id) 141 119 w w3 most l):=jA.out.below (hno fW)
    clear hno fq fW jA r0 r1 v0 v1 z0 z1 d0 d1 d2 HB
    obtain ⟨r0,r1,v0,v1,z0,z1⟩:=AP.out.cells
    go_wp2
    refine bodyPost_ret (v:= .tuple #[.agg #[.int .i64 0,.map none],.bool false]) (by simp [results,Tryz.results150,go_sem, *]) rfl ?_
    exact ⟨(AP.out.ll _ _).2,.inl ⟨HN.out,rfl⟩⟩
   | true=>
    have HY:Hid (aw (fun x:az=>x.id) (fun x:az=>cU x) 0 (list.take (k+1))=true∧((k+1:Nat):Int)≤max most 0):=g7 HX.out HT.out.1 HT.out.2.1 j5.out fW
    obtain ⟨g,ou⟩:=jA.out.lay (x:=x) (e:= .returned (.bool true)) (w':=w3) ⟨rfl,(fun h=>by cases h),fun _=>fq fW⟩ (jz HT.out.1 HT.out.2.1 j5.out)
    have BE:Hid (eS cK (fun x:az=>x.id) 141 119 w w3 most (l ++ [(x,g)])):=ou
    have oh:Hid (w3.heap[wr.heap.size]? =some (.cells (cK x) 141 (0,0))):=by
     obtain ⟨g',_,_,_,hgr⟩:=fq fW
     exact (hgr.block _ (Array.getElem?_eq_some_iff.1 HB.out).1 (fun e=>by have:=Option.some.inj e; have:=HZ.out; omega)).trans HB.out
    clear hno fq fW jA r0 r1 v0 v1 z0 z1 d0 d1 d2 HB ou
    obtain ⟨d0,d1,d2⟩:=kE oh.out
    go_wp2_with fail
    refine (iu x _).mono ?_
    rintro e w5 ⟨rfl,iJ⟩
    have E1:Hid (eS cK (fun x:az=>x.id) 141 119 w w5 most (l ++ [(x,g)])):=BE.out.below iJ
    have HE:Hid (bW (fun x:az=>x.id) 0 (list.take (k+1))=x.id):=eJ HX.out 0
    clear iJ BE
    go_wp2
    go_roundw
    case rel=>exact ⟨k+1,by omega,by go_num,by rw [HE.out],⟨l ++ [(x,g)],by rw [List.map_append,HT.out.1,ck HX.out]; rfl,E1.out,HY.out.1,HY.out.2⟩⟩
    case measure=>simp [intOf]; omega
  ·have i1: ¬ (k:Int) < (list.length:Int):=by omega
   have HK:Hid (list.take k=list∧((list.length:Int)≤max most 0)):=⟨List.take_of_length_le (by omega),by have:=HT.out.2.2; omega⟩
   have HY:Hid ((aw (fun x:az=>x.id) (fun x:az=>cU x) 0 list && decide ((list.length:Int)≤max most 0))=true):=by
    show _=true
    have h1:=HT.out.2.1
    rw [HK.out.1] at h1
    rw [h1,decide_eq_true HK.out.2]; rfl
   obtain ⟨r0,r1,v0,v1,z0,z1⟩:=HI.out.cells
   go_wp2
   refine bodyPost_ret (v:= .tuple #[.agg #[.int .i64 most,.map (some (w.heap.size+1))],.bool true]) (by simp [results,Tryz.results150,go_sem, *]) rfl ?_
   exact ⟨(HI.out.ll _ _).2,.inr ⟨HY.out,w.heap.size+1,l,rfl,by rw [HT.out.1,HK.out.1],(HI.out.ll _ _).1⟩⟩
def I8 (w:World) (most:Int) (list:List bD) (k:Nat) (wr:World):Prop:=
 ∃ l:List (bD × Nat),l.map (·.1)=list.take k∧eS eB (fun x:bD=>x.id) 49 113 w wr most l∧aw (fun x:bD=>x.id) (fun x:bD=>gy x) 0 (list.take k)=true∧(k:Int)≤max most 0
theorem uQ (a:Option Addr) (list:List bD) (cap:Nat) (most:Int) (w:World) (hl:list.length≤1048576) (h:dt.bU w a list) (hf: ∀ x∈list,kR w x) (hw: ∀ x∈list,(Lit.int .i64 x.id).wf=true):
  Calls Tryz.prog 148 #[.slice a list.length cap,.int .i64 most] w fun e w'=>jG eB (fun x:bD=>x.id) 49 w most (aw (fun x:bD=>x.id) (fun x:bD=>gy x) 0 list && decide ((list.length:Int)≤max most 0)) list e w':=by
 have hmk:=run_makeMap (P:=Tryz.prog) 111
 have hmn:=pd
 have H0:Hid (eS eB (fun x:bD=>x.id) 49 113 w (((w.alloc (.cells #[.int .i64 0,.map none] 113)).alloc (.map #[] 0)).alloc (.cells #[.int .i64 most,.map (some (w.heap.size+1))] 113)) most []):=eS.start 113 w most
 have HL:Hid (dt.bU w a list∧(∀ x∈list,kR w x)∧ ∀ x∈list,(Lit.int .i64 x.id).wf=true):=⟨h,hf,hw⟩
 clear h hf hw
 go_enter Tryz.func148,Tryz.ntmps148
 go_wp2_with fail
 go_loopw [7,15] (fun last i wr=> ∃ k:Nat,k≤list.length∧i= .int .i64 k∧last= .int .i64 (bW (fun x:bD=>x.id) 0 (list.take k))∧Hid (I8 w most list k wr)) (fun _ i _=>list.length - (intOf i).toNat)
 case atStart=>exact ⟨0,Nat.zero_le _,rfl,rfl,⟨[],by simp,H0.out,rfl,by simp; omega⟩⟩
 case round=>
  clear H0 hmk
  obtain ⟨k,hk,rfl,rfl,HA⟩:=hrel
  obtain ⟨l,hlm,hin,oT,hkm⟩:=HA.out
  have HT:Hid (l.map (·.1)=list.take k∧aw (fun x:bD=>x.id) (fun x:bD=>gy x) 0 (list.take k)=true∧(k:Int)≤max most 0):=⟨hlm,oT,hkm⟩
  have HI:Hid (eS eB (fun x:bD=>x.id) 49 113 w wr most l):=hin
  clear HA hlm hin oT hkm
  by_cases hlt:k < list.length
  ·have i0:(0:Int)≤(k:Int):=by omega
   have i1:(k:Int) < (list.length:Int):=by omega
   obtain ⟨x,hx⟩: ∃ x,list[k]? =some x:=⟨_,List.getElem?_eq_getElem hlt⟩
   have hmem:=List.mem_of_getElem? hx
   have HX:Hid (list[k]? =some x):=hx
   have HF:Hid (kR w x∧(Lit.int .i64 x.id).wf=true):=⟨HL.out.2.1 x hmem,HL.out.2.2 x hmem⟩
   obtain ⟨gs,ha,hat⟩:=lP (HL.out.1.below HI.out.cd) hx
   obtain ⟨c0,c1,c2⟩:=hat
   subst ha
   clear hx hmem
   go_wp2_with fail
   refine (jv x _).mono ?_
   rintro e w2 ⟨rfl,hb2⟩
   have jA:Hid (eS eB (fun x:bD=>x.id) 49 113 w w2 most l):=(HI.out.below ((Below.refl _ wr).alloc (Nat.le_refl _) (.cells #[.int .i64 x.id,.int .i64 x.n,.int .i64 x.max] 49))).below hb2
   have HB:Hid (w2.heap[wr.heap.size]? =some (.cells (eB x) 49 (0,0))):=(hb2.block _ (by simp)).trans (heap_alloc_new _ _)
   have HZ:Hid (w.heap.size+1 < wr.heap.size):=by show w.heap.size+1 < wr.heap.size; have:=(Array.getElem?_eq_some_iff.1 HI.out.var).1; omega
   clear hb2 HI c0 c1 c2
   obtain ⟨d0,d1,d2⟩:=gn HB.out
   obtain ⟨r0,r1,v0,v1,z0,z1⟩:=jA.out.cells
   by_cases hle:x.id≤bW (fun x:bD=>x.id) 0 (list.take k)
   ·have HN:Hid ((aw (fun x:bD=>x.id) (fun x:bD=>gy x) 0 list && decide ((list.length:Int)≤max most 0))=false):=by
     show _=false
     rw [bS HX.out (fun hh=>absurd hh.2.1 (by show ¬ bW (fun x:bD=>x.id) 0 (list.take k) < x.id; omega))]; rfl
    go_wp2
    refine bodyPost_ret (v:= .tuple #[.agg #[.int .i64 0,.map none],.bool false]) (by simp [results,Tryz.results148,go_sem, *]) rfl ?_
    exact ⟨(jA.out.ll _ _).2,.inl ⟨HN.out,rfl⟩⟩
   have j5:Hid (bW (fun x:bD=>x.id) 0 (list.take k) < x.id):=by show _ < _; omega
   have hkl:(keysOf (fun x:bD=>x.id) l).length≤1048576:=by
    rw [bY]
    have:=congrArg List.length HT.out.1
    simp only [List.length_map,List.length_take] at this
    omega
   go_wp2_with fail
   refine (ul most (w.heap.size+1) (keysOf (fun x:bD=>x.id) l) x w2 jA.out.eh.map HF.out.2 hkl (HF.out.1.below jA.out.cd)).mono ?_
   rintro e w3 ⟨rfl,hno,fq⟩
   cases fW:iH most (keysOf (fun x:bD=>x.id) l) x.id (gy x) with
   | false=>
    have HN:Hid ((aw (fun x:bD=>x.id) (fun x:bD=>gy x) 0 list && decide ((list.length:Int)≤max most 0))=false):=iB HX.out HT.out.1 HT.out.2.1 j5.out fW
    have AP:Hid (eS eB (fun x:bD=>x.id) 49 113 w w3 most l):=jA.out.below (hno fW)
    clear hno fq fW jA r0 r1 v0 v1 z0 z1 d0 d1 d2 HB
    obtain ⟨r0,r1,v0,v1,z0,z1⟩:=AP.out.cells
    go_wp2
    refine bodyPost_ret (v:= .tuple #[.agg #[.int .i64 0,.map none],.bool false]) (by simp [results,Tryz.results148,go_sem, *]) rfl ?_
    exact ⟨(AP.out.ll _ _).2,.inl ⟨HN.out,rfl⟩⟩
   | true=>
    have HY:Hid (aw (fun x:bD=>x.id) (fun x:bD=>gy x) 0 (list.take (k+1))=true∧((k+1:Nat):Int)≤max most 0):=g7 HX.out HT.out.1 HT.out.2.1 j5.out fW
    obtain ⟨g,ou⟩:=jA.out.lay (x:=x) (e:= .returned (.bool true)) (w':=w3) ⟨rfl,(fun h=>by cases h),fun _=>fq fW⟩ (jz HT.out.1 HT.out.2.1 j5.out)
    have BE:Hid (eS eB (fun x:bD=>x.id) 49 113 w w3 most (l ++ [(x,g)])):=ou
    have oh:Hid (w3.heap[wr.heap.size]? =some (.cells (eB x) 49 (0,0))):=by
     obtain ⟨g',_,_,_,hgr⟩:=fq fW
     exact (hgr.block _ (Array.getElem?_eq_some_iff.1 HB.out).1 (fun e=>by have:=Option.some.inj e; have:=HZ.out; omega)).trans HB.out
    clear hno fq fW jA r0 r1 v0 v1 z0 z1 d0 d1 d2 HB ou
    obtain ⟨d0,d1,d2⟩:=gn oh.out
    go_wp2_with fail
    refine (jv x _).mono ?_
    rintro e w5 ⟨rfl,iJ⟩
    have E1:Hid (eS eB (fun x:bD=>x.id) 49 113 w w5 most (l ++ [(x,g)])):=BE.out.below iJ
    have HE:Hid (bW (fun x:bD=>x.id) 0 (list.take (k+1))=x.id):=eJ HX.out 0
    clear iJ BE
    go_wp2
    go_roundw
    case rel=>exact ⟨k+1,by omega,by go_num,by rw [HE.out],⟨l ++ [(x,g)],by rw [List.map_append,HT.out.1,ck HX.out]; rfl,E1.out,HY.out.1,HY.out.2⟩⟩
    case measure=>simp [intOf]; omega
  ·have i1: ¬ (k:Int) < (list.length:Int):=by omega
   have HK:Hid (list.take k=list∧((list.length:Int)≤max most 0)):=⟨List.take_of_length_le (by omega),by have:=HT.out.2.2; omega⟩
   have HY:Hid ((aw (fun x:bD=>x.id) (fun x:bD=>gy x) 0 list && decide ((list.length:Int)≤max most 0))=true):=by
    show _=true
    have h1:=HT.out.2.1
    rw [HK.out.1] at h1
    rw [h1,decide_eq_true HK.out.2]; rfl
   obtain ⟨r0,r1,v0,v1,z0,z1⟩:=HI.out.cells
   go_wp2
   refine bodyPost_ret (v:= .tuple #[.agg #[.int .i64 most,.map (some (w.heap.size+1))],.bool true]) (by simp [results,Tryz.results148,go_sem, *]) rfl ?_
   exact ⟨(HI.out.ll _ _).2,.inr ⟨HY.out,w.heap.size+1,l,rfl,by rw [HT.out.1,HK.out.1],(HI.out.ll _ _).1⟩⟩
def Ep (w:World) (most:Int) (list:List aB) (k:Nat) (wr:World):Prop:=
 ∃ l:List (aB × Nat),l.map (·.1)=list.take k∧eS cG (fun x:aB=>x.id) 138 116 w wr most l∧aw (fun x:aB=>x.id) (fun x:aB=>ey x) 0 (list.take k)=true∧(k:Int)≤max most 0
theorem rR (a:Option Addr) (list:List aB) (cap:Nat) (most:Int) (w:World) (hl:list.length≤1048576) (h:bJ.bU w a list) (hf: ∀ x∈list,iw w x) (hw: ∀ x∈list,(Lit.int .i64 x.id).wf=true):
  Calls Tryz.prog 149 #[.slice a list.length cap,.int .i64 most] w fun e w'=>jG cG (fun x:aB=>x.id) 138 w most (aw (fun x:aB=>x.id) (fun x:aB=>ey x) 0 list && decide ((list.length:Int)≤max most 0)) list e w':=by
 have hmk:=run_makeMap (P:=Tryz.prog) 114
 have hmn:=nr
 have H0:Hid (eS cG (fun x:aB=>x.id) 138 116 w (((w.alloc (.cells #[.int .i64 0,.map none] 116)).alloc (.map #[] 0)).alloc (.cells #[.int .i64 most,.map (some (w.heap.size+1))] 116)) most []):=eS.start 116 w most
 have HL:Hid (bJ.bU w a list∧(∀ x∈list,iw w x)∧ ∀ x∈list,(Lit.int .i64 x.id).wf=true):=⟨h,hf,hw⟩
 clear h hf hw
 go_enter Tryz.func149,Tryz.ntmps149
 go_wp2_with fail
 go_loopw [7,15] (fun last i wr=> ∃ k:Nat,k≤list.length∧i= .int .i64 k∧last= .int .i64 (bW (fun x:aB=>x.id) 0 (list.take k))∧Hid (Ep w most list k wr)) (fun _ i _=>list.length - (intOf i).toNat)
 case atStart=>exact ⟨0,Nat.zero_le _,rfl,rfl,⟨[],by simp,H0.out,rfl,by simp; omega⟩⟩
 case round=>
  clear H0 hmk
  obtain ⟨k,hk,rfl,rfl,HA⟩:=hrel
  obtain ⟨l,hlm,hin,oT,hkm⟩:=HA.out
  have HT:Hid (l.map (·.1)=list.take k∧aw (fun x:aB=>x.id) (fun x:aB=>ey x) 0 (list.take k)=true∧(k:Int)≤max most 0):=⟨hlm,oT,hkm⟩
  have HI:Hid (eS cG (fun x:aB=>x.id) 138 116 w wr most l):=hin
  clear HA hlm hin oT hkm
  by_cases hlt:k < list.length
  ·have i0:(0:Int)≤(k:Int):=by omega
   have i1:(k:Int) < (list.length:Int):=by omega
   obtain ⟨x,hx⟩: ∃ x,list[k]? =some x:=⟨_,List.getElem?_eq_getElem hlt⟩
   have hmem:=List.mem_of_getElem? hx
   have HX:Hid (list[k]? =some x):=hx
   have HF:Hid (iw w x∧(Lit.int .i64 x.id).wf=true):=⟨HL.out.2.1 x hmem,HL.out.2.2 x hmem⟩
   obtain ⟨gs,ha,hat⟩:=jS (HL.out.1.below HI.out.cd) hx
   obtain ⟨c0,c1⟩:=hat
   subst ha
   clear hx hmem
   go_wp2_with fail
   refine (ip x _).mono ?_
   rintro e w2 ⟨rfl,hb2⟩
   have jA:Hid (eS cG (fun x:aB=>x.id) 138 116 w w2 most l):=(HI.out.below ((Below.refl _ wr).alloc (Nat.le_refl _) (.cells #[.int .i64 x.id,.bool x.up] 138))).below hb2
   have HB:Hid (w2.heap[wr.heap.size]? =some (.cells (cG x) 138 (0,0))):=(hb2.block _ (by simp)).trans (heap_alloc_new _ _)
   have HZ:Hid (w.heap.size+1 < wr.heap.size):=by show w.heap.size+1 < wr.heap.size; have:=(Array.getElem?_eq_some_iff.1 HI.out.var).1; omega
   clear hb2 HI c0 c1
   obtain ⟨d0,d1⟩:=kQ HB.out
   obtain ⟨r0,r1,v0,v1,z0,z1⟩:=jA.out.cells
   by_cases hle:x.id≤bW (fun x:aB=>x.id) 0 (list.take k)
   ·have HN:Hid ((aw (fun x:aB=>x.id) (fun x:aB=>ey x) 0 list && decide ((list.length:Int)≤max most 0))=false):=by
     show _=false
     rw [bS HX.out (fun hh=>absurd hh.2.1 (by show ¬ bW (fun x:aB=>x.id) 0 (list.take k) < x.id; omega))]; rfl
    go_wp2
    refine bodyPost_ret (v:= .tuple #[.agg #[.int .i64 0,.map none],.bool false]) (by simp [results,Tryz.results149,go_sem, *]) rfl ?_
    exact ⟨(jA.out.ll _ _).2,.inl ⟨HN.out,rfl⟩⟩
   have j5:Hid (bW (fun x:aB=>x.id) 0 (list.take k) < x.id):=by show _ < _; omega
   have hkl:(keysOf (fun x:aB=>x.id) l).length≤1048576:=by
    rw [bY]
    have:=congrArg List.length HT.out.1
    simp only [List.length_map,List.length_take] at this
    omega
   go_wp2_with fail
   refine (rz most (w.heap.size+1) (keysOf (fun x:aB=>x.id) l) x w2 jA.out.eh.map HF.out.2 hkl (HF.out.1.below jA.out.cd)).mono ?_
   rintro e w3 ⟨rfl,hno,fq⟩
   cases fW:iH most (keysOf (fun x:aB=>x.id) l) x.id (ey x) with
   | false=>
    have HN:Hid ((aw (fun x:aB=>x.id) (fun x:aB=>ey x) 0 list && decide ((list.length:Int)≤max most 0))=false):=iB HX.out HT.out.1 HT.out.2.1 j5.out fW
    have AP:Hid (eS cG (fun x:aB=>x.id) 138 116 w w3 most l):=jA.out.below (hno fW)
    clear hno fq fW jA r0 r1 v0 v1 z0 z1 d0 d1 HB
    obtain ⟨r0,r1,v0,v1,z0,z1⟩:=AP.out.cells
    go_wp2
    refine bodyPost_ret (v:= .tuple #[.agg #[.int .i64 0,.map none],.bool false]) (by simp [results,Tryz.results149,go_sem, *]) rfl ?_
    exact ⟨(AP.out.ll _ _).2,.inl ⟨HN.out,rfl⟩⟩
   | true=>
    have HY:Hid (aw (fun x:aB=>x.id) (fun x:aB=>ey x) 0 (list.take (k+1))=true∧((k+1:Nat):Int)≤max most 0):=g7 HX.out HT.out.1 HT.out.2.1 j5.out fW
    obtain ⟨g,ou⟩:=jA.out.lay (x:=x) (e:= .returned (.bool true)) (w':=w3) ⟨rfl,(fun h=>by cases h),fun _=>fq fW⟩ (jz HT.out.1 HT.out.2.1 j5.out)
    have BE:Hid (eS cG (fun x:aB=>x.id) 138 116 w w3 most (l ++ [(x,g)])):=ou
    have oh:Hid (w3.heap[wr.heap.size]? =some (.cells (cG x) 138 (0,0))):=by
     obtain ⟨g',_,_,_,hgr⟩:=fq fW
     exact (hgr.block _ (Array.getElem?_eq_some_iff.1 HB.out).1 (fun e=>by have:=Option.some.inj e; have:=HZ.out; omega)).trans HB.out
    clear hno fq fW jA r0 r1 v0 v1 z0 z1 d0 d1 HB ou
    obtain ⟨d0,d1⟩:=kQ oh.out
    go_wp2_with fail
    refine (ip x _).mono ?_
    rintro e w5 ⟨rfl,iJ⟩
    have E1:Hid (eS cG (fun x:aB=>x.id) 138 116 w w5 most (l ++ [(x,g)])):=BE.out.below iJ
    have HE:Hid (bW (fun x:aB=>x.id) 0 (list.take (k+1))=x.id):=eJ HX.out 0
    clear iJ BE
    go_wp2
    go_roundw
    case rel=>exact ⟨k+1,by omega,by go_num,by rw [HE.out],⟨l ++ [(x,g)],by rw [List.map_append,HT.out.1,ck HX.out]; rfl,E1.out,HY.out.1,HY.out.2⟩⟩
    case measure=>simp [intOf]; omega
  ·have i1: ¬ (k:Int) < (list.length:Int):=by omega
   have HK:Hid (list.take k=list∧((list.length:Int)≤max most 0)):=⟨List.take_of_length_le (by omega),by have:=HT.out.2.2; omega⟩
   have HY:Hid ((aw (fun x:aB=>x.id) (fun x:aB=>ey x) 0 list && decide ((list.length:Int)≤max most 0))=true):=by
    show _=true
    have h1:=HT.out.2.1
    rw [HK.out.1] at h1
    rw [h1,decide_eq_true HK.out.2]; rfl
   obtain ⟨r0,r1,v0,v1,z0,z1⟩:=HI.out.cells
   go_wp2
   refine bodyPost_ret (v:= .tuple #[.agg #[.int .i64 most,.map (some (w.heap.size+1))],.bool true]) (by simp [results,Tryz.results149,go_sem, *]) rfl ?_
   exact ⟨(HI.out.ll _ _).2,.inr ⟨HY.out,w.heap.size+1,l,rfl,by rw [HT.out.1,HK.out.1],(HI.out.ll _ _).1⟩⟩
end Go.Proofs.YtkbcplnlehdjfaaGreat
namespace Go.Proofs.YtkbcplnlehdjfaaGreat
open Go.RowKit
theorem wT (x:ao) (w:World) (hf:eL w x):Calls Tryz.prog 283 #[.agg (aX x)] w fun e w'=>e= .returned (.bool (cH x.toaD))∧Below w.heap.size w w':=by
 have HI:Hid (oM w (w.alloc (.cells (aX x) 43)) x):=oM.start hf
 have HE:Hid (cH x.toaD=(cv x.prio 1 50 && jn x.prog && bw x.held && bw x.got && cv x.code 0 3 && bO x.toaD)):=rfl
 have HB:Hid (Below w.heap.size w (w.alloc (.cells (aX x) 43))):=HI.out.cd
 obtain ⟨c0,c1,c2,c3,c4,c5,c6,c7,c8,c9,qF,oy⟩:=bo HI.out.box
 clear hf
 unfold aX at *
 by_cases h1:1≤x.prio
 rotate_left
 ·have HV:Hid (cH x.toaD=false):=by show cH _=false; rw [HE.out,l7 (by omega)]; rfl
  clear HE
  go_enter Tryz.func283,Tryz.ntmps283
  go_wp2
  go_ret
  exact ⟨al HV.out.symm,HB.out⟩
 by_cases h2:x.prio≤50
 rotate_left
 ·have HV:Hid (cH x.toaD=false):=by show cH _=false; rw [HE.out,kH (by omega)]; rfl
  clear HE
  go_enter Tryz.func283,Tryz.ntmps283
  go_wp2
  go_ret
  exact ⟨al HV.out.symm,HB.out⟩
 have HP:Hid (cv x.prio 1 50=true):=ez h1 h2
 go_enter Tryz.func283,Tryz.ntmps283
 go_wp2_with fail
 refine (wS x.aY x.prog x.bH _ HI.out.fit.1.prog HI.out.fit.1.ops HI.out.fit.2).mono ?_
 rintro e w1 ⟨rfl,hb1⟩
 have Ht:Hid (oM w w1 x):=HI.out.below hb1
 clear hb1 c0 c1 c2 c3 c4 c5 c6 c7 c8 c9 qF oy HI HB
 obtain ⟨c0,c1,c2,c3,c4,c5,c6,c7,c8,c9,qF,oy⟩:=bo Ht.out.box
 have hsh:=Ht.out.fit.1.held
 have hsg:=Ht.out.fit.1.got
 cases hl:jn x.prog with
 | false=>
  have HV:Hid (cH x.toaD=false):=by show cH _=false; rw [HE.out,hl]; simp
  clear HE hl
  go_wp2
  go_ret
  exact ⟨al HV.out.symm,Ht.out.cd⟩
 | true=>
  have HL:Hid (jn x.prog=true):=hl
  clear hl
  go_wp2_with fail
  refine (iT x.held _ hsh).mono ?_
  rintro e w2 ⟨rfl,hw2⟩
  subst hw2
  cases hh:bw x.held with
  | false=>
   have HV:Hid (cH x.toaD=false):=by show cH _=false; rw [HE.out,hh]; simp
   clear HE hh
   go_wp2
   go_ret
   exact ⟨al HV.out.symm,Ht.out.cd⟩
  | true=>
   have HH:Hid (bw x.held=true):=hh
   clear hh
   go_wp2_with fail
   refine (iT x.got _ hsg).mono ?_
   rintro e w2 ⟨rfl,hw2⟩
   subst hw2
   cases hg:bw x.got with
   | false=>
    have HV:Hid (cH x.toaD=false):=by show cH _=false; rw [HE.out,hg]; simp
    clear HE hg
    go_wp2
    go_ret
    exact ⟨al HV.out.symm,Ht.out.cd⟩
   | true=>
    have HG:Hid (bw x.got=true):=hg
    clear hg
    by_cases h3:0≤x.code
    rotate_left
    ·have HV:Hid (cH x.toaD=false):=by show cH _=false; rw [HE.out,l7 (n:=x.code) (by omega)]; simp
     clear HE
     go_wp2
     go_ret
     exact ⟨al HV.out.symm,Ht.out.cd⟩
    by_cases h4:x.code≤3
    rotate_left
    ·have HV:Hid (cH x.toaD=false):=by show cH _=false; rw [HE.out,kH (n:=x.code) (by omega)]; simp
     clear HE
     go_wp2
     go_ret
     exact ⟨al HV.out.symm,Ht.out.cd⟩
    have HC:Hid (cv x.code 0 3=true):=ez h3 h4
    go_wp2_with fail
    refine (Bu x _ Ht.out.fit).mono ?_
    rintro e w2 ⟨rfl,hb2⟩
    have jA:Hid (oM w w2 x):=Ht.out.below hb2
    clear hb2
    have HV:Hid (cH x.toaD=bO x.toaD):=by show cH _=_; rw [HE.out,HP.out,HL.out,HH.out,HG.out,HC.out]; simp
    clear HE
    go_wp2
    go_ret
    exact ⟨al HV.out.symm,jA.out.cd⟩
end Go.Proofs.YtkbcplnlehdjfaaGreat
