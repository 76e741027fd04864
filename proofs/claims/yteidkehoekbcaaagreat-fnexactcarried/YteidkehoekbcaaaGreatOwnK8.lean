/- What the proof leans on, part 8. -/
import Derived.Test.YteidkehoekbcaaaGreatOwnK6
import Derived.Test.YteidkehoekbcaaaGreatOwnK7
import Derived.Deep.AppendSrc
set_option maxRecDepth 100000
set_option maxHeartbeats 8000000
open Array renaming getElem?_eq_some_iff->J2
open Go renaming bodyPost_ret->KT,heap_alloc_new->Kj,wp_at_succ->Kd,wp_at_zero->Kc
open Go.Proofs.Tryz renaming prog->J3
open Go.RowKit renaming run_makeMap->P4
open Go.RowKit.Below renaming refl->Kp
open Go.World renaming ownsRow_nil->Ke
open List renaming getElem?_eq_getElem->Kz,length_map->KG,length_take->Lk,map_append->Kl,mem_of_getElem?->KA,take_of_length_le->KF
open Nat renaming le_refl->Ki,zero_add->Li,zero_le->Ky
open Option.some renaming inj->KC

namespace Go.Proofs.YteidkehoekbcaaaGreat
section
open Go.RowKit
theorem qZ (g j:Nat):(⟨g,0,none⟩:Addr).add j=⟨g,j,none⟩:=by unfold Addr.add; split <;> simp_all
theorem sZ {P:Program} (w:World) (t ty e:TypeId) (i:TypeInfo) (z:Value) (size bytes:Nat) (ht:P.underlying t=some (.slice e)) (hi:P.info? e=some i) (hz:i.zero=some z)
  (hsize:i.size=size) (hby:i.bytes=bytes) (hzs:z.cells.size=size) (hsz:0 < size) (a:Option Addr) (n cap:Nat) (xs:List Value) (h:Row w a xs) (hl:xs.length=n * size) (h1: ∀ u∈xs,u.oneCell'=true)
  (h63:n≤1048576) (hb:bytes≤1000):
  ∃ a' cap' w',(Builtin.append_ #[t,t] ty #[.slice none 0 0,.slice a n cap]).run P w= .ok (.slice a' n cap') w'∧w'.ownsRow w.heap.size e size (.slice a' n cap') n xs∧w.grownBy w' none:=by
 cases a with
 | none=>
  have hx:xs= [] :=by
   cases xs with
   | nil=>rfl
   | cons u r=>
    obtain ⟨g,e',_⟩:=h 0 u rfl;cases e'
  subst hx;have hn:n=0:=by
   cases n with
   | zero=>rfl
   | succ n=>simp only [List.length_nil,Nat.succ_mul] at hl; omega
  subst hn;refine ⟨none,0,w,?_,Ke _ _ _ _,⟨rfl,rfl,rfl,Ki _,fun _ _ _=>rfl⟩⟩;simp [Builtin.append_,run_underlying ht,sizeOf,typeInfo,hi,Builtin.lenOf,Builtin.firstCells]
 | some ad=>
  have hnews: ∀ j u,xs[j]? =some u→w.cell? (ad.add j)=some u:=fun j u hu=>by
   obtain ⟨g,e',hc⟩:=h j u hu;cases e';rw [qZ];exact hc
  obtain ⟨v',w',hr,ho,hg,-,-⟩:=run_append_own_at (P:=P) w w.heap.size t ty e i z size bytes ht hi hz hsize hby hzs hsz (.slice none 0 0) 0 [] (Ke _ _ _ _) ad n cap xs hl hnews h1 (by unfold maxLen; omega) (by rw [Li]; have:=Nat.mul_le_mul h63 hb; omega) (Ki _);simp only [Li,List.nil_append] at ho;obtain ⟨a',cap',rfl,-⟩:=cr ho;exact ⟨a',cap',w',hr,ho,hg⟩
end
section
open Go.RowKit
attribute [local go_sem ↓] Kc Kd
theorem BF {w w':World} {o X:Nat} {q:ol} {x:ao} {ms me mb mf:df} (h:fu w w' o X q x ms me mb mf):(w'.cell? ⟨o,4,none⟩=some (.int .i64 5)∧w'.cell? ⟨o,5,none⟩=some (.map (some q.bs))∧w'.cell? ⟨X,7,none⟩=some (.int .i64 x.on))∧Hid (fu w w' o X q x ms me mb mf):=
 ⟨⟨h.opn.cell 4,h.opn.cell 5,(bo h.box).2.2.2.2.2.2.2.1⟩,h⟩
theorem ER (o X:Nat) (q:ol) (x:ao) (ms me mb mf:df) (w:World) (h:fu w w o X q x ms me mb mf) (hw:(Lit.int .i64 x.on).wf=true) (hs:x.Md=3):
  Calls J3 216 #[.pointer (some ⟨o,0,none⟩),.pointer (some ⟨X,0,none⟩)] w fun e w'=>e= .returned (.bool (fw ms me mb mf x))∧Below w.heap.size w w':=by
 have H:Hid (fu w w o X q x ms me mb mf):=h;have HW:Hid ((Lit.int .i64 x.on).wf=true):=hw;have HV:Hid (fw ms me mb mf x=(cz ms x.on).isSome):=by show fw ms me mb mf x=_; simp [fw,hs]
 have k3:w.cell? ⟨X,3,none⟩=some (.int .i64 3):=by rw [(bo h.box).2.2.2.1,hs]
 clear h hw hs
 go_enter Tryz.func216,Tryz.ntmps216
 go_wp2_with fail;clear k3;refine aT (fun w'=>(w'.cell? ⟨o,4,none⟩=some (.int .i64 5)∧w'.cell? ⟨o,5,none⟩=some (.map (some q.bs))∧w'.cell? ⟨X,7,none⟩=some (.int .i64 x.on))∧Hid (fu w w' o X q x ms me mb mf)) (by kernel_rfl) (BF H.I.drew) ?_
 iterate 8 (refine PI ?_)
 refine cl (.bool (cz ms x.on).isSome) 232 #[.agg #[.int .i64 5,.map (some q.bs)],.int .i64 x.on] ?_ ?_ ?_
 ·intro w0 hS0
  obtain ⟨⟨q0,q1,q2⟩,hH⟩:=hS0
  go_simp
  try with_reducible rfl
 ·intro w0 hS0
  refine (tZ 5 q.bs ms x.on w0 hS0.2.I.ms HW.I).mono ?_;rintro e w2 ⟨rfl,hb2⟩;exact ⟨rfl,BF (hS0.2.I.below hb2)⟩
 simp only [pt,sb,s0,s1]
 (refine PI ?_)
 refine bk (by kernel_rfl) ?_ _;intro w1 cm;go_wp2;go_ret;exact ⟨al HV.I.symm,cm.2.I.cd⟩
theorem A5 {w w':World} {o X:Nat} {q:ol} {x:ao} {ms me mb mf:df} (h:fu w w' o X q x ms me mb mf):(w'.cell? ⟨o,6,none⟩=some (.int .i64 5)∧w'.cell? ⟨o,7,none⟩=some (.map (some q.be))∧w'.cell? ⟨X,7,none⟩=some (.int .i64 x.on))∧Hid (fu w w' o X q x ms me mb mf):=
 ⟨⟨h.opn.cell 6,h.opn.cell 7,(bo h.box).2.2.2.2.2.2.2.1⟩,h⟩
theorem EH (o X:Nat) (q:ol) (x:ao) (ms me mb mf:df) (w:World) (h:fu w w o X q x ms me mb mf) (hw:(Lit.int .i64 x.on).wf=true) (hs:x.Md=4):
  Calls J3 216 #[.pointer (some ⟨o,0,none⟩),.pointer (some ⟨X,0,none⟩)] w fun e w'=>e= .returned (.bool (fw ms me mb mf x))∧Below w.heap.size w w':=by
 have H:Hid (fu w w o X q x ms me mb mf):=h;have HW:Hid ((Lit.int .i64 x.on).wf=true):=hw;have HV:Hid (fw ms me mb mf x=(cz me x.on).isSome):=by show fw ms me mb mf x=_; simp [fw,hs]
 have k3:w.cell? ⟨X,3,none⟩=some (.int .i64 4):=by rw [(bo h.box).2.2.2.1,hs]
 clear h hw hs
 go_enter Tryz.func216,Tryz.ntmps216
 go_wp2_with fail;clear k3;refine aT (fun w'=>(w'.cell? ⟨o,6,none⟩=some (.int .i64 5)∧w'.cell? ⟨o,7,none⟩=some (.map (some q.be))∧w'.cell? ⟨X,7,none⟩=some (.int .i64 x.on))∧Hid (fu w w' o X q x ms me mb mf)) (by kernel_rfl) (A5 H.I.drew) ?_
 iterate 8 (refine PI ?_)
 refine cl (.bool (cz me x.on).isSome) 233 #[.agg #[.int .i64 5,.map (some q.be)],.int .i64 x.on] ?_ ?_ ?_
 ·intro w0 hS0
  obtain ⟨⟨q0,q1,q2⟩,hH⟩:=hS0
  go_simp
  try with_reducible rfl
 ·intro w0 hS0
  refine (rj 5 q.be me x.on w0 hS0.2.I.me HW.I).mono ?_;rintro e w2 ⟨rfl,hb2⟩;exact ⟨rfl,A5 (hS0.2.I.below hb2)⟩
 simp only [pt,sb,s0,s1]
 (refine PI ?_)
 refine bk (by kernel_rfl) ?_ _;intro w1 cm;go_wp2;go_ret;exact ⟨al HV.I.symm,cm.2.I.cd⟩
theorem AF {w w':World} {o X:Nat} {q:ol} {x:ao} {ms me mb mf:df} (h:fu w w' o X q x ms me mb mf):(w'.cell? ⟨o,10,none⟩=some (.int .i64 5)∧w'.cell? ⟨o,11,none⟩=some (.map (some q.bf))∧w'.cell? ⟨X,7,none⟩=some (.int .i64 x.on))∧Hid (fu w w' o X q x ms me mb mf):=
 ⟨⟨h.opn.cell 10,h.opn.cell 11,(bo h.box).2.2.2.2.2.2.2.1⟩,h⟩
theorem Fu (o X:Nat) (q:ol) (x:ao) (ms me mb mf:df) (w:World) (h:fu w w o X q x ms me mb mf) (hw:(Lit.int .i64 x.on).wf=true) (hs:x.Md=5):
  Calls J3 216 #[.pointer (some ⟨o,0,none⟩),.pointer (some ⟨X,0,none⟩)] w fun e w'=>e= .returned (.bool (fw ms me mb mf x))∧Below w.heap.size w w':=by
 have H:Hid (fu w w o X q x ms me mb mf):=h;have HW:Hid ((Lit.int .i64 x.on).wf=true):=hw;have HV:Hid (fw ms me mb mf x=(cz mf x.on).isSome):=by show fw ms me mb mf x=_; simp [fw,hs]
 have k3:w.cell? ⟨X,3,none⟩=some (.int .i64 5):=by rw [(bo h.box).2.2.2.1,hs]
 clear h hw hs
 go_enter Tryz.func216,Tryz.ntmps216
 go_wp2_with fail;clear k3;refine aT (fun w'=>(w'.cell? ⟨o,10,none⟩=some (.int .i64 5)∧w'.cell? ⟨o,11,none⟩=some (.map (some q.bf))∧w'.cell? ⟨X,7,none⟩=some (.int .i64 x.on))∧Hid (fu w w' o X q x ms me mb mf)) (by kernel_rfl) (AF H.I.drew) ?_
 iterate 8 (refine PI ?_)
 refine cl (.bool (cz mf x.on).isSome) 235 #[.agg #[.int .i64 5,.map (some q.bf)],.int .i64 x.on] ?_ ?_ ?_
 ·intro w0 hS0
  obtain ⟨⟨q0,q1,q2⟩,hH⟩:=hS0
  go_simp
  try with_reducible rfl
 ·intro w0 hS0
  refine (mE 5 q.bf mf x.on w0 hS0.2.I.mf HW.I).mono ?_;rintro e w2 ⟨rfl,hb2⟩;exact ⟨rfl,AF (hS0.2.I.below hb2)⟩
 simp only [pt,sb,s0,s1]
 (refine PI ?_)
 refine bk (by kernel_rfl) ?_ _;intro w1 cm;go_wp2;go_ret;exact ⟨al HV.I.symm,cm.2.I.cd⟩
theorem AH {w w':World} {o X:Nat} {q:ol} {x:ao} {ms me mb mf:df} (h:fu w w' o X q x ms me mb mf):(w'.cell? ⟨o,10,none⟩=some (.int .i64 5)∧w'.cell? ⟨o,11,none⟩=some (.map (some q.bf))∧w'.cell? ⟨X,7,none⟩=some (.int .i64 x.on))∧Hid (fu w w' o X q x ms me mb mf):=
 ⟨⟨h.opn.cell 10,h.opn.cell 11,(bo h.box).2.2.2.2.2.2.2.1⟩,h⟩
theorem Ew (o X:Nat) (q:ol) (x:ao) (ms me mb mf:df) (w:World) (h:fu w w o X q x ms me mb mf) (hw:(Lit.int .i64 x.on).wf=true) (hs:x.Md=6):
  Calls J3 216 #[.pointer (some ⟨o,0,none⟩),.pointer (some ⟨X,0,none⟩)] w fun e w'=>e= .returned (.bool (fw ms me mb mf x))∧Below w.heap.size w w':=by
 have H:Hid (fu w w o X q x ms me mb mf):=h;have HW:Hid ((Lit.int .i64 x.on).wf=true):=hw;have HV:Hid (fw ms me mb mf x=(cz mf x.on).isSome):=by show fw ms me mb mf x=_; simp [fw,hs]
 have k3:w.cell? ⟨X,3,none⟩=some (.int .i64 6):=by rw [(bo h.box).2.2.2.1,hs]
 clear h hw hs
 go_enter Tryz.func216,Tryz.ntmps216
 go_wp2_with fail;clear k3;refine aT (fun w'=>(w'.cell? ⟨o,10,none⟩=some (.int .i64 5)∧w'.cell? ⟨o,11,none⟩=some (.map (some q.bf))∧w'.cell? ⟨X,7,none⟩=some (.int .i64 x.on))∧Hid (fu w w' o X q x ms me mb mf)) (by kernel_rfl) (AH H.I.drew) ?_
 iterate 8 (refine PI ?_)
 refine cl (.bool (cz mf x.on).isSome) 235 #[.agg #[.int .i64 5,.map (some q.bf)],.int .i64 x.on] ?_ ?_ ?_
 ·intro w0 hS0
  obtain ⟨⟨q0,q1,q2⟩,hH⟩:=hS0
  go_simp
  try with_reducible rfl
 ·intro w0 hS0
  refine (mE 5 q.bf mf x.on w0 hS0.2.I.mf HW.I).mono ?_;rintro e w2 ⟨rfl,hb2⟩;exact ⟨rfl,AH (hS0.2.I.below hb2)⟩
 simp only [pt,sb,s0,s1]
 (refine PI ?_)
 refine bk (by kernel_rfl) ?_ _;intro w1 cm;go_wp2;go_ret;exact ⟨al HV.I.symm,cm.2.I.cd⟩
theorem Bi {w w':World} {o X:Nat} {q:ol} {x:ao} {ms me mb mf:df} (h:fu w w' o X q x ms me mb mf):(w'.cell? ⟨o,8,none⟩=some (.int .i64 5)∧w'.cell? ⟨o,9,none⟩=some (.map (some q.bb))∧w'.cell? ⟨X,7,none⟩=some (.int .i64 x.on))∧Hid (fu w w' o X q x ms me mb mf):=
 ⟨⟨h.opn.cell 8,h.opn.cell 9,(bo h.box).2.2.2.2.2.2.2.1⟩,h⟩
theorem Fb (o X:Nat) (q:ol) (x:ao) (ms me mb mf:df) (w:World) (h:fu w w o X q x ms me mb mf) (hw:(Lit.int .i64 x.on).wf=true) (hs:x.Md=7):
  Calls J3 216 #[.pointer (some ⟨o,0,none⟩),.pointer (some ⟨X,0,none⟩)] w fun e w'=>e= .returned (.bool (fw ms me mb mf x))∧Below w.heap.size w w':=by
 have H:Hid (fu w w o X q x ms me mb mf):=h;have HW:Hid ((Lit.int .i64 x.on).wf=true):=hw;have HV:Hid (fw ms me mb mf x=(cz mb x.on).isSome):=by show fw ms me mb mf x=_; simp [fw,hs]
 have k3:w.cell? ⟨X,3,none⟩=some (.int .i64 7):=by rw [(bo h.box).2.2.2.1,hs]
 clear h hw hs
 go_enter Tryz.func216,Tryz.ntmps216
 go_wp2_with fail;clear k3;refine aT (fun w'=>(w'.cell? ⟨o,8,none⟩=some (.int .i64 5)∧w'.cell? ⟨o,9,none⟩=some (.map (some q.bb))∧w'.cell? ⟨X,7,none⟩=some (.int .i64 x.on))∧Hid (fu w w' o X q x ms me mb mf)) (by kernel_rfl) (Bi H.I.drew) ?_
 iterate 8 (refine PI ?_)
 refine cl (.bool (cz mb x.on).isSome) 234 #[.agg #[.int .i64 5,.map (some q.bb)],.int .i64 x.on] ?_ ?_ ?_
 ·intro w0 hS0
  obtain ⟨⟨q0,q1,q2⟩,hH⟩:=hS0
  go_simp
  try with_reducible rfl
 ·intro w0 hS0
  refine (qM 5 q.bb mb x.on w0 hS0.2.I.mb HW.I).mono ?_;rintro e w2 ⟨rfl,hb2⟩;exact ⟨rfl,Bi (hS0.2.I.below hb2)⟩
 simp only [pt,sb,s0,s1]
 (refine PI ?_)
 refine bk (by kernel_rfl) ?_ _;intro w1 cm;go_wp2;go_ret;exact ⟨al HV.I.symm,cm.2.I.cd⟩
theorem zh (o X:Nat) (q:ol) (x:ao) (ms me mb mf:df) (w:World) (h:fu w w o X q x ms me mb mf) (h3: ¬ x.Md=3) (h4: ¬ x.Md=4) (h5: ¬ x.Md=5) (h6: ¬ x.Md=6) (h7: ¬ x.Md=7):
  Calls J3 216 #[.pointer (some ⟨o,0,none⟩),.pointer (some ⟨X,0,none⟩)] w fun e w'=>e= .returned (.bool (fw ms me mb mf x))∧Below w.heap.size w w':=by
 have HV:Hid (fw ms me mb mf x=true):=by show fw ms me mb mf x=true; simp [fw,h3,h4,h5,h6,h7]
 have k3:=(bo h.box).2.2.2.1;have s3:(x.Md == 3)=false:=by simp [h3]
 have s4:(x.Md == 4)=false:=by simp [h4]
 have s5:(x.Md == 5)=false:=by simp [h5]
 have s6:(x.Md == 6)=false:=by simp [h6]
 have s7:(x.Md == 7)=false:=by simp [h7]
 clear h h3 h4 h5 h6 h7
 go_enter Tryz.func216,Tryz.ntmps216
 go_wp2;go_ret;exact ⟨al HV.I.symm,Kp _ _⟩
theorem Ak (o X:Nat) (q:ol) (x:ao) (ms me mb mf:df) (w:World) (h:fu w w o X q x ms me mb mf) (hw:(Lit.int .i64 x.on).wf=true):
  Calls J3 216 #[.pointer (some ⟨o,0,none⟩),.pointer (some ⟨X,0,none⟩)] w fun e w'=>e= .returned (.bool (fw ms me mb mf x))∧Below w.heap.size w w':=by
 by_cases h3:x.Md=3
 ·exact ER o X q x ms me mb mf w h hw h3
 by_cases h4:x.Md=4
 ·exact EH o X q x ms me mb mf w h hw h4
 by_cases h5:x.Md=5
 ·exact Fu o X q x ms me mb mf w h hw h5
 by_cases h6:x.Md=6
 ·exact Ew o X q x ms me mb mf w h hw h6
 by_cases h7:x.Md=7
 ·exact Fb o X q x ms me mb mf w h hw h7
 exact zh o X q x ms me mb mf w h h3 h4 h5 h6 h7
end
section
open Go.RowKit
theorem wo (x:ao) (w:World) (hf:eL w x):Calls J3 261 #[.agg (aX x)] w fun e w'=>e= .returned (.bool (cH x.toaD))∧Below w.heap.size w w':=by
 have HI:Hid (oV w (w.alloc (.cells (aX x) 148)) x):=oV.start hf;have HE:Hid (cH x.toaD=(cv x.RX 1 50 && jm x.prog && bw x.held && bw x.got && cv x.code 0 3 && bO x.toaD)):=rfl;have HB:Hid (Below w.heap.size w (w.alloc (.cells (aX x) 148))):=HI.I.cd;obtain ⟨c0,c1,c2,c3,c4,c5,c6,c7,c8,c9,qF,pe⟩:=bo HI.I.box;clear hf;unfold aX at *;by_cases h1:1≤x.RX;rotate_left
 ·have HV:Hid (cH x.toaD=false):=by show cH _=false; rw [HE.I,mA (by omega)]; rfl
  clear HE
  go_enter Tryz.func261,Tryz.ntmps261
  go_wp2;go_ret;exact ⟨al HV.I.symm,HB.I⟩
 by_cases h2:x.RX≤50;rotate_left
 ·have HV:Hid (cH x.toaD=false):=by show cH _=false; rw [HE.I,kR (by omega)]; rfl
  clear HE
  go_enter Tryz.func261,Tryz.ntmps261
  go_wp2;go_ret;exact ⟨al HV.I.symm,HB.I⟩
 have HP:Hid (cv x.RX 1 50=true):=eB h1 h2
 go_enter Tryz.func261,Tryz.ntmps261
 go_wp2_with fail;refine (wI x.aY x.prog x.bH _ HI.I.fit.1.prog HI.I.fit.1.ops HI.I.fit.2).mono ?_;rintro e w1 ⟨rfl,hb1⟩;have Hs:Hid (oV w w1 x):=HI.I.below hb1;clear hb1 c0 c1 c2 c3 c4 c5 c6 c7 c8 c9 qF pe HI HB;obtain ⟨c0,c1,c2,c3,c4,c5,c6,c7,c8,c9,qF,pe⟩:=bo Hs.I.box;have hsh:=Hs.I.fit.1.held;have hsg:=Hs.I.fit.1.got;cases hl:jm x.prog with
 | false=>
  have HV:Hid (cH x.toaD=false):=by show cH _=false; rw [HE.I,hl]; simp
  clear HE hl;go_wp2;go_ret;exact ⟨al HV.I.symm,Hs.I.cd⟩
 | true=>
  have HL:Hid (jm x.prog=true):=hl;clear hl;go_wp2_with fail;refine (iM x.held _ hsh).mono ?_;rintro e w2 ⟨rfl,hw2⟩;subst hw2;cases hh:bw x.held with
  | false=>
   have HV:Hid (cH x.toaD=false):=by show cH _=false; rw [HE.I,hh]; simp
   clear HE hh;go_wp2;go_ret;exact ⟨al HV.I.symm,Hs.I.cd⟩
  | true=>
   have HH:Hid (bw x.held=true):=hh;clear hh;go_wp2_with fail;refine (iM x.got _ hsg).mono ?_;rintro e w2 ⟨rfl,hw2⟩;subst hw2;cases hg:bw x.got with
   | false=>
    have HV:Hid (cH x.toaD=false):=by show cH _=false; rw [HE.I,hg]; simp
    clear HE hg;go_wp2;go_ret;exact ⟨al HV.I.symm,Hs.I.cd⟩
   | true=>
    have HG:Hid (bw x.got=true):=hg;clear hg;by_cases h3:0≤x.code;rotate_left
    ·have HV:Hid (cH x.toaD=false):=by show cH _=false; rw [HE.I,mA (n:=x.code) (by omega)]; simp
     clear HE;go_wp2;go_ret;exact ⟨al HV.I.symm,Hs.I.cd⟩
    by_cases h4:x.code≤3;rotate_left
    ·have HV:Hid (cH x.toaD=false):=by show cH _=false; rw [HE.I,kR (n:=x.code) (by omega)]; simp
     clear HE;go_wp2;go_ret;exact ⟨al HV.I.symm,Hs.I.cd⟩
    have HC:Hid (cv x.code 0 3=true):=eB h3 h4;go_wp2_with fail;refine (Am x _ Hs.I.fit).mono ?_;rintro e w2 ⟨rfl,hb2⟩;have jA:Hid (oV w w2 x):=Hs.I.below hb2;clear hb2;have HV:Hid (cH x.toaD=bO x.toaD):=by show cH _=_; rw [HE.I,HP.I,HL.I,HH.I,HG.I,HC.I]; simp
    clear HE;go_wp2;go_ret;exact ⟨al HV.I.symm,jA.I.cd⟩
end
section
open Go.RowKit
attribute [local go_sem ↓] Kc Kd
def IW (w:World) (Me:Int) (list:List bD) (k:Nat) (wr:World):Prop:=
 ∃ l:List (bD × Nat),l.map (·.1)=list.take k∧eS eH (fun x:bD=>x.id) 184 166 w wr Me l∧aw (fun x:bD=>x.id) (fun x:bD=>gw x) 0 (list.take k)=true∧(k:Int)≤max Me 0
theorem vV (a:Option Addr) (list:List bD) (cap:Nat) (Me:Int) (w:World) (hl:list.length≤1048576) (h:dm.bU w a list) (hf: ∀ x∈list,kU w x) (hw: ∀ x∈list,(Lit.int .i64 x.id).wf=true):
  Calls J3 176 #[.slice a list.length cap,.int .i64 Me] w fun e w'=>jN eH (fun x:bD=>x.id) 184 w Me (aw (fun x:bD=>x.id) (fun x:bD=>gw x) 0 list && decide ((list.length:Int)≤max Me 0)) list e w':=by
 have hmk:=P4 (P:=J3) 164;have hmn:=pb;have H0:Hid (eS eH (fun x:bD=>x.id) 184 166 w (((w.alloc (.cells #[.int .i64 0,.map none] 166)).alloc (.map #[] 0)).alloc (.cells #[.int .i64 Me,.map (some (w.heap.size+1))] 166)) Me []):=eS.start 166 w Me;have HL:Hid (dm.bU w a list∧(∀ x∈list,kU w x)∧ ∀ x∈list,(Lit.int .i64 x.id).wf=true):=⟨h,hf,hw⟩
 clear h hf hw
 go_enter Tryz.func176,Tryz.ntmps176
 go_wp2_with fail
 go_loopw [7,15] (fun last i wr=> ∃ k:Nat,k≤list.length∧i= .int .i64 k∧last= .int .i64 (bW (fun x:bD=>x.id) 0 (list.take k))∧Hid (IW w Me list k wr)) (fun _ i _=>list.length - (intOf i).toNat)
 case atStart=>exact ⟨0,Ky _,rfl,rfl,⟨[],by simp,H0.I,rfl,by simp; omega⟩⟩
 case round=>
  clear H0 hmk;obtain ⟨k,hk,rfl,rfl,HA⟩:=hrel;obtain ⟨l,hlm,hin,oC,hkm⟩:=HA.I;have HT:Hid (l.map (·.1)=list.take k∧aw (fun x:bD=>x.id) (fun x:bD=>gw x) 0 (list.take k)=true∧(k:Int)≤max Me 0):=⟨hlm,oC,hkm⟩
  have HI:Hid (eS eH (fun x:bD=>x.id) 184 166 w wr Me l):=hin;clear HA hlm hin oC hkm;by_cases hlt:k < list.length
  ·have i0:(0:Int)≤(k:Int):=by omega
   have i1:(k:Int) < (list.length:Int):=by omega
   obtain ⟨x,hx⟩: ∃ x,list[k]? =some x:=⟨_,Kz hlt⟩
   have hmem:=KA hx;have HX:Hid (list[k]? =some x):=hx;have HF:Hid (kU w x∧(Lit.int .i64 x.id).wf=true):=⟨HL.I.2.1 x hmem,HL.I.2.2 x hmem⟩
   obtain ⟨gs,ha,hat⟩:=lQ (HL.I.1.below HI.I.cd) hx;obtain ⟨c0,c1,c2⟩:=hat;subst ha;clear hx hmem;go_wp2_with fail;refine (jv x _).mono ?_;rintro e w2 ⟨rfl,hb2⟩;have jA:Hid (eS eH (fun x:bD=>x.id) 184 166 w w2 Me l):=(HI.I.below ((Kp _ wr).alloc (Ki _) (.cells #[.int .i64 x.id,.int .i64 x.n,.int .i64 x.max] 184))).below hb2;have HB:Hid (w2.heap[wr.heap.size]? =some (.cells (eH x) 184 (0,0))):=(hb2.block _ (by simp)).trans (Kj _ _);have HZ:Hid (w.heap.size+1 < wr.heap.size):=by show w.heap.size+1 < wr.heap.size; have:=(J2.1 HI.I.var).1; omega
   clear hb2 HI c0 c1 c2;obtain ⟨d0,d1,d2⟩:=gm HB.I;obtain ⟨r0,r1,v0,v1,z0,z1⟩:=jA.I.cells;by_cases hle:x.id≤bW (fun x:bD=>x.id) 0 (list.take k)
   ·have HN:Hid ((aw (fun x:bD=>x.id) (fun x:bD=>gw x) 0 list && decide ((list.length:Int)≤max Me 0))=false):=by
     show _=false
     rw [bS HX.I (fun hh=>absurd hh.2.1 (by show ¬ bW (fun x:bD=>x.id) 0 (list.take k) < x.id; omega))]; rfl
    go_wp2;refine KT (v:= .tuple #[.agg #[.int .i64 0,.map none],.bool false]) (by simp [results,Tryz.results176,go_sem, *]) rfl ?_;exact ⟨(jA.I.lu _ _).2,.inl ⟨HN.I,rfl⟩⟩
   have j6:Hid (bW (fun x:bD=>x.id) 0 (list.take k) < x.id):=by show _ < _; omega
   have hkl:(RW (fun x:bD=>x.id) l).length≤1048576:=by
    rw [bZ]
    have:=congrArg List.length HT.I.1
    simp only [KG,Lk] at this;omega
   go_wp2_with fail;refine (tU Me (w.heap.size+1) (RW (fun x:bD=>x.id) l) x w2 jA.I.eh.map HF.I.2 hkl (HF.I.1.below jA.I.cd)).mono ?_;rintro e w3 ⟨rfl,hno,fm⟩;cases fW:iI Me (RW (fun x:bD=>x.id) l) x.id (gw x) with
   | false=>
    have HN:Hid ((aw (fun x:bD=>x.id) (fun x:bD=>gw x) 0 list && decide ((list.length:Int)≤max Me 0))=false):=iC HX.I HT.I.1 HT.I.2.1 j6.I fW;have Aw:Hid (eS eH (fun x:bD=>x.id) 184 166 w w3 Me l):=jA.I.below (hno fW);clear hno fm fW jA r0 r1 v0 v1 z0 z1 d0 d1 d2 HB;obtain ⟨r0,r1,v0,v1,z0,z1⟩:=Aw.I.cells;go_wp2;refine KT (v:= .tuple #[.agg #[.int .i64 0,.map none],.bool false]) (by simp [results,Tryz.results176,go_sem, *]) rfl ?_;exact ⟨(Aw.I.lu _ _).2,.inl ⟨HN.I,rfl⟩⟩
   | true=>
    have HY:Hid (aw (fun x:bD=>x.id) (fun x:bD=>gw x) 0 (list.take (k+1))=true∧((k+1:Nat):Int)≤max Me 0):=gM HX.I HT.I.1 HT.I.2.1 j6.I fW;obtain ⟨g,ph⟩:=jA.I.lay (x:=x) (e:= .returned (.bool true)) (w':=w3) ⟨rfl,(fun h=>by cases h),fun _=>fm fW⟩ (jB HT.I.1 HT.I.2.1 j6.I);have BD:Hid (eS eH (fun x:bD=>x.id) 184 166 w w3 Me (l ++ [(x,g)])):=ph;have oh:Hid (w3.heap[wr.heap.size]? =some (.cells (eH x) 184 (0,0))):=by
     obtain ⟨g',_,_,_,hgr⟩:=fm fW;exact (hgr.block _ (J2.1 HB.I).1 (fun e=>by have:=KC e; have:=HZ.I; omega)).trans HB.I
    clear hno fm fW jA r0 r1 v0 v1 z0 z1 d0 d1 d2 HB ph;obtain ⟨d0,d1,d2⟩:=gm oh.I;go_wp2_with fail;refine (jv x _).mono ?_;rintro e w5 ⟨rfl,iJ⟩;have EY:Hid (eS eH (fun x:bD=>x.id) 184 166 w w5 Me (l ++ [(x,g)])):=BD.I.below iJ;have HE:Hid (bW (fun x:bD=>x.id) 0 (list.take (k+1))=x.id):=eG HX.I 0;clear iJ BD;go_wp2;go_roundw
    case rel=>exact ⟨k+1,by omega,by go_num,by rw [HE.I],⟨l ++ [(x,g)],by rw [Kl,HT.I.1,cj HX.I]; rfl,EY.I,HY.I.1,HY.I.2⟩⟩
    case measure=>simp [intOf]; omega
  ·have i1: ¬ (k:Int) < (list.length:Int):=by omega
   have HK:Hid (list.take k=list∧((list.length:Int)≤max Me 0)):=⟨KF (by omega),by have:=HT.I.2.2; omega⟩
   have HY:Hid ((aw (fun x:bD=>x.id) (fun x:bD=>gw x) 0 list && decide ((list.length:Int)≤max Me 0))=true):=by
    show _=true
    have h1:=HT.I.2.1;rw [HK.I.1] at h1;rw [h1,decide_eq_true HK.I.2]; rfl
   obtain ⟨r0,r1,v0,v1,z0,z1⟩:=HI.I.cells;go_wp2;refine KT (v:= .tuple #[.agg #[.int .i64 Me,.map (some (w.heap.size+1))],.bool true]) (by simp [results,Tryz.results176,go_sem, *]) rfl ?_;exact ⟨(HI.I.lu _ _).2,.inr ⟨HY.I,w.heap.size+1,l,rfl,by rw [HT.I.1,HK.I.1],(HI.I.lu _ _).1⟩⟩
def EJ (w:World) (Me:Int) (list:List aB) (k:Nat) (wr:World):Prop:=
 ∃ l:List (aB × Nat),l.map (·.1)=list.take k∧eS cG (fun x:aB=>x.id) 187 169 w wr Me l∧aw (fun x:aB=>x.id) (fun x:aB=>ey x) 0 (list.take k)=true∧(k:Int)≤max Me 0
theorem rZ (a:Option Addr) (list:List aB) (cap:Nat) (Me:Int) (w:World) (hl:list.length≤1048576) (h:bJ.bU w a list) (hf: ∀ x∈list,ix w x) (hw: ∀ x∈list,(Lit.int .i64 x.id).wf=true):
  Calls J3 177 #[.slice a list.length cap,.int .i64 Me] w fun e w'=>jN cG (fun x:aB=>x.id) 187 w Me (aw (fun x:aB=>x.id) (fun x:aB=>ey x) 0 list && decide ((list.length:Int)≤max Me 0)) list e w':=by
 have hmk:=P4 (P:=J3) 167;have hmn:=mT;have H0:Hid (eS cG (fun x:aB=>x.id) 187 169 w (((w.alloc (.cells #[.int .i64 0,.map none] 169)).alloc (.map #[] 0)).alloc (.cells #[.int .i64 Me,.map (some (w.heap.size+1))] 169)) Me []):=eS.start 169 w Me;have HL:Hid (bJ.bU w a list∧(∀ x∈list,ix w x)∧ ∀ x∈list,(Lit.int .i64 x.id).wf=true):=⟨h,hf,hw⟩
 clear h hf hw
 go_enter Tryz.func177,Tryz.ntmps177
 go_wp2_with fail
 go_loopw [7,15] (fun last i wr=> ∃ k:Nat,k≤list.length∧i= .int .i64 k∧last= .int .i64 (bW (fun x:aB=>x.id) 0 (list.take k))∧Hid (EJ w Me list k wr)) (fun _ i _=>list.length - (intOf i).toNat)
 case atStart=>exact ⟨0,Ky _,rfl,rfl,⟨[],by simp,H0.I,rfl,by simp; omega⟩⟩
 case round=>
  clear H0 hmk;obtain ⟨k,hk,rfl,rfl,HA⟩:=hrel;obtain ⟨l,hlm,hin,oC,hkm⟩:=HA.I;have HT:Hid (l.map (·.1)=list.take k∧aw (fun x:aB=>x.id) (fun x:aB=>ey x) 0 (list.take k)=true∧(k:Int)≤max Me 0):=⟨hlm,oC,hkm⟩
  have HI:Hid (eS cG (fun x:aB=>x.id) 187 169 w wr Me l):=hin;clear HA hlm hin oC hkm;by_cases hlt:k < list.length
  ·have i0:(0:Int)≤(k:Int):=by omega
   have i1:(k:Int) < (list.length:Int):=by omega
   obtain ⟨x,hx⟩: ∃ x,list[k]? =some x:=⟨_,Kz hlt⟩
   have hmem:=KA hx;have HX:Hid (list[k]? =some x):=hx;have HF:Hid (ix w x∧(Lit.int .i64 x.id).wf=true):=⟨HL.I.2.1 x hmem,HL.I.2.2 x hmem⟩
   obtain ⟨gs,ha,hat⟩:=j4 (HL.I.1.below HI.I.cd) hx;obtain ⟨c0,c1⟩:=hat;subst ha;clear hx hmem;go_wp2_with fail;refine (iw x _).mono ?_;rintro e w2 ⟨rfl,hb2⟩;have jA:Hid (eS cG (fun x:aB=>x.id) 187 169 w w2 Me l):=(HI.I.below ((Kp _ wr).alloc (Ki _) (.cells #[.int .i64 x.id,.bool x.up] 187))).below hb2;have HB:Hid (w2.heap[wr.heap.size]? =some (.cells (cG x) 187 (0,0))):=(hb2.block _ (by simp)).trans (Kj _ _);have HZ:Hid (w.heap.size+1 < wr.heap.size):=by show w.heap.size+1 < wr.heap.size; have:=(J2.1 HI.I.var).1; omega
   clear hb2 HI c0 c1;obtain ⟨d0,d1⟩:=kF HB.I;obtain ⟨r0,r1,v0,v1,z0,z1⟩:=jA.I.cells;by_cases hle:x.id≤bW (fun x:aB=>x.id) 0 (list.take k)
   ·have HN:Hid ((aw (fun x:aB=>x.id) (fun x:aB=>ey x) 0 list && decide ((list.length:Int)≤max Me 0))=false):=by
     show _=false
     rw [bS HX.I (fun hh=>absurd hh.2.1 (by show ¬ bW (fun x:aB=>x.id) 0 (list.take k) < x.id; omega))]; rfl
    go_wp2;refine KT (v:= .tuple #[.agg #[.int .i64 0,.map none],.bool false]) (by simp [results,Tryz.results177,go_sem, *]) rfl ?_;exact ⟨(jA.I.lu _ _).2,.inl ⟨HN.I,rfl⟩⟩
   have j6:Hid (bW (fun x:aB=>x.id) 0 (list.take k) < x.id):=by show _ < _; omega
   have hkl:(RW (fun x:aB=>x.id) l).length≤1048576:=by
    rw [bZ]
    have:=congrArg List.length HT.I.1
    simp only [KG,Lk] at this;omega
   go_wp2_with fail;refine (rC Me (w.heap.size+1) (RW (fun x:aB=>x.id) l) x w2 jA.I.eh.map HF.I.2 hkl (HF.I.1.below jA.I.cd)).mono ?_;rintro e w3 ⟨rfl,hno,fm⟩;cases fW:iI Me (RW (fun x:aB=>x.id) l) x.id (ey x) with
   | false=>
    have HN:Hid ((aw (fun x:aB=>x.id) (fun x:aB=>ey x) 0 list && decide ((list.length:Int)≤max Me 0))=false):=iC HX.I HT.I.1 HT.I.2.1 j6.I fW;have Aw:Hid (eS cG (fun x:aB=>x.id) 187 169 w w3 Me l):=jA.I.below (hno fW);clear hno fm fW jA r0 r1 v0 v1 z0 z1 d0 d1 HB;obtain ⟨r0,r1,v0,v1,z0,z1⟩:=Aw.I.cells;go_wp2;refine KT (v:= .tuple #[.agg #[.int .i64 0,.map none],.bool false]) (by simp [results,Tryz.results177,go_sem, *]) rfl ?_;exact ⟨(Aw.I.lu _ _).2,.inl ⟨HN.I,rfl⟩⟩
   | true=>
    have HY:Hid (aw (fun x:aB=>x.id) (fun x:aB=>ey x) 0 (list.take (k+1))=true∧((k+1:Nat):Int)≤max Me 0):=gM HX.I HT.I.1 HT.I.2.1 j6.I fW;obtain ⟨g,ph⟩:=jA.I.lay (x:=x) (e:= .returned (.bool true)) (w':=w3) ⟨rfl,(fun h=>by cases h),fun _=>fm fW⟩ (jB HT.I.1 HT.I.2.1 j6.I);have BD:Hid (eS cG (fun x:aB=>x.id) 187 169 w w3 Me (l ++ [(x,g)])):=ph;have oh:Hid (w3.heap[wr.heap.size]? =some (.cells (cG x) 187 (0,0))):=by
     obtain ⟨g',_,_,_,hgr⟩:=fm fW;exact (hgr.block _ (J2.1 HB.I).1 (fun e=>by have:=KC e; have:=HZ.I; omega)).trans HB.I
    clear hno fm fW jA r0 r1 v0 v1 z0 z1 d0 d1 HB ph;obtain ⟨d0,d1⟩:=kF oh.I;go_wp2_with fail;refine (iw x _).mono ?_;rintro e w5 ⟨rfl,iJ⟩;have EY:Hid (eS cG (fun x:aB=>x.id) 187 169 w w5 Me (l ++ [(x,g)])):=BD.I.below iJ;have HE:Hid (bW (fun x:aB=>x.id) 0 (list.take (k+1))=x.id):=eG HX.I 0;clear iJ BD;go_wp2;go_roundw
    case rel=>exact ⟨k+1,by omega,by go_num,by rw [HE.I],⟨l ++ [(x,g)],by rw [Kl,HT.I.1,cj HX.I]; rfl,EY.I,HY.I.1,HY.I.2⟩⟩
    case measure=>simp [intOf]; omega
  ·have i1: ¬ (k:Int) < (list.length:Int):=by omega
   have HK:Hid (list.take k=list∧((list.length:Int)≤max Me 0)):=⟨KF (by omega),by have:=HT.I.2.2; omega⟩
   have HY:Hid ((aw (fun x:aB=>x.id) (fun x:aB=>ey x) 0 list && decide ((list.length:Int)≤max Me 0))=true):=by
    show _=true
    have h1:=HT.I.2.1;rw [HK.I.1] at h1;rw [h1,decide_eq_true HK.I.2]; rfl
   obtain ⟨r0,r1,v0,v1,z0,z1⟩:=HI.I.cells;go_wp2;refine KT (v:= .tuple #[.agg #[.int .i64 Me,.map (some (w.heap.size+1))],.bool true]) (by simp [results,Tryz.results177,go_sem, *]) rfl ?_;exact ⟨(HI.I.lu _ _).2,.inr ⟨HY.I,w.heap.size+1,l,rfl,by rw [HT.I.1,HK.I.1],(HI.I.lu _ _).1⟩⟩
def EX (w:World) (Me:Int) (list:List az) (k:Nat) (wr:World):Prop:=
 ∃ l:List (az × Nat),l.map (·.1)=list.take k∧eS cI (fun x:az=>x.id) 190 172 w wr Me l∧aw (fun x:az=>x.id) (fun x:az=>cU x) 0 (list.take k)=true∧(k:Int)≤max Me 0
theorem si (a:Option Addr) (list:List az) (cap:Nat) (Me:Int) (w:World) (hl:list.length≤1048576) (h:bG.bU w a list) (hf: ∀ x∈list,gX w x) (hw: ∀ x∈list,(Lit.int .i64 x.id).wf=true):
  Calls J3 178 #[.slice a list.length cap,.int .i64 Me] w fun e w'=>jN cI (fun x:az=>x.id) 190 w Me (aw (fun x:az=>x.id) (fun x:az=>cU x) 0 list && decide ((list.length:Int)≤max Me 0)) list e w':=by
 have hmk:=P4 (P:=J3) 170;have hmn:=nr;have H0:Hid (eS cI (fun x:az=>x.id) 190 172 w (((w.alloc (.cells #[.int .i64 0,.map none] 172)).alloc (.map #[] 0)).alloc (.cells #[.int .i64 Me,.map (some (w.heap.size+1))] 172)) Me []):=eS.start 172 w Me;have HL:Hid (bG.bU w a list∧(∀ x∈list,gX w x)∧ ∀ x∈list,(Lit.int .i64 x.id).wf=true):=⟨h,hf,hw⟩
 clear h hf hw
 go_enter Tryz.func178,Tryz.ntmps178
 go_wp2_with fail
 go_loopw [7,15] (fun last i wr=> ∃ k:Nat,k≤list.length∧i= .int .i64 k∧last= .int .i64 (bW (fun x:az=>x.id) 0 (list.take k))∧Hid (EX w Me list k wr)) (fun _ i _=>list.length - (intOf i).toNat)
 case atStart=>exact ⟨0,Ky _,rfl,rfl,⟨[],by simp,H0.I,rfl,by simp; omega⟩⟩
 case round=>
  clear H0 hmk;obtain ⟨k,hk,rfl,rfl,HA⟩:=hrel;obtain ⟨l,hlm,hin,oC,hkm⟩:=HA.I;have HT:Hid (l.map (·.1)=list.take k∧aw (fun x:az=>x.id) (fun x:az=>cU x) 0 (list.take k)=true∧(k:Int)≤max Me 0):=⟨hlm,oC,hkm⟩
  have HI:Hid (eS cI (fun x:az=>x.id) 190 172 w wr Me l):=hin;clear HA hlm hin oC hkm;by_cases hlt:k < list.length
  ·have i0:(0:Int)≤(k:Int):=by omega
   have i1:(k:Int) < (list.length:Int):=by omega
   obtain ⟨x,hx⟩: ∃ x,list[k]? =some x:=⟨_,Kz hlt⟩
   have hmem:=KA hx;have HX:Hid (list[k]? =some x):=hx;have HF:Hid (gX w x∧(Lit.int .i64 x.id).wf=true):=⟨HL.I.2.1 x hmem,HL.I.2.2 x hmem⟩
   obtain ⟨gs,ha,hat⟩:=jr (HL.I.1.below HI.I.cd) hx;obtain ⟨c0,c1,c2⟩:=hat;subst ha;clear hx hmem;go_wp2_with fail;refine (iq x _).mono ?_;rintro e w2 ⟨rfl,hb2⟩;have jA:Hid (eS cI (fun x:az=>x.id) 190 172 w w2 Me l):=(HI.I.below ((Kp _ wr).alloc (Ki _) (.cells #[.int .i64 x.id,.bool x.shown,.string x.text] 190))).below hb2;have HB:Hid (w2.heap[wr.heap.size]? =some (.cells (cI x) 190 (0,0))):=(hb2.block _ (by simp)).trans (Kj _ _);have HZ:Hid (w.heap.size+1 < wr.heap.size):=by show w.heap.size+1 < wr.heap.size; have:=(J2.1 HI.I.var).1; omega
   clear hb2 HI c0 c1 c2;obtain ⟨d0,d1,d2⟩:=kJ HB.I;obtain ⟨r0,r1,v0,v1,z0,z1⟩:=jA.I.cells;by_cases hle:x.id≤bW (fun x:az=>x.id) 0 (list.take k)
   ·have HN:Hid ((aw (fun x:az=>x.id) (fun x:az=>cU x) 0 list && decide ((list.length:Int)≤max Me 0))=false):=by
     show _=false
     rw [bS HX.I (fun hh=>absurd hh.2.1 (by show ¬ bW (fun x:az=>x.id) 0 (list.take k) < x.id; omega))]; rfl
    go_wp2;refine KT (v:= .tuple #[.agg #[.int .i64 0,.map none],.bool false]) (by simp [results,Tryz.results178,go_sem, *]) rfl ?_;exact ⟨(jA.I.lu _ _).2,.inl ⟨HN.I,rfl⟩⟩
   have j6:Hid (bW (fun x:az=>x.id) 0 (list.take k) < x.id):=by show _ < _; omega
   have hkl:(RW (fun x:az=>x.id) l).length≤1048576:=by
    rw [bZ]
    have:=congrArg List.length HT.I.1
    simp only [KG,Lk] at this;omega
   go_wp2_with fail;refine (rr Me (w.heap.size+1) (RW (fun x:az=>x.id) l) x w2 jA.I.eh.map HF.I.2 hkl (HF.I.1.below jA.I.cd)).mono ?_;rintro e w3 ⟨rfl,hno,fm⟩;cases fW:iI Me (RW (fun x:az=>x.id) l) x.id (cU x) with
   | false=>
    have HN:Hid ((aw (fun x:az=>x.id) (fun x:az=>cU x) 0 list && decide ((list.length:Int)≤max Me 0))=false):=iC HX.I HT.I.1 HT.I.2.1 j6.I fW;have Aw:Hid (eS cI (fun x:az=>x.id) 190 172 w w3 Me l):=jA.I.below (hno fW);clear hno fm fW jA r0 r1 v0 v1 z0 z1 d0 d1 d2 HB;obtain ⟨r0,r1,v0,v1,z0,z1⟩:=Aw.I.cells;go_wp2;refine KT (v:= .tuple #[.agg #[.int .i64 0,.map none],.bool false]) (by simp [results,Tryz.results178,go_sem, *]) rfl ?_;exact ⟨(Aw.I.lu _ _).2,.inl ⟨HN.I,rfl⟩⟩
   | true=>
    have HY:Hid (aw (fun x:az=>x.id) (fun x:az=>cU x) 0 (list.take (k+1))=true∧((k+1:Nat):Int)≤max Me 0):=gM HX.I HT.I.1 HT.I.2.1 j6.I fW;obtain ⟨g,ph⟩:=jA.I.lay (x:=x) (e:= .returned (.bool true)) (w':=w3) ⟨rfl,(fun h=>by cases h),fun _=>fm fW⟩ (jB HT.I.1 HT.I.2.1 j6.I);have BD:Hid (eS cI (fun x:az=>x.id) 190 172 w w3 Me (l ++ [(x,g)])):=ph;have oh:Hid (w3.heap[wr.heap.size]? =some (.cells (cI x) 190 (0,0))):=by
     obtain ⟨g',_,_,_,hgr⟩:=fm fW;exact (hgr.block _ (J2.1 HB.I).1 (fun e=>by have:=KC e; have:=HZ.I; omega)).trans HB.I
    clear hno fm fW jA r0 r1 v0 v1 z0 z1 d0 d1 d2 HB ph;obtain ⟨d0,d1,d2⟩:=kJ oh.I;go_wp2_with fail;refine (iq x _).mono ?_;rintro e w5 ⟨rfl,iJ⟩;have EY:Hid (eS cI (fun x:az=>x.id) 190 172 w w5 Me (l ++ [(x,g)])):=BD.I.below iJ;have HE:Hid (bW (fun x:az=>x.id) 0 (list.take (k+1))=x.id):=eG HX.I 0;clear iJ BD;go_wp2;go_roundw
    case rel=>exact ⟨k+1,by omega,by go_num,by rw [HE.I],⟨l ++ [(x,g)],by rw [Kl,HT.I.1,cj HX.I]; rfl,EY.I,HY.I.1,HY.I.2⟩⟩
    case measure=>simp [intOf]; omega
  ·have i1: ¬ (k:Int) < (list.length:Int):=by omega
   have HK:Hid (list.take k=list∧((list.length:Int)≤max Me 0)):=⟨KF (by omega),by have:=HT.I.2.2; omega⟩
   have HY:Hid ((aw (fun x:az=>x.id) (fun x:az=>cU x) 0 list && decide ((list.length:Int)≤max Me 0))=true):=by
    show _=true
    have h1:=HT.I.2.1;rw [HK.I.1] at h1;rw [h1,decide_eq_true HK.I.2]; rfl
   obtain ⟨r0,r1,v0,v1,z0,z1⟩:=HI.I.cells;go_wp2;refine KT (v:= .tuple #[.agg #[.int .i64 Me,.map (some (w.heap.size+1))],.bool true]) (by simp [results,Tryz.results178,go_sem, *]) rfl ?_;exact ⟨(HI.I.lu _ _).2,.inr ⟨HY.I,w.heap.size+1,l,rfl,by rw [HT.I.1,HK.I.1],(HI.I.lu _ _).1⟩⟩
def Dj (w:World) (Me:Int) (list:List au) (k:Nat) (wr:World):Prop:=
 ∃ l:List (au × Nat),l.map (·.1)=list.take k∧eS bQ (fun x:au=>x.id) 160 175 w wr Me l∧aw (fun x:au=>x.id) (fun x:au=>ct x.toci) 0 (list.take k)=true∧(k:Int)≤max Me 0
theorem rH (a:Option Addr) (list:List au) (cap:Nat) (Me:Int) (w:World) (hl:list.length≤1048576) (h:bm.bU w a list) (hf: ∀ x∈list,fM w x) (hw: ∀ x∈list,(Lit.int .i64 x.id).wf=true):
  Calls J3 179 #[.slice a list.length cap,.int .i64 Me] w fun e w'=>jN bQ (fun x:au=>x.id) 160 w Me (aw (fun x:au=>x.id) (fun x:au=>ct x.toci) 0 list && decide ((list.length:Int)≤max Me 0)) list e w':=by
 have hmk:=P4 (P:=J3) 173;have hmn:=mc;have H0:Hid (eS bQ (fun x:au=>x.id) 160 175 w (((w.alloc (.cells #[.int .i64 0,.map none] 175)).alloc (.map #[] 0)).alloc (.cells #[.int .i64 Me,.map (some (w.heap.size+1))] 175)) Me []):=eS.start 175 w Me;have HL:Hid (bm.bU w a list∧(∀ x∈list,fM w x)∧ ∀ x∈list,(Lit.int .i64 x.id).wf=true):=⟨h,hf,hw⟩
 clear h hf hw
 go_enter Tryz.func179,Tryz.ntmps179
 go_wp2_with fail
 go_loopw [7,15] (fun last i wr=> ∃ k:Nat,k≤list.length∧i= .int .i64 k∧last= .int .i64 (bW (fun x:au=>x.id) 0 (list.take k))∧Hid (Dj w Me list k wr)) (fun _ i _=>list.length - (intOf i).toNat)
 case atStart=>exact ⟨0,Ky _,rfl,rfl,⟨[],by simp,H0.I,rfl,by simp; omega⟩⟩
 case round=>
  clear H0 hmk;obtain ⟨k,hk,rfl,rfl,HA⟩:=hrel;obtain ⟨l,hlm,hin,oC,hkm⟩:=HA.I;have HT:Hid (l.map (·.1)=list.take k∧aw (fun x:au=>x.id) (fun x:au=>ct x.toci) 0 (list.take k)=true∧(k:Int)≤max Me 0):=⟨hlm,oC,hkm⟩
  have HI:Hid (eS bQ (fun x:au=>x.id) 160 175 w wr Me l):=hin;clear HA hlm hin oC hkm;by_cases hlt:k < list.length
  ·have i0:(0:Int)≤(k:Int):=by omega
   have i1:(k:Int) < (list.length:Int):=by omega
   obtain ⟨x,hx⟩: ∃ x,list[k]? =some x:=⟨_,Kz hlt⟩
   have hmem:=KA hx;have HX:Hid (list[k]? =some x):=hx;have HF:Hid (fM w x∧(Lit.int .i64 x.id).wf=true):=⟨HL.I.2.1 x hmem,HL.I.2.2 x hmem⟩
   obtain ⟨gs,ha,hat⟩:=iA (HL.I.1.below HI.I.cd) hx;obtain ⟨c0,c1,c2⟩:=hat;subst ha;clear hx hmem;go_wp2_with fail;refine (gP x _).mono ?_;rintro e w2 ⟨rfl,hb2⟩;have jA:Hid (eS bQ (fun x:au=>x.id) 160 175 w w2 Me l):=(HI.I.below ((Kp _ wr).alloc (Ki _) (.cells #[.int .i64 x.id,.int .i64 x.max,.slice x.ak x.Ma.length x.aq] 160))).below hb2;have HB:Hid (w2.heap[wr.heap.size]? =some (.cells (bQ x) 160 (0,0))):=(hb2.block _ (by simp)).trans (Kj _ _);have HZ:Hid (w.heap.size+1 < wr.heap.size):=by show w.heap.size+1 < wr.heap.size; have:=(J2.1 HI.I.var).1; omega
   clear hb2 HI c0 c1 c2;obtain ⟨d0,d1,d2⟩:=ia HB.I;obtain ⟨r0,r1,v0,v1,z0,z1⟩:=jA.I.cells;by_cases hle:x.id≤bW (fun x:au=>x.id) 0 (list.take k)
   ·have HN:Hid ((aw (fun x:au=>x.id) (fun x:au=>ct x.toci) 0 list && decide ((list.length:Int)≤max Me 0))=false):=by
     show _=false
     rw [bS HX.I (fun hh=>absurd hh.2.1 (by show ¬ bW (fun x:au=>x.id) 0 (list.take k) < x.id; omega))]; rfl
    go_wp2;refine KT (v:= .tuple #[.agg #[.int .i64 0,.map none],.bool false]) (by simp [results,Tryz.results179,go_sem, *]) rfl ?_;exact ⟨(jA.I.lu _ _).2,.inl ⟨HN.I,rfl⟩⟩
   have j6:Hid (bW (fun x:au=>x.id) 0 (list.take k) < x.id):=by show _ < _; omega
   have hkl:(RW (fun x:au=>x.id) l).length≤1048576:=by
    rw [bZ]
    have:=congrArg List.length HT.I.1
    simp only [KG,Lk] at this;omega
   go_wp2_with fail;refine (pV Me (w.heap.size+1) (RW (fun x:au=>x.id) l) x w2 jA.I.eh.map HF.I.2 hkl (HF.I.1.below jA.I.cd)).mono ?_;rintro e w3 ⟨rfl,hno,fm⟩;cases fW:iI Me (RW (fun x:au=>x.id) l) x.id (ct x.toci) with
   | false=>
    have HN:Hid ((aw (fun x:au=>x.id) (fun x:au=>ct x.toci) 0 list && decide ((list.length:Int)≤max Me 0))=false):=iC HX.I HT.I.1 HT.I.2.1 j6.I fW;have Aw:Hid (eS bQ (fun x:au=>x.id) 160 175 w w3 Me l):=jA.I.below (hno fW);clear hno fm fW jA r0 r1 v0 v1 z0 z1 d0 d1 d2 HB;obtain ⟨r0,r1,v0,v1,z0,z1⟩:=Aw.I.cells;go_wp2;refine KT (v:= .tuple #[.agg #[.int .i64 0,.map none],.bool false]) (by simp [results,Tryz.results179,go_sem, *]) rfl ?_;exact ⟨(Aw.I.lu _ _).2,.inl ⟨HN.I,rfl⟩⟩
   | true=>
    have HY:Hid (aw (fun x:au=>x.id) (fun x:au=>ct x.toci) 0 (list.take (k+1))=true∧((k+1:Nat):Int)≤max Me 0):=gM HX.I HT.I.1 HT.I.2.1 j6.I fW;obtain ⟨g,ph⟩:=jA.I.lay (x:=x) (e:= .returned (.bool true)) (w':=w3) ⟨rfl,(fun h=>by cases h),fun _=>fm fW⟩ (jB HT.I.1 HT.I.2.1 j6.I);have BD:Hid (eS bQ (fun x:au=>x.id) 160 175 w w3 Me (l ++ [(x,g)])):=ph;have oh:Hid (w3.heap[wr.heap.size]? =some (.cells (bQ x) 160 (0,0))):=by
     obtain ⟨g',_,_,_,hgr⟩:=fm fW;exact (hgr.block _ (J2.1 HB.I).1 (fun e=>by have:=KC e; have:=HZ.I; omega)).trans HB.I
    clear hno fm fW jA r0 r1 v0 v1 z0 z1 d0 d1 d2 HB ph;obtain ⟨d0,d1,d2⟩:=ia oh.I;go_wp2_with fail;refine (gP x _).mono ?_;rintro e w5 ⟨rfl,iJ⟩;have EY:Hid (eS bQ (fun x:au=>x.id) 160 175 w w5 Me (l ++ [(x,g)])):=BD.I.below iJ;have HE:Hid (bW (fun x:au=>x.id) 0 (list.take (k+1))=x.id):=eG HX.I 0;clear iJ BD;go_wp2;go_roundw
    case rel=>exact ⟨k+1,by omega,by go_num,by rw [HE.I],⟨l ++ [(x,g)],by rw [Kl,HT.I.1,cj HX.I]; rfl,EY.I,HY.I.1,HY.I.2⟩⟩
    case measure=>simp [intOf]; omega
  ·have i1: ¬ (k:Int) < (list.length:Int):=by omega
   have HK:Hid (list.take k=list∧((list.length:Int)≤max Me 0)):=⟨KF (by omega),by have:=HT.I.2.2; omega⟩
   have HY:Hid ((aw (fun x:au=>x.id) (fun x:au=>ct x.toci) 0 list && decide ((list.length:Int)≤max Me 0))=true):=by
    show _=true
    have h1:=HT.I.2.1;rw [HK.I.1] at h1;rw [h1,decide_eq_true HK.I.2]; rfl
   obtain ⟨r0,r1,v0,v1,z0,z1⟩:=HI.I.cells;go_wp2;refine KT (v:= .tuple #[.agg #[.int .i64 Me,.map (some (w.heap.size+1))],.bool true]) (by simp [results,Tryz.results179,go_sem, *]) rfl ?_;exact ⟨(HI.I.lu _ _).2,.inr ⟨HY.I,w.heap.size+1,l,rfl,by rw [HT.I.1,HK.I.1],(HI.I.lu _ _).1⟩⟩
def F3 (w:World) (Me:Int) (list:List aM) (k:Nat) (wr:World):Prop:=
 ∃ l:List (aM × Nat),l.map (·.1)=list.take k∧eS cW (fun x:aM=>x.id) 85 178 w wr Me l∧aw (fun x:aM=>x.id) (fun x:aM=>dj x.todS) 0 (list.take k)=true∧(k:Int)≤max Me 0
theorem tB (a:Option Addr) (list:List aM) (cap:Nat) (Me:Int) (w:World) (hl:list.length≤1048576) (h:bX.bU w a list) (hf: ∀ x∈list,jf w x) (hw: ∀ x∈list,(Lit.int .i64 x.id).wf=true):
  Calls J3 180 #[.slice a list.length cap,.int .i64 Me] w fun e w'=>jN cW (fun x:aM=>x.id) 85 w Me (aw (fun x:aM=>x.id) (fun x:aM=>dj x.todS) 0 list && decide ((list.length:Int)≤max Me 0)) list e w':=by
 have hmk:=P4 (P:=J3) 176;have hmn:=nY;have H0:Hid (eS cW (fun x:aM=>x.id) 85 178 w (((w.alloc (.cells #[.int .i64 0,.map none] 178)).alloc (.map #[] 0)).alloc (.cells #[.int .i64 Me,.map (some (w.heap.size+1))] 178)) Me []):=eS.start 178 w Me;have HL:Hid (bX.bU w a list∧(∀ x∈list,jf w x)∧ ∀ x∈list,(Lit.int .i64 x.id).wf=true):=⟨h,hf,hw⟩
 clear h hf hw
 go_enter Tryz.func180,Tryz.ntmps180
 go_wp2_with fail
 go_loopw [7,15] (fun last i wr=> ∃ k:Nat,k≤list.length∧i= .int .i64 k∧last= .int .i64 (bW (fun x:aM=>x.id) 0 (list.take k))∧Hid (F3 w Me list k wr)) (fun _ i _=>list.length - (intOf i).toNat)
 case atStart=>exact ⟨0,Ky _,rfl,rfl,⟨[],by simp,H0.I,rfl,by simp; omega⟩⟩
 case round=>
  clear H0 hmk;obtain ⟨k,hk,rfl,rfl,HA⟩:=hrel;obtain ⟨l,hlm,hin,oC,hkm⟩:=HA.I;have HT:Hid (l.map (·.1)=list.take k∧aw (fun x:aM=>x.id) (fun x:aM=>dj x.todS) 0 (list.take k)=true∧(k:Int)≤max Me 0):=⟨hlm,oC,hkm⟩
  have HI:Hid (eS cW (fun x:aM=>x.id) 85 178 w wr Me l):=hin;clear HA hlm hin oC hkm;by_cases hlt:k < list.length
  ·have i0:(0:Int)≤(k:Int):=by omega
   have i1:(k:Int) < (list.length:Int):=by omega
   obtain ⟨x,hx⟩: ∃ x,list[k]? =some x:=⟨_,Kz hlt⟩
   have hmem:=KA hx;have HX:Hid (list[k]? =some x):=hx;have HF:Hid (jf w x∧(Lit.int .i64 x.id).wf=true):=⟨HL.I.2.1 x hmem,HL.I.2.2 x hmem⟩
   obtain ⟨gs,ha,hat⟩:=lm (HL.I.1.below HI.I.cd) hx;obtain ⟨c0,c1,c2,c3,c4⟩:=hat;subst ha;clear hx hmem;go_wp2_with fail;refine (iN x _).mono ?_;rintro e w2 ⟨rfl,hb2⟩;have jA:Hid (eS cW (fun x:aM=>x.id) 85 178 w w2 Me l):=(HI.I.below ((Kp _ wr).alloc (Ki _) (.cells #[.int .i64 x.id,.bool x.I,.bool x.Mf,.int .i64 x.max,.slice x.ak x.Ma.length x.aq] 85))).below hb2;have HB:Hid (w2.heap[wr.heap.size]? =some (.cells (cW x) 85 (0,0))):=(hb2.block _ (by simp)).trans (Kj _ _);have HZ:Hid (w.heap.size+1 < wr.heap.size):=by show w.heap.size+1 < wr.heap.size; have:=(J2.1 HI.I.var).1; omega
   clear hb2 HI c0 c1 c2 c3 c4;obtain ⟨d0,d1,d2,d3,d4⟩:=gE HB.I;obtain ⟨r0,r1,v0,v1,z0,z1⟩:=jA.I.cells;by_cases hle:x.id≤bW (fun x:aM=>x.id) 0 (list.take k)
   ·have HN:Hid ((aw (fun x:aM=>x.id) (fun x:aM=>dj x.todS) 0 list && decide ((list.length:Int)≤max Me 0))=false):=by
     show _=false
     rw [bS HX.I (fun hh=>absurd hh.2.1 (by show ¬ bW (fun x:aM=>x.id) 0 (list.take k) < x.id; omega))]; rfl
    go_wp2;refine KT (v:= .tuple #[.agg #[.int .i64 0,.map none],.bool false]) (by simp [results,Tryz.results180,go_sem, *]) rfl ?_;exact ⟨(jA.I.lu _ _).2,.inl ⟨HN.I,rfl⟩⟩
   have j6:Hid (bW (fun x:aM=>x.id) 0 (list.take k) < x.id):=by show _ < _; omega
   have hkl:(RW (fun x:aM=>x.id) l).length≤1048576:=by
    rw [bZ]
    have:=congrArg List.length HT.I.1
    simp only [KG,Lk] at this;omega
   go_wp2_with fail;refine (tb Me (w.heap.size+1) (RW (fun x:aM=>x.id) l) x w2 jA.I.eh.map HF.I.2 hkl (HF.I.1.below jA.I.cd)).mono ?_;rintro e w3 ⟨rfl,hno,fm⟩;cases fW:iI Me (RW (fun x:aM=>x.id) l) x.id (dj x.todS) with
   | false=>
    have HN:Hid ((aw (fun x:aM=>x.id) (fun x:aM=>dj x.todS) 0 list && decide ((list.length:Int)≤max Me 0))=false):=iC HX.I HT.I.1 HT.I.2.1 j6.I fW;have Aw:Hid (eS cW (fun x:aM=>x.id) 85 178 w w3 Me l):=jA.I.below (hno fW);clear hno fm fW jA r0 r1 v0 v1 z0 z1 d0 d1 d2 d3 d4 HB;obtain ⟨r0,r1,v0,v1,z0,z1⟩:=Aw.I.cells;go_wp2;refine KT (v:= .tuple #[.agg #[.int .i64 0,.map none],.bool false]) (by simp [results,Tryz.results180,go_sem, *]) rfl ?_;exact ⟨(Aw.I.lu _ _).2,.inl ⟨HN.I,rfl⟩⟩
   | true=>
    have HY:Hid (aw (fun x:aM=>x.id) (fun x:aM=>dj x.todS) 0 (list.take (k+1))=true∧((k+1:Nat):Int)≤max Me 0):=gM HX.I HT.I.1 HT.I.2.1 j6.I fW;obtain ⟨g,ph⟩:=jA.I.lay (x:=x) (e:= .returned (.bool true)) (w':=w3) ⟨rfl,(fun h=>by cases h),fun _=>fm fW⟩ (jB HT.I.1 HT.I.2.1 j6.I);have BD:Hid (eS cW (fun x:aM=>x.id) 85 178 w w3 Me (l ++ [(x,g)])):=ph;have oh:Hid (w3.heap[wr.heap.size]? =some (.cells (cW x) 85 (0,0))):=by
     obtain ⟨g',_,_,_,hgr⟩:=fm fW;exact (hgr.block _ (J2.1 HB.I).1 (fun e=>by have:=KC e; have:=HZ.I; omega)).trans HB.I
    clear hno fm fW jA r0 r1 v0 v1 z0 z1 d0 d1 d2 d3 d4 HB ph;obtain ⟨d0,d1,d2,d3,d4⟩:=gE oh.I;go_wp2_with fail;refine (iN x _).mono ?_;rintro e w5 ⟨rfl,iJ⟩;have EY:Hid (eS cW (fun x:aM=>x.id) 85 178 w w5 Me (l ++ [(x,g)])):=BD.I.below iJ;have HE:Hid (bW (fun x:aM=>x.id) 0 (list.take (k+1))=x.id):=eG HX.I 0;clear iJ BD;go_wp2;go_roundw
    case rel=>exact ⟨k+1,by omega,by go_num,by rw [HE.I],⟨l ++ [(x,g)],by rw [Kl,HT.I.1,cj HX.I]; rfl,EY.I,HY.I.1,HY.I.2⟩⟩
    case measure=>simp [intOf]; omega
  ·have i1: ¬ (k:Int) < (list.length:Int):=by omega
   have HK:Hid (list.take k=list∧((list.length:Int)≤max Me 0)):=⟨KF (by omega),by have:=HT.I.2.2; omega⟩
   have HY:Hid ((aw (fun x:aM=>x.id) (fun x:aM=>dj x.todS) 0 list && decide ((list.length:Int)≤max Me 0))=true):=by
    show _=true
    have h1:=HT.I.2.1;rw [HK.I.1] at h1;rw [h1,decide_eq_true HK.I.2]; rfl
   obtain ⟨r0,r1,v0,v1,z0,z1⟩:=HI.I.cells;go_wp2;refine KT (v:= .tuple #[.agg #[.int .i64 Me,.map (some (w.heap.size+1))],.bool true]) (by simp [results,Tryz.results180,go_sem, *]) rfl ?_;exact ⟨(HI.I.lu _ _).2,.inr ⟨HY.I,w.heap.size+1,l,rfl,by rw [HT.I.1,HK.I.1],(HI.I.lu _ _).1⟩⟩
end
end Go.Proofs.YteidkehoekbcaaaGreat
