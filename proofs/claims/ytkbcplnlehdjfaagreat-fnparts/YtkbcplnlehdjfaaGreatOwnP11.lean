/- What the proof leans on, part 11. -/
import Derived.Test.YtkbcplnlehdjfaaGreatOwnP0
import Derived.Test.YtkbcplnlehdjfaaGreatOwnP9
set_option maxRecDepth 100000
set_option maxHeartbeats 8000000
open Bool renaming and_eq_true->J7,or_eq_true->Kb
open ByteArray renaming size_append->QH
open Go renaming callsIn_wide->LO
open Go.ByteArray renaming toList_eq->PQ
open Go.Proofs.Tryz renaming prog->J3,underlying114->PW
open Go.RowKit.Below renaming refl->Kp
open List renaming getElem?_eq_getElem->Kz,mem_cons->Kt,mem_map->Lr,not_mem_nil->Ku,pairwise_cons->LM

namespace Go.Proofs.YtkbcplnlehdjfaaGreat
open Go.RowKit
attribute [local go_sem ↓] Go.wp_at_zero Go.wp_at_succ
def sk (w:World) (b:Nat) (m:df) (Me:Int) (x:aB) (w':World):Prop:=(w'.cell? ⟨w.heap.size,0,none⟩=some (.int .i64 Me)∧w'.cell? ⟨w.heap.size,1,none⟩=some (.map (some b))∧(∀ ty,(Builtin.len_ #[114] ty #[.map (some b)]).run J3 w'= .ok (.int .i64 (m.length:Int)) w')∧w'.cell? ⟨w.heap.size+1,0,none⟩=some (.int .i64 x.id)∧w'.cell? ⟨w.heap.size+1,1,none⟩=some (.bool x.up))∧Hid (fe w w' w.heap.size (w.heap.size+1) b m Me (cG x) 138 116)∧Hid (ix w' x)
theorem ik {w w':World} {b:Nat} {m:df} {Me:Int} {x:aB} (h:fe w w' w.heap.size (w.heap.size+1) b m Me (cG x) 138 116) (hf:ix w' x):sk w b m Me x w':=
 ⟨⟨h.cells.1,h.cells.2,fun ty=>h.mp.len PW ty,kF h.bx⟩,h,hf⟩
theorem rC (Me:Int) (b:Nat) (m:df) (x:aB) (w:World) (h:cF w b m) (hw:(Lit.int .i64 x.id).wf=true) (hm:m.length≤1048576) (hf:ix w x):
  Calls J3 90 #[.agg #[.int .i64 Me,.map (some b)],.agg (cG x)] w fun e w'=>dD w b m (iI Me m x.id (ey x)) x.id (cG x) 138 e w':=by
 have HF:Hid (fe w ((w.alloc (.cells #[.int .i64 Me,.map (some b)] 116)).alloc (.cells (cG x) 138)) w.heap.size (w.heap.size+1) b m Me (cG x) 138 116):=fe.start w h Me _ _ _;have HW:Hid ((Lit.int .i64 x.id).wf=true∧ ¬ w.heap.size+1=b∧m.length≤1048576):=⟨hw,by have:=h.lt; omega,hm⟩
 have HI:Hid (ix ((w.alloc (.cells #[.int .i64 Me,.map (some b)] 116)).alloc (.cells (cG x) 138)) x):=hf.below ((((Kp _ w).alloc (Nat.le_refl _) _)).alloc (by simp) _);have hmn:=mT;have hmr:=tp;obtain ⟨s0,s1⟩:=HF.I.cells;obtain ⟨c0,c1⟩:=kF HF.I.bx;clear h hw hf hm;unfold cG at *
 go_enter Tryz.func90,Tryz.ntmps90
 go_wp2_with fail;clear s0 s1 c0 c1;obtain ⟨vA,hA⟩: ∃ v,(cz m x.id).isSome=v:=⟨_,rfl⟩
 obtain ⟨vB,F6⟩: ∃ v,decide (Me≤(m.length:Int))=v:=⟨_,rfl⟩
 obtain ⟨vC,hC⟩: ∃ v,cv x.id 1 1000=v:=⟨_,rfl⟩
 obtain ⟨vD,hD⟩: ∃ v,ey x=v:=⟨_,rfl⟩
 have HL:Hid (iI Me m x.id (ey x)=(!vA && !vB && vC && vD)∧(vA=false→cz m x.id=none)):=⟨pi hA F6 hC hD,fun e=>Option.isNone_iff_eq_none.1 (Option.isSome_eq_false_iff.1 (hA.trans e))⟩
 have HA:Hid (Ending.returned (.bool (cz m x.id).isSome)= .returned (.bool vA)):=al hA;have HC:Hid (Ending.returned (.bool (cv x.id 1 1000))= .returned (.bool vC)):=al hC;have HD:Hid (Ending.returned (.bool (ey x))= .returned (.bool vD)):=al hD;clear hA hC hD;refine aT (sk w b m Me x) (by kernel_rfl) (ik HF.I.drew (HI.I.below (Kp _ _).drew)) ?_
 iterate 3 (refine PI ?_ (hy:=fun w0 hS0=>by obtain ⟨⟨q0,q1,q2,q3,q4⟩,hH⟩:=hS0; go_simp; try with_reducible rfl))
 (refine cl (.int .i64 x.id) 307 #[.agg #[.int .i64 x.id,.bool x.up]] ?_ ?_ ?_; (intro w0 hS0; obtain ⟨⟨q0,q1,q2,q3,q4⟩,hH⟩:=hS0; go_simp; try with_reducible rfl); (intro w0 hS0; refine (iw x w0).mono ?_; rintro e w2 ⟨rfl,hb2⟩; exact ⟨rfl,ik (hS0.2.1.I.below hb2) (hS0.2.2.I.below hb2)⟩); simp only [pt,sb,s0,s1])
 (refine cl (.bool vA) 176 #[.agg #[.int .i64 Me,.map (some b)],.int .i64 x.id] ?_ ?_ ?_; (intro w0 hS0; obtain ⟨⟨q0,q1,q2,q3,q4⟩,hH⟩:=hS0; go_simp; try with_reducible rfl); (intro w0 hS0; refine (rj Me b m x.id w0 hS0.2.1.I.mp HW.I.1).mono ?_; rintro e w2 ⟨rfl,hb2⟩; exact ⟨HA.I,ik (hS0.2.1.I.below hb2) (hS0.2.2.I.below hb2)⟩); simp only [pt,sb,s0,s1])
 (refine PI ?_ (hy:=fun w0 hS0=>by obtain ⟨⟨q0,q1,q2,q3,q4⟩,hH⟩:=hS0; go_simp; try with_reducible rfl))
 rcases vA.eq_false_or_eq_true with rfl | rfl
 focus iterate 6 (refine nl ?_; simp only [pt,sb,s0,s1])
 rotate_left
 focus iterate 6 (refine PI ?_ (hy:=fun w0 hS0=>by obtain ⟨⟨q0,q1,q2,q3,q4⟩,hH⟩:=hS0; go_simp; try with_reducible rfl))
 all_goals iterate 2 (refine PI ?_ (hy:=fun w0 hS0=>by obtain ⟨⟨q0,q1,q2,q3,q4⟩,hH⟩:=hS0; go_simp; try with_reducible rfl))
 rcases vB.eq_false_or_eq_true with rfl | rfl
 focus iterate 5 (refine nl ?_; simp only [pt,sb,s0,s1])
 rotate_left
 focus
  iterate 2 (refine PI ?_ (hy:=fun w0 hS0=>by obtain ⟨⟨q0,q1,q2,q3,q4⟩,hH⟩:=hS0; go_simp; try with_reducible rfl))
  (refine cl (.int .i64 x.id) 307 #[.agg #[.int .i64 x.id,.bool x.up]] ?_ ?_ ?_; (intro w0 hS0; obtain ⟨⟨q0,q1,q2,q3,q4⟩,hH⟩:=hS0; go_simp; try with_reducible rfl); (intro w0 hS0; refine (iw x w0).mono ?_; rintro e w2 ⟨rfl,hb2⟩; exact ⟨rfl,ik (hS0.2.1.I.below hb2) (hS0.2.2.I.below hb2)⟩); simp only [pt,sb,s0,s1])
  (refine cl (.bool vC) 164 #[.int .i64 x.id] ?_ ?_ ?_; (intro w0 hS0; obtain ⟨⟨q0,q1,q2,q3,q4⟩,hH⟩:=hS0; go_simp; try with_reducible rfl); (intro w0 hS0; refine (eW x.id w0).mono ?_; rintro e w2 ⟨rfl,rfl⟩; exact ⟨HC.I,hS0⟩); simp only [pt,sb,s0,s1])
  (refine PI ?_ (hy:=fun w0 hS0=>by obtain ⟨⟨q0,q1,q2,q3,q4⟩,hH⟩:=hS0; go_simp; try with_reducible rfl))
 rotate_left
 focus iterate 5 (refine nl ?_; simp only [pt,sb,s0,s1])
 all_goals iterate 2 (refine PI ?_ (hy:=fun w0 hS0=>by obtain ⟨⟨q0,q1,q2,q3,q4⟩,hH⟩:=hS0; go_simp; try with_reducible rfl))
 rotate_right
 rcases vC.eq_false_or_eq_true with rfl | rfl
 focus
  iterate 2 (refine PI ?_ (hy:=fun w0 hS0=>by obtain ⟨⟨q0,q1,q2,q3,q4⟩,hH⟩:=hS0; go_simp; try with_reducible rfl))
  (refine cl (.bool vD) 308 #[.agg #[.int .i64 x.id,.bool x.up]] ?_ ?_ ?_; (intro w0 hS0; obtain ⟨⟨q0,q1,q2,q3,q4⟩,hH⟩:=hS0; go_simp; try with_reducible rfl); (intro w0 hS0; refine (tX x w0 hS0.2.2.I).mono ?_; rintro e w2 ⟨rfl,hb2⟩; exact ⟨HD.I,ik (hS0.2.1.I.below hb2) (hS0.2.2.I.below hb2)⟩); simp only [pt,sb,s0,s1])
  (refine PI ?_ (hy:=fun w0 hS0=>by obtain ⟨⟨q0,q1,q2,q3,q4⟩,hH⟩:=hS0; go_simp; try with_reducible rfl))
 rotate_left
 focus iterate 4 (refine nl ?_; simp only [pt,sb,s0,s1])
 rotate_left
 focus iterate 4 (refine nl ?_; simp only [pt,sb,s0,s1])
 rotate_left
 focus iterate 4 (refine nl ?_; simp only [pt,sb,s0,s1])
 rotate_left
 all_goals (refine PI ?_ (hy:=fun w0 hS0=>by obtain ⟨⟨q0,q1,q2,q3,q4⟩,hH⟩:=hS0; go_simp; try with_reducible rfl))
 all_goals refine bk (by kernel_rfl) ?_ _
 all_goals intro w1 cm
 rcases vD.eq_false_or_eq_true with rfl | rfl;rotate_left
 iterate 4
  go_wp2;go_ret;exact ki HL.I.1 cm.2.1.I.cd
 go_wp2_with fail;refine eD (sk w b m Me x) 5 (by kernel_rfl) (ik cm.2.1.I.drew (cm.2.2.I.below (Kp _ _).drew)) ?_
 iterate 4 (refine ly 6 (v:= ?_) (some _) rfl rfl (by kernel_rfl) (fun _ _ _ h=>h) (bV (by kernel_rfl) ?_) ?_; rotate_left; (intro w0 hS0; obtain ⟨⟨q0,q1,q2,q3,q4⟩,hH⟩:=hS0; go_simp; try with_reducible rfl); simp only [pt,sb,s0,s1])
 refine ly 6 (v:= .int .i64 x.id) (some _) rfl rfl (by kernel_rfl) (fun _ _ _ h=>h) (iZ (f:=307) (args:= #[.agg #[.int .i64 x.id,.bool x.up]]) (by kernel_rfl) ?_ ?_) ?_
 ·intro w0 hS0
  obtain ⟨⟨q0,q1,q2,q3,q4⟩,hH⟩:=hS0
  go_simp
  try with_reducible rfl
 ·intro w0 hS0
  refine (iw x w0).mono ?_;rintro e w2 ⟨rfl,hb2⟩;exact ⟨rfl,ik (hS0.2.1.I.below hb2) (hS0.2.2.I.below hb2)⟩
 simp only [pt,sb,s0,s1];refine fL rfl (by kernel_rfl) (by kernel_rfl) (by kernel_rfl) ?_;intro w1 cm;obtain ⟨w2,hput,hend⟩:=cm.2.1.I.put (by omega) PW HW.I.1 (HL.I.2 (by trivial)) HW.I.2.2 HW.I.2.1;have HE:Hid (dD w b m true x.id (cG x) 138 (.returned (.bool true)) w2):=hend;clear hend cm
 go_simp
 go_wp2;go_ret;rw [HL.I.1];exact HE.I
end Go.Proofs.YtkbcplnlehdjfaaGreat

namespace Go.Proofs.YtkbcplnlehdjfaaGreat
open Go.RowKit Go.Maps
theorem MM (b:Bool): -9999999999≤MJ b∧MJ b≤9999999999:=by cases b <;> decide
def Pj (_w:World) (x:bD):Prop:=(∀ n∈ [x.id,x.n,x.max],-9999999999≤n∧n≤9999999999)
def OB (_w:World) (x:aB):Prop:=(∀ n∈ [x.id,MJ x.up],-9999999999≤n∧n≤9999999999)
def OC (_w:World) (x:az):Prop:=(∀ n∈ [x.id,MJ x.shown],-9999999999≤n∧n≤9999999999)∧x.text.size≤1048576
def N6 (w:World) (x:au):Prop:=(∀ n∈ [x.id,x.max],-9999999999≤n∧n≤9999999999)∧x.Ma.length≤1048576∧(∀ s∈x.Ma,s.size≤1048576)∧Row w x.ak (bT.flat x.Ma)
def O5 (w:World) (x:aM):Prop:=(∀ n∈ [x.id,MJ x.I,MJ x.Mf,x.max],-9999999999≤n∧n≤9999999999)∧x.Ma.length≤1048576∧(∀ s∈x.Ma,s.size≤1048576)∧Row w x.ak (bT.flat x.Ma)
def O0 (w:World) (x:ao):Prop:=(∀ n∈ [x.id,x.RX,x.Md,x.pc,x.left,x.Mg,x.on,x.code,x.RU],-9999999999≤n∧n≤9999999999)∧0 < x.prog.length∧x.dX∧Row w x.aY (fk.flat x.prog)
theorem Nh {s:ByteArray} (h:bI s=true):s.size=0:=by
 have h1:s.toList= [] :=by simpa [bI] using h
 have h2:s.toList.length=s.size:=by rw [PQ]; simp
 rw [h1] at h2;exact h2.symm
theorem M5 {s:ByteArray} (h:bw s=true):s.size≤20:=by
 simp only [bw,J7,decide_eq_true_iff] at h;exact h.1
theorem OJ {k n m:Int} {s:ByteArray} (h:mQ k n m s=true):n≤1000∧s.size≤20:=by
 unfold mQ at h
 split at h
 ·simp only [J7,bz] at h
  have:=Nh h.2
  omega
 split at h
 ·simp only [J7,bz] at h
  have:=Nh h.2
  omega
 split at h
 ·simp only [J7,bz] at h
  have:=M5 h.2
  omega
 split at h
 ·simp only [J7,bz] at h
  have:=M5 h.2
  omega
 split at h
 ·simp only [J7,decide_eq_true_iff] at h
  have:=Nh h.2
  omega
 ·cases h
theorem NB {l:List dN} (h:jm l=true):0 < l.length∧l.length≤20∧ ∀ o∈l,o.2.1≤1000∧o.2.2.2.size≤20:=by
 have h1:=MU h;refine ⟨h1.1,h1.2.1,fun o ho=> ?_⟩;obtain ⟨i,hi,rfl⟩:=List.mem_iff_getElem.1 ho;have h2:=OJ (h1.2.2 i hi);simpa [Cg,Ce,Kz hi] using h2
theorem has_in {p:aE} (h:aQ p) {s i:Int} (hb:hasB p s i=true):1≤i∧i≤1000:=by
 unfold hasB at hb
 split at hb
 ·obtain ⟨x,hx,rfl⟩:=Lr.1 (of_decide_eq_true hb)
  exact bz.1 (cK h.aj x hx).1
 split at hb
 ·obtain ⟨x,hx,rfl⟩:=Lr.1 (of_decide_eq_true hb)
  exact bz.1 (cK h.L9 x hx).1
 split at hb
 ·obtain ⟨x,hx,rfl⟩:=Lr.1 (of_decide_eq_true hb)
  exact bz.1 (cK h.ae x hx).1
 split at hb
 ·obtain ⟨x,hx,rfl⟩:=Lr.1 (of_decide_eq_true hb)
  exact bz.1 (cK h.ag x hx).1
 ·cases hb
theorem Ns {l:List ByteArray} {m:Int} (h:dJ l m=true) (hm:m≤5):l.length≤1048576∧ ∀ s∈l,s.size≤1048576:=by
 simp only [dJ,J7,decide_eq_true_iff,List.all_eq_true] at h;exact ⟨by omega,fun s hs=>by have:=M5 (h.1 s hs); omega⟩
theorem O2 {p:aE} (h:aQ p) (w:World) {x:bD} (hx:x∈p.aj):Pj w x:=by
 have h1:=cK h.aj x hx;simp only [gw,J7,bz] at h1;intro n hn;simp only [Kt,Ku,or_false] at hn;omega
theorem Oi {p:aE} (h:aQ p) (w:World) {x:aB} (hx:x∈p.L9):OB w x:=by
 have h1:=bz.1 (cK h.L9 x hx).1;have h2:=MM x.up;intro n hn;simp only [Kt,Ku,or_false] at hn;omega
theorem N9 {p:aE} (h:aQ p) (w:World) {x:az} (hx:x∈p.ag):OC w x:=by
 have h1:=cK h.ag x hx;simp only [cU,J7,bz] at h1;have h2:=MM x.shown;have h3:=M5 h1.2.1;refine ⟨fun n hn=> ?_,by omega⟩;simp only [Kt,Ku,or_false] at hn;omega
theorem N3 {p:aE} (h:aQ p) {w:World} {x:au} (hx:x.toci∈p.ae) (hr:Row w x.ak (bT.flat x.Ma)):N6 w x:=by
 have h1:=cK h.ae x.toci hx;simp only [ct,J7,bz] at h1;have h3:=Ns h1.2.2 (by omega);refine ⟨fun n hn=> ?_,h3.1,h3.2,hr⟩;simp only [Kt,Ku,or_false] at hn;omega
theorem OA {p:aE} (h:aQ p) {w:World} {x:aM} (hx:x.todS∈p.ai) (hr:Row w x.ak (bT.flat x.Ma)):O5 w x:=by
 have h1:=cK h.ai x.todS hx;simp only [dj,J7,bz] at h1;have h3:=Ns h1.2.2 (by omega);have h4:=MM x.I;have h5:=MM x.Mf;refine ⟨fun n hn=> ?_,h3.1,h3.2,hr⟩;simp only [Kt,Ku,or_false] at hn;omega
theorem Oj {x:aD} (h:bO x=true) (hp:jm x.prog=true):0≤x.Md∧x.Md≤7∧0≤x.pc∧x.pc≤20∧0≤x.left∧x.left≤1000∧ -1≤x.Mg∧x.Mg≤2000000000∧(x.Md < 3→x.on=0)∧(x.Md=0→x.RU=0):=by
 have hl:=NB hp;unfold bO at h
 split at h
 ·simp only [J7,decide_eq_true_iff] at h
  omega
 split at h
 ·simp only [J7,decide_eq_true_iff,dU,bz,jJ] at h
  have h5:0≤x.left∧x.left≤1000:=by
   have h6:=h.1.1.1.2
   split at h6
   ·simp only [J7,decide_eq_true_iff] at h6
    have h7:(opAt x).2.1≤1000:=by
     have h8:x.pc.toNat < x.prog.length:=by omega
     unfold opAt;rw [Kz h8];exact (hl.2.2 _ (List.getElem_mem h8)).1
    omega
   ·have:=of_decide_eq_true h6
    omega
  omega
 split at h
 ·simp only [J7,decide_eq_true_iff,dU,bz] at h
  omega
 split at h
 ·simp only [J7,Kb,decide_eq_true_iff,dU,bz,lh] at h
  omega
 split at h
 ·simp only [J7,Kb,decide_eq_true_iff,dU,bz,lh] at h
  omega
 ·cases h
theorem Oy {p:aE} (h:aQ p) {w:World} {x:ao} (hx:x.toaD∈p.L8) (hr:Row w x.aY (fk.flat x.prog)):O0 w x:=by
 have h1:=cK h.L8 x.toaD hx;simp only [cH,J7,bz,fF,dG,Kb,decide_eq_true_iff] at h1;have hn:=bz.1 h.next;have hp:=NB h1.2.1.1.1.1.1.1.2;have hs:=Oj h1.2.1.1.2 h1.2.1.1.1.1.1.1.2;have h3:=M5 h1.2.1.1.1.1.1.2;have h4:=M5 h1.2.1.1.1.1.2;have ho: -9999999999≤x.on∧x.on≤9999999999:=by
  have h5:=h1.2.2
  split at h5
  ·have:=has_in h h5
   omega
  ·have:=hs.2.2.2.2.2.2.2.2.1 (by omega)
   omega
 refine ⟨fun n hn=> ?_,hp.1,⟨by omega,fun o ho=>by have:=(hp.2.2 o ho).2; omega,by omega,by omega⟩,hr⟩;simp only [Kt,Ku,or_false] at hn;omega
end Go.Proofs.YtkbcplnlehdjfaaGreat

namespace Go.Proofs.YtkbcplnlehdjfaaGreat
open Go.RowKit Go.Maps
theorem Pl {P:Program} {ev:Operand→Value} {oi:Oper} {T T2:TypeId} {x y:Operand} {u v:ByteArray} (ho:oi.op= .binOp .add T x y T2) (hx:ev x= .string u) (hy:ev y= .string v) (hz:u.size+v.size≤9000000000000000000) (w:World):(execOp ev oi).run P w= .ok (.value (.string (u ++ v))) w:=by
 have hs: ¬ 9223372036854775807 < u.size+v.size:=by omega
 simp only [execOp,ho]
 go_simp
section
variable {P:Program} {md:Region.Mode} {ops:Array Oper} {Q:Exit→Act→World→Prop} {S:World→Prop} {oi:Oper} {fuel:Nat} {RV:Array Bool} {a:Act} {d:Tmp} {T T2:TypeId} {x y:Operand} {u v:ByteArray} {a':ByteArray→Act}
theorem ad (n:Nat) (hu:u.size≤2000000000000 * n) (hv:v.size≤2000000000000) (h: ∀ r:ByteArray,Hid (r=u ++ v)→r.size≤2000000000000 * (n+1)→gR P md ops Q S fuel (RV.setIfInBounds (ops.size - (fuel+1)) true) (a' r))
  (hn:n≤1000:=by omega) (hi:ops[ops.size - (fuel+1)]? =some oi:=by rfl) (hd:oi.dst=some d:=by rfl) (ho:oi.op= .binOp .add T x y T2:=by rfl) (hx:a.eval x= .string u:=by rfl) (hy:a.eval y= .string v:=by rfl) (hc:Jj md ops RV (ops.size - (fuel+1)) oi (some d)=true:=by kernel_rfl)
  (hQ: ∀ c a w,Q (.panic c) (a.put (some d) (.string (u ++ v))) w→Q (.panic c) a w:=by exact fun _ _ _ h=>h) (hw:Region.wanted oi (yielded ops a.tmps)=true:=by kernel_rfl) (ha: ∀ r,a.put (some d) (.string r)=a' r:=by intro r; simp only [pt,sb,s0,s1]; rfl):gR P md ops Q S (fuel+1) RV a:=
 yl (fun w _=>Pl ho hx hy (by omega) w) (by rw [ha]; exact h _ rfl (by rw [QH]; omega)) hi hd hc hQ hw
theorem Sl (n:Nat) (hu:u.size≤2000000000000 * n) (h: ∀ r:ByteArray,Hid (r=u ++ v)→r.size≤2000000000000 * (n+1)→gR P md ops Q S fuel (RV.setIfInBounds (ops.size - (fuel+1)) true) (a' r))
  (hn:n≤1000:=by omega) (hi:ops[ops.size - (fuel+1)]? =some oi:=by rfl) (hd:oi.dst=some d:=by rfl) (ho:oi.op= .binOp .add T x (.const (.string v)) T2:=by rfl) (hx:a.eval x= .string u:=by rfl) (hv:v.size≤2000000000000:=by decide) (hc:Jj md ops RV (ops.size - (fuel+1)) oi (some d)=true:=by kernel_rfl)
  (hQ: ∀ c a w,Q (.panic c) (a.put (some d) (.string (u ++ v))) w→Q (.panic c) a w:=by exact fun _ _ _ h=>h) (hw:Region.wanted oi (yielded ops a.tmps)=true:=by kernel_rfl) (ha: ∀ r,a.put (some d) (.string r)=a' r:=by intro r; simp only [pt,sb,s0,s1]; rfl):gR P md ops Q S (fuel+1) RV a:=
 ad n hu hv h hn hi hd ho hx rfl hc hQ hw ha
theorem Sc (v:ByteArray) (f:FuncId) (KS:Array Value) (hf: ∀ w,S w→Calls P f KS w (fun e w'=>e= .returned (.string v)∧S w')) (h:gR P md ops Q S fuel (RV.setIfInBounds (ops.size - (fuel+1)) true) (a' v))
  (hi:ops[ops.size - (fuel+1)]? =some oi:=by rfl) (hd:oi.dst=some d:=by rfl) (hy: ∀ w,S w→(execOp a.eval oi).run P w= .ok (.enter f KS) w:=by intro w0 hS0; go_simp) (hc:Jj md ops RV (ops.size - (fuel+1)) oi (some d)=true:=by kernel_rfl)
  (hQ: ∀ c a w,Q (.panic c) (a.put (some d) (.string v)) w→Q (.panic c) a w:=by exact fun _ _ _ h=>h) (hw:Region.wanted oi (yielded ops a.tmps)=true:=by kernel_rfl) (ha: ∀ r,a.put (some d) (.string r)=a' r:=by intro r; simp only [pt,sb,s0,s1]; rfl):gR P md ops Q S (fuel+1) RV a:=
 cl (.string v) f KS hy hf (by rw [ha]; exact h) hi hd hc hQ hw
end
end Go.Proofs.YtkbcplnlehdjfaaGreat

namespace Go.Proofs
open Go.RowKit Go.Maps Go.Sort Go.Shelf
theorem Tryz.sortsA (m : Nat) : AnyZI.SortsIn J3 Tryz.sortedA_ren Fence.wide m :=
  ⟨fun blk off cap ss W hH hblk hsz => LO.2 (AnyM.slices_Sort_int Tryz.sortA blk off cap ss W hH hblk hsz),
   fun p cap W => LO.2 (AnyM.slices_Sort_int_none Tryz.sortA p cap W)⟩
namespace YtkbcplnlehdjfaaGreat
theorem oA : ∀ {l1 l2 : List Int}, l1.Perm l2 → l1.Pairwise (· ≤ ·) → l2.Pairwise (· ≤ ·) → l1 = l2
  | [], l2, hp, _, _ => (List.nil_perm.1 hp).symm
  | a :: t, [], hp, _, _ => absurd (List.perm_nil.1 hp) (by simp)
  | a :: t, b :: s, hp, h1, h2 => by
    obtain ⟨ha, ht⟩ := LM.1 h1;obtain ⟨hb, hs⟩ := LM.1 h2;have hab : a = b := by
      have m1 : a ∈ b :: s := hp.mem_iff.1 (by simp);have m2 : b ∈ a :: t := hp.mem_iff.2 (by simp);rcases Kt.1 m1 with e | m1
      · exact e
      · rcases Kt.1 m2 with e | m2
        · exact e.symm
        · have := ha b m2
          have := hb a m1;omega
    subst hab;rw [oA (List.perm_cons a |>.1 hp) ht hs]
theorem lU (m : df) : intKeys (gA m) = m.map (·.1) := by
  simp only [intKeys, gA, List.map_map];rfl
theorem jG {m : df} (h : zP m) {ss : List Int} (hp : ss.Perm (intKeys (gA m))) : ss.mergeSort (fun x y => decide (x ≤ y)) = m.map (·.1) := by
  rw [lU] at hp;refine oA ((List.mergeSort_perm _ _).trans hp) ?_ ?_
  · have := List.pairwise_mergeSort (le := fun x y : Int => decide (x ≤ y)) (fun a b c h1 h2 => by simp at *; omega) (fun a b => by simp; omega) ss
    exact this.imp (fun {a b} h => by simpa using h)
  · rw [List.pairwise_map]
    exact List.Pairwise.imp (fun {a b} h => by omega) h
theorem cr {w : World} {base n size : Nat} {e : TypeId} {v : Value} {xs : List Value} (h : w.ownsRow base e size v n xs) : ∃ a cap, v = .slice a n cap ∧ Row w a xs := by
  obtain ⟨hl, h2⟩ := h;rcases h2 with ⟨rfl, rfl⟩ | ⟨g, cap, cur, rfl, hb, hg, h3, h4, h5, h6⟩
  · have : xs = [] := List.eq_nil_of_length_eq_zero (by simpa using hl)
    subst this;exact ⟨none, 0, rfl, Row.nothing _ _⟩
  · refine ⟨some ⟨g, 0, none⟩, cap, rfl, fun j u hu => ⟨g, rfl, ?_⟩⟩
    rw [cell_of_row w g j cur e (0, 0) hg];rw [← h6, List.getElem?_take] at hu
    split at hu
    · simpa using hu
    · cases hu
theorem cq {w : World} {base base' n size : Nat} {e : TypeId} {v : Value} {xs : List Value} (h : w.ownsRow base e size v n xs) (hb : base' ≤ base) : w.ownsRow base' e size v n xs := by
  obtain ⟨hl, h2⟩ := h;refine ⟨hl, ?_⟩;rcases h2 with h2 | ⟨g, cap, cur, h1, h3, h4⟩
  · exact .inl h2
  · exact .inr ⟨g, cap, cur, h1, by omega, h4⟩
end YtkbcplnlehdjfaaGreat
end Go.Proofs
