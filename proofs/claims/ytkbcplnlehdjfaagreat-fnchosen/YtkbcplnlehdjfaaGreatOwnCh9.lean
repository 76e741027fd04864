/- What the proof leans on, part 9: HasW, SoBuffer, SoPort, SoBoard, SoEvent, SoSem, AlSem, AlEvent, AlBoard, AlBuffer, AlPort. -/
import Derived.Test.YtkbcplnlehdjfaaGreatOwnCh1
import Derived.Test.YtkbcplnlehdjfaaGreatOwnCh6
import Derived.Test.YtkbcplnlehdjfaaGreatOwnCh7
import Derived.Test.YtkbcplnlehdjfaaGreatOwnCh8
set_option maxRecDepth 100000
set_option maxHeartbeats 8000000

namespace Go.Proofs.YtkbcplnlehdjfaaGreat
open Go.RowKit
attribute [local go_sem ↓] Go.wp_at_zero Go.wp_at_succ
theorem hasS3_of {w w':World} {o X:Nat} {q:Opn} {x:ProcD} {ms me mb mf:MapL} (h:HasIn w w' o X q x ms me mb mf):(w'.cell? ⟨o,4,none⟩=some(.int .i64 5)∧w'.cell? ⟨o,5,none⟩=some(.map(some q.bs))∧w'.cell? ⟨X,7,none⟩=some(.int .i64 x.on))∧Hid(HasIn w w' o X q x ms me mb mf):=
 ⟨⟨h.opn.cell 4,h.opn.cell 5,(proc_cells h.box).2.2.2.2.2.2.2.1⟩,h⟩
theorem hasWait_3(o X:Nat)(q:Opn)(x:ProcD)(ms me mb mf:MapL)(w:World)(h:HasIn w w o X q x ms me mb mf)(hw:(Lit.int .i64 x.on).wf=true)(hs:x.state=3):
  Calls Tryz.prog 203 #[.pointer(some⟨o,0,none⟩),.pointer(some⟨X,0,none⟩)] w fun e w'=>e= .returned(.bool(waitK ms me mb mf x))∧Below w.heap.size w w':=by
 have H:Hid(HasIn w w o X q x ms me mb mf):=h
 have HW:Hid((Lit.int .i64 x.on).wf=true):=hw
 have HV:Hid(waitK ms me mb mf x=(lookM ms x.on).isSome):=by show waitK ms me mb mf x=_; simp [waitK,hs]
 have k3:w.cell? ⟨X,3,none⟩=some(.int .i64 3):=by rw [(proc_cells h.box).2.2.2.1,hs]
 clear h hw hs
 go_enter Tryz.func203,Tryz.ntmps203
 go_wp2_with fail
 clear k3
 refine tame_region(fun w'=>(w'.cell? ⟨o,4,none⟩=some(.int .i64 5)∧w'.cell? ⟨o,5,none⟩=some(.map(some q.bs))∧w'.cell? ⟨X,7,none⟩=some(.int .i64 x.on))∧Hid(HasIn w w' o X q x ms me mb mf))(by kernel_rfl)(hasS3_of H.out.drew) ?_
 iterate 8(refine yl(v:= ?_) ?_ ?_; rotate_left; (intro w0 hS0; obtain⟨⟨q0,q1,q2⟩,hH⟩:=hS0; go_simp; try with_reducible rfl); simp only [pt,sb,s0,s1])
 refine cl(.bool(lookM ms x.on).isSome)175 #[.agg #[.int .i64 5,.map(some q.bs)],.int .i64 x.on] ?_ ?_ ?_
 ·intro w0 hS0
  obtain⟨⟨q0,q1,q2⟩,hH⟩:=hS0
  go_simp
  try with_reducible rfl
 ·intro w0 hS0
  refine(hasSem_any 5 q.bs ms x.on w0 hS0.2.out.ms HW.out).mono ?_
  rintro e w2⟨rfl,hb2⟩
  exact⟨rfl,hasS3_of(hS0.2.out.below hb2)⟩
 simp only [pt,sb,s0,s1]
 (refine yl(v:= ?_) ?_ ?_; rotate_left; (intro w0 hS0; obtain⟨⟨q0,q1,q2⟩,hH⟩:=hS0; go_simp; try with_reducible rfl); simp only [pt,sb,s0,s1])
 refine tame_done(by kernel_rfl) ?_ _
 intro w1 hS1
 go_wp2
 go_ret
 exact⟨ret_bool HV.out.symm,hS1.2.out.bel⟩
theorem hasS4_of {w w':World} {o X:Nat} {q:Opn} {x:ProcD} {ms me mb mf:MapL} (h:HasIn w w' o X q x ms me mb mf):(w'.cell? ⟨o,6,none⟩=some(.int .i64 5)∧w'.cell? ⟨o,7,none⟩=some(.map(some q.be))∧w'.cell? ⟨X,7,none⟩=some(.int .i64 x.on))∧Hid(HasIn w w' o X q x ms me mb mf):=
 ⟨⟨h.opn.cell 6,h.opn.cell 7,(proc_cells h.box).2.2.2.2.2.2.2.1⟩,h⟩
theorem hasWait_4(o X:Nat)(q:Opn)(x:ProcD)(ms me mb mf:MapL)(w:World)(h:HasIn w w o X q x ms me mb mf)(hw:(Lit.int .i64 x.on).wf=true)(hs:x.state=4):
  Calls Tryz.prog 203 #[.pointer(some⟨o,0,none⟩),.pointer(some⟨X,0,none⟩)] w fun e w'=>e= .returned(.bool(waitK ms me mb mf x))∧Below w.heap.size w w':=by
 have H:Hid(HasIn w w o X q x ms me mb mf):=h
 have HW:Hid((Lit.int .i64 x.on).wf=true):=hw
 have HV:Hid(waitK ms me mb mf x=(lookM me x.on).isSome):=by show waitK ms me mb mf x=_; simp [waitK,hs]
 have k3:w.cell? ⟨X,3,none⟩=some(.int .i64 4):=by rw [(proc_cells h.box).2.2.2.1,hs]
 clear h hw hs
 go_enter Tryz.func203,Tryz.ntmps203
 go_wp2_with fail
 clear k3
 refine tame_region(fun w'=>(w'.cell? ⟨o,6,none⟩=some(.int .i64 5)∧w'.cell? ⟨o,7,none⟩=some(.map(some q.be))∧w'.cell? ⟨X,7,none⟩=some(.int .i64 x.on))∧Hid(HasIn w w' o X q x ms me mb mf))(by kernel_rfl)(hasS4_of H.out.drew) ?_
 iterate 8(refine yl(v:= ?_) ?_ ?_; rotate_left; (intro w0 hS0; obtain⟨⟨q0,q1,q2⟩,hH⟩:=hS0; go_simp; try with_reducible rfl); simp only [pt,sb,s0,s1])
 refine cl(.bool(lookM me x.on).isSome)176 #[.agg #[.int .i64 5,.map(some q.be)],.int .i64 x.on] ?_ ?_ ?_
 ·intro w0 hS0
  obtain⟨⟨q0,q1,q2⟩,hH⟩:=hS0
  go_simp
  try with_reducible rfl
 ·intro w0 hS0
  refine(hasEvent_any 5 q.be me x.on w0 hS0.2.out.me HW.out).mono ?_
  rintro e w2⟨rfl,hb2⟩
  exact⟨rfl,hasS4_of(hS0.2.out.below hb2)⟩
 simp only [pt,sb,s0,s1]
 (refine yl(v:= ?_) ?_ ?_; rotate_left; (intro w0 hS0; obtain⟨⟨q0,q1,q2⟩,hH⟩:=hS0; go_simp; try with_reducible rfl); simp only [pt,sb,s0,s1])
 refine tame_done(by kernel_rfl) ?_ _
 intro w1 hS1
 go_wp2
 go_ret
 exact⟨ret_bool HV.out.symm,hS1.2.out.bel⟩
theorem hasS5_of {w w':World} {o X:Nat} {q:Opn} {x:ProcD} {ms me mb mf:MapL} (h:HasIn w w' o X q x ms me mb mf):(w'.cell? ⟨o,10,none⟩=some(.int .i64 5)∧w'.cell? ⟨o,11,none⟩=some(.map(some q.bf))∧w'.cell? ⟨X,7,none⟩=some(.int .i64 x.on))∧Hid(HasIn w w' o X q x ms me mb mf):=
 ⟨⟨h.opn.cell 10,h.opn.cell 11,(proc_cells h.box).2.2.2.2.2.2.2.1⟩,h⟩
theorem hasWait_5(o X:Nat)(q:Opn)(x:ProcD)(ms me mb mf:MapL)(w:World)(h:HasIn w w o X q x ms me mb mf)(hw:(Lit.int .i64 x.on).wf=true)(hs:x.state=5):
  Calls Tryz.prog 203 #[.pointer(some⟨o,0,none⟩),.pointer(some⟨X,0,none⟩)] w fun e w'=>e= .returned(.bool(waitK ms me mb mf x))∧Below w.heap.size w w':=by
 have H:Hid(HasIn w w o X q x ms me mb mf):=h
 have HW:Hid((Lit.int .i64 x.on).wf=true):=hw
 have HV:Hid(waitK ms me mb mf x=(lookM mf x.on).isSome):=by show waitK ms me mb mf x=_; simp [waitK,hs]
 have k3:w.cell? ⟨X,3,none⟩=some(.int .i64 5):=by rw [(proc_cells h.box).2.2.2.1,hs]
 clear h hw hs
 go_enter Tryz.func203,Tryz.ntmps203
 go_wp2_with fail
 clear k3
 refine tame_region(fun w'=>(w'.cell? ⟨o,10,none⟩=some(.int .i64 5)∧w'.cell? ⟨o,11,none⟩=some(.map(some q.bf))∧w'.cell? ⟨X,7,none⟩=some(.int .i64 x.on))∧Hid(HasIn w w' o X q x ms me mb mf))(by kernel_rfl)(hasS5_of H.out.drew) ?_
 iterate 8(refine yl(v:= ?_) ?_ ?_; rotate_left; (intro w0 hS0; obtain⟨⟨q0,q1,q2⟩,hH⟩:=hS0; go_simp; try with_reducible rfl); simp only [pt,sb,s0,s1])
 refine cl(.bool(lookM mf x.on).isSome)178 #[.agg #[.int .i64 5,.map(some q.bf)],.int .i64 x.on] ?_ ?_ ?_
 ·intro w0 hS0
  obtain⟨⟨q0,q1,q2⟩,hH⟩:=hS0
  go_simp
  try with_reducible rfl
 ·intro w0 hS0
  refine(hasBuffer_any 5 q.bf mf x.on w0 hS0.2.out.mf HW.out).mono ?_
  rintro e w2⟨rfl,hb2⟩
  exact⟨rfl,hasS5_of(hS0.2.out.below hb2)⟩
 simp only [pt,sb,s0,s1]
 (refine yl(v:= ?_) ?_ ?_; rotate_left; (intro w0 hS0; obtain⟨⟨q0,q1,q2⟩,hH⟩:=hS0; go_simp; try with_reducible rfl); simp only [pt,sb,s0,s1])
 refine tame_done(by kernel_rfl) ?_ _
 intro w1 hS1
 go_wp2
 go_ret
 exact⟨ret_bool HV.out.symm,hS1.2.out.bel⟩
theorem hasS6_of {w w':World} {o X:Nat} {q:Opn} {x:ProcD} {ms me mb mf:MapL} (h:HasIn w w' o X q x ms me mb mf):(w'.cell? ⟨o,10,none⟩=some(.int .i64 5)∧w'.cell? ⟨o,11,none⟩=some(.map(some q.bf))∧w'.cell? ⟨X,7,none⟩=some(.int .i64 x.on))∧Hid(HasIn w w' o X q x ms me mb mf):=
 ⟨⟨h.opn.cell 10,h.opn.cell 11,(proc_cells h.box).2.2.2.2.2.2.2.1⟩,h⟩
theorem hasWait_6(o X:Nat)(q:Opn)(x:ProcD)(ms me mb mf:MapL)(w:World)(h:HasIn w w o X q x ms me mb mf)(hw:(Lit.int .i64 x.on).wf=true)(hs:x.state=6):
  Calls Tryz.prog 203 #[.pointer(some⟨o,0,none⟩),.pointer(some⟨X,0,none⟩)] w fun e w'=>e= .returned(.bool(waitK ms me mb mf x))∧Below w.heap.size w w':=by
 have H:Hid(HasIn w w o X q x ms me mb mf):=h
 have HW:Hid((Lit.int .i64 x.on).wf=true):=hw
 have HV:Hid(waitK ms me mb mf x=(lookM mf x.on).isSome):=by show waitK ms me mb mf x=_; simp [waitK,hs]
 have k3:w.cell? ⟨X,3,none⟩=some(.int .i64 6):=by rw [(proc_cells h.box).2.2.2.1,hs]
 clear h hw hs
 go_enter Tryz.func203,Tryz.ntmps203
 go_wp2_with fail
 clear k3
 refine tame_region(fun w'=>(w'.cell? ⟨o,10,none⟩=some(.int .i64 5)∧w'.cell? ⟨o,11,none⟩=some(.map(some q.bf))∧w'.cell? ⟨X,7,none⟩=some(.int .i64 x.on))∧Hid(HasIn w w' o X q x ms me mb mf))(by kernel_rfl)(hasS6_of H.out.drew) ?_
 iterate 8(refine yl(v:= ?_) ?_ ?_; rotate_left; (intro w0 hS0; obtain⟨⟨q0,q1,q2⟩,hH⟩:=hS0; go_simp; try with_reducible rfl); simp only [pt,sb,s0,s1])
 refine cl(.bool(lookM mf x.on).isSome)178 #[.agg #[.int .i64 5,.map(some q.bf)],.int .i64 x.on] ?_ ?_ ?_
 ·intro w0 hS0
  obtain⟨⟨q0,q1,q2⟩,hH⟩:=hS0
  go_simp
  try with_reducible rfl
 ·intro w0 hS0
  refine(hasBuffer_any 5 q.bf mf x.on w0 hS0.2.out.mf HW.out).mono ?_
  rintro e w2⟨rfl,hb2⟩
  exact⟨rfl,hasS6_of(hS0.2.out.below hb2)⟩
 simp only [pt,sb,s0,s1]
 (refine yl(v:= ?_) ?_ ?_; rotate_left; (intro w0 hS0; obtain⟨⟨q0,q1,q2⟩,hH⟩:=hS0; go_simp; try with_reducible rfl); simp only [pt,sb,s0,s1])
 refine tame_done(by kernel_rfl) ?_ _
 intro w1 hS1
 go_wp2
 go_ret
 exact⟨ret_bool HV.out.symm,hS1.2.out.bel⟩
theorem hasS7_of {w w':World} {o X:Nat} {q:Opn} {x:ProcD} {ms me mb mf:MapL} (h:HasIn w w' o X q x ms me mb mf):(w'.cell? ⟨o,8,none⟩=some(.int .i64 5)∧w'.cell? ⟨o,9,none⟩=some(.map(some q.bb))∧w'.cell? ⟨X,7,none⟩=some(.int .i64 x.on))∧Hid(HasIn w w' o X q x ms me mb mf):=
 ⟨⟨h.opn.cell 8,h.opn.cell 9,(proc_cells h.box).2.2.2.2.2.2.2.1⟩,h⟩
theorem hasWait_7(o X:Nat)(q:Opn)(x:ProcD)(ms me mb mf:MapL)(w:World)(h:HasIn w w o X q x ms me mb mf)(hw:(Lit.int .i64 x.on).wf=true)(hs:x.state=7):
  Calls Tryz.prog 203 #[.pointer(some⟨o,0,none⟩),.pointer(some⟨X,0,none⟩)] w fun e w'=>e= .returned(.bool(waitK ms me mb mf x))∧Below w.heap.size w w':=by
 have H:Hid(HasIn w w o X q x ms me mb mf):=h
 have HW:Hid((Lit.int .i64 x.on).wf=true):=hw
 have HV:Hid(waitK ms me mb mf x=(lookM mb x.on).isSome):=by show waitK ms me mb mf x=_; simp [waitK,hs]
 have k3:w.cell? ⟨X,3,none⟩=some(.int .i64 7):=by rw [(proc_cells h.box).2.2.2.1,hs]
 clear h hw hs
 go_enter Tryz.func203,Tryz.ntmps203
 go_wp2_with fail
 clear k3
 refine tame_region(fun w'=>(w'.cell? ⟨o,8,none⟩=some(.int .i64 5)∧w'.cell? ⟨o,9,none⟩=some(.map(some q.bb))∧w'.cell? ⟨X,7,none⟩=some(.int .i64 x.on))∧Hid(HasIn w w' o X q x ms me mb mf))(by kernel_rfl)(hasS7_of H.out.drew) ?_
 iterate 8(refine yl(v:= ?_) ?_ ?_; rotate_left; (intro w0 hS0; obtain⟨⟨q0,q1,q2⟩,hH⟩:=hS0; go_simp; try with_reducible rfl); simp only [pt,sb,s0,s1])
 refine cl(.bool(lookM mb x.on).isSome)177 #[.agg #[.int .i64 5,.map(some q.bb)],.int .i64 x.on] ?_ ?_ ?_
 ·intro w0 hS0
  obtain⟨⟨q0,q1,q2⟩,hH⟩:=hS0
  go_simp
  try with_reducible rfl
 ·intro w0 hS0
  refine(hasBoard_any 5 q.bb mb x.on w0 hS0.2.out.mb HW.out).mono ?_
  rintro e w2⟨rfl,hb2⟩
  exact⟨rfl,hasS7_of(hS0.2.out.below hb2)⟩
 simp only [pt,sb,s0,s1]
 (refine yl(v:= ?_) ?_ ?_; rotate_left; (intro w0 hS0; obtain⟨⟨q0,q1,q2⟩,hH⟩:=hS0; go_simp; try with_reducible rfl); simp only [pt,sb,s0,s1])
 refine tame_done(by kernel_rfl) ?_ _
 intro w1 hS1
 go_wp2
 go_ret
 exact⟨ret_bool HV.out.symm,hS1.2.out.bel⟩
theorem hasWait_none(o X:Nat)(q:Opn)(x:ProcD)(ms me mb mf:MapL)(w:World)(h:HasIn w w o X q x ms me mb mf)(h3: ¬ x.state=3)(h4: ¬ x.state=4)(h5: ¬ x.state=5)(h6: ¬ x.state=6)(h7: ¬ x.state=7):
  Calls Tryz.prog 203 #[.pointer(some⟨o,0,none⟩),.pointer(some⟨X,0,none⟩)] w fun e w'=>e= .returned(.bool(waitK ms me mb mf x))∧Below w.heap.size w w':=by
 have HV:Hid(waitK ms me mb mf x=true):=by show waitK ms me mb mf x=true; simp [waitK,h3,h4,h5,h6,h7]
 have k3:=(proc_cells h.box).2.2.2.1
 have s3:(x.state == 3)=false:=by simp [h3]
 have s4:(x.state == 4)=false:=by simp [h4]
 have s5:(x.state == 5)=false:=by simp [h5]
 have s6:(x.state == 6)=false:=by simp [h6]
 have s7:(x.state == 7)=false:=by simp [h7]
 clear h h3 h4 h5 h6 h7
 go_enter Tryz.func203,Tryz.ntmps203
 go_wp2
 go_ret
 exact⟨ret_bool HV.out.symm,Below.refl _ _⟩
theorem hasWait_any(o X:Nat)(q:Opn)(x:ProcD)(ms me mb mf:MapL)(w:World)(h:HasIn w w o X q x ms me mb mf)(hw:(Lit.int .i64 x.on).wf=true):
  Calls Tryz.prog 203 #[.pointer(some⟨o,0,none⟩),.pointer(some⟨X,0,none⟩)] w fun e w'=>e= .returned(.bool(waitK ms me mb mf x))∧Below w.heap.size w w':=by
 by_cases h3:x.state=3
 ·exact hasWait_3 o X q x ms me mb mf w h hw h3
 by_cases h4:x.state=4
 ·exact hasWait_4 o X q x ms me mb mf w h hw h4
 by_cases h5:x.state=5
 ·exact hasWait_5 o X q x ms me mb mf w h hw h5
 by_cases h6:x.state=6
 ·exact hasWait_6 o X q x ms me mb mf w h hw h6
 by_cases h7:x.state=7
 ·exact hasWait_7 o X q x ms me mb mf w h hw h7
 exact hasWait_none o X q x ms me mb mf w h h3 h4 h5 h6 h7
end Go.Proofs.YtkbcplnlehdjfaaGreat

namespace Go.Proofs.YtkbcplnlehdjfaaGreat
open Go.RowKit
attribute [local go_sem ↓] Go.wp_at_zero Go.wp_at_succ
def ShBufferAt(w:World)(most:Int)(list:List BufferD)(k:Nat)(wr:World):Prop:=
 ∃ l:List(BufferD × Nat),l.map(·.1)=list.take k∧ShIn bufferVs(fun x:BufferD=>x.id)144 122 w wr most l∧thingsB(fun x:BufferD=>x.id)(fun x:BufferD=>bufferB x.toBufferP)0(list.take k)=true∧(k:Int)≤max most 0
theorem shelfOfBuffer_any(a:Option Addr)(list:List BufferD)(cap:Nat)(most:Int)(w:World)(hl:list.length≤1048576)(h:bufferK.Lies w a list)(hf: ∀ x∈list,BufferFit w x)(hw: ∀ x∈list,(Lit.int .i64 x.id).wf=true):
  Calls Tryz.prog 151 #[.slice a list.length cap,.int .i64 most] w fun e w'=>ShelfEnds bufferVs(fun x:BufferD=>x.id)144 w most(thingsB(fun x:BufferD=>x.id)(fun x:BufferD=>bufferB x.toBufferP)0 list && decide((list.length:Int)≤max most 0))list e w':=by
 have hmk:=run_makeMap(P:=Tryz.prog)120
 have hmn:=meth_numberBuffer
 have H0:Hid(ShIn bufferVs(fun x:BufferD=>x.id)144 122 w(((w.alloc(.cells #[.int .i64 0,.map none] 122)).alloc(.map #[] 0)).alloc(.cells #[.int .i64 most,.map(some(w.heap.size+1))] 122))most []):=ShIn.start 122 w most
 have HL:Hid(bufferK.Lies w a list∧(∀ x∈list,BufferFit w x)∧ ∀ x∈list,(Lit.int .i64 x.id).wf=true):=⟨h,hf,hw⟩
 clear h hf hw
 go_enter Tryz.func151,Tryz.ntmps151
 go_wp2_with fail
 go_loopw [7,15] (fun last i wr=> ∃ k:Nat,k≤list.length∧i= .int .i64 k∧last= .int .i64(lastOf(fun x:BufferD=>x.id)0(list.take k))∧Hid(ShBufferAt w most list k wr))(fun _ i _=>list.length - (intOf i).toNat)
 case atStart=>exact⟨0,Nat.zero_le _,rfl,rfl,⟨[],by simp,H0.out,rfl,by simp; omega⟩⟩
 case round=>
  clear H0 hmk
  obtain⟨k,hk,rfl,rfl,HA⟩:=hrel
  obtain⟨l,hlm,hin,hth,hkm⟩:=HA.out
  have HT:Hid(l.map(·.1)=list.take k∧thingsB(fun x:BufferD=>x.id)(fun x:BufferD=>bufferB x.toBufferP)0(list.take k)=true∧(k:Int)≤max most 0):=⟨hlm,hth,hkm⟩
  have HI:Hid(ShIn bufferVs(fun x:BufferD=>x.id)144 122 w wr most l):=hin
  clear HA hlm hin hth hkm
  by_cases hlt:k < list.length
  ·have i0:(0:Int)≤(k:Int):=by omega
   have i1:(k:Int) < (list.length:Int):=by omega
   obtain⟨x,hx⟩: ∃ x,list[k]? =some x:=⟨_,List.getElem?_eq_getElem hlt⟩
   have hmem:=List.mem_of_getElem? hx
   have HX:Hid(list[k]? =some x):=hx
   have HF:Hid(BufferFit w x∧(Lit.int .i64 x.id).wf=true):=⟨HL.out.2.1 x hmem,HL.out.2.2 x hmem⟩
   obtain⟨gs,ha,hat⟩:=buffer_at(HL.out.1.below HI.out.bel)hx
   obtain⟨c0,c1,c2⟩:=hat
   subst ha
   clear hx hmem
   go_wp2_with fail
   refine(numberBuffer_any x _).mono ?_
   rintro e w2⟨rfl,hb2⟩
   have HI2:Hid(ShIn bufferVs(fun x:BufferD=>x.id)144 122 w w2 most l):=(HI.out.below((Below.refl _ wr).alloc(Nat.le_refl _)(.cells #[.int .i64 x.id,.int .i64 x.max,.slice x.itemsA x.items.length x.itemsC] 144))).below hb2
   have HB:Hid(w2.heap[wr.heap.size]? =some(.cells(bufferVs x)144(0,0))):=(hb2.block _(by simp)).trans(heap_alloc_new _ _)
   have HZ:Hid(w.heap.size+1 < wr.heap.size):=by show w.heap.size+1 < wr.heap.size; have:=(Array.getElem?_eq_some_iff.1 HI.out.var).1; omega
   clear hb2 HI c0 c1 c2
   obtain⟨d0,d1,d2⟩:=buffer_cells HB.out
   obtain⟨r0,r1,v0,v1,z0,z1⟩:=HI2.out.cells
   by_cases hle:x.id≤lastOf(fun x:BufferD=>x.id)0(list.take k)
   ·have HN:Hid((thingsB(fun x:BufferD=>x.id)(fun x:BufferD=>bufferB x.toBufferP)0 list && decide((list.length:Int)≤max most 0))=false):=by
     show _=false
     rw [things_no HX.out(fun hh=>absurd hh.2.1(by show ¬ lastOf(fun x:BufferD=>x.id)0(list.take k) < x.id; omega))]; rfl
    go_wp2
    refine bodyPost_ret(v:= .tuple #[.agg #[.int .i64 0,.map none],.bool false])(by simp [results,Tryz.results151,go_sem,*])rfl ?_
    exact⟨(HI2.out.away _ _).2,.inl⟨HN.out,rfl⟩⟩
   have HLT:Hid(lastOf(fun x:BufferD=>x.id)0(list.take k) < x.id):=by show _ < _; omega
   have hkl:(keysOf(fun x:BufferD=>x.id)l).length≤1048576:=by
    rw [keysOf_length]
    have:=congrArg List.length HT.out.1
    simp only [List.length_map,List.length_take] at this
    omega
   go_wp2_with fail
   refine(layBuffer_any most(w.heap.size+1)(keysOf(fun x:BufferD=>x.id)l)x w2 HI2.out.shelf.map HF.out.2 hkl(HF.out.1.below HI2.out.bel)).mono ?_
   rintro e w3⟨rfl,hno,hyes⟩
   cases hlay:layB most(keysOf(fun x:BufferD=>x.id)l)x.id(bufferB x.toBufferP)with
   | false=>
    have HN:Hid((thingsB(fun x:BufferD=>x.id)(fun x:BufferD=>bufferB x.toBufferP)0 list && decide((list.length:Int)≤max most 0))=false):=things_lay_no HX.out HT.out.1 HT.out.2.1 HLT.out hlay
    have HI3:Hid(ShIn bufferVs(fun x:BufferD=>x.id)144 122 w w3 most l):=HI2.out.below(hno hlay)
    clear hno hyes hlay HI2 r0 r1 v0 v1 z0 z1 d0 d1 d2 HB
    obtain⟨r0,r1,v0,v1,z0,z1⟩:=HI3.out.cells
    go_wp2
    refine bodyPost_ret(v:= .tuple #[.agg #[.int .i64 0,.map none],.bool false])(by simp [results,Tryz.results151,go_sem,*])rfl ?_
    exact⟨(HI3.out.away _ _).2,.inl⟨HN.out,rfl⟩⟩
   | true=>
    have HY:Hid(thingsB(fun x:BufferD=>x.id)(fun x:BufferD=>bufferB x.toBufferP)0(list.take(k+1))=true∧((k+1:Nat):Int)≤max most 0):=things_lay_yes HX.out HT.out.1 HT.out.2.1 HLT.out hlay
    obtain⟨g,hin4⟩:=HI2.out.lay(x:=x)(e:= .returned(.bool true))(w':=w3)⟨rfl,(fun h=>by cases h),fun _=>hyes hlay⟩(rises_last HT.out.1 HT.out.2.1 HLT.out)
    have HI4:Hid(ShIn bufferVs(fun x:BufferD=>x.id)144 122 w w3 most(l ++ [(x,g)])):=hin4
    have HB3:Hid(w3.heap[wr.heap.size]? =some(.cells(bufferVs x)144(0,0))):=by
     obtain⟨g',_,_,_,hgr⟩:=hyes hlay
     exact(hgr.block _(Array.getElem?_eq_some_iff.1 HB.out).1(fun e=>by have:=Option.some.inj e; have:=HZ.out; omega)).trans HB.out
    clear hno hyes hlay HI2 r0 r1 v0 v1 z0 z1 d0 d1 d2 HB hin4
    obtain⟨d0,d1,d2⟩:=buffer_cells HB3.out
    go_wp2_with fail
    refine(numberBuffer_any x _).mono ?_
    rintro e w5⟨rfl,hb5⟩
    have HI5:Hid(ShIn bufferVs(fun x:BufferD=>x.id)144 122 w w5 most(l ++ [(x,g)])):=HI4.out.below hb5
    have HE:Hid(lastOf(fun x:BufferD=>x.id)0(list.take(k+1))=x.id):=lastOf_take HX.out 0
    clear hb5 HI4
    go_wp2
    go_roundw
    case rel=>exact⟨k+1,by omega,by go_num,by rw [HE.out],⟨l ++ [(x,g)],by rw [List.map_append,HT.out.1,take_up HX.out]; rfl,HI5.out,HY.out.1,HY.out.2⟩⟩
    case measure=>simp [intOf]; omega
  ·have i1: ¬ (k:Int) < (list.length:Int):=by omega
   have HK:Hid(list.take k=list∧((list.length:Int)≤max most 0)):=⟨List.take_of_length_le(by omega),by have:=HT.out.2.2; omega⟩
   have HY:Hid((thingsB(fun x:BufferD=>x.id)(fun x:BufferD=>bufferB x.toBufferP)0 list && decide((list.length:Int)≤max most 0))=true):=by
    show _=true
    have h1:=HT.out.2.1
    rw [HK.out.1] at h1
    rw [h1,decide_eq_true HK.out.2]; rfl
   obtain⟨r0,r1,v0,v1,z0,z1⟩:=HI.out.cells
   go_wp2
   refine bodyPost_ret(v:= .tuple #[.agg #[.int .i64 most,.map(some(w.heap.size+1))],.bool true])(by simp [results,Tryz.results151,go_sem,*])rfl ?_
   exact⟨(HI.out.away _ _).2,.inr⟨HY.out,w.heap.size+1,l,rfl,by rw [HT.out.1,HK.out.1],(HI.out.away _ _).1⟩⟩
end Go.Proofs.YtkbcplnlehdjfaaGreat

namespace Go.Proofs.YtkbcplnlehdjfaaGreat
open Go.RowKit
attribute [local go_sem ↓] Go.wp_at_zero Go.wp_at_succ
def ShPortAt(w:World)(most:Int)(list:List PortD)(k:Nat)(wr:World):Prop:=
 ∃ l:List(PortD × Nat),l.map(·.1)=list.take k∧ShIn portVs(fun x:PortD=>x.id)61 125 w wr most l∧thingsB(fun x:PortD=>x.id)(fun x:PortD=>portB x.toPortP)0(list.take k)=true∧(k:Int)≤max most 0
theorem shelfOfPort_any(a:Option Addr)(list:List PortD)(cap:Nat)(most:Int)(w:World)(hl:list.length≤1048576)(h:portK.Lies w a list)(hf: ∀ x∈list,PortFit w x)(hw: ∀ x∈list,(Lit.int .i64 x.id).wf=true):
  Calls Tryz.prog 152 #[.slice a list.length cap,.int .i64 most] w fun e w'=>ShelfEnds portVs(fun x:PortD=>x.id)61 w most(thingsB(fun x:PortD=>x.id)(fun x:PortD=>portB x.toPortP)0 list && decide((list.length:Int)≤max most 0))list e w':=by
 have hmk:=run_makeMap(P:=Tryz.prog)123
 have hmn:=meth_numberPort
 have H0:Hid(ShIn portVs(fun x:PortD=>x.id)61 125 w(((w.alloc(.cells #[.int .i64 0,.map none] 125)).alloc(.map #[] 0)).alloc(.cells #[.int .i64 most,.map(some(w.heap.size+1))] 125))most []):=ShIn.start 125 w most
 have HL:Hid(portK.Lies w a list∧(∀ x∈list,PortFit w x)∧ ∀ x∈list,(Lit.int .i64 x.id).wf=true):=⟨h,hf,hw⟩
 clear h hf hw
 go_enter Tryz.func152,Tryz.ntmps152
 go_wp2_with fail
 go_loopw [7,15] (fun last i wr=> ∃ k:Nat,k≤list.length∧i= .int .i64 k∧last= .int .i64(lastOf(fun x:PortD=>x.id)0(list.take k))∧Hid(ShPortAt w most list k wr))(fun _ i _=>list.length - (intOf i).toNat)
 case atStart=>exact⟨0,Nat.zero_le _,rfl,rfl,⟨[],by simp,H0.out,rfl,by simp; omega⟩⟩
 case round=>
  clear H0 hmk
  obtain⟨k,hk,rfl,rfl,HA⟩:=hrel
  obtain⟨l,hlm,hin,hth,hkm⟩:=HA.out
  have HT:Hid(l.map(·.1)=list.take k∧thingsB(fun x:PortD=>x.id)(fun x:PortD=>portB x.toPortP)0(list.take k)=true∧(k:Int)≤max most 0):=⟨hlm,hth,hkm⟩
  have HI:Hid(ShIn portVs(fun x:PortD=>x.id)61 125 w wr most l):=hin
  clear HA hlm hin hth hkm
  by_cases hlt:k < list.length
  ·have i0:(0:Int)≤(k:Int):=by omega
   have i1:(k:Int) < (list.length:Int):=by omega
   obtain⟨x,hx⟩: ∃ x,list[k]? =some x:=⟨_,List.getElem?_eq_getElem hlt⟩
   have hmem:=List.mem_of_getElem? hx
   have HX:Hid(list[k]? =some x):=hx
   have HF:Hid(PortFit w x∧(Lit.int .i64 x.id).wf=true):=⟨HL.out.2.1 x hmem,HL.out.2.2 x hmem⟩
   obtain⟨gs,ha,hat⟩:=port_at(HL.out.1.below HI.out.bel)hx
   obtain⟨c0,c1,c2,c3,c4⟩:=hat
   subst ha
   clear hx hmem
   go_wp2_with fail
   refine(numberPort_any x _).mono ?_
   rintro e w2⟨rfl,hb2⟩
   have HI2:Hid(ShIn portVs(fun x:PortD=>x.id)61 125 w w2 most l):=(HI.out.below((Below.refl _ wr).alloc(Nat.le_refl _)(.cells #[.int .i64 x.id,.bool x.out,.bool x.queue,.int .i64 x.max,.slice x.itemsA x.items.length x.itemsC] 61))).below hb2
   have HB:Hid(w2.heap[wr.heap.size]? =some(.cells(portVs x)61(0,0))):=(hb2.block _(by simp)).trans(heap_alloc_new _ _)
   have HZ:Hid(w.heap.size+1 < wr.heap.size):=by show w.heap.size+1 < wr.heap.size; have:=(Array.getElem?_eq_some_iff.1 HI.out.var).1; omega
   clear hb2 HI c0 c1 c2 c3 c4
   obtain⟨d0,d1,d2,d3,d4⟩:=port_cells HB.out
   obtain⟨r0,r1,v0,v1,z0,z1⟩:=HI2.out.cells
   by_cases hle:x.id≤lastOf(fun x:PortD=>x.id)0(list.take k)
   ·have HN:Hid((thingsB(fun x:PortD=>x.id)(fun x:PortD=>portB x.toPortP)0 list && decide((list.length:Int)≤max most 0))=false):=by
     show _=false
     rw [things_no HX.out(fun hh=>absurd hh.2.1(by show ¬ lastOf(fun x:PortD=>x.id)0(list.take k) < x.id; omega))]; rfl
    go_wp2
    refine bodyPost_ret(v:= .tuple #[.agg #[.int .i64 0,.map none],.bool false])(by simp [results,Tryz.results152,go_sem,*])rfl ?_
    exact⟨(HI2.out.away _ _).2,.inl⟨HN.out,rfl⟩⟩
   have HLT:Hid(lastOf(fun x:PortD=>x.id)0(list.take k) < x.id):=by show _ < _; omega
   have hkl:(keysOf(fun x:PortD=>x.id)l).length≤1048576:=by
    rw [keysOf_length]
    have:=congrArg List.length HT.out.1
    simp only [List.length_map,List.length_take] at this
    omega
   go_wp2_with fail
   refine(layPort_any most(w.heap.size+1)(keysOf(fun x:PortD=>x.id)l)x w2 HI2.out.shelf.map HF.out.2 hkl(HF.out.1.below HI2.out.bel)).mono ?_
   rintro e w3⟨rfl,hno,hyes⟩
   cases hlay:layB most(keysOf(fun x:PortD=>x.id)l)x.id(portB x.toPortP)with
   | false=>
    have HN:Hid((thingsB(fun x:PortD=>x.id)(fun x:PortD=>portB x.toPortP)0 list && decide((list.length:Int)≤max most 0))=false):=things_lay_no HX.out HT.out.1 HT.out.2.1 HLT.out hlay
    have HI3:Hid(ShIn portVs(fun x:PortD=>x.id)61 125 w w3 most l):=HI2.out.below(hno hlay)
    clear hno hyes hlay HI2 r0 r1 v0 v1 z0 z1 d0 d1 d2 d3 d4 HB
    obtain⟨r0,r1,v0,v1,z0,z1⟩:=HI3.out.cells
    go_wp2
    refine bodyPost_ret(v:= .tuple #[.agg #[.int .i64 0,.map none],.bool false])(by simp [results,Tryz.results152,go_sem,*])rfl ?_
    exact⟨(HI3.out.away _ _).2,.inl⟨HN.out,rfl⟩⟩
   | true=>
    have HY:Hid(thingsB(fun x:PortD=>x.id)(fun x:PortD=>portB x.toPortP)0(list.take(k+1))=true∧((k+1:Nat):Int)≤max most 0):=things_lay_yes HX.out HT.out.1 HT.out.2.1 HLT.out hlay
    obtain⟨g,hin4⟩:=HI2.out.lay(x:=x)(e:= .returned(.bool true))(w':=w3)⟨rfl,(fun h=>by cases h),fun _=>hyes hlay⟩(rises_last HT.out.1 HT.out.2.1 HLT.out)
    have HI4:Hid(ShIn portVs(fun x:PortD=>x.id)61 125 w w3 most(l ++ [(x,g)])):=hin4
    have HB3:Hid(w3.heap[wr.heap.size]? =some(.cells(portVs x)61(0,0))):=by
     obtain⟨g',_,_,_,hgr⟩:=hyes hlay
     exact(hgr.block _(Array.getElem?_eq_some_iff.1 HB.out).1(fun e=>by have:=Option.some.inj e; have:=HZ.out; omega)).trans HB.out
    clear hno hyes hlay HI2 r0 r1 v0 v1 z0 z1 d0 d1 d2 d3 d4 HB hin4
    obtain⟨d0,d1,d2,d3,d4⟩:=port_cells HB3.out
    go_wp2_with fail
    refine(numberPort_any x _).mono ?_
    rintro e w5⟨rfl,hb5⟩
    have HI5:Hid(ShIn portVs(fun x:PortD=>x.id)61 125 w w5 most(l ++ [(x,g)])):=HI4.out.below hb5
    have HE:Hid(lastOf(fun x:PortD=>x.id)0(list.take(k+1))=x.id):=lastOf_take HX.out 0
    clear hb5 HI4
    go_wp2
    go_roundw
    case rel=>exact⟨k+1,by omega,by go_num,by rw [HE.out],⟨l ++ [(x,g)],by rw [List.map_append,HT.out.1,take_up HX.out]; rfl,HI5.out,HY.out.1,HY.out.2⟩⟩
    case measure=>simp [intOf]; omega
  ·have i1: ¬ (k:Int) < (list.length:Int):=by omega
   have HK:Hid(list.take k=list∧((list.length:Int)≤max most 0)):=⟨List.take_of_length_le(by omega),by have:=HT.out.2.2; omega⟩
   have HY:Hid((thingsB(fun x:PortD=>x.id)(fun x:PortD=>portB x.toPortP)0 list && decide((list.length:Int)≤max most 0))=true):=by
    show _=true
    have h1:=HT.out.2.1
    rw [HK.out.1] at h1
    rw [h1,decide_eq_true HK.out.2]; rfl
   obtain⟨r0,r1,v0,v1,z0,z1⟩:=HI.out.cells
   go_wp2
   refine bodyPost_ret(v:= .tuple #[.agg #[.int .i64 most,.map(some(w.heap.size+1))],.bool true])(by simp [results,Tryz.results152,go_sem,*])rfl ?_
   exact⟨(HI.out.away _ _).2,.inr⟨HY.out,w.heap.size+1,l,rfl,by rw [HT.out.1,HK.out.1],(HI.out.away _ _).1⟩⟩
end Go.Proofs.YtkbcplnlehdjfaaGreat

namespace Go.Proofs.YtkbcplnlehdjfaaGreat
open Go.RowKit
attribute [local go_sem ↓] Go.wp_at_zero Go.wp_at_succ
def ShBoardAt(w:World)(most:Int)(list:List BoardD)(k:Nat)(wr:World):Prop:=
 ∃ l:List(BoardD × Nat),l.map(·.1)=list.take k∧ShIn boardVs(fun x:BoardD=>x.id)141 119 w wr most l∧thingsB(fun x:BoardD=>x.id)(fun x:BoardD=>boardB x)0(list.take k)=true∧(k:Int)≤max most 0
theorem shelfOfBoard_any(a:Option Addr)(list:List BoardD)(cap:Nat)(most:Int)(w:World)(hl:list.length≤1048576)(h:boardK.Lies w a list)(hf: ∀ x∈list,BoardFit w x)(hw: ∀ x∈list,(Lit.int .i64 x.id).wf=true):
  Calls Tryz.prog 150 #[.slice a list.length cap,.int .i64 most] w fun e w'=>ShelfEnds boardVs(fun x:BoardD=>x.id)141 w most(thingsB(fun x:BoardD=>x.id)(fun x:BoardD=>boardB x)0 list && decide((list.length:Int)≤max most 0))list e w':=by
 have hmk:=run_makeMap(P:=Tryz.prog)117
 have hmn:=meth_numberBoard
 have H0:Hid(ShIn boardVs(fun x:BoardD=>x.id)141 119 w(((w.alloc(.cells #[.int .i64 0,.map none] 119)).alloc(.map #[] 0)).alloc(.cells #[.int .i64 most,.map(some(w.heap.size+1))] 119))most []):=ShIn.start 119 w most
 have HL:Hid(boardK.Lies w a list∧(∀ x∈list,BoardFit w x)∧ ∀ x∈list,(Lit.int .i64 x.id).wf=true):=⟨h,hf,hw⟩
 clear h hf hw
 go_enter Tryz.func150,Tryz.ntmps150
 go_wp2_with fail
 go_loopw [7,15] (fun last i wr=> ∃ k:Nat,k≤list.length∧i= .int .i64 k∧last= .int .i64(lastOf(fun x:BoardD=>x.id)0(list.take k))∧Hid(ShBoardAt w most list k wr))(fun _ i _=>list.length - (intOf i).toNat)
 case atStart=>exact⟨0,Nat.zero_le _,rfl,rfl,⟨[],by simp,H0.out,rfl,by simp; omega⟩⟩
 case round=>
  clear H0 hmk
  obtain⟨k,hk,rfl,rfl,HA⟩:=hrel
  obtain⟨l,hlm,hin,hth,hkm⟩:=HA.out
  have HT:Hid(l.map(·.1)=list.take k∧thingsB(fun x:BoardD=>x.id)(fun x:BoardD=>boardB x)0(list.take k)=true∧(k:Int)≤max most 0):=⟨hlm,hth,hkm⟩
  have HI:Hid(ShIn boardVs(fun x:BoardD=>x.id)141 119 w wr most l):=hin
  clear HA hlm hin hth hkm
  by_cases hlt:k < list.length
  ·have i0:(0:Int)≤(k:Int):=by omega
   have i1:(k:Int) < (list.length:Int):=by omega
   obtain⟨x,hx⟩: ∃ x,list[k]? =some x:=⟨_,List.getElem?_eq_getElem hlt⟩
   have hmem:=List.mem_of_getElem? hx
   have HX:Hid(list[k]? =some x):=hx
   have HF:Hid(BoardFit w x∧(Lit.int .i64 x.id).wf=true):=⟨HL.out.2.1 x hmem,HL.out.2.2 x hmem⟩
   obtain⟨gs,ha,hat⟩:=board_at(HL.out.1.below HI.out.bel)hx
   obtain⟨c0,c1,c2⟩:=hat
   subst ha
   clear hx hmem
   go_wp2_with fail
   refine(numberBoard_any x _).mono ?_
   rintro e w2⟨rfl,hb2⟩
   have HI2:Hid(ShIn boardVs(fun x:BoardD=>x.id)141 119 w w2 most l):=(HI.out.below((Below.refl _ wr).alloc(Nat.le_refl _)(.cells #[.int .i64 x.id,.bool x.shown,.string x.text] 141))).below hb2
   have HB:Hid(w2.heap[wr.heap.size]? =some(.cells(boardVs x)141(0,0))):=(hb2.block _(by simp)).trans(heap_alloc_new _ _)
   have HZ:Hid(w.heap.size+1 < wr.heap.size):=by show w.heap.size+1 < wr.heap.size; have:=(Array.getElem?_eq_some_iff.1 HI.out.var).1; omega
   clear hb2 HI c0 c1 c2
   obtain⟨d0,d1,d2⟩:=board_cells HB.out
   obtain⟨r0,r1,v0,v1,z0,z1⟩:=HI2.out.cells
   by_cases hle:x.id≤lastOf(fun x:BoardD=>x.id)0(list.take k)
   ·have HN:Hid((thingsB(fun x:BoardD=>x.id)(fun x:BoardD=>boardB x)0 list && decide((list.length:Int)≤max most 0))=false):=by
     show _=false
     rw [things_no HX.out(fun hh=>absurd hh.2.1(by show ¬ lastOf(fun x:BoardD=>x.id)0(list.take k) < x.id; omega))]; rfl
    go_wp2
    refine bodyPost_ret(v:= .tuple #[.agg #[.int .i64 0,.map none],.bool false])(by simp [results,Tryz.results150,go_sem,*])rfl ?_
    exact⟨(HI2.out.away _ _).2,.inl⟨HN.out,rfl⟩⟩
   have HLT:Hid(lastOf(fun x:BoardD=>x.id)0(list.take k) < x.id):=by show _ < _; omega
   have hkl:(keysOf(fun x:BoardD=>x.id)l).length≤1048576:=by
    rw [keysOf_length]
    have:=congrArg List.length HT.out.1
    simp only [List.length_map,List.length_take] at this
    omega
   go_wp2_with fail
   refine(layBoard_any most(w.heap.size+1)(keysOf(fun x:BoardD=>x.id)l)x w2 HI2.out.shelf.map HF.out.2 hkl(HF.out.1.below HI2.out.bel)).mono ?_
   rintro e w3⟨rfl,hno,hyes⟩
   cases hlay:layB most(keysOf(fun x:BoardD=>x.id)l)x.id(boardB x)with
   | false=>
    have HN:Hid((thingsB(fun x:BoardD=>x.id)(fun x:BoardD=>boardB x)0 list && decide((list.length:Int)≤max most 0))=false):=things_lay_no HX.out HT.out.1 HT.out.2.1 HLT.out hlay
    have HI3:Hid(ShIn boardVs(fun x:BoardD=>x.id)141 119 w w3 most l):=HI2.out.below(hno hlay)
    clear hno hyes hlay HI2 r0 r1 v0 v1 z0 z1 d0 d1 d2 HB
    obtain⟨r0,r1,v0,v1,z0,z1⟩:=HI3.out.cells
    go_wp2
    refine bodyPost_ret(v:= .tuple #[.agg #[.int .i64 0,.map none],.bool false])(by simp [results,Tryz.results150,go_sem,*])rfl ?_
    exact⟨(HI3.out.away _ _).2,.inl⟨HN.out,rfl⟩⟩
   | true=>
    have HY:Hid(thingsB(fun x:BoardD=>x.id)(fun x:BoardD=>boardB x)0(list.take(k+1))=true∧((k+1:Nat):Int)≤max most 0):=things_lay_yes HX.out HT.out.1 HT.out.2.1 HLT.out hlay
    obtain⟨g,hin4⟩:=HI2.out.lay(x:=x)(e:= .returned(.bool true))(w':=w3)⟨rfl,(fun h=>by cases h),fun _=>hyes hlay⟩(rises_last HT.out.1 HT.out.2.1 HLT.out)
    have HI4:Hid(ShIn boardVs(fun x:BoardD=>x.id)141 119 w w3 most(l ++ [(x,g)])):=hin4
    have HB3:Hid(w3.heap[wr.heap.size]? =some(.cells(boardVs x)141(0,0))):=by
     obtain⟨g',_,_,_,hgr⟩:=hyes hlay
     exact(hgr.block _(Array.getElem?_eq_some_iff.1 HB.out).1(fun e=>by have:=Option.some.inj e; have:=HZ.out; omega)).trans HB.out
    clear hno hyes hlay HI2 r0 r1 v0 v1 z0 z1 d0 d1 d2 HB hin4
    obtain⟨d0,d1,d2⟩:=board_cells HB3.out
    go_wp2_with fail
    refine(numberBoard_any x _).mono ?_
    rintro e w5⟨rfl,hb5⟩
    have HI5:Hid(ShIn boardVs(fun x:BoardD=>x.id)141 119 w w5 most(l ++ [(x,g)])):=HI4.out.below hb5
    have HE:Hid(lastOf(fun x:BoardD=>x.id)0(list.take(k+1))=x.id):=lastOf_take HX.out 0
    clear hb5 HI4
    go_wp2
    go_roundw
    case rel=>exact⟨k+1,by omega,by go_num,by rw [HE.out],⟨l ++ [(x,g)],by rw [List.map_append,HT.out.1,take_up HX.out]; rfl,HI5.out,HY.out.1,HY.out.2⟩⟩
    case measure=>simp [intOf]; omega
  ·have i1: ¬ (k:Int) < (list.length:Int):=by omega
   have HK:Hid(list.take k=list∧((list.length:Int)≤max most 0)):=⟨List.take_of_length_le(by omega),by have:=HT.out.2.2; omega⟩
   have HY:Hid((thingsB(fun x:BoardD=>x.id)(fun x:BoardD=>boardB x)0 list && decide((list.length:Int)≤max most 0))=true):=by
    show _=true
    have h1:=HT.out.2.1
    rw [HK.out.1] at h1
    rw [h1,decide_eq_true HK.out.2]; rfl
   obtain⟨r0,r1,v0,v1,z0,z1⟩:=HI.out.cells
   go_wp2
   refine bodyPost_ret(v:= .tuple #[.agg #[.int .i64 most,.map(some(w.heap.size+1))],.bool true])(by simp [results,Tryz.results150,go_sem,*])rfl ?_
   exact⟨(HI.out.away _ _).2,.inr⟨HY.out,w.heap.size+1,l,rfl,by rw [HT.out.1,HK.out.1],(HI.out.away _ _).1⟩⟩
end Go.Proofs.YtkbcplnlehdjfaaGreat

namespace Go.Proofs.YtkbcplnlehdjfaaGreat
open Go.RowKit
attribute [local go_sem ↓] Go.wp_at_zero Go.wp_at_succ
def ShEventAt(w:World)(most:Int)(list:List EventD)(k:Nat)(wr:World):Prop:=
 ∃ l:List(EventD × Nat),l.map(·.1)=list.take k∧ShIn eventVs(fun x:EventD=>x.id)138 116 w wr most l∧thingsB(fun x:EventD=>x.id)(fun x:EventD=>eventB x)0(list.take k)=true∧(k:Int)≤max most 0
theorem shelfOfEvent_any(a:Option Addr)(list:List EventD)(cap:Nat)(most:Int)(w:World)(hl:list.length≤1048576)(h:eventK.Lies w a list)(hf: ∀ x∈list,EventFit w x)(hw: ∀ x∈list,(Lit.int .i64 x.id).wf=true):
  Calls Tryz.prog 149 #[.slice a list.length cap,.int .i64 most] w fun e w'=>ShelfEnds eventVs(fun x:EventD=>x.id)138 w most(thingsB(fun x:EventD=>x.id)(fun x:EventD=>eventB x)0 list && decide((list.length:Int)≤max most 0))list e w':=by
 have hmk:=run_makeMap(P:=Tryz.prog)114
 have hmn:=meth_numberEvent
 have H0:Hid(ShIn eventVs(fun x:EventD=>x.id)138 116 w(((w.alloc(.cells #[.int .i64 0,.map none] 116)).alloc(.map #[] 0)).alloc(.cells #[.int .i64 most,.map(some(w.heap.size+1))] 116))most []):=ShIn.start 116 w most
 have HL:Hid(eventK.Lies w a list∧(∀ x∈list,EventFit w x)∧ ∀ x∈list,(Lit.int .i64 x.id).wf=true):=⟨h,hf,hw⟩
 clear h hf hw
 go_enter Tryz.func149,Tryz.ntmps149
 go_wp2_with fail
 go_loopw [7,15] (fun last i wr=> ∃ k:Nat,k≤list.length∧i= .int .i64 k∧last= .int .i64(lastOf(fun x:EventD=>x.id)0(list.take k))∧Hid(ShEventAt w most list k wr))(fun _ i _=>list.length - (intOf i).toNat)
 case atStart=>exact⟨0,Nat.zero_le _,rfl,rfl,⟨[],by simp,H0.out,rfl,by simp; omega⟩⟩
 case round=>
  clear H0 hmk
  obtain⟨k,hk,rfl,rfl,HA⟩:=hrel
  obtain⟨l,hlm,hin,hth,hkm⟩:=HA.out
  have HT:Hid(l.map(·.1)=list.take k∧thingsB(fun x:EventD=>x.id)(fun x:EventD=>eventB x)0(list.take k)=true∧(k:Int)≤max most 0):=⟨hlm,hth,hkm⟩
  have HI:Hid(ShIn eventVs(fun x:EventD=>x.id)138 116 w wr most l):=hin
  clear HA hlm hin hth hkm
  by_cases hlt:k < list.length
  ·have i0:(0:Int)≤(k:Int):=by omega
   have i1:(k:Int) < (list.length:Int):=by omega
   obtain⟨x,hx⟩: ∃ x,list[k]? =some x:=⟨_,List.getElem?_eq_getElem hlt⟩
   have hmem:=List.mem_of_getElem? hx
   have HX:Hid(list[k]? =some x):=hx
   have HF:Hid(EventFit w x∧(Lit.int .i64 x.id).wf=true):=⟨HL.out.2.1 x hmem,HL.out.2.2 x hmem⟩
   obtain⟨gs,ha,hat⟩:=event_at(HL.out.1.below HI.out.bel)hx
   obtain⟨c0,c1⟩:=hat
   subst ha
   clear hx hmem
   go_wp2_with fail
   refine(numberEvent_any x _).mono ?_
   rintro e w2⟨rfl,hb2⟩
   have HI2:Hid(ShIn eventVs(fun x:EventD=>x.id)138 116 w w2 most l):=(HI.out.below((Below.refl _ wr).alloc(Nat.le_refl _)(.cells #[.int .i64 x.id,.bool x.up] 138))).below hb2
   have HB:Hid(w2.heap[wr.heap.size]? =some(.cells(eventVs x)138(0,0))):=(hb2.block _(by simp)).trans(heap_alloc_new _ _)
   have HZ:Hid(w.heap.size+1 < wr.heap.size):=by show w.heap.size+1 < wr.heap.size; have:=(Array.getElem?_eq_some_iff.1 HI.out.var).1; omega
   clear hb2 HI c0 c1
   obtain⟨d0,d1⟩:=event_cells HB.out
   obtain⟨r0,r1,v0,v1,z0,z1⟩:=HI2.out.cells
   by_cases hle:x.id≤lastOf(fun x:EventD=>x.id)0(list.take k)
   ·have HN:Hid((thingsB(fun x:EventD=>x.id)(fun x:EventD=>eventB x)0 list && decide((list.length:Int)≤max most 0))=false):=by
     show _=false
     rw [things_no HX.out(fun hh=>absurd hh.2.1(by show ¬ lastOf(fun x:EventD=>x.id)0(list.take k) < x.id; omega))]; rfl
    go_wp2
    refine bodyPost_ret(v:= .tuple #[.agg #[.int .i64 0,.map none],.bool false])(by simp [results,Tryz.results149,go_sem,*])rfl ?_
    exact⟨(HI2.out.away _ _).2,.inl⟨HN.out,rfl⟩⟩
   have HLT:Hid(lastOf(fun x:EventD=>x.id)0(list.take k) < x.id):=by show _ < _; omega
   have hkl:(keysOf(fun x:EventD=>x.id)l).length≤1048576:=by
    rw [keysOf_length]
    have:=congrArg List.length HT.out.1
    simp only [List.length_map,List.length_take] at this
    omega
   go_wp2_with fail
   refine(layEvent_any most(w.heap.size+1)(keysOf(fun x:EventD=>x.id)l)x w2 HI2.out.shelf.map HF.out.2 hkl(HF.out.1.below HI2.out.bel)).mono ?_
   rintro e w3⟨rfl,hno,hyes⟩
   cases hlay:layB most(keysOf(fun x:EventD=>x.id)l)x.id(eventB x)with
   | false=>
    have HN:Hid((thingsB(fun x:EventD=>x.id)(fun x:EventD=>eventB x)0 list && decide((list.length:Int)≤max most 0))=false):=things_lay_no HX.out HT.out.1 HT.out.2.1 HLT.out hlay
    have HI3:Hid(ShIn eventVs(fun x:EventD=>x.id)138 116 w w3 most l):=HI2.out.below(hno hlay)
    clear hno hyes hlay HI2 r0 r1 v0 v1 z0 z1 d0 d1 HB
    obtain⟨r0,r1,v0,v1,z0,z1⟩:=HI3.out.cells
    go_wp2
    refine bodyPost_ret(v:= .tuple #[.agg #[.int .i64 0,.map none],.bool false])(by simp [results,Tryz.results149,go_sem,*])rfl ?_
    exact⟨(HI3.out.away _ _).2,.inl⟨HN.out,rfl⟩⟩
   | true=>
    have HY:Hid(thingsB(fun x:EventD=>x.id)(fun x:EventD=>eventB x)0(list.take(k+1))=true∧((k+1:Nat):Int)≤max most 0):=things_lay_yes HX.out HT.out.1 HT.out.2.1 HLT.out hlay
    obtain⟨g,hin4⟩:=HI2.out.lay(x:=x)(e:= .returned(.bool true))(w':=w3)⟨rfl,(fun h=>by cases h),fun _=>hyes hlay⟩(rises_last HT.out.1 HT.out.2.1 HLT.out)
    have HI4:Hid(ShIn eventVs(fun x:EventD=>x.id)138 116 w w3 most(l ++ [(x,g)])):=hin4
    have HB3:Hid(w3.heap[wr.heap.size]? =some(.cells(eventVs x)138(0,0))):=by
     obtain⟨g',_,_,_,hgr⟩:=hyes hlay
     exact(hgr.block _(Array.getElem?_eq_some_iff.1 HB.out).1(fun e=>by have:=Option.some.inj e; have:=HZ.out; omega)).trans HB.out
    clear hno hyes hlay HI2 r0 r1 v0 v1 z0 z1 d0 d1 HB hin4
    obtain⟨d0,d1⟩:=event_cells HB3.out
    go_wp2_with fail
    refine(numberEvent_any x _).mono ?_
    rintro e w5⟨rfl,hb5⟩
    have HI5:Hid(ShIn eventVs(fun x:EventD=>x.id)138 116 w w5 most(l ++ [(x,g)])):=HI4.out.below hb5
    have HE:Hid(lastOf(fun x:EventD=>x.id)0(list.take(k+1))=x.id):=lastOf_take HX.out 0
    clear hb5 HI4
    go_wp2
    go_roundw
    case rel=>exact⟨k+1,by omega,by go_num,by rw [HE.out],⟨l ++ [(x,g)],by rw [List.map_append,HT.out.1,take_up HX.out]; rfl,HI5.out,HY.out.1,HY.out.2⟩⟩
    case measure=>simp [intOf]; omega
  ·have i1: ¬ (k:Int) < (list.length:Int):=by omega
   have HK:Hid(list.take k=list∧((list.length:Int)≤max most 0)):=⟨List.take_of_length_le(by omega),by have:=HT.out.2.2; omega⟩
   have HY:Hid((thingsB(fun x:EventD=>x.id)(fun x:EventD=>eventB x)0 list && decide((list.length:Int)≤max most 0))=true):=by
    show _=true
    have h1:=HT.out.2.1
    rw [HK.out.1] at h1
    rw [h1,decide_eq_true HK.out.2]; rfl
   obtain⟨r0,r1,v0,v1,z0,z1⟩:=HI.out.cells
   go_wp2
   refine bodyPost_ret(v:= .tuple #[.agg #[.int .i64 most,.map(some(w.heap.size+1))],.bool true])(by simp [results,Tryz.results149,go_sem,*])rfl ?_
   exact⟨(HI.out.away _ _).2,.inr⟨HY.out,w.heap.size+1,l,rfl,by rw [HT.out.1,HK.out.1],(HI.out.away _ _).1⟩⟩
end Go.Proofs.YtkbcplnlehdjfaaGreat

namespace Go.Proofs.YtkbcplnlehdjfaaGreat
open Go.RowKit
attribute [local go_sem ↓] Go.wp_at_zero Go.wp_at_succ
def ShSemAt(w:World)(most:Int)(list:List SemD)(k:Nat)(wr:World):Prop:=
 ∃ l:List(SemD × Nat),l.map(·.1)=list.take k∧ShIn semVs(fun x:SemD=>x.id)49 113 w wr most l∧thingsB(fun x:SemD=>x.id)(fun x:SemD=>semB x)0(list.take k)=true∧(k:Int)≤max most 0
theorem shelfOfSem_any(a:Option Addr)(list:List SemD)(cap:Nat)(most:Int)(w:World)(hl:list.length≤1048576)(h:semK.Lies w a list)(hf: ∀ x∈list,SemFit w x)(hw: ∀ x∈list,(Lit.int .i64 x.id).wf=true):
  Calls Tryz.prog 148 #[.slice a list.length cap,.int .i64 most] w fun e w'=>ShelfEnds semVs(fun x:SemD=>x.id)49 w most(thingsB(fun x:SemD=>x.id)(fun x:SemD=>semB x)0 list && decide((list.length:Int)≤max most 0))list e w':=by
 have hmk:=run_makeMap(P:=Tryz.prog)111
 have hmn:=meth_numberSem
 have H0:Hid(ShIn semVs(fun x:SemD=>x.id)49 113 w(((w.alloc(.cells #[.int .i64 0,.map none] 113)).alloc(.map #[] 0)).alloc(.cells #[.int .i64 most,.map(some(w.heap.size+1))] 113))most []):=ShIn.start 113 w most
 have HL:Hid(semK.Lies w a list∧(∀ x∈list,SemFit w x)∧ ∀ x∈list,(Lit.int .i64 x.id).wf=true):=⟨h,hf,hw⟩
 clear h hf hw
 go_enter Tryz.func148,Tryz.ntmps148
 go_wp2_with fail
 go_loopw [7,15] (fun last i wr=> ∃ k:Nat,k≤list.length∧i= .int .i64 k∧last= .int .i64(lastOf(fun x:SemD=>x.id)0(list.take k))∧Hid(ShSemAt w most list k wr))(fun _ i _=>list.length - (intOf i).toNat)
 case atStart=>exact⟨0,Nat.zero_le _,rfl,rfl,⟨[],by simp,H0.out,rfl,by simp; omega⟩⟩
 case round=>
  clear H0 hmk
  obtain⟨k,hk,rfl,rfl,HA⟩:=hrel
  obtain⟨l,hlm,hin,hth,hkm⟩:=HA.out
  have HT:Hid(l.map(·.1)=list.take k∧thingsB(fun x:SemD=>x.id)(fun x:SemD=>semB x)0(list.take k)=true∧(k:Int)≤max most 0):=⟨hlm,hth,hkm⟩
  have HI:Hid(ShIn semVs(fun x:SemD=>x.id)49 113 w wr most l):=hin
  clear HA hlm hin hth hkm
  by_cases hlt:k < list.length
  ·have i0:(0:Int)≤(k:Int):=by omega
   have i1:(k:Int) < (list.length:Int):=by omega
   obtain⟨x,hx⟩: ∃ x,list[k]? =some x:=⟨_,List.getElem?_eq_getElem hlt⟩
   have hmem:=List.mem_of_getElem? hx
   have HX:Hid(list[k]? =some x):=hx
   have HF:Hid(SemFit w x∧(Lit.int .i64 x.id).wf=true):=⟨HL.out.2.1 x hmem,HL.out.2.2 x hmem⟩
   obtain⟨gs,ha,hat⟩:=sem_at(HL.out.1.below HI.out.bel)hx
   obtain⟨c0,c1,c2⟩:=hat
   subst ha
   clear hx hmem
   go_wp2_with fail
   refine(numberSem_any x _).mono ?_
   rintro e w2⟨rfl,hb2⟩
   have HI2:Hid(ShIn semVs(fun x:SemD=>x.id)49 113 w w2 most l):=(HI.out.below((Below.refl _ wr).alloc(Nat.le_refl _)(.cells #[.int .i64 x.id,.int .i64 x.n,.int .i64 x.max] 49))).below hb2
   have HB:Hid(w2.heap[wr.heap.size]? =some(.cells(semVs x)49(0,0))):=(hb2.block _(by simp)).trans(heap_alloc_new _ _)
   have HZ:Hid(w.heap.size+1 < wr.heap.size):=by show w.heap.size+1 < wr.heap.size; have:=(Array.getElem?_eq_some_iff.1 HI.out.var).1; omega
   clear hb2 HI c0 c1 c2
   obtain⟨d0,d1,d2⟩:=sem_cells HB.out
   obtain⟨r0,r1,v0,v1,z0,z1⟩:=HI2.out.cells
   by_cases hle:x.id≤lastOf(fun x:SemD=>x.id)0(list.take k)
   ·have HN:Hid((thingsB(fun x:SemD=>x.id)(fun x:SemD=>semB x)0 list && decide((list.length:Int)≤max most 0))=false):=by
     show _=false
     rw [things_no HX.out(fun hh=>absurd hh.2.1(by show ¬ lastOf(fun x:SemD=>x.id)0(list.take k) < x.id; omega))]; rfl
    go_wp2
    refine bodyPost_ret(v:= .tuple #[.agg #[.int .i64 0,.map none],.bool false])(by simp [results,Tryz.results148,go_sem,*])rfl ?_
    exact⟨(HI2.out.away _ _).2,.inl⟨HN.out,rfl⟩⟩
   have HLT:Hid(lastOf(fun x:SemD=>x.id)0(list.take k) < x.id):=by show _ < _; omega
   have hkl:(keysOf(fun x:SemD=>x.id)l).length≤1048576:=by
    rw [keysOf_length]
    have:=congrArg List.length HT.out.1
    simp only [List.length_map,List.length_take] at this
    omega
   go_wp2_with fail
   refine(laySem_any most(w.heap.size+1)(keysOf(fun x:SemD=>x.id)l)x w2 HI2.out.shelf.map HF.out.2 hkl(HF.out.1.below HI2.out.bel)).mono ?_
   rintro e w3⟨rfl,hno,hyes⟩
   cases hlay:layB most(keysOf(fun x:SemD=>x.id)l)x.id(semB x)with
   | false=>
    have HN:Hid((thingsB(fun x:SemD=>x.id)(fun x:SemD=>semB x)0 list && decide((list.length:Int)≤max most 0))=false):=things_lay_no HX.out HT.out.1 HT.out.2.1 HLT.out hlay
    have HI3:Hid(ShIn semVs(fun x:SemD=>x.id)49 113 w w3 most l):=HI2.out.below(hno hlay)
    clear hno hyes hlay HI2 r0 r1 v0 v1 z0 z1 d0 d1 d2 HB
    obtain⟨r0,r1,v0,v1,z0,z1⟩:=HI3.out.cells
    go_wp2
    refine bodyPost_ret(v:= .tuple #[.agg #[.int .i64 0,.map none],.bool false])(by simp [results,Tryz.results148,go_sem,*])rfl ?_
    exact⟨(HI3.out.away _ _).2,.inl⟨HN.out,rfl⟩⟩
   | true=>
    have HY:Hid(thingsB(fun x:SemD=>x.id)(fun x:SemD=>semB x)0(list.take(k+1))=true∧((k+1:Nat):Int)≤max most 0):=things_lay_yes HX.out HT.out.1 HT.out.2.1 HLT.out hlay
    obtain⟨g,hin4⟩:=HI2.out.lay(x:=x)(e:= .returned(.bool true))(w':=w3)⟨rfl,(fun h=>by cases h),fun _=>hyes hlay⟩(rises_last HT.out.1 HT.out.2.1 HLT.out)
    have HI4:Hid(ShIn semVs(fun x:SemD=>x.id)49 113 w w3 most(l ++ [(x,g)])):=hin4
    have HB3:Hid(w3.heap[wr.heap.size]? =some(.cells(semVs x)49(0,0))):=by
     obtain⟨g',_,_,_,hgr⟩:=hyes hlay
     exact(hgr.block _(Array.getElem?_eq_some_iff.1 HB.out).1(fun e=>by have:=Option.some.inj e; have:=HZ.out; omega)).trans HB.out
    clear hno hyes hlay HI2 r0 r1 v0 v1 z0 z1 d0 d1 d2 HB hin4
    obtain⟨d0,d1,d2⟩:=sem_cells HB3.out
    go_wp2_with fail
    refine(numberSem_any x _).mono ?_
    rintro e w5⟨rfl,hb5⟩
    have HI5:Hid(ShIn semVs(fun x:SemD=>x.id)49 113 w w5 most(l ++ [(x,g)])):=HI4.out.below hb5
    have HE:Hid(lastOf(fun x:SemD=>x.id)0(list.take(k+1))=x.id):=lastOf_take HX.out 0
    clear hb5 HI4
    go_wp2
    go_roundw
    case rel=>exact⟨k+1,by omega,by go_num,by rw [HE.out],⟨l ++ [(x,g)],by rw [List.map_append,HT.out.1,take_up HX.out]; rfl,HI5.out,HY.out.1,HY.out.2⟩⟩
    case measure=>simp [intOf]; omega
  ·have i1: ¬ (k:Int) < (list.length:Int):=by omega
   have HK:Hid(list.take k=list∧((list.length:Int)≤max most 0)):=⟨List.take_of_length_le(by omega),by have:=HT.out.2.2; omega⟩
   have HY:Hid((thingsB(fun x:SemD=>x.id)(fun x:SemD=>semB x)0 list && decide((list.length:Int)≤max most 0))=true):=by
    show _=true
    have h1:=HT.out.2.1
    rw [HK.out.1] at h1
    rw [h1,decide_eq_true HK.out.2]; rfl
   obtain⟨r0,r1,v0,v1,z0,z1⟩:=HI.out.cells
   go_wp2
   refine bodyPost_ret(v:= .tuple #[.agg #[.int .i64 most,.map(some(w.heap.size+1))],.bool true])(by simp [results,Tryz.results148,go_sem,*])rfl ?_
   exact⟨(HI.out.away _ _).2,.inr⟨HY.out,w.heap.size+1,l,rfl,by rw [HT.out.1,HK.out.1],(HI.out.away _ _).1⟩⟩
end Go.Proofs.YtkbcplnlehdjfaaGreat

namespace Go.Proofs.YtkbcplnlehdjfaaGreat
open Go.RowKit Go.Maps Go.Sort Go.Shelf
end Go.Proofs.YtkbcplnlehdjfaaGreat

namespace Go.Proofs.YtkbcplnlehdjfaaGreat
open Go.RowKit Go.Maps Go.Sort Go.Shelf
end Go.Proofs.YtkbcplnlehdjfaaGreat

namespace Go.Proofs.YtkbcplnlehdjfaaGreat
open Go.RowKit Go.Maps Go.Sort Go.Shelf
end Go.Proofs.YtkbcplnlehdjfaaGreat

namespace Go.Proofs.YtkbcplnlehdjfaaGreat
open Go.RowKit Go.Maps Go.Sort Go.Shelf
end Go.Proofs.YtkbcplnlehdjfaaGreat

namespace Go.Proofs.YtkbcplnlehdjfaaGreat
open Go.RowKit Go.Maps Go.Sort Go.Shelf
end Go.Proofs.YtkbcplnlehdjfaaGreat
