/- What the proof leans on, part 10: KdProc, CopyB. -/
import Derived.Test.YtkbcplnlehdjfaaGreatOwnCh7
import Derived.Deep.AppendSrc
set_option maxRecDepth 100000
set_option maxHeartbeats 8000000

namespace Go.Proofs.YtkbcplnlehdjfaaGreat
open Go.RowKit
theorem rightProc_any(x:ProcD)(w:World)(hf:ProcFit w x):Calls Tryz.prog 283 #[.agg(procVs x)] w fun e w'=>e= .returned(.bool(procB x.toProcP))∧Below w.heap.size w w':=by
 have HI:Hid(StIn w(w.alloc(.cells(procVs x)43))x):=StIn.start hf
 have HE:Hid(procB x.toProcP=(inB x.prio 1 50 && progL x.prog && plainB x.held && plainB x.got && inB x.code 0 3 && stateB x.toProcP)):=rfl
 have HB:Hid(Below w.heap.size w(w.alloc(.cells(procVs x)43))):=HI.out.bel
 obtain⟨c0,c1,c2,c3,c4,c5,c6,c7,c8,c9,c10,c11⟩:=proc_cells HI.out.box
 clear hf
 unfold procVs at *
 by_cases h1:1≤x.prio
 rotate_left
 ·have HV:Hid(procB x.toProcP=false):=by show procB _=false; rw [HE.out,inB_low(by omega)]; rfl
  clear HE
  go_enter Tryz.func283,Tryz.ntmps283
  go_wp2
  go_ret
  exact⟨ret_bool HV.out.symm,HB.out⟩
 by_cases h2:x.prio≤50
 rotate_left
 ·have HV:Hid(procB x.toProcP=false):=by show procB _=false; rw [HE.out,inB_high(by omega)]; rfl
  clear HE
  go_enter Tryz.func283,Tryz.ntmps283
  go_wp2
  go_ret
  exact⟨ret_bool HV.out.symm,HB.out⟩
 have HP:Hid(inB x.prio 1 50=true):=inB_true h1 h2
 go_enter Tryz.func283,Tryz.ntmps283
 go_wp2_with fail
 refine(implProgL_any x.progA x.prog x.progC _ HI.out.fit.1.prog HI.out.fit.1.ops HI.out.fit.2).mono ?_
 rintro e w1⟨rfl,hb1⟩
 have HI1:Hid(StIn w w1 x):=HI.out.below hb1
 clear hb1 c0 c1 c2 c3 c4 c5 c6 c7 c8 c9 c10 c11 HI HB
 obtain⟨c0,c1,c2,c3,c4,c5,c6,c7,c8,c9,c10,c11⟩:=proc_cells HI1.out.box
 have hsh:=HI1.out.fit.1.held
 have hsg:=HI1.out.fit.1.got
 cases hl:progL x.prog with
 | false=>
  have HV:Hid(procB x.toProcP=false):=by show procB _=false; rw [HE.out,hl]; simp
  clear HE hl
  go_wp2
  go_ret
  exact⟨ret_bool HV.out.symm,HI1.out.bel⟩
 | true=>
  have HL:Hid(progL x.prog=true):=hl
  clear hl
  go_wp2_with fail
  refine(isPlain_any x.held _ hsh).mono ?_
  rintro e w2⟨rfl,hw2⟩
  subst hw2
  cases hh:plainB x.held with
  | false=>
   have HV:Hid(procB x.toProcP=false):=by show procB _=false; rw [HE.out,hh]; simp
   clear HE hh
   go_wp2
   go_ret
   exact⟨ret_bool HV.out.symm,HI1.out.bel⟩
  | true=>
   have HH:Hid(plainB x.held=true):=hh
   clear hh
   go_wp2_with fail
   refine(isPlain_any x.got _ hsg).mono ?_
   rintro e w2⟨rfl,hw2⟩
   subst hw2
   cases hg:plainB x.got with
   | false=>
    have HV:Hid(procB x.toProcP=false):=by show procB _=false; rw [HE.out,hg]; simp
    clear HE hg
    go_wp2
    go_ret
    exact⟨ret_bool HV.out.symm,HI1.out.bel⟩
   | true=>
    have HG:Hid(plainB x.got=true):=hg
    clear hg
    by_cases h3:0≤x.code
    rotate_left
    ·have HV:Hid(procB x.toProcP=false):=by show procB _=false; rw [HE.out,inB_low(n:=x.code)(by omega)]; simp
     clear HE
     go_wp2
     go_ret
     exact⟨ret_bool HV.out.symm,HI1.out.bel⟩
    by_cases h4:x.code≤3
    rotate_left
    ·have HV:Hid(procB x.toProcP=false):=by show procB _=false; rw [HE.out,inB_high(n:=x.code)(by omega)]; simp
     clear HE
     go_wp2
     go_ret
     exact⟨ret_bool HV.out.symm,HI1.out.bel⟩
    have HC:Hid(inB x.code 0 3=true):=inB_true h3 h4
    go_wp2_with fail
    refine(stateOk_any x _ HI1.out.fit).mono ?_
    rintro e w2⟨rfl,hb2⟩
    have HI2:Hid(StIn w w2 x):=HI1.out.below hb2
    clear hb2
    have HV:Hid(procB x.toProcP=stateB x.toProcP):=by show procB _=_; rw [HE.out,HP.out,HL.out,HH.out,HG.out,HC.out]; simp
    clear HE
    go_wp2
    go_ret
    exact⟨ret_bool HV.out.symm,HI2.out.bel⟩
end Go.Proofs.YtkbcplnlehdjfaaGreat

namespace Go.Proofs.YtkbcplnlehdjfaaGreat
open Go.RowKit
theorem add_off(g j:Nat):(⟨g,0,none⟩:Addr).add j=⟨g,j,none⟩:=by unfold Addr.add; split <;> simp_all
theorem append_copy {P:Program} (w:World)(t ty e:TypeId)(i:TypeInfo)(z:Value)(size bytes:Nat)(ht:P.underlying t=some(.slice e))(hi:P.info? e=some i)(hz:i.zero=some z)
  (hsize:i.size=size)(hby:i.bytes=bytes)(hzs:z.cells.size=size)(hsz:0 < size)(a:Option Addr)(n cap:Nat)(xs:List Value)(h:Row w a xs)(hl:xs.length=n * size)(h1: ∀ u∈xs,u.oneCell'=true)
  (h63:n≤1048576)(hb:bytes≤1000):
  ∃ a' cap' w',(Builtin.append_ #[t,t] ty #[.slice none 0 0,.slice a n cap]).run P w= .ok(.slice a' n cap')w'∧w'.ownsRow w.heap.size e size(.slice a' n cap')n xs∧w.grownBy w' none:=by
 cases a with
 | none=>
  have hx:xs= [] :=by
   cases xs with
   | nil=>rfl
   | cons u r=>
    obtain⟨g,e',_⟩:=h 0 u rfl
    cases e'
  subst hx
  have hn:n=0:=by
   cases n with
   | zero=>rfl
   | succ n=>simp only [List.length_nil,Nat.succ_mul] at hl; omega
  subst hn
  refine⟨none,0,w,?_,World.ownsRow_nil _ _ _ _,⟨rfl,rfl,rfl,Nat.le_refl _,fun _ _ _=>rfl⟩⟩
  simp [Builtin.append_,run_underlying ht,sizeOf,typeInfo,hi,Builtin.lenOf,Builtin.firstCells]
 | some ad=>
  have hnews: ∀ j u,xs[j]? =some u→w.cell? (ad.add j)=some u:=fun j u hu=>by
   obtain⟨g,e',hc⟩:=h j u hu
   cases e'
   rw [add_off]
   exact hc
  obtain⟨v',w',hr,ho,hg,-,-⟩:=run_append_own_at(P:=P)w w.heap.size t ty e i z size bytes ht hi hz hsize hby hzs hsz(.slice none 0 0)0 [] (World.ownsRow_nil _ _ _ _)ad n cap xs hl hnews h1(by unfold maxLen; omega)(by rw [Nat.zero_add]; have:=Nat.mul_le_mul h63 hb; omega)(Nat.le_refl _)
  simp only [Nat.zero_add,List.nil_append] at ho
  obtain⟨a',cap',rfl,-⟩:=own_form ho
  exact⟨a',cap',w',hr,ho,hg⟩
end Go.Proofs.YtkbcplnlehdjfaaGreat
