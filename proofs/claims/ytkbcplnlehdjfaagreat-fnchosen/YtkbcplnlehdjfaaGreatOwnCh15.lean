/- What the proof leans on, part 15: SoProc, WaitsI. -/
import Derived.Test.YtkbcplnlehdjfaaGreatOwnCh6
import Derived.Test.YtkbcplnlehdjfaaGreatOwnCh9
import Derived.Test.YtkbcplnlehdjfaaGreatOwnCh11
import Derived.Test.YtkbcplnlehdjfaaGreatOwnCh12
set_option maxRecDepth 100000
set_option maxHeartbeats 8000000

namespace Go.Proofs.YtkbcplnlehdjfaaGreat
open Go.RowKit
attribute [local go_sem ↓] Go.wp_at_zero Go.wp_at_succ
def ShProcAt(w:World)(most:Int)(list:List ProcD)(k:Nat)(wr:World):Prop:=
 ∃ l:List(ProcD × Nat),l.map(·.1)=list.take k∧ShIn procVs(fun x:ProcD=>x.id)43 110 w wr most l∧thingsB(fun x:ProcD=>x.id)(fun x:ProcD=>procB x.toProcP)0(list.take k)=true∧(k:Int)≤max most 0
theorem shelfOfProc_any(a:Option Addr)(list:List ProcD)(cap:Nat)(most:Int)(w:World)(hl:list.length≤1048576)(h:procK.Lies w a list)(hf: ∀ x∈list,ProcFit w x)(hw: ∀ x∈list,(Lit.int .i64 x.id).wf=true):
  Calls Tryz.prog 147 #[.slice a list.length cap,.int .i64 most] w fun e w'=>ShelfEnds procVs(fun x:ProcD=>x.id)43 w most(thingsB(fun x:ProcD=>x.id)(fun x:ProcD=>procB x.toProcP)0 list && decide((list.length:Int)≤max most 0))list e w':=by
 have hmk:=run_makeMap(P:=Tryz.prog)108
 have hmn:=meth_numberProc
 have H0:Hid(ShIn procVs(fun x:ProcD=>x.id)43 110 w(((w.alloc(.cells #[.int .i64 0,.map none] 110)).alloc(.map #[] 0)).alloc(.cells #[.int .i64 most,.map(some(w.heap.size+1))] 110))most []):=ShIn.start 110 w most
 have HL:Hid(procK.Lies w a list∧(∀ x∈list,ProcFit w x)∧ ∀ x∈list,(Lit.int .i64 x.id).wf=true):=⟨h,hf,hw⟩
 clear h hf hw
 go_enter Tryz.func147,Tryz.ntmps147
 go_wp2_with fail
 go_loopw [7,15] (fun last i wr=> ∃ k:Nat,k≤list.length∧i= .int .i64 k∧last= .int .i64(lastOf(fun x:ProcD=>x.id)0(list.take k))∧Hid(ShProcAt w most list k wr))(fun _ i _=>list.length - (intOf i).toNat)
 case atStart=>exact⟨0,Nat.zero_le _,rfl,rfl,⟨[],by simp,H0.out,rfl,by simp; omega⟩⟩
 case round=>
  clear H0 hmk
  obtain⟨k,hk,rfl,rfl,HA⟩:=hrel
  obtain⟨l,hlm,hin,hth,hkm⟩:=HA.out
  have HT:Hid(l.map(·.1)=list.take k∧thingsB(fun x:ProcD=>x.id)(fun x:ProcD=>procB x.toProcP)0(list.take k)=true∧(k:Int)≤max most 0):=⟨hlm,hth,hkm⟩
  have HI:Hid(ShIn procVs(fun x:ProcD=>x.id)43 110 w wr most l):=hin
  clear HA hlm hin hth hkm
  by_cases hlt:k < list.length
  ·have i0:(0:Int)≤(k:Int):=by omega
   have i1:(k:Int) < (list.length:Int):=by omega
   obtain⟨x,hx⟩: ∃ x,list[k]? =some x:=⟨_,List.getElem?_eq_getElem hlt⟩
   have hmem:=List.mem_of_getElem? hx
   have HX:Hid(list[k]? =some x):=hx
   have HF:Hid(ProcFit w x∧(Lit.int .i64 x.id).wf=true):=⟨HL.out.2.1 x hmem,HL.out.2.2 x hmem⟩
   obtain⟨gs,ha,hat⟩:=proc_at(HL.out.1.below HI.out.bel)hx
   obtain⟨c0,c1,c2,c3,c4,c5,c6,c7,c8,c9,c10,c11⟩:=hat
   subst ha
   clear hx hmem
   go_wp2_with fail
   refine(numberProc_any x _).mono ?_
   rintro e w2⟨rfl,hb2⟩
   have HI2:Hid(ShIn procVs(fun x:ProcD=>x.id)43 110 w w2 most l):=(HI.out.below((Below.refl _ wr).alloc(Nat.le_refl _)(.cells x.row 43))).below hb2
   have HB:Hid(w2.heap[wr.heap.size]? =some(.cells(procVs x)43(0,0))):=(hb2.block _(by simp)).trans(heap_alloc_new _ _)
   have HZ:Hid(w.heap.size+1 < wr.heap.size):=by show w.heap.size+1 < wr.heap.size; have:=(Array.getElem?_eq_some_iff.1 HI.out.var).1; omega
   clear hb2 HI c0 c1 c2 c3 c4 c5 c6 c7 c8 c9 c10 c11
   obtain⟨d0,d1,d2,d3,d4,d5,d6,d7,d8,d9,d10,d11⟩:=proc_cells HB.out
   obtain⟨r0,r1,v0,v1,z0,z1⟩:=HI2.out.cells
   by_cases hle:x.id≤lastOf(fun x:ProcD=>x.id)0(list.take k)
   ·have HN:Hid((thingsB(fun x:ProcD=>x.id)(fun x:ProcD=>procB x.toProcP)0 list && decide((list.length:Int)≤max most 0))=false):=by
     show _=false
     rw [things_no HX.out(fun hh=>absurd hh.2.1(by show ¬ lastOf(fun x:ProcD=>x.id)0(list.take k) < x.id; omega))]; rfl
    go_wp2
    refine bodyPost_ret(v:= .tuple #[.agg #[.int .i64 0,.map none],.bool false])(by simp [results,Tryz.results147,go_sem,*])rfl ?_
    exact⟨(HI2.out.away _ _).2,.inl⟨HN.out,rfl⟩⟩
   have HLT:Hid(lastOf(fun x:ProcD=>x.id)0(list.take k) < x.id):=by show _ < _; omega
   have hkl:(keysOf(fun x:ProcD=>x.id)l).length≤1048576:=by
    rw [keysOf_length]
    have:=congrArg List.length HT.out.1
    simp only [List.length_map,List.length_take] at this
    omega
   go_wp2_with fail
   refine(layProc_any most(w.heap.size+1)(keysOf(fun x:ProcD=>x.id)l)x w2 HI2.out.shelf.map HF.out.2 hkl(HF.out.1.below HI2.out.bel)).mono ?_
   rintro e w3⟨rfl,hno,hyes⟩
   cases hlay:layB most(keysOf(fun x:ProcD=>x.id)l)x.id(procB x.toProcP)with
   | false=>
    have HN:Hid((thingsB(fun x:ProcD=>x.id)(fun x:ProcD=>procB x.toProcP)0 list && decide((list.length:Int)≤max most 0))=false):=things_lay_no HX.out HT.out.1 HT.out.2.1 HLT.out hlay
    have HI3:Hid(ShIn procVs(fun x:ProcD=>x.id)43 110 w w3 most l):=HI2.out.below(hno hlay)
    clear hno hyes hlay HI2 r0 r1 v0 v1 z0 z1 d0 d1 d2 d3 d4 d5 d6 d7 d8 d9 d10 d11 HB
    obtain⟨r0,r1,v0,v1,z0,z1⟩:=HI3.out.cells
    go_wp2
    refine bodyPost_ret(v:= .tuple #[.agg #[.int .i64 0,.map none],.bool false])(by simp [results,Tryz.results147,go_sem,*])rfl ?_
    exact⟨(HI3.out.away _ _).2,.inl⟨HN.out,rfl⟩⟩
   | true=>
    have HY:Hid(thingsB(fun x:ProcD=>x.id)(fun x:ProcD=>procB x.toProcP)0(list.take(k+1))=true∧((k+1:Nat):Int)≤max most 0):=things_lay_yes HX.out HT.out.1 HT.out.2.1 HLT.out hlay
    obtain⟨g,hin4⟩:=HI2.out.lay(x:=x)(e:= .returned(.bool true))(w':=w3)⟨rfl,(fun h=>by cases h),fun _=>hyes hlay⟩(rises_last HT.out.1 HT.out.2.1 HLT.out)
    have HI4:Hid(ShIn procVs(fun x:ProcD=>x.id)43 110 w w3 most(l ++ [(x,g)])):=hin4
    have HB3:Hid(w3.heap[wr.heap.size]? =some(.cells(procVs x)43(0,0))):=by
     obtain⟨g',_,_,_,hgr⟩:=hyes hlay
     exact(hgr.block _(Array.getElem?_eq_some_iff.1 HB.out).1(fun e=>by have:=Option.some.inj e; have:=HZ.out; omega)).trans HB.out
    clear hno hyes hlay HI2 r0 r1 v0 v1 z0 z1 d0 d1 d2 d3 d4 d5 d6 d7 d8 d9 d10 d11 HB hin4
    obtain⟨d0,d1,d2,d3,d4,d5,d6,d7,d8,d9,d10,d11⟩:=proc_cells HB3.out
    go_wp2_with fail
    refine(numberProc_any x _).mono ?_
    rintro e w5⟨rfl,hb5⟩
    have HI5:Hid(ShIn procVs(fun x:ProcD=>x.id)43 110 w w5 most(l ++ [(x,g)])):=HI4.out.below hb5
    have HE:Hid(lastOf(fun x:ProcD=>x.id)0(list.take(k+1))=x.id):=lastOf_take HX.out 0
    clear hb5 HI4
    go_wp2
    go_roundw
    case rel=>exact⟨k+1,by omega,by go_num,by rw [HE.out],⟨l ++ [(x,g)],by rw [List.map_append,HT.out.1,take_up HX.out]; rfl,HI5.out,HY.out.1,HY.out.2⟩⟩
    case measure=>simp [intOf]; omega
  ·have i1: ¬ (k:Int) < (list.length:Int):=by omega
   have HK:Hid(list.take k=list∧((list.length:Int)≤max most 0)):=⟨List.take_of_length_le(by omega),by have:=HT.out.2.2; omega⟩
   have HY:Hid((thingsB(fun x:ProcD=>x.id)(fun x:ProcD=>procB x.toProcP)0 list && decide((list.length:Int)≤max most 0))=true):=by
    show _=true
    have h1:=HT.out.2.1
    rw [HK.out.1] at h1
    rw [h1,decide_eq_true HK.out.2]; rfl
   obtain⟨r0,r1,v0,v1,z0,z1⟩:=HI.out.cells
   go_wp2
   refine bodyPost_ret(v:= .tuple #[.agg #[.int .i64 most,.map(some(w.heap.size+1))],.bool true])(by simp [results,Tryz.results147,go_sem,*])rfl ?_
   exact⟨(HI.out.away _ _).2,.inr⟨HY.out,w.heap.size+1,l,rfl,by rw [HT.out.1,HK.out.1],(HI.out.away _ _).1⟩⟩
end Go.Proofs.YtkbcplnlehdjfaaGreat

namespace Go.Proofs.YtkbcplnlehdjfaaGreat
open Go.RowKit Go.Maps
structure OpenIn(w W:World)(o:Nat)(q:Opn)(lp:List(ProcD × Nat))(ms me mb mf:MapL):Prop where
 opn:OpenBox W o q
 shelf:Shelf procVs(fun x:ProcD=>x.id)43 W 0 q.bp lp
 ms:MapIs W q.bs ms
 me:MapIs W q.be me
 mb:MapIs W q.bb mb
 mf:MapIs W q.bf mf
 bel:Below w.heap.size w W
theorem OpenIn.below {w W W':World} {o:Nat} {q:Opn} {lp:List(ProcD × Nat)} {ms me mb mf:MapL} (h:OpenIn w W o q lp ms me mb mf)(hb:Below W.heap.size W W'):OpenIn w W' o q lp ms me mb mf:=
 ⟨h.opn.below hb,h.shelf.below hb,h.ms.below hb,h.me.below hb,h.mb.below hb,h.mf.below hb,h.bel.trans(hb.mono h.bel.size)⟩
theorem OpenIn.has {w W:World} {o:Nat} {q:Opn} {lp:List(ProcD × Nat)} {ms me mb mf:MapL} (h:OpenIn w W o q lp ms me mb mf) {p:ProcD × Nat} (hp:p∈lp):HasIn W W o p.2 q p.1 ms me mb mf:=
 ⟨h.opn,h.shelf.box p hp,h.ms,h.me,h.mb,h.mf,Below.refl _ _⟩
structure ProcD.Wf(x:ProcD):Prop where
 id:(Lit.int .i64 x.id).wf=true
 on:(Lit.int .i64 x.on).wf=true
 since:(Lit.int .i64 x.since).wf=true
theorem keys_wf {lp:List(ProcD × Nat)} (h: ∀ p∈lp,p.1.Wf): ∀ p∈keysOf(fun x:ProcD=>x.id)lp,(Lit.int .i64 p.1).wf=true:=fun p hp=>by
 obtain⟨r,hr,rfl⟩:=List.mem_map.1 hp
 exact(h r hr).id
theorem waitsOk_any(o:Nat)(q:Opn)(lp:List(ProcD × Nat))(ms me mb mf:MapL)(w:World)(h:OpenIn w w o q lp ms me mb mf)(hl:lp.length≤1048576)(hwf: ∀ p∈lp,p.1.Wf):
  Calls Tryz.prog 154 #[.pointer(some⟨o,0,none⟩)] w fun e w'=>e= .returned(.bool(lp.all fun p=>waitK ms me mb mf p.1))∧Below w.heap.size w w':=by
 have H:Hid(OpenIn w w o q lp ms me mb mf∧ ∀ p∈lp,p.1.Wf):=⟨h,hwf⟩
 have c2:w.cell? ⟨o,2,none⟩=some(.int .i64 6):=h.opn.cell 2
 have c3:w.cell? ⟨o,3,none⟩=some(.map(some q.bp)):=h.opn.cell 3
 have hkl:(keysOf(fun x:ProcD=>x.id)lp).length=lp.length:=keysOf_length lp
 have HK:Hid((keysOf(fun x:ProcD=>x.id)lp).length=lp.length):=hkl
 clear h hwf hkl
 go_enter Tryz.func154,Tryz.ntmps154
 go_wp2_with fail
 refine(allProc_any 6 q.bp(keysOf(fun x:ProcD=>x.id)lp)w H.out.1.shelf.map(by rw [HK.out]; exact hl)(keys_wf H.out.2)).mono ?_
 rintro e w2⟨a,cap,rfl,hown,hb2⟩
 obtain⟨a',cap',hv,hrow⟩:=own_form hown
 cases hv
 have HR:Hid(Row w2 a((keysOf(fun x:ProcD=>x.id)lp).map fun p=>ptrV p.2)):=hrow
 have HO:Hid(OpenIn w w2 o q lp ms me mb mf):=H.out.1.below hb2
 rw [HK.out]
 clear hown hrow hb2 c2 c3
 go_wp2_with fail
 go_loopw [11] (fun i wr=> ∃ k:Nat,k≤lp.length∧i= .int .i64 k∧Hid(((lp.take k).all fun p=>waitK ms me mb mf p.1)=true∧Below w2.heap.size w2 wr))(fun i _=>lp.length - (intOf i).toNat)
 case atStart=>exact⟨0,Nat.zero_le _,rfl,⟨by simp,Below.refl _ _⟩⟩
 case round=>
  obtain⟨k,hk,rfl,HA⟩:=hrel
  have HO2:Hid(OpenIn w wr o q lp ms me mb mf):=HO.out.below HA.out.2
  by_cases hlt:k < lp.length
  ·have i0:(0:Int)≤(k:Int):=by omega
   have i1:(k:Int) < (lp.length:Int):=by omega
   obtain⟨p,hp⟩: ∃ p,lp[k]? =some p:=⟨_,List.getElem?_eq_getElem hlt⟩
   have hpm:=List.mem_of_getElem? hp
   obtain⟨g,ha,hc⟩:=(HR.out.below HA.out.2)k(ptrV p.2)(by simp [keysOf,hp])
   subst ha
   unfold ptrV at hc
   have HP:Hid(lp[k]? =some p∧p∈lp):=⟨hp,hpm⟩
   clear hp hpm
   go_wp2_with fail
   refine(hasWait_any o p.2 q p.1 ms me mb mf wr(HO2.out.has HP.out.2)(H.out.2 p HP.out.2).on).mono ?_
   rintro e w4⟨rfl,hb4⟩
   have HB4:Hid(Below w2.heap.size w2 w4):=HA.out.2.trans(hb4.mono HA.out.2.size)
   have HF4:Hid(Below w.heap.size w w4):=HO2.out.bel.trans(hb4.mono HO2.out.bel.size)
   clear hb4
   cases hwt:waitK ms me mb mf p.1 with
   | true=>
    have HY:Hid(((lp.take(k+1)).all fun p=>waitK ms me mb mf p.1)=true):=by
     show _=true
     rw [take_up HP.out.1,List.all_append,HA.out.1]
     simp [hwt]
    clear hwt
    go_wp2
    go_roundw
    case rel=>exact⟨k+1,by omega,by go_num,⟨HY.out,HB4.out⟩⟩
    case measure=>simp [intOf]; omega
   | false=>
    have HN:Hid((lp.all fun p=>waitK ms me mb mf p.1)=false):=by
     show _=false
     rw [List.all_eq_false]
     exact⟨p,HP.out.2,by simp [hwt]⟩
    clear hwt
    go_wp2
    go_ret
    exact⟨ret_bool HN.out.symm,HF4.out⟩
  ·have i1: ¬ (k:Int) < (lp.length:Int):=by omega
   have HT:Hid((lp.all fun p=>waitK ms me mb mf p.1)=true):=by have:=HA.out.1; rwa [List.take_of_length_le(by omega)] at this
   go_wp2
   go_ret
   exact⟨ret_bool HT.out.symm,HO2.out.bel⟩
end Go.Proofs.YtkbcplnlehdjfaaGreat
