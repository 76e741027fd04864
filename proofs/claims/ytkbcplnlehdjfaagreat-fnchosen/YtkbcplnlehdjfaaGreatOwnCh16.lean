/- What the proof leans on, part 16: TurnsI, PSpec3. -/
import Derived.Test.YtkbcplnlehdjfaaGreatOwnCh1
import Derived.Test.YtkbcplnlehdjfaaGreatOwnCh13
import Derived.Test.YtkbcplnlehdjfaaGreatOwnCh15
set_option maxRecDepth 100000
set_option maxHeartbeats 8000000

namespace Go.Proofs.YtkbcplnlehdjfaaGreat
open Go.RowKit Go.Maps
attribute [local go_sem ↓] Go.wp_at_zero Go.wp_at_succ
theorem zeroInt(w:World):(zeroValue 3).run Tryz.prog w= .ok(.int .i64 0)w:=by kernel_rfl
def TakenIs(w:World)(b:Nat)(L:List Int):Prop:= ∃ D:DataW Unit,w.ownsMap Tryz.prog 2(plainElem Tryz.prog 3)b L.length D∧IsMap D∧ ∀ z:Int,D.atKey(.int .i64 z)(.lit(.int .i64 0))= .lit(.int .i64(if z∈L then 1 else 0))
theorem TakenIs.none {w:World} {b:Nat} (hb:w.heap[b]? =some(.map #[] 0)):TakenIs w b [] :=
 ⟨.map [],⟨#[],0,hb,⟨by simp,MapKept.stamped_empty 0,by simp⟩,by simp,rfl⟩,isMap_empty,fun z=>by simp [DataW.atKey]⟩
theorem TakenIs.lt {w:World} {b:Nat} {L:List Int} (h:TakenIs w b L):b < w.heap.size:=by obtain⟨D,h,_⟩:=h; exact h.lt
theorem TakenIs.same {w w':World} {b:Nat} {L:List Int} (h:TakenIs w b L)(hs:w'.heap[b]? =w.heap[b]?):TakenIs w' b L:=by
 obtain⟨D,⟨es,clock,hb,r⟩,h2⟩:=h
 exact⟨D,⟨es,clock,hs.trans hb,r⟩,h2⟩
theorem TakenIs.look {w:World} {b:Nat} {L:List Int} (h:TakenIs w b L) {z:Int} (hz:(Lit.int .i64 z).wf=true):(Instr.lookup 252(.map(some b))(.int .i64 z)false).run Tryz.prog w= .ok(.int .i64(if z∈L then 1 else 0))w:=by
 obtain⟨D,hown,_,hat⟩:=h
 obtain⟨c,hrun,hc,_⟩:=hown.lookup_int keyed64 Tryz.underlying252 Tryz.underlying3(zeroInt w)(key64 hz)
 rw [hat z] at hc
 simp only [DataW.lit.injEq,Lit.int.injEq,true_and] at hc
 rw [hrun,hc]
theorem TakenIs.put {w:World} {b:Nat} {L:List Int} (h:TakenIs w b L)(hl:L.length≤1048576) {z:Int} (hz:(Lit.int .i64 z).wf=true)(v:Int)(hv:v=(if z∈L then 1 else 0)+1):
  ∃ w',(Instr.mapUpdate 252(.map(some b))(.int .i64 z)(.int .i64 v)).run Tryz.prog w= .ok()w'∧w.grownBy w'(some b)∧w'.heap.size=w.heap.size∧
   (∀ W:World,W.heap=w'.heap→(Instr.lookup 252(.map(some b))(.int .i64 z)false).run Tryz.prog W= .ok(.int .i64 v)W)∧(z∉L→TakenIs w' b(L ++ [z])):=by
 obtain⟨D,hown,hm,hat⟩:=h
 have hvw:(Lit.int .i64 v).wf=true:=by
  subst hv
  split <;> decide
 obtain⟨w',hrun,ho,ht⟩:=hown.store keyed64 Tryz.underlying252(Nat.lt_of_le_of_lt hl(by decide))(key64 hz)(plainElem_int(H:=Unit)Tryz.underlying3 hvw)
 refine⟨w',hrun,ht.grown,?_,fun W hW=> ?_,fun hn=>⟨_,by rw [List.length_append]; exact ho,hm.put _ _,fun y=> ?_⟩⟩
 ·obtain⟨es,clock,es',clock',hb,rfl⟩:=ht
  simp [ChangeMaps.setBlock]
 ·have hoW:W.ownsMap Tryz.prog 2(plainElem Tryz.prog 3)b(L.length+1)(D.put(.int .i64 z)(.lit(.int .i64 v))):=by
   obtain⟨es,clock,hb,r⟩:=ho
   exact⟨es,clock,by rw [hW]; exact hb,r⟩
  obtain⟨c,hr,hc,_⟩:=hoW.lookup_int keyed64 Tryz.underlying252 Tryz.underlying3(zeroInt W)(key64 hz)
  rw [atKey_put_same hm(keyed64.key(key64 hz))] at hc
  simp only [DataW.lit.injEq,Lit.int.injEq,true_and] at hc
  rw [hr,hc]
 ·by_cases hy:y=z
  ·subst hy
   rw [atKey_put_same hm(keyed64.key(key64 hz))]
   simp [hv,hn]
  ·rw [atKey_put_other(fun e=>hy(by simpa using e)),hat y]
   simp [hy]
def upD(l:List(ProcD × Nat)):List Int:=upL(l.map fun p=>p.1.toProcP)
def TurnsD(next:Int)(l:List(ProcD × Nat)):Prop:=TurnsR next(l.map fun p=>p.1.toProcP)
theorem upD_snoc(l:List(ProcD × Nat))(p:ProcD × Nat):upD(l ++ [p])=upD l ++ (if p.1.state=0 then [] else [p.1.since]):=by
 simp only [upD,upL,List.map_append,List.filter_append,List.map_cons,List.map_nil,List.filter_cons,List.filter_nil]
 by_cases h:p.1.state=0 <;> simp [h]
theorem turns_snoc {next:Int} {l:List(ProcD × Nat)} {p:ProcD × Nat} (h:TurnsD next l)(hp: ¬ p.1.state=0→1≤p.1.since∧p.1.since < next∧p.1.since∉upD l):TurnsD next(l ++ [p]):=by
 refine⟨fun x hx=> ?_,?_⟩
 ·rw [List.map_append] at hx
  rcases List.mem_append.1 hx with hx | hx
  ·exact h.1 x hx
  ·simp only [List.map_cons,List.map_nil,List.mem_singleton] at hx
   subst hx
   exact fun h0=>⟨(hp h0).1,(hp h0).2.1⟩
 ·have e:=upD_snoc l p
  unfold upD at e
  rw [e]
  by_cases h0:p.1.state=0
  ·simp only [h0,if_true,List.append_nil]; exact h.2
  ·simp only [h0,if_false]
   refine List.nodup_append.2⟨h.2,by simp,fun a ha b hb=> ?_⟩
   simp only [List.mem_singleton] at hb
   subst hb
   intro e2
   subst e2
   exact(hp h0).2.2 ha
theorem turns_bad {next:Int} {l:List(ProcD × Nat)} {k:Nat} {p:ProcD × Nat} (hp:l[k]? =some p)(h0: ¬ p.1.state=0)(hb: ¬ (1≤p.1.since∧p.1.since < next∧p.1.since∉upD(l.take k))): ¬ TurnsD next l:=fun h=>by
 have hm:p.1.toProcP∈l.map fun p=>p.1.toProcP:=List.mem_map.2⟨p,List.mem_of_getElem? hp,rfl⟩
 have h1:=h.1 _ hm h0
 refine hb⟨h1.1,h1.2,fun hmem=> ?_⟩
 have e:l=l.take k ++ p :: l.drop(k+1):=split_at hp
 have h2:=h.2
 rw [e] at h2
 simp only [upL,List.map_append,List.map_cons,List.filter_append,List.filter_cons] at h2
 have h0':(!decide(p.1.toProcP.state=0))=true:=by simp [h0]
 rw [if_pos h0',List.map_cons] at h2
 exact(List.nodup_append.1 h2).2.2 p.1.since hmem p.1.since(by simp)rfl
def TurnEnds(w:World)(q:Opn)(lp:List(ProcD × Nat))(e:Ending)(w':World):Prop:= ∃ ok:Bool,e= .returned(.bool ok)∧(ok=true↔TurnsD q.next lp)∧Below w.heap.size w w'
theorem turnEnds_no {w w':World} {q:Opn} {lp:List(ProcD × Nat)} (h: ¬ TurnsD q.next lp)(hb:Below w.heap.size w w'):TurnEnds w q lp(.returned(.bool false))w':=⟨false,rfl,⟨(fun h=>by cases h),fun h'=>absurd h' h⟩,hb⟩
structure TurnIn(w w2 wr:World)(o:Nat)(q:Opn)(lp:List(ProcD × Nat))(L:List Int):Prop where
 taken:TakenIs wr w.heap.size L
 grown:w2.grownBy wr(some w.heap.size)
theorem TurnIn.block {w w2 wr:World} {o:Nat} {q:Opn} {lp:List(ProcD × Nat)} {L:List Int} (h:TurnIn w w2 wr o q lp L) {g:Nat} (hg:g < w2.heap.size)(hne: ¬ g=w.heap.size):wr.heap[g]? =w2.heap[g]? :=h.grown.block g hg(fun e=>hne(Option.some.inj e))
theorem turnsOk_any(o:Nat)(q:Opn)(lp:List(ProcD × Nat))(ms me mb mf:MapL)(w:World)(h:OpenIn w w o q lp ms me mb mf)(hl:lp.length≤1048576)(hwf: ∀ p∈lp,p.1.Wf):
  Calls Tryz.prog 153 #[.pointer(some⟨o,0,none⟩)] w fun e w'=>TurnEnds w q lp e w':=by
 have hmk:=run_makeMap(P:=Tryz.prog)252
 have H:Hid(OpenIn w w o q lp ms me mb mf∧ ∀ p∈lp,p.1.Wf):=⟨h,hwf⟩
 have hol:o < w.heap.size:=(Array.getElem?_eq_some_iff.1 h.opn).1
 have c2:w.cell? ⟨o,2,none⟩=some(.int .i64 6):=h.opn.cell 2
 have c3:w.cell? ⟨o,3,none⟩=some(.map(some q.bp)):=h.opn.cell 3
 have HK:Hid((keysOf(fun x:ProcD=>x.id)lp).length=lp.length):=keysOf_length lp
 clear h hwf
 go_enter Tryz.func153,Tryz.ntmps153
 go_wp2_with fail
 refine(allProc_any 6 q.bp(keysOf(fun x:ProcD=>x.id)lp)(w.alloc(.map #[] 0))(H.out.1.shelf.map.below((Below.refl _ w).alloc(Nat.le_refl _)_))(by rw [HK.out]; exact hl)(keys_wf H.out.2)).mono ?_
 rintro e w2⟨a,cap,rfl,hown,hb2⟩
 obtain⟨a',cap',hv,hrow⟩:=own_form hown
 cases hv
 have HR:Hid(Row w2 a((keysOf(fun x:ProcD=>x.id)lp).map fun p=>ptrV p.2)):=hrow
 have HRB:Hid(∀ g,a=some⟨g,0,none⟩→w.heap.size+1≤g∧g < w2.heap.size):=fun g hg=>by
  subst hg
  have:=hown.lt g rfl
  simpa using this
 have HB2:Hid(Below w.heap.size w w2):=((Below.refl _ w).alloc(Nat.le_refl _)_).trans(hb2.mono(by simp))
 have HT0:Hid(TakenIs w2 w.heap.size []):=TakenIs.none((hb2.block _(by simp)).trans(heap_alloc_new _ _))
 rw [HK.out]
 clear hown hrow hb2 c2 c3 hmk
 go_wp2_with fail
 go_loopw [13] (fun i wr=> ∃ k:Nat,k≤lp.length∧i= .int .i64 k∧Hid(TurnsD q.next(lp.take k)∧TurnIn w w2 wr o q lp(upD(lp.take k))))(fun i _=>lp.length - (intOf i).toNat)
 case atStart=>exact⟨0,Nat.zero_le _,rfl,⟨⟨(fun x hx=>by simp at hx),by simp [upL]⟩,⟨by simpa [upD,upL] using HT0.out,⟨rfl,rfl,rfl,Nat.le_refl _,fun _ _ _=>rfl⟩⟩⟩⟩
 case round=>
  obtain⟨k,hk,rfl,HA⟩:=hrel
  have HBR:Hid(Below w.heap.size w wr):=HB2.out.grown HA.out.2.grown HB2.out.size(fun k hk=>by cases hk; exact Nat.le_refl _)
  by_cases hlt:k < lp.length
  ·have i0:(0:Int)≤(k:Int):=by omega
   have i1:(k:Int) < (lp.length:Int):=by omega
   obtain⟨p,hp⟩: ∃ p,lp[k]? =some p:=⟨_,List.getElem?_eq_getElem hlt⟩
   have hpm:=List.mem_of_getElem? hp
   have hrw:=HR.out k(ptrV p.2)(by simp [keysOf,hp])
   obtain⟨g,ha,hc0⟩:=hrw
   have hgb:=HRB.out g ha
   have hc:wr.cell? ⟨g,k,none⟩=some(.pointer(some⟨p.2,0,none⟩)):=(World.cell?_of_block(w:=w2)(a:=⟨g,k,none⟩)(HA.out.2.block(g:=g)hgb.2(fun e=>by have h1:=hgb.1; have e':g=w.heap.size:=e; omega))).trans hc0
   subst ha
   have hbox:wr.heap[p.2]? =some(.cells(procVs p.1)43(0,0)):=(HBR.out.block _(Array.getElem?_eq_some_iff.1(H.out.1.shelf.box p hpm)).1).trans(H.out.1.shelf.box p hpm)
   have hob:OpenBox wr o q:=(HBR.out.block _ hol).trans H.out.1.opn
   have HP:Hid(lp[k]? =some p∧p∈lp):=⟨hp,hpm⟩
   have HW:Hid((Lit.int .i64 p.1.since).wf=true):=(H.out.2 p hpm).since
   have HX:Hid(wr.heap[p.2]? =some(.cells(procVs p.1)43(0,0))∧OpenBox wr o q):=⟨hbox,hob⟩
   have k3:=(proc_cells hbox).2.2.2.1
   have k11:=(proc_cells hbox).2.2.2.2.2.2.2.2.2.2.2
   have hls:(upD(lp.take k)).length≤1048576:=by
    have h1:(upD(lp.take k)).length≤(lp.take k).length:=by
     simp only [upD,upL,List.length_map]
     exact Nat.le_trans(List.length_filter_le _ _)(by simp)
    rw [List.length_take] at h1
    omega
   clear hp hpm hc0 hgb hbox hob
   by_cases h0:p.1.state=0
   ·have HY:Hid(TurnsD q.next(lp.take(k+1))∧TurnIn w w2 wr o q lp(upD(lp.take(k+1)))):=by
     rw [take_up HP.out.1]
     refine⟨turns_snoc HA.out.1(fun h=>absurd h0 h),?_⟩
     rw [upD_snoc,if_pos h0,List.append_nil]
     exact HA.out.2
    have e0:(p.1.state == 0)=true:=by simp [h0]
    clear h0
    go_wp2
    go_roundw
    case rel=>exact⟨k+1,by omega,by go_num,HY⟩
    case measure=>simp [intOf]; omega
   ·have e0:(p.1.state == 0)=false:=by simp [h0]
    have H0:Hid(¬ p.1.state=0):=h0
    clear h0
    have hlk:=HA.out.2.taken.look HW.out
    by_cases hz:p.1.since∈upD(lp.take k)
    ·rw [if_pos hz] at hlk
     obtain⟨w5,hput,hgr5,hsz5,hlk5,-⟩:=HA.out.2.taken.put hls HW.out 2(by rw [if_pos hz]; rfl)
     have HN:Hid(¬ TurnsD q.next lp):=turns_bad HP.out.1 H0.out(fun hh=>hh.2.2 hz)
     have HB5:Hid(Below w.heap.size w w5):=HBR.out.grown hgr5 HBR.out.size(fun k hk=>by cases hk; exact Nat.le_refl _)
     have hx5:w5.heap[p.2]? =some(.cells(procVs p.1)43(0,0)):=(HB5.out.block _(Array.getElem?_eq_some_iff.1(H.out.1.shelf.box p HP.out.2)).1).trans(H.out.1.shelf.box p HP.out.2)
     have ho5:OpenBox w5 o q:=(HB5.out.block _ hol).trans H.out.1.opn
     have f11:=(proc_cells hx5).2.2.2.2.2.2.2.2.2.2.2
     have f1:w5.cell? ⟨o,1,none⟩=some(.int .i64 q.next):=ho5.cell 1
     have hl5:=hlk5 w5.drew rfl
     clear hlk5 hgr5 hsz5 hx5 ho5 hz
     by_cases hA:p.1.since < 1
     ·have dA:decide(p.1.since < 1)=true:=decide_eq_true hA
      clear hA
      go_wp2_with fail
      refine tame_region(fun w'=>w'=w5.drew)(by kernel_rfl)rfl ?_
      iterate 6(refine yl(v:= ?_) ?_ ?_; rotate_left; (intro w0 hS0; subst hS0; go_simp; try with_reducible rfl); simp only [pt,sb,s0,s1])
      iterate 9(refine nl ?_; simp only [pt,sb,s0,s1])
      iterate 2(refine yl(v:= ?_) ?_ ?_; rotate_left; (intro w0 hS0; subst hS0; go_simp; try with_reducible rfl); simp only [pt,sb,s0,s1])
      iterate 7(refine nl ?_; simp only [pt,sb,s0,s1])
      (refine yl(v:= ?_) ?_ ?_; rotate_left; (intro w0 hS0; subst hS0; go_simp; try with_reducible rfl); simp only [pt,sb,s0,s1])
      refine tame_done(by kernel_rfl) ?_ _
      intro w1 hS1
      subst hS1
      go_wp2
      go_ret
      exact turnEnds_no HN.out HB5.out.drew
     have dA:decide(p.1.since < 1)=false:=decide_eq_false hA
     by_cases hB:q.next≤p.1.since
     ·have dB:decide(q.next≤p.1.since)=true:=decide_eq_true hB
      clear hA hB
      go_wp2_with fail
      refine tame_region(fun w'=>w'=w5.drew)(by kernel_rfl)rfl ?_
      iterate 17(refine yl(v:= ?_) ?_ ?_; rotate_left; (intro w0 hS0; subst hS0; go_simp; try with_reducible rfl); simp only [pt,sb,s0,s1])
      iterate 7(refine nl ?_; simp only [pt,sb,s0,s1])
      (refine yl(v:= ?_) ?_ ?_; rotate_left; (intro w0 hS0; subst hS0; go_simp; try with_reducible rfl); simp only [pt,sb,s0,s1])
      refine tame_done(by kernel_rfl) ?_ _
      intro w1 hS1
      subst hS1
      go_wp2
      go_ret
      exact turnEnds_no HN.out HB5.out.drew
     have dB:decide(q.next≤p.1.since)=false:=decide_eq_false hB
     clear hA hB
     go_wp2_with fail
     refine tame_region(fun w'=>w'=w5.drew)(by kernel_rfl)rfl ?_
     iterate 25(refine yl(v:= ?_) ?_ ?_; rotate_left; (intro w0 hS0; subst hS0; go_simp; try with_reducible rfl); simp only [pt,sb,s0,s1])
     refine tame_done(by kernel_rfl) ?_ _
     intro w1 hS1
     subst hS1
     go_wp2
     go_ret
     exact turnEnds_no HN.out HB5.out.drew
    ·rw [if_neg hz] at hlk
     obtain⟨w5,hput,hgr5,hsz5,hlk5,htk⟩:=HA.out.2.taken.put hls HW.out 1(by rw [if_neg hz]; rfl)
     have HB5:Hid(Below w.heap.size w w5):=HBR.out.grown hgr5 HBR.out.size(fun k hk=>by cases hk; exact Nat.le_refl _)
     have HI5:Hid(TurnIn w w2 w5 o q lp(upD(lp.take k) ++ [p.1.since])):=⟨htk hz,⟨hgr5.os.trans HA.out.2.grown.os,hgr5.tape.trans HA.out.2.grown.tape,hgr5.output.trans HA.out.2.grown.output,Nat.le_trans HA.out.2.grown.size hgr5.size,fun k hk hne=>(hgr5.block k(Nat.lt_of_lt_of_le hk HA.out.2.grown.size)hne).trans(HA.out.2.grown.block k hk hne)⟩⟩
     have HZ:Hid(¬ p.1.since∈upD(lp.take k)):=hz
     have hx5:w5.heap[p.2]? =some(.cells(procVs p.1)43(0,0)):=(HB5.out.block _(Array.getElem?_eq_some_iff.1(H.out.1.shelf.box p HP.out.2)).1).trans(H.out.1.shelf.box p HP.out.2)
     have ho5:OpenBox w5 o q:=(HB5.out.block _ hol).trans H.out.1.opn
     have f11:=(proc_cells hx5).2.2.2.2.2.2.2.2.2.2.2
     have f1:w5.cell? ⟨o,1,none⟩=some(.int .i64 q.next):=ho5.cell 1
     have hl5:=hlk5 w5.drew rfl
     clear hlk5 hgr5 hsz5 hx5 ho5 hz htk
     by_cases hA:p.1.since < 1
     ·have dA:decide(p.1.since < 1)=true:=decide_eq_true hA
      have HN:Hid(¬ TurnsD q.next lp):=turns_bad HP.out.1 H0.out(fun hh=>by have:=hh.1; omega)
      clear hA
      go_wp2_with fail
      refine tame_region(fun w'=>w'=w5.drew)(by kernel_rfl)rfl ?_
      iterate 6(refine yl(v:= ?_) ?_ ?_; rotate_left; (intro w0 hS0; subst hS0; go_simp; try with_reducible rfl); simp only [pt,sb,s0,s1])
      iterate 9(refine nl ?_; simp only [pt,sb,s0,s1])
      iterate 2(refine yl(v:= ?_) ?_ ?_; rotate_left; (intro w0 hS0; subst hS0; go_simp; try with_reducible rfl); simp only [pt,sb,s0,s1])
      iterate 7(refine nl ?_; simp only [pt,sb,s0,s1])
      (refine yl(v:= ?_) ?_ ?_; rotate_left; (intro w0 hS0; subst hS0; go_simp; try with_reducible rfl); simp only [pt,sb,s0,s1])
      refine tame_done(by kernel_rfl) ?_ _
      intro w1 hS1
      subst hS1
      go_wp2
      go_ret
      exact turnEnds_no HN.out HB5.out.drew
     have dA:decide(p.1.since < 1)=false:=decide_eq_false hA
     by_cases hB:q.next≤p.1.since
     ·have dB:decide(q.next≤p.1.since)=true:=decide_eq_true hB
      have HN:Hid(¬ TurnsD q.next lp):=turns_bad HP.out.1 H0.out(fun hh=>by have:=hh.2.1; omega)
      clear hA hB
      go_wp2_with fail
      refine tame_region(fun w'=>w'=w5.drew)(by kernel_rfl)rfl ?_
      iterate 17(refine yl(v:= ?_) ?_ ?_; rotate_left; (intro w0 hS0; subst hS0; go_simp; try with_reducible rfl); simp only [pt,sb,s0,s1])
      iterate 7(refine nl ?_; simp only [pt,sb,s0,s1])
      (refine yl(v:= ?_) ?_ ?_; rotate_left; (intro w0 hS0; subst hS0; go_simp; try with_reducible rfl); simp only [pt,sb,s0,s1])
      refine tame_done(by kernel_rfl) ?_ _
      intro w1 hS1
      subst hS1
      go_wp2
      go_ret
      exact turnEnds_no HN.out HB5.out.drew
     have dB:decide(q.next≤p.1.since)=false:=decide_eq_false hB
     have HY:Hid(TurnsD q.next(lp.take(k+1))∧TurnIn w w2 w5 o q lp(upD(lp.take(k+1)))):=by
      rw [take_up HP.out.1]
      refine⟨turns_snoc HA.out.1(fun _=>⟨by omega,by omega,HZ.out⟩),?_⟩
      rw [upD_snoc,if_neg H0.out]
      exact HI5.out
     clear hA hB
     go_wp2_with fail
     refine tame_region(fun w'=>w'=w5.drew)(by kernel_rfl)rfl ?_
     iterate 25(refine yl(v:= ?_) ?_ ?_; rotate_left; (intro w0 hS0; subst hS0; go_simp; try with_reducible rfl); simp only [pt,sb,s0,s1])
     refine tame_done(by kernel_rfl) ?_ _
     intro w1 hS1
     subst hS1
     go_wp2
     go_roundw
     case rel=>exact⟨k+1,by omega,by go_num,⟨HY.out.1,⟨HY.out.2.taken.same rfl,⟨HY.out.2.grown.os,HY.out.2.grown.tape,HY.out.2.grown.output,HY.out.2.grown.size,HY.out.2.grown.block⟩⟩⟩⟩
     case measure=>simp [intOf]; omega
  ·have i1: ¬ (k:Int) < (lp.length:Int):=by omega
   have HT:Hid(TurnsD q.next lp):=by have:=HA.out.1; rwa [List.take_of_length_le(by omega)] at this
   go_wp2
   go_ret
   exact⟨true,rfl,⟨fun _=>HT.out,fun _=>rfl⟩,HBR.out⟩
end Go.Proofs.YtkbcplnlehdjfaaGreat

namespace Go.Proofs.YtkbcplnlehdjfaaGreat
open Go.RowKit
attribute [local go_sem ↓] Go.wp_at_zero Go.wp_at_succ
def specOk(p:PartD)(x:ProcD):Bool:=procB x.toProcP && turnB p.next x.toProcP && waitB p.pure x.toProcP
theorem procOkB_spec(p:PartD)(x:ProcD):procOkB p.pure x.toProcP=(inB x.id 1 1000 && specOk p x):=by
 show (inB x.id 1 1000 && procB x.toProcP && turnB p.next x.toProcP && waitB p.pure x.toProcP)=_
 simp only [specOk,Bool.and_assoc]
def ApartD(l:List ProcD):Prop:=(l.map(·.since)).Pairwise(fun a b=> ¬ (a=b∧0 < b))
theorem apart_snoc {l:List ProcD} {k:Nat} {x:ProcD} (hx:l[k]? =some x)(h:ApartD(l.take k))(hn: ∀ m y,m < k→l[m]? =some y→ ¬ (y.since=x.since∧0 < x.since)):ApartD(l.take(k+1)):=by
 rw [take_up hx]
 unfold ApartD
 rw [List.map_append,List.pairwise_append]
 refine⟨h,List.pairwise_singleton _ _,fun a ha b hb=> ?_⟩
 simp only [List.map_cons,List.map_nil,List.mem_cons,List.not_mem_nil,or_false] at hb
 subst hb
 obtain⟨y,hy,rfl⟩:=List.mem_map.1 ha
 obtain⟨m,hm⟩:=List.mem_iff_getElem?.1 hy
 rw [List.getElem?_take] at hm
 split at hm
 ·rename_i hlt
  exact hn m y hlt hm
 ·cases hm
theorem apart_not {l:List ProcD} {i m:Nat} {x y:ProcD} (hx:l[i]? =some x)(hy:l[m]? =some y)(hm:m < i)(h:y.since=x.since∧0 < x.since): ¬ ApartD l:=fun ha=>by
 unfold ApartD at ha
 rw [List.pairwise_map,List.pairwise_iff_getElem] at ha
 obtain⟨hi,rfl⟩:=List.getElem?_eq_some_iff.1 hx
 obtain⟨hj,rfl⟩:=List.getElem?_eq_some_iff.1 hy
 exact ha m i hj hi hm h
theorem partR_iff(p:PartD):PartR p.pure↔(inB p.id 1 6=true∧inB p.next 1 1000000000=true∧p.procs.length≤6∧thingsOk p=true∧thingsB(fun x:ProcD=>x.id)(specOk p)0 p.procs=true∧ApartD p.procs):=by
 have e1:thingsB(·.id)(fun x=>procB x && turnB p.pure.next x && waitB p.pure x)0 p.pure.procs=thingsB(fun x:ProcD=>x.id)(specOk p)0 p.procs:=thingsB_map _ _ _ _ _
 have e2:p.pure.procs.length=p.procs.length:=by simp [PartD.pure]
 have e3:thingsB(·.id)bufferB 0 p.pure.buffers=thingsB(fun x:BufferD=>x.id)(fun x=>bufferB x.toBufferP)0 p.buffers:=thingsB_map _ _ _ _ _
 have e4:thingsB(·.id)portB 0 p.pure.ports=thingsB(fun x:PortD=>x.id)(fun x=>portB x.toPortP)0 p.ports:=thingsB_map _ _ _ _ _
 have e5:p.pure.buffers.length=p.buffers.length:=by simp [PartD.pure]
 have e6:p.pure.ports.length=p.ports.length:=by simp [PartD.pure]
 have e7:Apart p.pure.procs↔ApartD p.procs:=by
  unfold Apart ApartD
  show (((p.procs.map(·.toProcP))).map(·.since)).Pairwise _↔_
  rw [List.map_map]
  rfl
 constructor
 ·intro h
  have hp:=h.procs
  rw [e1] at hp
  have hb:=h.buffers
  rw [e3] at hb
  have hq:=h.ports
  rw [e4] at hq
  have n1:=h.nProc
  have n2:=h.nBuffer
  have n3:=h.nPort
  rw [e2] at n1
  rw [e5] at n2
  rw [e6] at n3
  have hs:thingsB(fun x:SemD=>x.id)semB 0 p.sems=true:=h.sems
  have he:thingsB(fun x:EventD=>x.id)eventB 0 p.events=true:=h.events
  have hd:thingsB(fun x:BoardD=>x.id)boardB 0 p.boards=true:=h.boards
  have l1:p.sems.length≤5:=h.nSem
  have l2:p.events.length≤5:=h.nEvent
  have l3:p.boards.length≤5:=h.nBoard
  refine⟨h.id,h.next,n1,?_,hp,e7.1 h.apart⟩
  simp only [thingsOk,hs,he,hd,hb,hq,decide_eq_true l1,decide_eq_true l2,decide_eq_true l3,decide_eq_true n2,decide_eq_true n3,Bool.and_self]
 ·rintro ⟨h1,h2,h3,h4,h5,h6⟩
  simp only [thingsOk,Bool.and_eq_true,decide_eq_true_eq] at h4
  obtain⟨⟨⟨⟨⟨⟨⟨⟨⟨t1,t2⟩,t3⟩,t4⟩,t5⟩,d1⟩,d2⟩,d3⟩,d4⟩,d5⟩:=h4
  exact⟨h1,h2,by rw [e2]; exact h3,d1,d2,d3,by rw [e5]; exact d4,by rw [e6]; exact d5,by rw [e1]; exact h5,t1,t2,t3,by rw [e3]; exact t4,by rw [e4]; exact t5,e7.2 h6⟩
def SpecS(w:World)(p:PartD)(x:ProcD)(gs k:Nat)(pre:World→Prop)(w':World):Prop:=((w'.cell? ⟨w.heap.size,0,none⟩=some(.int .i64 p.id)∧w'.cell? ⟨w.heap.size,1,none⟩=some(.int .i64 p.next)∧w'.cell? ⟨w.heap.size,2,none⟩=some(.slice(some⟨gs,0,none⟩)p.procs.length p.procC)∧w'.cell? ⟨w.heap.size,3,none⟩=some(.slice p.semA p.sems.length p.semC)∧w'.cell? ⟨w.heap.size,4,none⟩=some(.slice p.eventA p.events.length p.eventC)∧w'.cell? ⟨w.heap.size,5,none⟩=some(.slice p.boardA p.boards.length p.boardC)∧w'.cell? ⟨w.heap.size,6,none⟩=some(.slice p.bufferA p.buffers.length p.bufferC)∧w'.cell? ⟨w.heap.size,7,none⟩=some(.slice p.portA p.ports.length p.portC))∧(w'.cell? ⟨gs,k * 12,none⟩=some(.int .i64 x.id)∧w'.cell? ⟨gs,k * 12+1,none⟩=some(.int .i64 x.prio)∧w'.cell? ⟨gs,k * 12+2,none⟩=some(.slice x.progA x.prog.length x.progC)∧w'.cell? ⟨gs,k * 12+3,none⟩=some(.int .i64 x.state)∧w'.cell? ⟨gs,k * 12+4,none⟩=some(.int .i64 x.pc)∧w'.cell? ⟨gs,k * 12+5,none⟩=some(.int .i64 x.left)∧w'.cell? ⟨gs,k * 12+6,none⟩=some(.int .i64 x.wake)∧w'.cell? ⟨gs,k * 12+7,none⟩=some(.int .i64 x.on)∧w'.cell? ⟨gs,k * 12+8,none⟩=some(.string x.held)∧w'.cell? ⟨gs,k * 12+9,none⟩=some(.string x.got)∧w'.cell? ⟨gs,k * 12+10,none⟩=some(.int .i64 x.code)∧w'.cell? ⟨gs,k * 12+11,none⟩=some(.int .i64 x.since))∧pre w')∧Hid(PartBox w' w.heap.size p∧PartD.At w' p∧Below w.heap.size w w')
theorem specS_of {w w':World} {p:PartD} {x:ProcD} {gs k:Nat} {pre:World→Prop} (ha:p.procA=some⟨gs,0,none⟩)(hx:p.procs[k]? =some x)(h:PartBox w' w.heap.size p∧PartD.At w' p∧Below w.heap.size w w')(hp:pre w'):SpecS w p x gs k pre w':=by
 refine⟨⟨?_,?_,hp⟩,h⟩
 ·have:=h.1.cells
  rw [ha] at this
  exact this
 ·obtain⟨g,e,hat⟩:=proc_at h.2.1.1 hx
  rw [ha] at e
  cases e
  exact hat
def PrevS(gs j:Nat)(y:ProcD)(w':World):Prop:=w'.cell? ⟨gs,j * 12,none⟩=some(.int .i64 y.id)
theorem prevS_of {w':World} {p:PartD} {gs j:Nat} {y:ProcD} (ha:p.procA=some⟨gs,0,none⟩)(hy:p.procs[j]? =some y)(h:PartD.At w' p):PrevS gs j y w':=by
 obtain⟨g,e,hat⟩:=proc_at h.1 hy
 rw [ha] at e
 cases e
 exact hat.1
theorem specPartOk_any(p:PartD)(w:World)(hf:p.Fit)(hs: ∀ x∈p.procs,x.Short)(h:PartD.At w p):
  Calls Tryz.prog 54 #[.agg p.cells] w fun e w'=>e= .returned(.bool(partB p.pure))∧Below w.heap.size w w':=by
 have HB:Hid(PartBox(w.alloc(.cells p.cells 32))w.heap.size p∧PartD.At(w.alloc(.cells p.cells 32))p∧Below w.heap.size w(w.alloc(.cells p.cells 32))):=⟨heap_alloc_new _ _,h.below((Below.refl _ _).alloc(Nat.le_refl _)_),(Below.refl _ _).alloc(Nat.le_refl _)_⟩
 have HFT:Hid(p.Fit∧ ∀ x∈p.procs,x.Short):=⟨hf,hs⟩
 have hpl:=hf.short.procs
 clear h hf hs
 obtain⟨m0,m1,m2,m3,m4,m5,m6,m7⟩:=HB.out.1.cells
 unfold PartD.cells at *
 go_enter Tryz.func54,Tryz.ntmps54
 go_wp2_with fail
 generalize w.alloc(.cells p.row 32)=W at *
 refine(l1In_any p.id 1 6 _).mono ?_
 rintro e w9⟨rfl,hw9⟩
 rw [hw9]
 clear hw9 w9
 cases h1:inB p.id 1 6
 ·have hz:True:=trivial
  have HN:Hid(partB p.pure=false):=partB_false fun hr=>by have:=((partR_iff p).1 hr).1; rw [h1] at this; cases this
  clear h1
  go_wp2
  go_ret
  exact⟨ret_bool HN.out.symm,HB.out.2.2⟩
 have H1:Hid(inB p.id 1 6=true):=h1
 clear h1
 go_wp2_with fail
 refine(l1In_any p.next 1 1000000000 _).mono ?_
 rintro e w9⟨rfl,hw9⟩
 rw [hw9]
 clear hw9 w9
 cases h2:inB p.next 1 1000000000
 ·have hz:True:=trivial
  have HN:Hid(partB p.pure=false):=partB_false fun hr=>by have:=((partR_iff p).1 hr).2.1; rw [h2] at this; cases this
  clear h2
  go_wp2
  go_ret
  exact⟨ret_bool HN.out.symm,HB.out.2.2⟩
 have H2:Hid(inB p.next 1 1000000000=true):=h2
 clear h2
 by_cases h3:(6:Int) < (p.procs.length:Int)
 ·have hz:True:=trivial
  have HN:Hid(partB p.pure=false):=partB_false fun hr=>by have:=((partR_iff p).1 hr).2.2.1; omega
  go_wp2
  go_ret
  exact⟨ret_bool HN.out.symm,HB.out.2.2⟩
 have H3:Hid(p.procs.length≤6):=by show p.procs.length≤6; omega
 go_wp2_with fail
 refine(l3Things_any p W HFT.out.1 HB.out.2.1).mono ?_
 rintro e W1⟨rfl,hb1⟩
 have HB1:Hid(PartBox W1 w.heap.size p∧PartD.At W1 p∧Below w.heap.size w W1):=⟨HB.out.1.below hb1,HB.out.2.1.below hb1,HB.out.2.2.trans(hb1.mono HB.out.2.2.size)⟩
 clear hb1 m0 m1 m2 m3 m4 m5 m6 m7 HB
 cases h4:thingsOk p
 ·have hz:True:=trivial
  have HN:Hid(partB p.pure=false):=partB_false fun hr=>by have:=((partR_iff p).1 hr).2.2.2.1; rw [h4] at this; cases this
  clear h4
  go_wp2
  go_ret
  exact⟨ret_bool HN.out.symm,HB1.out.2.2⟩
 have H4:Hid(thingsOk p=true):=h4
 clear h4
 go_wp2_with fail
 go_loopw [3] (fun i wr=> ∃ k:Nat,k≤p.procs.length∧i= .int .i64 k∧Hid(thingsB(fun x:ProcD=>x.id)(specOk p)0(p.procs.take k)=true∧ApartD(p.procs.take k)∧Below W1.heap.size W1 wr))(fun i _=>p.procs.length - (intOf i).toNat)
 case atStart=>exact⟨0,Nat.zero_le _,rfl,⟨rfl,List.Pairwise.nil,Below.refl _ _⟩⟩
 case round=>
  obtain⟨k,hk,rfl,HA⟩:=hrel
  have HB2:Hid(PartBox wr w.heap.size p∧PartD.At wr p∧Below w.heap.size w wr):=⟨HB1.out.1.below HA.out.2.2,HB1.out.2.1.below HA.out.2.2,HB1.out.2.2.trans(HA.out.2.2.mono HB1.out.2.2.size)⟩
  obtain⟨m0,m1,m2,m3,m4,m5,m6,m7⟩:=HB2.out.1.cells
  by_cases hlt:k < p.procs.length
  ·have i0:(0:Int)≤(k:Int):=by omega
   have i1:(k:Int) < (p.procs.length:Int):=by omega
   obtain⟨x,hx⟩: ∃ x,p.procs[k]? =some x:=⟨_,List.getElem?_eq_getElem hlt⟩
   have hmem:=List.mem_of_getElem? hx
   obtain⟨gs,ha,hat⟩:=proc_at HB2.out.2.1.1 hx
   have HAX:Hid(p.procA=some⟨gs,0,none⟩∧p.procs[k]? =some x):=⟨ha,hx⟩
   have HXS:Hid(x.Short∧Row wr x.progA(opK.flat x.prog)):=⟨HFT.out.2 x hmem,proc_prog HB2.out.2.1.1 hx⟩
   have HNX:Hid(1≤p.next∧p.next≤1000000000):=inB_iff.1 H2.out
   rw [ha] at m2
   clear hx hmem ha hat
   go_wp2_with fail
   cases hpo:procOkB p.pure x.toProcP
   ·have HPO:Hid(procOkB p.pure x.toProcP=false):=hpo
    have HN:Hid(partB p.pure=false):=partB_false fun hr=>by have h9:=((partR_iff p).1 hr).2.2.2.2.1; rw [things_no HAX.out.2(fun hh=>by have h8:=HPO.out; rw [procOkB_spec,hh.1,hh.2.2] at h8; cases h8)] at h9; cases h9
    clear hpo m0 m1 m2 m3 m4 m5 m6 m7
    refine tame_region(SpecS w p x gs k(fun _=>True))(by kernel_rfl)(specS_of HAX.out.1 HAX.out.2⟨HB2.out.1,HB2.out.2.1,HB2.out.2.2.drew⟩trivial) ?_
    iterate 6(refine yl(v:= ?_) ?_ ?_; rotate_left; (intro w0 hS0; obtain⟨⟨⟨q0,q1,q2,q3,q4,q5,q6,q7⟩,⟨x0,x1,x2,x3,x4,x5,x6,x7,x8,x9,x10,x11⟩,hpre⟩,hH⟩:=hS0; go_simp; try with_reducible rfl); simp only [pt,sb,s0,s1])
    refine cl(.bool false)103 #[.agg #[.int .i64 p.id,.int .i64 p.next,.slice(some⟨gs,0,none⟩)p.procs.length p.procC,.slice p.semA p.sems.length p.semC,.slice p.eventA p.events.length p.eventC,.slice p.boardA p.boards.length p.boardC,.slice p.bufferA p.buffers.length p.bufferC,.slice p.portA p.ports.length p.portC],.agg x.row] ?_ ?_ ?_
    ·intro w0 hS0
     obtain⟨⟨⟨q0,q1,q2,q3,q4,q5,q6,q7⟩,⟨x0,x1,x2,x3,x4,x5,x6,x7,x8,x9,x10,x11⟩,hpre⟩,hH⟩:=hS0
     go_simp
     try with_reducible rfl
    ·intro w0 hS0
     have hq:=hS0.2.out
     rw [show (Value.agg #[.int .i64 p.id,.int .i64 p.next,.slice(some⟨gs,0,none⟩)p.procs.length p.procC,.slice p.semA p.sems.length p.semC,.slice p.eventA p.events.length p.eventC,.slice p.boardA p.boards.length p.boardC,.slice p.bufferA p.buffers.length p.bufferC,.slice p.portA p.ports.length p.portC])= .agg p.cells by unfold PartD.cells; rw [HAX.out.1]]
     refine(l3ProcOk_any p x w0 HFT.out.1.short HXS.out.1 HNX.out.1 HNX.out.2 hq.2.1(proc_prog hq.2.1.1 HAX.out.2)).mono ?_
     rintro e w2⟨rfl,hb2⟩
     exact⟨ret_bool HPO.out,specS_of HAX.out.1 HAX.out.2⟨hq.1.below hb2,hq.2.1.below hb2,hq.2.2.trans(hb2.mono hq.2.2.size)⟩trivial⟩
    simp only [pt,sb,s0,s1]
    iterate 2(refine yl(v:= ?_) ?_ ?_; rotate_left; (intro w0 hS0; obtain⟨⟨⟨q0,q1,q2,q3,q4,q5,q6,q7⟩,⟨x0,x1,x2,x3,x4,x5,x6,x7,x8,x9,x10,x11⟩,hpre⟩,hH⟩:=hS0; go_simp; try with_reducible rfl); simp only [pt,sb,s0,s1])
    iterate 18(refine nl ?_; simp only [pt,sb,s0,s1])
    (refine yl(v:= ?_) ?_ ?_; rotate_left; (intro w0 hS0; obtain⟨⟨⟨q0,q1,q2,q3,q4,q5,q6,q7⟩,⟨x0,x1,x2,x3,x4,x5,x6,x7,x8,x9,x10,x11⟩,hpre⟩,hH⟩:=hS0; go_simp; try with_reducible rfl); simp only [pt,sb,s0,s1])
    refine tame_done(by kernel_rfl) ?_ _
    intro w1 hS1
    have HZ:Hid(Below w.heap.size w w1):=hS1.2.out.2.2
    clear hS1
    go_wp2
    go_ret
    exact⟨ret_bool HN.out.symm,HZ.out⟩
   have HPO:Hid(procOkB p.pure x.toProcP=true):=hpo
   have HIN:Hid(inB x.id 1 1000=true∧specOk p x=true):=by have h8:=HPO.out; rw [procOkB_spec,Bool.and_eq_true] at h8; exact h8
   clear hpo
   by_cases hk0:k=0
   ·have dk:decide(0 < k)=false:=decide_eq_false(by omega)
    have HLT:Hid(lastOf(fun x:ProcD=>x.id)0(p.procs.take k) < x.id):=by show _ < _; rw [hk0,last_none]; have:=inB_iff.1 HIN.out.1; omega
    clear hk0 m0 m1 m2 m3 m4 m5 m6 m7
    refine tame_region(fun w'=>SpecS w p x gs k(fun _=>True)w'∧Hid(Below wr.heap.size wr w'))(by kernel_rfl)⟨specS_of HAX.out.1 HAX.out.2⟨HB2.out.1,HB2.out.2.1,HB2.out.2.2.drew⟩trivial,(Below.refl _ _).drew⟩ ?_
    iterate 6(refine yl(v:= ?_) ?_ ?_; rotate_left; (intro w0 hS0; obtain⟨⟨⟨⟨q0,q1,q2,q3,q4,q5,q6,q7⟩,⟨x0,x1,x2,x3,x4,x5,x6,x7,x8,x9,x10,x11⟩,hpre⟩,hH⟩,hH2⟩:=hS0; go_simp; try with_reducible rfl); simp only [pt,sb,s0,s1])
    refine cl(.bool true)103 #[.agg #[.int .i64 p.id,.int .i64 p.next,.slice(some⟨gs,0,none⟩)p.procs.length p.procC,.slice p.semA p.sems.length p.semC,.slice p.eventA p.events.length p.eventC,.slice p.boardA p.boards.length p.boardC,.slice p.bufferA p.buffers.length p.bufferC,.slice p.portA p.ports.length p.portC],.agg x.row] ?_ ?_ ?_
    ·intro w0 hS0
     obtain⟨⟨⟨⟨q0,q1,q2,q3,q4,q5,q6,q7⟩,⟨x0,x1,x2,x3,x4,x5,x6,x7,x8,x9,x10,x11⟩,hpre⟩,hH⟩,hH2⟩:=hS0
     go_simp
     try with_reducible rfl
    ·intro w0 hS0
     have hq:=hS0.1.2.out
     rw [show (Value.agg #[.int .i64 p.id,.int .i64 p.next,.slice(some⟨gs,0,none⟩)p.procs.length p.procC,.slice p.semA p.sems.length p.semC,.slice p.eventA p.events.length p.eventC,.slice p.boardA p.boards.length p.boardC,.slice p.bufferA p.buffers.length p.bufferC,.slice p.portA p.ports.length p.portC])= .agg p.cells by unfold PartD.cells; rw [HAX.out.1]]
     refine(l3ProcOk_any p x w0 HFT.out.1.short HXS.out.1 HNX.out.1 HNX.out.2 hq.2.1(proc_prog hq.2.1.1 HAX.out.2)).mono ?_
     rintro e w2⟨rfl,hb2⟩
     exact⟨ret_bool HPO.out,specS_of HAX.out.1 HAX.out.2⟨hq.1.below hb2,hq.2.1.below hb2,hq.2.2.trans(hb2.mono hq.2.2.size)⟩trivial,hS0.2.out.trans(hb2.mono hS0.2.out.size)⟩
    simp only [pt,sb,s0,s1]
    iterate 5(refine yl(v:= ?_) ?_ ?_; rotate_left; (intro w0 hS0; obtain⟨⟨⟨⟨q0,q1,q2,q3,q4,q5,q6,q7⟩,⟨x0,x1,x2,x3,x4,x5,x6,x7,x8,x9,x10,x11⟩,hpre⟩,hH⟩,hH2⟩:=hS0; go_simp; try with_reducible rfl); simp only [pt,sb,s0,s1])
    iterate 14(refine nl ?_; simp only [pt,sb,s0,s1])
    iterate 2(refine yl(v:= ?_) ?_ ?_; rotate_left; (intro w0 hS0; obtain⟨⟨⟨⟨q0,q1,q2,q3,q4,q5,q6,q7⟩,⟨x0,x1,x2,x3,x4,x5,x6,x7,x8,x9,x10,x11⟩,hpre⟩,hH⟩,hH2⟩:=hS0; go_simp; try with_reducible rfl); simp only [pt,sb,s0,s1])
    refine tame_done(by kernel_rfl) ?_ _
    intro w1 hS1
    have HZ:Hid(PartBox w1 w.heap.size p∧PartD.At w1 p∧Below w.heap.size w w1):=hS1.1.2.out
    have HZW:Hid(Below wr.heap.size wr w1):=hS1.2.out
    clear hS1
    obtain⟨z0,z1,z2,z3,z4,z5,z6,z7⟩:=HZ.out.1.cells
    go_wp2_with fail
    clear z0 z1 z2 z3 z4 z5 z6 z7
    go_loopw [4] (fun i wr=> ∃ n:Nat,n≤k∧i= .int .i64 n∧Hid((∀ m y,m < n→p.procs[m]? =some y→ ¬ (y.since=x.since∧0 < x.since))∧Below w1.heap.size w1 wr))(fun i _=>k - (intOf i).toNat)
    case atStart=>exact⟨0,Nat.zero_le _,rfl,⟨fun m y hm=>absurd hm(by omega),Below.refl _ _⟩⟩
    case round=>
     obtain⟨n,hn,rfl,HI⟩:=hrel
     rename World=>wi
     have HZ2:Hid(PartBox wi w.heap.size p∧PartD.At wi p∧Below w.heap.size w wi):=⟨HZ.out.1.below HI.out.2,HZ.out.2.1.below HI.out.2,HZ.out.2.2.trans(HI.out.2.mono HZ.out.2.2.size)⟩
     obtain⟨z0,z1,z2,z3,z4,z5,z6,z7⟩:=HZ2.out.1.cells
     rw [HAX.out.1] at z2
     by_cases hnk:n < k
     ·have j0':(0:Int)≤(n:Int):=by omega
      have j1':(n:Int) < (p.procs.length:Int):=by omega
      have j2':(n:Int) < ((k:Nat):Int):=by omega
      obtain⟨v,hv⟩: ∃ v,p.procs[n]? =some v:=⟨_,List.getElem?_eq_getElem(by omega)⟩
      obtain⟨g1,e1,hat1⟩:=proc_at HZ2.out.2.1.1 hv
      obtain⟨g2,e2,hat2⟩:=proc_at HZ2.out.2.1.1 HAX.out.2
      rw [HAX.out.1] at e1 e2
      cases e1
      cases e2
      have d0:=hat1.2.2.2.2.2.2.2.2.2.2.2
      have d1:=hat2.2.2.2.2.2.2.2.2.2.2.2
      have HV:Hid(p.procs[n]? =some v):=hv
      clear hat1 hat2 hv
      by_cases hsi:v.since=x.since
      ·have es:(v.since == x.since)=true:=by simp [hsi]
       have HSI:Hid(v.since=x.since):=hsi
       clear hsi
       by_cases hpos:0 < x.since
       ·have dpos:decide(0 < x.since)=true:=decide_eq_true hpos
        have HN:Hid(partB p.pure=false):=partB_false fun hr=>absurd((partR_iff p).1 hr).2.2.2.2.2(apart_not HAX.out.2 HV.out hnk⟨HSI.out,hpos⟩)
        go_wp2_with fail
        go_quiet(fail)
        go_wp2
        go_ret
        exact⟨ret_bool HN.out.symm,below_drewN HZ2.out.2.2 _⟩
       have dpos:decide(0 < x.since)=false:=decide_eq_false hpos
       have HNX2:Hid(¬ (v.since=x.since∧0 < x.since)):=fun hh=>hpos hh.2
       clear hpos
       go_wp2_with fail
       go_quiet(fail)
       go_wp2
       go_roundw
       case rel=>exact⟨n+1,by omega,by go_num,⟨fun m y hm hy=>by rcases Nat.lt_succ_iff_lt_or_eq.1 hm with h5 | h5; exact HI.out.1 m y h5 hy; subst h5; rw [HV.out] at hy; cases hy; exact HNX2.out,below_drewN HI.out.2 _⟩⟩
       case measure=>simp [intOf]; omega
      have es:(v.since == x.since)=false:=by simp [hsi]
      have HNX2:Hid(¬ (v.since=x.since∧0 < x.since)):=fun hh=>hsi hh.1
      clear hsi
      go_wp2_with fail
      go_quiet(fail)
      go_wp2
      go_roundw
      case rel=>exact⟨n+1,by omega,by go_num,⟨fun m y hm hy=>by rcases Nat.lt_succ_iff_lt_or_eq.1 hm with h5 | h5; exact HI.out.1 m y h5 hy; subst h5; rw [HV.out] at hy; cases hy; exact HNX2.out,below_drewN HI.out.2 _⟩⟩
      case measure=>simp [intOf]; omega
     ·have j2': ¬ (n:Int) < ((k:Nat):Int):=by omega
      have en:n=k:=by omega
      have HAP:Hid(ApartD(p.procs.take(k+1))):=apart_snoc HAX.out.2 HA.out.2.1(fun m y hm hy=>HI.out.1 m y(by omega)hy)
      have HY:Hid(thingsB(fun x:ProcD=>x.id)(specOk p)0(p.procs.take(k+1))=true):=things_yes HA.out.1 HAX.out.2 HIN.out.1 HLT.out HIN.out.2
      clear en
      have HE:Hid(Below W1.heap.size W1 wi):=HA.out.2.2.trans((HZW.out.trans(HI.out.2.mono HZW.out.size)).mono HA.out.2.2.size)
      go_wp2
      go_roundw
      case rel=>exact⟨k+1,by omega,by go_num,⟨HY.out,HAP.out,HE.out⟩⟩
      case measure=>simp [intOf]; omega
   obtain⟨j,rfl⟩: ∃ j,k=j+1:=⟨k - 1,by omega⟩
   obtain⟨y,hy⟩: ∃ y,p.procs[j]? =some y:=⟨_,List.getElem?_eq_getElem(by omega)⟩
   have j0:(0:Int)≤(j:Int):=by omega
   have j1:(j:Int) < (p.procs.length:Int):=by omega
   have i2:(0:Int)≤(j:Int)+1:=by omega
   have i3:(j:Int)+1 < (p.procs.length:Int):=by omega
   have wk:IntKind.i64.wrap(j:Int)=(j:Int):=by rw [IntKind.wrap_i64]; omega
   have HLA:Hid(lastOf(fun x:ProcD=>x.id)0(p.procs.take(j+1))=y.id∧p.procs[j]? =some y):=⟨lastOf_take hy 0,hy⟩
   clear hy hk0 m0 m1 m2 m3 m4 m5 m6 m7
   by_cases hle:x.id≤y.id
   ·have dp:decide(x.id≤y.id)=true:=decide_eq_true hle
    have HN:Hid(partB p.pure=false):=partB_false fun hr=>by have h9:=((partR_iff p).1 hr).2.2.2.2.1; rw [things_no HAX.out.2(fun hh=>by have h8:=hh.2.1; rw [HLA.out.1] at h8; have h8:y.id < x.id:=h8; omega)] at h9; cases h9
    refine tame_region(fun w'=>SpecS w p x gs(j+1)(PrevS gs j y)w'∧Hid(Below wr.heap.size wr w'))(by kernel_rfl)⟨specS_of HAX.out.1 HAX.out.2⟨HB2.out.1,HB2.out.2.1,HB2.out.2.2.drew⟩(prevS_of HAX.out.1 HLA.out.2 HB2.out.2.1),(Below.refl _ _).drew⟩ ?_
    iterate 6(refine yl(v:= ?_) ?_ ?_; rotate_left; (intro w0 hS0; obtain⟨⟨⟨⟨q0,q1,q2,q3,q4,q5,q6,q7⟩,⟨x0,x1,x2,x3,x4,x5,x6,x7,x8,x9,x10,x11⟩,hpre⟩,hH⟩,hH2⟩:=hS0; unfold PrevS at hpre; go_simp; try with_reducible rfl); simp only [pt,sb,s0,s1])
    refine cl(.bool true)103 #[.agg #[.int .i64 p.id,.int .i64 p.next,.slice(some⟨gs,0,none⟩)p.procs.length p.procC,.slice p.semA p.sems.length p.semC,.slice p.eventA p.events.length p.eventC,.slice p.boardA p.boards.length p.boardC,.slice p.bufferA p.buffers.length p.bufferC,.slice p.portA p.ports.length p.portC],.agg x.row] ?_ ?_ ?_
    ·intro w0 hS0
     obtain⟨⟨⟨⟨q0,q1,q2,q3,q4,q5,q6,q7⟩,⟨x0,x1,x2,x3,x4,x5,x6,x7,x8,x9,x10,x11⟩,hpre⟩,hH⟩,hH2⟩:=hS0; unfold PrevS at hpre
     go_simp
     try with_reducible rfl
    ·intro w0 hS0
     have hq:=hS0.1.2.out
     rw [show (Value.agg #[.int .i64 p.id,.int .i64 p.next,.slice(some⟨gs,0,none⟩)p.procs.length p.procC,.slice p.semA p.sems.length p.semC,.slice p.eventA p.events.length p.eventC,.slice p.boardA p.boards.length p.boardC,.slice p.bufferA p.buffers.length p.bufferC,.slice p.portA p.ports.length p.portC])= .agg p.cells by unfold PartD.cells; rw [HAX.out.1]]
     refine(l3ProcOk_any p x w0 HFT.out.1.short HXS.out.1 HNX.out.1 HNX.out.2 hq.2.1(proc_prog hq.2.1.1 HAX.out.2)).mono ?_
     rintro e w2⟨rfl,hb2⟩
     exact⟨ret_bool HPO.out,specS_of HAX.out.1 HAX.out.2⟨hq.1.below hb2,hq.2.1.below hb2,hq.2.2.trans(hb2.mono hq.2.2.size)⟩(prevS_of HAX.out.1 HLA.out.2(hq.2.1.below hb2)),hS0.2.out.trans(hb2.mono hS0.2.out.size)⟩
    simp only [pt,sb,s0,s1]
    iterate 21(refine yl(v:= ?_) ?_ ?_; rotate_left; (intro w0 hS0; obtain⟨⟨⟨⟨q0,q1,q2,q3,q4,q5,q6,q7⟩,⟨x0,x1,x2,x3,x4,x5,x6,x7,x8,x9,x10,x11⟩,hpre⟩,hH⟩,hH2⟩:=hS0; unfold PrevS at hpre; go_simp; try with_reducible rfl); simp only [pt,sb,s0,s1])
    refine tame_done(by kernel_rfl) ?_ _
    intro w1 hS1
    have HZ:Hid(Below w.heap.size w w1):=hS1.1.2.out.2.2
    clear hS1
    go_wp2
    go_ret
    exact⟨ret_bool HN.out.symm,HZ.out⟩
   have dp:decide(x.id≤y.id)=false:=decide_eq_false hle
   have HLT:Hid(lastOf(fun x:ProcD=>x.id)0(p.procs.take(j+1)) < x.id):=by show _ < _; rw [HLA.out.1]; show y.id < x.id; omega
   clear hle
   refine tame_region(fun w'=>SpecS w p x gs(j+1)(PrevS gs j y)w'∧Hid(Below wr.heap.size wr w'))(by kernel_rfl)⟨specS_of HAX.out.1 HAX.out.2⟨HB2.out.1,HB2.out.2.1,HB2.out.2.2.drew⟩(prevS_of HAX.out.1 HLA.out.2 HB2.out.2.1),(Below.refl _ _).drew⟩ ?_
   iterate 6(refine yl(v:= ?_) ?_ ?_; rotate_left; (intro w0 hS0; obtain⟨⟨⟨⟨q0,q1,q2,q3,q4,q5,q6,q7⟩,⟨x0,x1,x2,x3,x4,x5,x6,x7,x8,x9,x10,x11⟩,hpre⟩,hH⟩,hH2⟩:=hS0; unfold PrevS at hpre; go_simp; try with_reducible rfl); simp only [pt,sb,s0,s1])
   refine cl(.bool true)103 #[.agg #[.int .i64 p.id,.int .i64 p.next,.slice(some⟨gs,0,none⟩)p.procs.length p.procC,.slice p.semA p.sems.length p.semC,.slice p.eventA p.events.length p.eventC,.slice p.boardA p.boards.length p.boardC,.slice p.bufferA p.buffers.length p.bufferC,.slice p.portA p.ports.length p.portC],.agg x.row] ?_ ?_ ?_
   ·intro w0 hS0
    obtain⟨⟨⟨⟨q0,q1,q2,q3,q4,q5,q6,q7⟩,⟨x0,x1,x2,x3,x4,x5,x6,x7,x8,x9,x10,x11⟩,hpre⟩,hH⟩,hH2⟩:=hS0; unfold PrevS at hpre
    go_simp
    try with_reducible rfl
   ·intro w0 hS0
    have hq:=hS0.1.2.out
    rw [show (Value.agg #[.int .i64 p.id,.int .i64 p.next,.slice(some⟨gs,0,none⟩)p.procs.length p.procC,.slice p.semA p.sems.length p.semC,.slice p.eventA p.events.length p.eventC,.slice p.boardA p.boards.length p.boardC,.slice p.bufferA p.buffers.length p.bufferC,.slice p.portA p.ports.length p.portC])= .agg p.cells by unfold PartD.cells; rw [HAX.out.1]]
    refine(l3ProcOk_any p x w0 HFT.out.1.short HXS.out.1 HNX.out.1 HNX.out.2 hq.2.1(proc_prog hq.2.1.1 HAX.out.2)).mono ?_
    rintro e w2⟨rfl,hb2⟩
    exact⟨ret_bool HPO.out,specS_of HAX.out.1 HAX.out.2⟨hq.1.below hb2,hq.2.1.below hb2,hq.2.2.trans(hb2.mono hq.2.2.size)⟩(prevS_of HAX.out.1 HLA.out.2(hq.2.1.below hb2)),hS0.2.out.trans(hb2.mono hS0.2.out.size)⟩
   simp only [pt,sb,s0,s1]
   iterate 21(refine yl(v:= ?_) ?_ ?_; rotate_left; (intro w0 hS0; obtain⟨⟨⟨⟨q0,q1,q2,q3,q4,q5,q6,q7⟩,⟨x0,x1,x2,x3,x4,x5,x6,x7,x8,x9,x10,x11⟩,hpre⟩,hH⟩,hH2⟩:=hS0; unfold PrevS at hpre; go_simp; try with_reducible rfl); simp only [pt,sb,s0,s1])
   refine tame_done(by kernel_rfl) ?_ _
   intro w1 hS1
   have HZ:Hid(PartBox w1 w.heap.size p∧PartD.At w1 p∧Below w.heap.size w w1):=hS1.1.2.out
   have HZW:Hid(Below wr.heap.size wr w1):=hS1.2.out
   clear hS1
   obtain⟨z0,z1,z2,z3,z4,z5,z6,z7⟩:=HZ.out.1.cells
   go_wp2_with fail
   clear z0 z1 z2 z3 z4 z5 z6 z7
   go_loopw [4] (fun i wr=> ∃ n:Nat,n≤(j+1)∧i= .int .i64 n∧Hid((∀ m y,m < n→p.procs[m]? =some y→ ¬ (y.since=x.since∧0 < x.since))∧Below w1.heap.size w1 wr))(fun i _=>(j+1) - (intOf i).toNat)
   case atStart=>exact⟨0,Nat.zero_le _,rfl,⟨fun m y hm=>absurd hm(by omega),Below.refl _ _⟩⟩
   case round=>
    obtain⟨n,hn,rfl,HI⟩:=hrel
    rename World=>wi
    have HZ2:Hid(PartBox wi w.heap.size p∧PartD.At wi p∧Below w.heap.size w wi):=⟨HZ.out.1.below HI.out.2,HZ.out.2.1.below HI.out.2,HZ.out.2.2.trans(HI.out.2.mono HZ.out.2.2.size)⟩
    obtain⟨z0,z1,z2,z3,z4,z5,z6,z7⟩:=HZ2.out.1.cells
    rw [HAX.out.1] at z2
    by_cases hnk:n < (j+1)
    ·have j0':(0:Int)≤(n:Int):=by omega
     have j1':(n:Int) < (p.procs.length:Int):=by omega
     have j2':(n:Int) < (((j+1):Nat):Int):=by omega
     obtain⟨v,hv⟩: ∃ v,p.procs[n]? =some v:=⟨_,List.getElem?_eq_getElem(by omega)⟩
     obtain⟨g1,e1,hat1⟩:=proc_at HZ2.out.2.1.1 hv
     obtain⟨g2,e2,hat2⟩:=proc_at HZ2.out.2.1.1 HAX.out.2
     rw [HAX.out.1] at e1 e2
     cases e1
     cases e2
     have d0:=hat1.2.2.2.2.2.2.2.2.2.2.2
     have d1:=hat2.2.2.2.2.2.2.2.2.2.2.2
     have HV:Hid(p.procs[n]? =some v):=hv
     clear hat1 hat2 hv
     by_cases hsi:v.since=x.since
     ·have es:(v.since == x.since)=true:=by simp [hsi]
      have HSI:Hid(v.since=x.since):=hsi
      clear hsi
      by_cases hpos:0 < x.since
      ·have dpos:decide(0 < x.since)=true:=decide_eq_true hpos
       have HN:Hid(partB p.pure=false):=partB_false fun hr=>absurd((partR_iff p).1 hr).2.2.2.2.2(apart_not HAX.out.2 HV.out hnk⟨HSI.out,hpos⟩)
       go_wp2_with fail
       go_quiet(fail)
       go_wp2
       go_ret
       exact⟨ret_bool HN.out.symm,below_drewN HZ2.out.2.2 _⟩
      have dpos:decide(0 < x.since)=false:=decide_eq_false hpos
      have HNX2:Hid(¬ (v.since=x.since∧0 < x.since)):=fun hh=>hpos hh.2
      clear hpos
      go_wp2_with fail
      go_quiet(fail)
      go_wp2
      go_roundw
      case rel=>exact⟨n+1,by omega,by go_num,⟨fun m y hm hy=>by rcases Nat.lt_succ_iff_lt_or_eq.1 hm with h5 | h5; exact HI.out.1 m y h5 hy; subst h5; rw [HV.out] at hy; cases hy; exact HNX2.out,below_drewN HI.out.2 _⟩⟩
      case measure=>simp [intOf]; omega
     have es:(v.since == x.since)=false:=by simp [hsi]
     have HNX2:Hid(¬ (v.since=x.since∧0 < x.since)):=fun hh=>hsi hh.1
     clear hsi
     go_wp2_with fail
     go_quiet(fail)
     go_wp2
     go_roundw
     case rel=>exact⟨n+1,by omega,by go_num,⟨fun m y hm hy=>by rcases Nat.lt_succ_iff_lt_or_eq.1 hm with h5 | h5; exact HI.out.1 m y h5 hy; subst h5; rw [HV.out] at hy; cases hy; exact HNX2.out,below_drewN HI.out.2 _⟩⟩
     case measure=>simp [intOf]; omega
    ·have j2': ¬ (n:Int) < (((j+1):Nat):Int):=by omega
     have en:n=(j+1):=by omega
     have HAP:Hid(ApartD(p.procs.take((j+1)+1))):=apart_snoc HAX.out.2 HA.out.2.1(fun m y hm hy=>HI.out.1 m y(by omega)hy)
     have HY:Hid(thingsB(fun x:ProcD=>x.id)(specOk p)0(p.procs.take((j+1)+1))=true):=things_yes HA.out.1 HAX.out.2 HIN.out.1 HLT.out HIN.out.2
     clear en
     have HE:Hid(Below W1.heap.size W1 wi):=HA.out.2.2.trans((HZW.out.trans(HI.out.2.mono HZW.out.size)).mono HA.out.2.2.size)
     go_wp2
     go_roundw
     case rel=>exact⟨(j+1)+1,by omega,by go_num,⟨HY.out,HAP.out,HE.out⟩⟩
     case measure=>simp [intOf]; omega
  ·have i1: ¬ (k:Int) < (p.procs.length:Int):=by omega
   have ek:p.procs.take k=p.procs:=List.take_of_length_le(by omega)
   have HY:Hid(partB p.pure=true):=partB_true((partR_iff p).2⟨H1.out,H2.out,H3.out,H4.out,by have:=HA.out.1; rwa [ek] at this,by have:=HA.out.2.1; rwa [ek] at this⟩)
   clear ek
   go_wp2
   go_ret
   exact⟨ret_bool HY.out.symm,HB2.out.2.2⟩
end Go.Proofs.YtkbcplnlehdjfaaGreat
