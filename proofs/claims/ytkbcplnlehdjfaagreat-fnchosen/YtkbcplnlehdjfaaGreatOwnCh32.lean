/- What the proof leans on, part 32: WithPortS, TkR4. -/
import Derived.Test.YtkbcplnlehdjfaaGreatOwnCh20
import Derived.Test.YtkbcplnlehdjfaaGreatOwnCh26
import Derived.Test.YtkbcplnlehdjfaaGreatOwnCh27
import Derived.Test.YtkbcplnlehdjfaaGreatOwnCh28
import Derived.Test.YtkbcplnlehdjfaaGreatOwnCh29
set_option maxRecDepth 100000
set_option maxHeartbeats 8000000

namespace Go.Proofs.YtkbcplnlehdjfaaGreat
open Go.RowKit Go.Maps
attribute [local go_sem ↓] Go.wp_at_zero Go.wp_at_succ
theorem ListIn.drew {α:Type} {K:Kind α} {T:TypeId} {XV:Array Value} {W w:World} {acc:List α} {a:Option Addr} {c:Nat} (h:ListIn K T XV W w acc a c):ListIn K T XV W w.drew acc a c:=⟨own_same h.own fun _ _=>rfl,h.ne,h.bel.drew,h.box⟩
theorem putPort {p q:PartD} {w W W2 w9:World} {o b0 n9 c9:Nat} {x:PortD} {xp:PortP} {XV:Array Value} {acc:List PortD} {a9:Option Addr} (hB:PartBox W2 w.heap.size p∧PartOwn W2 b0 p∧Below w.heap.size w W2∧W2.heap[w.heap.size+1+1]? =some(.cells zero8 32(0,0)))
  (hQ:PartBox W2 o q∧PartOwn W2 W.heap.size q∧q.pure=p.pure∧(∀ g∈q.blocks,g < o)∧W.heap.size≤o∧w.heap.size+1+1 < W.heap.size∧o < W2.heap.size)(hpb: ∀ g∈p.blocks,g < w.heap.size)(hl:ListIn portK 61 XV W2 w9 acc a9 c9)(ha:acc=insG(fun y:PortD=>y.id)x q.ports)(hn:acc.length=n9)(hx:x.toPortP=xp)
  (hk: ∀ g,portN.kid x=some g→g∉q.blocks∧g≠o)(hm:portN.Mine W2 W.heap.size x):
  (PartBox(w9.setCell⟨o,7,none⟩(.slice a9 n9 c9))w.heap.size p∧PartOwn(w9.setCell⟨o,7,none⟩(.slice a9 n9 c9))b0 p∧Below w.heap.size w(w9.setCell⟨o,7,none⟩(.slice a9 n9 c9))∧(w9.setCell⟨o,7,none⟩(.slice a9 n9 c9)).heap[w.heap.size+1+1]? =some(.cells zero8 32(0,0)))∧PartBox(w9.setCell⟨o,7,none⟩(.slice a9 n9 c9))o({ q with ports:=acc,portA:=a9,portC:=c9 } :PartD)∧PartOwn(w9.setCell⟨o,7,none⟩(.slice a9 n9 c9))W.heap.size({ q with ports:=acc,portA:=a9,portC:=c9 } :PartD)∧({ q with ports:=acc,portA:=a9,portC:=c9 } :PartD).pure= { p.pure with ports:=insG(·.id)xp p.pure.ports } :=by
 have hb:=hl.bel
 have hqb:=hQ.2.2.2.1
 have sm: ∀ g,g < W2.heap.size→g≠o→(w9.setCell⟨o,7,none⟩(.slice a9 n9 c9)).heap[g]? =W2.heap[g]? :=fun g hg hne=>(setCell_other hne).trans(hb.block _ hg)
 have hbw:Below w.heap.size w(w9.setCell⟨o,7,none⟩(.slice a9 n9 c9)):=below_setCell(hB.2.2.1.trans(hb.mono(by omega)))(by omega)
 have hkid: ∀ g∈acc.filterMap portN.kid,g∈q.ports.filterMap portN.kid∨portN.kid x=some g:=fun g hg=>by
  obtain⟨z,hz,he⟩:=List.mem_filterMap.1 hg
  rw [ha] at hz
  rcases insG_mem.1 hz with rfl | hz
  ·exact .inr he
  ·exact .inl(List.mem_filterMap.2⟨z,hz,he⟩)
 have hin: ∀ g∈q.ports.filterMap portN.kid,g∈q.blocks:=fun g hg=>by simp only [PartD.blocks,List.mem_append]; simp [hg]
 refine⟨⟨(sm _(by omega)(by omega)).trans hB.1,hB.2.1.same fun g hg=>sm g(by have:=hpb g hg; omega)(by have:=hpb g hg; omega),hbw,(sm _(by omega)(by omega)).trans hB.2.2.2⟩,?_,?_,?_⟩
 ·have h5:=setCell_block(i:=7)(v:= .slice a9 n9 c9)((hb.block _ hQ.2.2.2.2.2.2).trans hQ.1)
  unfold PartBox
  simp only [hn]
  exact h5
 ·refine hQ.2.1.newPort(B:=W2.heap.size)(by omega)(fun g hg=>by have:=hqb g hg; omega)(fun g hg=>sm g(by have:=hqb g hg; omega)(by have:=hqb g hg; omega)) ?_(fun z hz=> ?_) ?_(fun g hg=> ?_)(fun g hg=> ?_)
  ·exact own_same hl.own fun g hg=>setCell_other(by have:=(own_lt hl.own hg).1; omega)
  ·rw [ha] at hz
   rcases insG_mem.1 hz with rfl | hz
   ·exact hm.same fun g hg=>sm g(hm.lt hg).2(hk g hg).2
   ·refine(hQ.2.1.mineQ z hz).same fun g hg=> ?_
    have h5:=hqb g(hin g(List.mem_filterMap.2⟨z,hz,hg⟩))
    exact sm g(by omega)(by omega)
  ·have h5:=hQ.2.1.nodup
   simp only [PartD.blocks,List.nodup_append] at h5
   have h6:(q.ports.filterMap portN.kid).Nodup:=h5.2.1.2.1.2.1.2.1.2.1.2.1.2.1.2.1
   have hp:(acc.filterMap portN.kid).Perm((x :: q.ports).filterMap portN.kid):=by rw [ha]; exact(insG_perm x _).filterMap _
   refine hp.nodup_iff.2 ?_
   cases he:portN.kid x with
   | none=>rw [List.filterMap_cons_none he]; exact h6
   | some g=>rw [List.filterMap_cons_some he]; exact List.nodup_cons.2⟨fun h7=>(hk g he).1(hin g h7),h6⟩
  ·rcases hkid g hg with h5 | h5
   ·exact .inl h5
   ·exact .inr(hk g h5).1
  ·rcases hkid g hg with h5 | h5
   ·have:=hqb g(hin g h5); omega
   ·exact(hm.lt h5).2
 ·show ({ q.pure with ports:=acc.map(·.toPortP) } :PartP)=_
  have e1:q.ports.map(·.toPortP)=p.pure.ports:=congrArg PartP.ports hQ.2.2.1
  rw [ha,insG_map(num':=(·.id))(fun y:PortD=>y.toPortP)(fun _=>rfl),e1,hx,hQ.2.2.1]
theorem specWithPort_any(p:PartD)(z:PortD)(w:World)(b0:Nat)(hwf:(Lit.int .i64 z.id).wf=true)(hsm:p.pure.Small)(h:PartOwn w b0 p):
  Calls Tryz.prog 46 #[.agg p.cells,.agg #[.int .i64 z.id,.bool z.out,.bool z.queue,.int .i64 z.max,.slice z.itemsA z.items.length z.itemsC]] w fun e w'=>TurnRes w(withR p.pure { p.pure with ports:=insG(·.id)(⟨z.id,z.out,z.queue,z.max,[]⟩:PortP)p.pure.ports })e w':=by
 have HB:Hid(PartBox(((w.alloc(.cells p.cells 32)).alloc(.cells #[.int .i64 z.id,.bool z.out,.bool z.queue,.int .i64 z.max,.slice z.itemsA z.items.length z.itemsC] 61)).alloc(.cells zero8 32))w.heap.size p∧PartOwn(((w.alloc(.cells p.cells 32)).alloc(.cells #[.int .i64 z.id,.bool z.out,.bool z.queue,.int .i64 z.max,.slice z.itemsA z.items.length z.itemsC] 61)).alloc(.cells zero8 32))b0 p∧Below w.heap.size w(((w.alloc(.cells p.cells 32)).alloc(.cells #[.int .i64 z.id,.bool z.out,.bool z.queue,.int .i64 z.max,.slice z.itemsA z.items.length z.itemsC] 61)).alloc(.cells zero8 32))∧(((w.alloc(.cells p.cells 32)).alloc(.cells #[.int .i64 z.id,.bool z.out,.bool z.queue,.int .i64 z.max,.slice z.itemsA z.items.length z.itemsC] 61)).alloc(.cells zero8 32)).heap[w.heap.size+1+1]? =some(.cells zero8 32(0,0))):=by
  have b1:Below w.heap.size w(((w.alloc(.cells p.cells 32)).alloc(.cells #[.int .i64 z.id,.bool z.out,.bool z.queue,.int .i64 z.max,.slice z.itemsA z.items.length z.itemsC] 61)).alloc(.cells zero8 32)):=alloc3_below _ _ _ _
  have h3:=alloc3_facts w(.cells p.cells 32)(.cells #[.int .i64 z.id,.bool z.out,.bool z.queue,.int .i64 z.max,.slice z.itemsA z.items.length z.itemsC] 61)(.cells zero8 32)
  exact⟨h3.1,h.below b1,b1,h3.2.2.1⟩
 have HX0:Hid((((w.alloc(.cells p.cells 32)).alloc(.cells #[.int .i64 z.id,.bool z.out,.bool z.queue,.int .i64 z.max,.slice z.itemsA z.items.length z.itemsC] 61)).alloc(.cells zero8 32)).heap[w.heap.size+1]? =some(.cells #[.int .i64 z.id,.bool z.out,.bool z.queue,.int .i64 z.max,.slice z.itemsA z.items.length z.itemsC] 61(0,0))):=(alloc3_facts _ _ _ _).2.1
 have HFT:Hid(p.Fit∧(∀ x∈p.procs,x.Short)∧p.pure.Small∧(Lit.int .i64 z.id).wf=true):=⟨small_fit hsm,fun x hx=>(small_proc hsm hx).1,hsm,hwf⟩
 have hpl:p.ports.length≤1048576:=HFT.out.1.short.ports
 have hpb0: ∀ g∈p.blocks,g < w.heap.size:=fun g hg=>(h.lt g hg).2
 clear h hsm hwf
 obtain⟨m0,m1,m2,m3,m4,m5,m6,m7⟩:=HB.out.1.cells
 unfold PartD.cells at *
 go_enter Tryz.func46,Tryz.ntmps46
 go_wp2_with fail
 generalize ((w.alloc(.cells p.row 32)).alloc(.cells #[.int .i64 z.id,.bool z.out,.bool z.queue,.int .i64 z.max,.slice z.itemsA z.items.length z.itemsC] 61)).alloc(.cells zero8 32)=W at *
 clear m0 m1 m2 m3 m4 m5 m6 m7
 refine(l3Copy_any p W HFT.out.1 HFT.out.2.1 HB.out.2.1.at).mono ?_
 rintro e W1⟨q,rfl,hown,hpu,hb1⟩
 have hb2:Below W1.heap.size W1(W1.alloc(.cells q.cells 32)):=(Below.refl _ _).alloc(Nat.le_refl _)_
 have hlt:w.heap.size+1+1 < W.heap.size:=(Array.getElem?_eq_some_iff.1 HB.out.2.2.2).1
 have hb3:Below W.heap.size W(W1.alloc(.cells q.cells 32)):=hb1.trans(hb2.mono hb1.size)
 have hq1: ∀ g∈q.blocks,g < W1.heap.size:=fun g hg=>(hown.lt g hg).2
 have hql:q.ports.length≤1048576:=by have e1:=congrArg(fun z=>z.ports.length)hpu; simp only [PartD.pure,List.length_map] at e1; omega
 have HQ:Hid(PartBox(W1.alloc(.cells q.cells 32))W1.heap.size q∧PartOwn(W1.alloc(.cells q.cells 32))W.heap.size q∧q.pure=p.pure∧(∀ g∈q.blocks,g < W1.heap.size)∧W.heap.size≤W1.heap.size∧w.heap.size+1+1 < W.heap.size∧W1.heap.size < (W1.alloc(.cells q.cells 32)).heap.size):=⟨heap_alloc_new _ _,hown.below hb2,hpu,hq1,hb1.size,hlt,by simp⟩
 replace HB:Hid(PartBox(W1.alloc(.cells q.cells 32))w.heap.size p∧PartOwn(W1.alloc(.cells q.cells 32))b0 p∧Below w.heap.size w(W1.alloc(.cells q.cells 32))∧(W1.alloc(.cells q.cells 32)).heap[w.heap.size+1+1]? =some(.cells zero8 32(0,0))):=⟨HB.out.1.below hb3,HB.out.2.1.below hb3,HB.out.2.2.1.trans(hb3.mono HB.out.2.2.1.size),(hb3.block _ hlt).trans HB.out.2.2.2⟩
 replace HX0:Hid((W1.alloc(.cells q.cells 32)).heap[w.heap.size+1]? =some(.cells #[.int .i64 z.id,.bool z.out,.bool z.queue,.int .i64 z.max,.slice z.itemsA z.items.length z.itemsC] 61(0,0))):=(hb3.block _(by omega)).trans HX0.out
 have hbz:Below(W1.alloc(.cells q.cells 32)).heap.size(W1.alloc(.cells q.cells 32))((W1.alloc(.cells q.cells 32)).alloc(.cells #[] 61)):=(Below.refl _ _).alloc(Nat.le_refl _)_
 obtain⟨z0,z1,z2,z3,z4⟩:=port_cells(x:=z)((hbz.block _(by have:=hb3.size; omega)).trans HX0.out)
 clear hbz
 have HPB:Hid(∀ g∈p.blocks,g < w.heap.size):=fun g hg=>hpb0 g hg
 clear hown hpu hb1 hb2 hb3 hq1 hlt hpb0
 have HL0:Hid(ListIn portK 61 #[.int .i64 z.id,.bool z.out,.bool z.queue,.int .i64 z.max,.slice none 0 0] (W1.alloc(.cells q.cells 32))(((W1.alloc(.cells q.cells 32)).alloc(.cells #[] 61)).alloc(.cells #[.int .i64 z.id,.bool z.out,.bool z.queue,.int .i64 z.max,.slice none 0 0] 61)) [] (some⟨(W1.alloc(.cells q.cells 32)).heap.size,0,none⟩)0):=ListIn.start
 have hoW:(W1.alloc(.cells q.cells 32)).heap.size=W1.heap.size+1:=by simp
 have HW:Hid((W1.alloc(.cells q.cells 32)).heap.size=W1.heap.size+1):=hoW
 clear hoW
 unfold PartD.cells at *
 go_wp2_with fail
 clear z0 z1 z2 z3 z4
 generalize W1.alloc(.cells q.row 32)=W2 at *
 generalize W1.heap.size=o at *
 go_loopw [7,9,10] (fun l d i wr=> ∃ (k:Nat)(dn:Bool)(acc:List PortD)(a:Option Addr)(c:Nat),k≤q.ports.length∧i= .int .i64 k∧d= .bool dn∧l= .slice a acc.length c∧Hid(ListIn portK 61 #[.int .i64 z.id,.bool z.out,.bool z.queue,.int .i64 z.max,.slice none 0 0] W2 wr acc a c∧AccIs(fun y:PortD=>y.id)(⟨⟨z.id,z.out,z.queue,z.max,[]⟩,none,0⟩:PortD)q.ports k dn acc))(fun _ _ i _=>q.ports.length - (Go.RowKit.intOf i).toNat)
 case atStart=>exact⟨0,false,[],some⟨W2.heap.size,0,none⟩,0,Nat.zero_le _,rfl,rfl,by rw [HW.out]; rfl,⟨HL0.out,AccIs.start _ _⟩⟩
 case round=>
  obtain⟨k,dn,acc,a,c,hk,rfl,rfl,rfl,HA⟩:=hrel
  have i0:(0:Int)≤(k:Int):=by omega
  have mo0:wr.cell? ⟨o,7,none⟩=some(.slice q.portA q.ports.length q.portC):=(HQ.out.1.below HA.out.1.bel).cells.2.2.2.2.2.2.2
  have hal:=HA.out.2.le
  by_cases hlt:k < q.ports.length
  ·have i1:(k:Int) < (q.ports.length:Int):=by omega
   replace HA:Hid(ListIn portK 61 #[.int .i64 z.id,.bool z.out,.bool z.queue,.int .i64 z.max,.slice none 0 0] W2 wr.drew acc a c∧AccIs(fun y:PortD=>y.id)(⟨⟨z.id,z.out,z.queue,z.max,[]⟩,none,0⟩:PortD)q.ports k dn acc):=⟨HA.out.1.drew,HA.out.2⟩
   have hbr:=HA.out.1.bel
   have mo:wr.drew.cell? ⟨o,7,none⟩=some(.slice q.portA q.ports.length q.portC):=(HQ.out.1.below hbr).cells.2.2.2.2.2.2.2
   have zi:wr.drew.cell? ⟨w.heap.size+1,0,none⟩=some(.int .i64 z.id):=(port_cells(x:=z)((hbr.block _(by have:=HQ.out.2.2.2.2; omega)).trans HX0.out)).1
   obtain⟨y,hy⟩: ∃ y,q.ports[k]? =some y:=⟨_,List.getElem?_eq_getElem hlt⟩
   have HY:Hid(q.ports[k]? =some y):=hy
   obtain⟨g,ha,hat⟩:=port_at(HQ.out.2.1.below hbr).at.2.2.2.2.2 hy
   rw [ha] at mo
   obtain⟨d0,d1,d2,d3,d4⟩:=hat
   have HG:Hid(q.portA=some⟨g,0,none⟩):=ha
   clear ha hy
   obtain⟨a5,c5,w5,hap,hl5⟩:=HA.out.1.add 30 48(P:=Tryz.prog)Tryz.underlying30 rinfPort rfl(by decide)(by decide)y #[.int .i64 y.id,.bool y.out,.bool y.queue,.int .i64 y.max,.slice y.itemsA y.items.length y.itemsC] rfl one_port(by omega)
   have HL5:Hid(ListIn portK 61 #[.int .i64 z.id,.bool z.out,.bool z.queue,.int .i64 z.max,.slice none 0 0] W2 w5(acc ++ [y])a5 c5):=hl5
   clear hl5
   cases dn
   rotate_left
   ·
    go_wp2_with fail
    refine tame_region(fun w'=>w'=wr.drew)(by kernel_rfl)rfl ?_
    iterate 3(refine yl(v:= ?_) ?_ ?_; rotate_left; (intro w0 hS0; subst hS0; go_simp; try with_reducible rfl); simp only [pt,sb,s0,s1])
    iterate 9(refine nl ?_; simp only [pt,sb,s0,s1])
    (refine yl(v:= ?_) ?_ ?_; rotate_left; (intro w0 hS0; subst hS0; go_simp; try with_reducible rfl); simp only [pt,sb,s0,s1])
    refine tame_done(by kernel_rfl) ?_ _
    intro w1 hS1
    subst hS1
    clear mo0
    go_wp2_with (at_builtin; first | (refine wpList_append_run _ rfl _ _ 30 rfl _ _ _ _ rfl rfl hap ?_; clear hap))
    go_round
    case rel=>exact⟨k+1,true,acc ++ [y],a5,c5,by omega,by go_num,rfl,by simp,⟨HL5.out,HA.out.2.on HY.out⟩⟩
    case measure=>simp [Go.RowKit.intOf]; omega
   by_cases hc:z.id < y.id
   rotate_left
   ·have HC:Hid(¬ z.id < y.id):=hc
    have d2:decide(z.id < y.id)=false:=decide_eq_false hc
    go_wp2_with fail
    refine tame_region(fun w'=>w'=wr.drew)(by kernel_rfl)rfl ?_
    iterate 13(refine yl(v:= ?_) ?_ ?_; rotate_left; (intro w0 hS0; subst hS0; go_simp; try with_reducible rfl); simp only [pt,sb,s0,s1])
    refine tame_done(by kernel_rfl) ?_ _
    intro w1 hS1
    subst hS1
    clear mo0
    go_wp2_with (at_builtin; first | (refine wpList_append_run _ rfl _ _ 30 rfl _ _ _ _ rfl rfl hap ?_; clear hap))
    go_round
    case rel=>exact⟨k+1,false,acc ++ [y],a5,c5,by omega,by go_num,rfl,by simp,⟨HL5.out,HA.out.2.past HY.out(Int.not_lt.mpr HC.out)⟩⟩
    case measure=>simp [Go.RowKit.intOf]; omega
   clear hap HL5 a5 c5 w5
   have HC:Hid(z.id < y.id):=hc
   have d2:decide(z.id < y.id)=true:=decide_eq_true hc
   obtain⟨a5,c5,w5,hap,hl5⟩:=HA.out.1.add 30 48(P:=Tryz.prog)Tryz.underlying30 rinfPort rfl(by decide)(by decide)(⟨⟨z.id,z.out,z.queue,z.max,[]⟩,none,0⟩:PortD) #[.int .i64 z.id,.bool z.out,.bool z.queue,.int .i64 z.max,.slice none 0 0] rfl one_port(by omega)
   obtain⟨a7,c7,w7,hap2,hl7⟩:=hl5.add 30 48(P:=Tryz.prog)Tryz.underlying30 rinfPort rfl(by decide)(by decide)y #[.int .i64 y.id,.bool y.out,.bool y.queue,.int .i64 y.max,.slice y.itemsA y.items.length y.itemsC] rfl one_port(by simp; omega)
   rw [List.length_append] at hap2
   simp only [List.length_cons,List.length_nil,Nat.zero_add] at hap2
   have HL7:Hid(ListIn portK 61 #[.int .i64 z.id,.bool z.out,.bool z.queue,.int .i64 z.max,.slice none 0 0] W2 w7(acc ++ [(⟨⟨z.id,z.out,z.queue,z.max,[]⟩,none,0⟩:PortD)] ++ [y])a7 c7):=hl7
   have mo5:w5.cell? ⟨o,7,none⟩=some(.slice q.portA q.ports.length q.portC):=(HQ.out.1.below hl5.bel).cells.2.2.2.2.2.2.2
   obtain⟨g2,ha2,hat2⟩:=port_at(HQ.out.2.1.below hl5.bel).at.2.2.2.2.2 HY.out
   rw [HG.out] at ha2 mo5
   cases ha2
   obtain⟨e0,e1,e2,e3,e4⟩:=hat2
   obtain⟨x0,x1,x2,x3,x4⟩:=port_cells(x:=(⟨⟨z.id,z.out,z.queue,z.max,[]⟩,none,0⟩:PortD))(X:=o+1+1)(W:=wr.drew)(by rw [← HW.out]; exact HA.out.1.box)
   clear hl5 hl7
   simp only [List.length_nil] at *
   go_wp2_with fail
   refine tame_region(fun w'=>w'=wr.drew)(by kernel_rfl)rfl ?_
   iterate 13(refine yl(v:= ?_) ?_ ?_; rotate_left; (intro w0 hS0; subst hS0; go_simp; try with_reducible rfl); simp only [pt,sb,s0,s1])
   refine tame_done(by kernel_rfl) ?_ _
   intro w1 hS1
   subst hS1
   clear mo0
   go_wp2_with (at_builtin; first | (refine wpList_append_run _ rfl _ _ 30 rfl _ _ _ _ rfl rfl hap ?_; clear hap) | (refine wpList_append_run _ rfl _ _ 30 rfl _ _ _ _ rfl rfl hap2 ?_; clear hap2))
   go_round
   case rel=>exact⟨k+1,true,acc ++ [(⟨⟨z.id,z.out,z.queue,z.max,[]⟩,none,0⟩:PortD)] ++ [y],a7,c7,by omega,by go_num,rfl,by simp,⟨HL7.out,HA.out.2.here HY.out HC.out⟩⟩
   case measure=>simp [Go.RowKit.intOf]; omega
  have i1: ¬ (k:Int) < (q.ports.length:Int):=by omega
  have hbr:=HA.out.1.bel
  cases dn
  ·obtain⟨a9,c9,w9,hap,hl9⟩:=HA.out.1.add 30 48(P:=Tryz.prog)Tryz.underlying30 rinfPort rfl(by decide)(by decide)(⟨⟨z.id,z.out,z.queue,z.max,[]⟩,none,0⟩:PortD) #[.int .i64 z.id,.bool z.out,.bool z.queue,.int .i64 z.max,.slice none 0 0] rfl one_port(by omega)
   have HR:Hid(ListIn portK 61 #[.int .i64 z.id,.bool z.out,.bool z.queue,.int .i64 z.max,.slice none 0 0] W2 w9(acc ++ [(⟨⟨z.id,z.out,z.queue,z.max,[]⟩,none,0⟩:PortD)])a9 c9∧acc ++ [(⟨⟨z.id,z.out,z.queue,z.max,[]⟩,none,0⟩:PortD)] =insG(fun y:PortD=>y.id)(⟨⟨z.id,z.out,z.queue,z.max,[]⟩,none,0⟩:PortD)q.ports∧(acc ++ [(⟨⟨z.id,z.out,z.queue,z.max,[]⟩,none,0⟩:PortD)]).length=acc.length+1):=⟨hl9,HA.out.2.last hlt,by simp⟩
   obtain⟨x0,x1,x2,x3,x4⟩:=port_cells(x:=(⟨⟨z.id,z.out,z.queue,z.max,[]⟩,none,0⟩:PortD))(X:=o+1+1)(W:=wr)(by rw [← HW.out]; exact HA.out.1.box)
   simp only [List.length_nil] at x0 x1 x2 x3 x4
   clear hl9
   have H10:Hid(_):=putPort HB.out HQ.out HPB.out HR.out.1 HR.out.2.1 HR.out.2.2 rfl(fun g hg=>by cases hg)(World.ownsRow_nil _ _ _ _)
   have hcall:=l3Checked_any p({ q with ports:=(acc ++ [(⟨⟨z.id,z.out,z.queue,z.max,[]⟩,none,0⟩:PortD)]),portA:=a9,portC:=c9 } :PartD)(w9.setCell⟨o,7,none⟩(.slice a9(acc.length+1)c9))⟨HFT.out.1,HFT.out.2.1,H10.out.1.2.1.at⟩(fun hr=>by
    have h5:PartP.Small({ q with ports:=(acc ++ [(⟨⟨z.id,z.out,z.queue,z.max,[]⟩,none,0⟩:PortD)]),portA:=a9,portC:=c9 } :PartD).pure:=by rw [H10.out.2.2.2]; exact insPort_small HFT.out.2.2.1 hr⟨HFT.out.2.2.2,Nat.zero_le _,(fun s hs=>by cases hs)⟩
    exact⟨small_fit h5,fun x hx=>(small_proc h5 hx).1,H10.out.2.2.1.at⟩)
   obtain⟨m0,m1,m2,m3,m4,m5,m6,m7⟩:=H10.out.1.1.cells
   obtain⟨k0,k1,k2,k3,k4,k5,k6,k7⟩:=H10.out.2.1.cells
   obtain⟨⟨u,co⟩,fo⟩:(∃ u,w9.cell? ⟨o,7,none⟩=some u)∧w9.frozen? ⟨o,7,none⟩=false:=⟨⟨_,(HQ.out.1.below HR.out.1.bel).cells.2.2.2.2.2.2.2⟩,frozen_of_row _ _ _ _ _(HQ.out.1.below HR.out.1.bel)⟩
   unfold PartD.cells at hcall
   have hln:=HR.out.2.2
   simp only [hln] at hcall k0 k1 k2 k3 k4 k5 k6 k7
   clear hln
   go_wp2_with (at_builtin; first | (refine wpList_append_run _ rfl _ _ 30 rfl _ _ _ _ rfl rfl hap ?_; clear hap))
   refine hcall.mono ?_
   clear hcall m0 m1 m2 m3 m4 m5 m6 m7 k0 k1 k2 k3 k4 k5 k6 k7
   rintro e w11⟨hb11,hok⟩
   have hq:=HQ.out.2.2.2.2
   have HZ:Hid(Below w.heap.size w w11∧w11.heap[w.heap.size+1+1]? =some(.cells zero8 32(0,0))∧PartOwn w11 W.heap.size({ q with ports:=(acc ++ [(⟨⟨z.id,z.out,z.queue,z.max,[]⟩,none,0⟩:PortD)]),portA:=a9,portC:=c9 } :PartD)∧w.heap.size+1+1 < W.heap.size):=⟨H10.out.1.2.2.1.trans(hb11.mono H10.out.1.2.2.1.size),(hb11.block _(Array.getElem?_eq_some_iff.1 H10.out.1.2.2.2).1).trans H10.out.1.2.2.2,H10.out.2.2.1.below hb11,hq.2.1⟩
   clear hb11 hq
   rw [H10.out.2.2.2] at hok
   rcases hok with ⟨hok,rfl⟩ | ⟨hok,rfl⟩
   ·have HN:Hid(withR p.pure { p.pure with ports:=insG(·.id)(⟨z.id,z.out,z.queue,z.max,[]⟩:PortP)p.pure.ports } =some { p.pure with ports:=insG(·.id)(⟨z.id,z.out,z.queue,z.max,[]⟩:PortP)p.pure.ports }):=withR_ok hok
    clear hok
    go_wp2_with (refine stP 4 66(w.heap.size+1+1) #[.int .i64 q.id,.int .i64 q.next,.slice q.procA q.procs.length q.procC,.slice q.semA q.sems.length q.semC,.slice q.eventA q.events.length q.eventC,.slice q.boardA q.boards.length q.boardC,.slice q.bufferA q.buffers.length q.bufferC,.slice a9(acc.length+1)c9] HZ.out.2.1 ?_)
    refine rtQ Tryz.results46(w.heap.size+1+1) #[.int .i64 q.id,.int .i64 q.next,.slice q.procA q.procs.length q.procC,.slice q.semA q.sems.length q.semC,.slice q.eventA q.events.length q.eventC,.slice q.boardA q.boards.length q.boardC,.slice q.bufferA q.buffers.length q.bufferC,.slice a9(acc.length+1)c9] (.bool true)HZ.out.2.1 ?_
    have hl:=HZ.out.2.2.2
    rw [HN.out]
    refine⟨({ q with ports:=(acc ++ [(⟨⟨z.id,z.out,z.queue,z.max,[]⟩,none,0⟩:PortD)]),portA:=a9,portC:=c9 } :PartD),by unfold PartD.cells; simp only [HR.out.2.2]; rfl,(HZ.out.2.2.1.lower(by omega)).same fun g hg=>setRow_other _ _ _ _(by have:=(HZ.out.2.2.1.lt g hg).1; omega),H10.out.2.2.2,below_setRow HZ.out.1(by omega)_⟩
   ·have HN:Hid(withR p.pure { p.pure with ports:=insG(·.id)(⟨z.id,z.out,z.queue,z.max,[]⟩:PortP)p.pure.ports } =none):=withR_bad hok
    clear hok
    go_wp2_with (refine stP 4 66(w.heap.size+1+1)zero8 HZ.out.2.1 ?_)
    refine rtQ Tryz.results46(w.heap.size+1+1)zero8(.bool false)HZ.out.2.1 ?_
    exact turnRes_no HN.out(below_setRow HZ.out.1(by omega)_)
  ·have HR:Hid(ListIn portK 61 #[.int .i64 z.id,.bool z.out,.bool z.queue,.int .i64 z.max,.slice none 0 0] W2 wr acc a c∧acc=insG(fun y:PortD=>y.id)(⟨⟨z.id,z.out,z.queue,z.max,[]⟩,none,0⟩:PortD)q.ports∧acc.length=acc.length):=⟨HA.out.1,HA.out.2.done hlt,rfl⟩
   have H10:Hid(_):=putPort HB.out HQ.out HPB.out HR.out.1 HR.out.2.1 HR.out.2.2 rfl(fun g hg=>by cases hg)(World.ownsRow_nil _ _ _ _)
   have hcall:=l3Checked_any p({ q with ports:=acc,portA:=a,portC:=c } :PartD)(wr.setCell⟨o,7,none⟩(.slice a acc.length c))⟨HFT.out.1,HFT.out.2.1,H10.out.1.2.1.at⟩(fun hr=>by
    have h5:PartP.Small({ q with ports:=acc,portA:=a,portC:=c } :PartD).pure:=by rw [H10.out.2.2.2]; exact insPort_small HFT.out.2.2.1 hr⟨HFT.out.2.2.2,Nat.zero_le _,(fun s hs=>by cases hs)⟩
    exact⟨small_fit h5,fun x hx=>(small_proc h5 hx).1,H10.out.2.2.1.at⟩)
   obtain⟨m0,m1,m2,m3,m4,m5,m6,m7⟩:=H10.out.1.1.cells
   obtain⟨k0,k1,k2,k3,k4,k5,k6,k7⟩:=H10.out.2.1.cells
   obtain⟨⟨u,co⟩,fo⟩:(∃ u,wr.cell? ⟨o,7,none⟩=some u)∧wr.frozen? ⟨o,7,none⟩=false:=⟨⟨_,(HQ.out.1.below HR.out.1.bel).cells.2.2.2.2.2.2.2⟩,frozen_of_row _ _ _ _ _(HQ.out.1.below HR.out.1.bel)⟩
   unfold PartD.cells at hcall
   simp only at hcall k0 k1 k2 k3 k4 k5 k6 k7
   go_wp2_with fail
   refine hcall.mono ?_
   clear hcall m0 m1 m2 m3 m4 m5 m6 m7 k0 k1 k2 k3 k4 k5 k6 k7
   rintro e w11⟨hb11,hok⟩
   have hq:=HQ.out.2.2.2.2
   have HZ:Hid(Below w.heap.size w w11∧w11.heap[w.heap.size+1+1]? =some(.cells zero8 32(0,0))∧PartOwn w11 W.heap.size({ q with ports:=acc,portA:=a,portC:=c } :PartD)∧w.heap.size+1+1 < W.heap.size):=⟨H10.out.1.2.2.1.trans(hb11.mono H10.out.1.2.2.1.size),(hb11.block _(Array.getElem?_eq_some_iff.1 H10.out.1.2.2.2).1).trans H10.out.1.2.2.2,H10.out.2.2.1.below hb11,hq.2.1⟩
   clear hb11 hq
   rw [H10.out.2.2.2] at hok
   rcases hok with ⟨hok,rfl⟩ | ⟨hok,rfl⟩
   ·have HN:Hid(withR p.pure { p.pure with ports:=insG(·.id)(⟨z.id,z.out,z.queue,z.max,[]⟩:PortP)p.pure.ports } =some { p.pure with ports:=insG(·.id)(⟨z.id,z.out,z.queue,z.max,[]⟩:PortP)p.pure.ports }):=withR_ok hok
    clear hok
    go_wp2_with (refine stP 4 66(w.heap.size+1+1) #[.int .i64 q.id,.int .i64 q.next,.slice q.procA q.procs.length q.procC,.slice q.semA q.sems.length q.semC,.slice q.eventA q.events.length q.eventC,.slice q.boardA q.boards.length q.boardC,.slice q.bufferA q.buffers.length q.bufferC,.slice a acc.length c] HZ.out.2.1 ?_)
    refine rtQ Tryz.results46(w.heap.size+1+1) #[.int .i64 q.id,.int .i64 q.next,.slice q.procA q.procs.length q.procC,.slice q.semA q.sems.length q.semC,.slice q.eventA q.events.length q.eventC,.slice q.boardA q.boards.length q.boardC,.slice q.bufferA q.buffers.length q.bufferC,.slice a acc.length c] (.bool true)HZ.out.2.1 ?_
    have hl:=HZ.out.2.2.2
    rw [HN.out]
    refine⟨({ q with ports:=acc,portA:=a,portC:=c } :PartD),by rfl,(HZ.out.2.2.1.lower(by omega)).same fun g hg=>setRow_other _ _ _ _(by have:=(HZ.out.2.2.1.lt g hg).1; omega),H10.out.2.2.2,below_setRow HZ.out.1(by omega)_⟩
   ·have HN:Hid(withR p.pure { p.pure with ports:=insG(·.id)(⟨z.id,z.out,z.queue,z.max,[]⟩:PortP)p.pure.ports } =none):=withR_bad hok
    clear hok
    go_wp2_with (refine stP 4 66(w.heap.size+1+1)zero8 HZ.out.2.1 ?_)
    refine rtQ Tryz.results46(w.heap.size+1+1)zero8(.bool false)HZ.out.2.1 ?_
    exact turnRes_no HN.out(below_setRow HZ.out.1(by omega)_)
end Go.Proofs.YtkbcplnlehdjfaaGreat

namespace Go.Proofs.YtkbcplnlehdjfaaGreat
theorem op_fields {o:OpD} (h:opOk o=true):(1≤o.1∧o.1≤17)∧(¬ o.1=17→1≤o.2.1∧o.2.1≤1000)∧inB o.2.2.1(-1)1000=true∧plainB o.2.2.2=true∧(¬ o.1=8→ ¬ o.1=10→ ¬ o.1=13→emptyB o.2.2.2=true):=by
 unfold opOk opB at h
 split at h
 ·simp only [Bool.and_eq_true,decide_eq_true_eq] at h
  have h1:=inB_iff.1 h.1.1
  exact⟨by omega,fun _=>h1,by rw [h.1.2]; rfl,by rw [empty_eq h.2]; rfl,fun _ _ _=>h.2⟩
 ·split at h
  ·simp only [Bool.and_eq_true] at h
   have h1:=inB_iff.1 h.1.1
   exact⟨by omega,fun _=>h1,h.1.2,by rw [empty_eq h.2]; rfl,fun _ _ _=>h.2⟩
  ·split at h
   ·simp only [Bool.and_eq_true] at h
    have h1:=inB_iff.1 h.1.1
    exact⟨by omega,fun _=>h1,h.1.2,h.2,fun e _ _=>by omega⟩
   ·split at h
    ·simp only [Bool.and_eq_true,decide_eq_true_eq] at h
     have h1:=inB_iff.1 h.1.1
     exact⟨by omega,fun _=>h1,by rw [h.1.2]; rfl,h.2,fun _ e1 e2=>by omega⟩
    ·split at h
     ·simp only [Bool.and_eq_true,decide_eq_true_eq] at h
      exact⟨by omega,fun e=>by omega,by rw [h.1.2]; rfl,by rw [empty_eq h.2]; rfl,fun _ _ _=>h.2⟩
     ·cases h
theorem n7(n:Int):n≤n∧n≤n+7:=by omega
def RtN(p q:PartP):Prop:=PartR q∧p.next≤q.next∧q.next≤p.next+7
section
variable {p:PartP} {id now:Int} {o:OpD}
theorem rt_past {code:Int} {q:PartP} (h:PartR q)(hu:Up id q)(hc:inB code 0 3=true)(hn:p.next≤q.next∧q.next≤p.next+7):RtN p(pastAt code id q):=⟨past_up h hu hc,hn⟩
theorem rt_or {st:Int} {q:PartP} (h:PartR q)(hu:UpL id q)(hq:q.next=p.next)(hn:p.next+1≤1000000000)(hnow:0≤now∧now≤1000000000)(hm:inB o.2.2.1(-1)1000=true)
  (hs:st=5∧plainB o.2.2.2=true∨(st=3∨st=4∨st=6∨st=7)∧emptyB o.2.2.2=true)(hh:hasB q st o.2.1=true):RtN p(orAt st o now id q):=by
 have h1:=or_next(p:=q)(id:=id)(st:=st)(now:=now)(o:=o)
 exact⟨or_right h hu(by omega)hnow hm hs hh,by omega,by omega⟩
theorem found_sem {s:SemD} (h:PartR p)(hf:findA(·.id)o.2.1 p.sems=some s):hasB p 3 o.2.1=true∧0≤s.n∧s.n≤s.max:=by
 refine⟨has_of hf,?_⟩
 have h1:=(things_all h.sems s(findA_mem hf).1).2
 unfold semB at h1
 simp only [Bool.and_eq_true] at h1
 exact inB_iff.1 h1.2
theorem found_buffer {b:BufferP} (h:PartR p)(hf:findA(·.id)o.2.1 p.buffers=some b):hasB p 5 o.2.1=true∧hasB p 6 o.2.1=true∧(b.items.length:Int)≤b.max∧ ∀ t∈b.items,plainB t=true:=by
 refine⟨has_of hf,has_of hf,?_⟩
 have h1:=(things_all h.buffers b(findA_mem hf).1).2
 unfold bufferB at h1
 simp only [Bool.and_eq_true] at h1
 exact texts_iff.1 h1.2
theorem found_port {q:PortP} (h:PartR p)(hf:findA(·.id)o.2.1 p.ports=some q):1≤q.max∧(q.items.length:Int)≤q.max∧ ∀ t∈q.items,plainB t=true:=by
 have h1:=(things_all h.ports q(findA_mem hf).1).2
 unfold portB at h1
 simp only [Bool.and_eq_true] at h1
 exact⟨(inB_iff.1 h1.1.1).1,texts_iff.1 h1.2⟩
theorem found_board {b:BoardD} (h:PartR p)(hf:findA(·.id)o.2.1 p.boards=some b):hasB p 7 o.2.1=true∧plainB b.text=true:=by
 refine⟨has_of hf,?_⟩
 have h1:=(things_all h.boards b(findA_mem hf).1).2
 unfold boardB at h1
 simp only [Bool.and_eq_true] at h1
 exact h1.1
theorem wait_right(h:PartR p)(hu:UpL id p)(hn:p.next≤999999990)(ho:opOk o=true)(hk:o.1=3)(hnow:0≤now∧now≤1000000000):RtN p(waitP o now id p):=by
 obtain⟨f0,f1,f2,f3,f4⟩:=op_fields ho
 unfold waitP
 split
 ·exact rt_past h hu.up rfl(by omega)
 ·rename_i s hs
  obtain⟨k1,k2,k3⟩:=found_sem h hs
  split
  ·exact rt_or h hu rfl(by omega)hnow f2(.inr⟨.inl rfl,f4(by omega)(by omega)(by omega)⟩)k1
  ·refine rt_past(semUp_right h fun y hy hk=> ?_)hu.up rfl(n7 p.next)
   rw [only h.sems hs hy hk]; omega
theorem signal_right(h:PartR p)(hu:UpL id p)(hn:p.next≤999999990):RtN p(signalP o id p):=by
 unfold signalP
 split
 ·exact rt_past h hu.up rfl(by omega)
 ·rename_i s hs
  obtain⟨k1,k2,k3⟩:=found_sem h hs
  split
  ·rename_i y hy
   obtain⟨m1,m2,-⟩:=bestW_mem hy
   have h3:=wakeN_le p.next y
   exact rt_past(wakeAt_right h m1(by omega)(.inl rfl)(by omega))(hu.up.wake m1(by omega)fun _=>rfl)rfl(by show p.next≤wakeN p.next y∧wakeN p.next y≤p.next+7; omega)
  ·split
   ·exact rt_past h hu.up rfl(by omega)
   ·refine rt_past(semUp_right h fun y hy hk=> ?_)hu.up rfl(n7 p.next)
    rw [only h.sems hs hy hk]; omega
theorem events_right(h:PartR p)(hu:UpL id p)(hn:p.next≤999999990)(ho:opOk o=true)(hk:o.1=5∨o.1=6∨o.1=7)(hnow:0≤now∧now≤1000000000):RtN p(eventsP o now id p):=by
 obtain⟨f0,f1,f2,f3,f4⟩:=op_fields ho
 unfold eventsP
 split
 ·exact rt_past h hu.up rfl(by omega)
 ·rename_i e he
  split
  ·have h1:=wakeAll_right(on:=o.2.1)(f:=fun y=>y)(st:=4)(by decide)(.inl rfl)(eventUp_right(k:=o.2.1)(b:=true)h)hn
   have h2:(eventUp o.2.1 true p).next=p.next:=rfl
   exact rt_past h1.1(Up.wakeAll(p:=eventUp o.2.1 true p)hu.up(by decide)fun _=>rfl)rfl(by omega)
  ·split
   ·exact rt_past(eventUp_right h)hu.up rfl(n7 p.next)
   ·split
    ·exact rt_past h hu.up rfl(by omega)
    ·exact rt_or h hu rfl(by omega)hnow f2(.inr⟨.inr(.inl rfl),f4(by omega)(by omega)(by omega)⟩)(has_of he)
theorem send_right(h:PartR p)(hu:UpL id p)(hn:p.next≤999999990)(ho:opOk o=true)(hnow:0≤now∧now≤1000000000):RtN p(sendP o now id p):=by
 obtain⟨f0,f1,f2,f3,f4⟩:=op_fields ho
 unfold sendP
 split
 ·exact rt_past h hu.up rfl(by omega)
 ·rename_i b hb
  obtain⟨k1,k2,k3,k4⟩:=found_buffer h hb
  split
  ·rename_i y hy
   obtain⟨m1,m2,-⟩:=bestW_mem hy
   have h3:=wakeN_le p.next y
   exact rt_past(wakeAt_right h m1(by omega)(.inr⟨_,f3,rfl⟩)(by omega))(hu.up.wake m1(by omega)fun _=>rfl)rfl(by show p.next≤wakeN p.next y∧wakeN p.next y≤p.next+7; omega)
  ·split
   ·exact rt_or h hu rfl(by omega)hnow f2(.inl⟨rfl,f3⟩)k1
   ·refine rt_past(bufferUp_right h(fun y hy hk=> ?_)fun t ht=> ?_)hu.up rfl(n7 p.next)
    ·rw [only h.buffers hb hy hk,List.length_append]; simp only [List.length_cons,List.length_nil]; omega
    ·rcases List.mem_append.1 ht with ht | ht
     ·exact k4 t ht
     ·simp only [List.mem_cons,List.not_mem_nil,or_false] at ht; rw [ht]; exact f3
theorem take_right(h:PartR p)(hu:UpL id p)(hn:p.next≤999999990)(ho:opOk o=true)(hk:o.1=9)(hnow:0≤now∧now≤1000000000):RtN p(takeP o now id p):=by
 obtain⟨f0,f1,f2,f3,f4⟩:=op_fields ho
 unfold takeP
 split
 ·exact rt_past h hu.up rfl(by omega)
 ·rename_i b hb
  obtain⟨k1,k2,k3,k4⟩:=found_buffer h hb
  split
  ·exact rt_or(gotAt_right h plain_no)hu.got rfl(by omega)hnow f2(.inr⟨.inr(.inr(.inl rfl)),f4(by omega)(by omega)(by omega)⟩)k2
  ·rename_i t r hr
   rw [hr] at k3 k4
   simp only [List.length_cons] at k3
   have hg:PartR(gotAt t id p):=gotAt_right h(k4 t(by simp))
   have hg':UpL id(gotAt t id p):=hu.got
   have hgb:findA(·.id)o.2.1(gotAt t id p).buffers=some b:=hb
   split
   ·refine rt_past(bufferUp_right hg(fun y hy hk=> ?_)fun t ht=>k4 t(by simp [ht]))hg'.up rfl(n7 p.next)
    rw [only hg.buffers hgb hy hk]; omega
   ·rename_i y hy
    obtain⟨m1,m2,-⟩:=bestW_mem hy
    have h3:=wakeN_le p.next y
    have hh:plainB y.held=true:=by
     have h5:=body_of(hg.proc m1).2.1
     unfold bodyB at h5
     simp only [Bool.and_eq_true] at h5
     exact h5.1.1.2
    have hb2:PartR(bufferUp o.2.1(r ++ [y.held])(gotAt t id p)):=bufferUp_right hg(fun z hz hk=>by rw [only hg.buffers hgb hz hk,List.length_append]; simp only [List.length_cons,List.length_nil]; omega)fun s hs=>by
     rcases List.mem_append.1 hs with hs | hs
     ·exact k4 s(by simp [hs])
     ·simp only [List.mem_cons,List.not_mem_nil,or_false] at hs; rw [hs]; exact hh
    exact rt_past(wakeAt_right hb2 m1(by omega)(.inl rfl)(by show p.next+1≤_; omega))(Up.wake(p:=bufferUp o.2.1(r ++ [y.held])(gotAt t id p))hg'.up m1(by omega)fun _=>rfl)rfl(by show p.next≤wakeN p.next y∧wakeN p.next y≤p.next+7; omega)
theorem boards_right(h:PartR p)(hu:UpL id p)(hn:p.next≤999999990)(ho:opOk o=true)(hk:o.1=10∨o.1=11∨o.1=12)(hnow:0≤now∧now≤1000000000):RtN p(boardsP o now id p):=by
 obtain⟨f0,f1,f2,f3,f4⟩:=op_fields ho
 unfold boardsP
 split
 ·exact rt_past h hu.up rfl(by omega)
 ·rename_i b hb
  obtain⟨k1,k2⟩:=found_board h hb
  split
  ·have h1:=wakeAll_right(on:=o.2.1)(f:=gotP o.2.2.2)(st:=7)(by decide)(.inr⟨_,f3,rfl⟩)(boardUp_right(k:=o.2.1)(b:=true)h f3(.inl rfl))hn
   have h2:(boardUp o.2.1 true o.2.2.2 p).next=p.next:=rfl
   exact rt_past h1.1(Up.wakeAll(p:=boardUp o.2.1 true o.2.2.2 p)hu.up(by decide)fun _=>rfl)rfl(by omega)
  ·split
   ·exact rt_past(boardUp_right h plain_no(.inr empty_no))hu.up rfl(n7 p.next)
   ·split
    ·exact rt_past(gotAt_right h k2)hu.got.up rfl(n7 p.next)
    ·exact rt_or(gotAt_right h k2)hu.got rfl(by omega)hnow f2(.inr⟨.inr(.inr(.inr rfl)),f4(by omega)(by omega)(by omega)⟩)k1
theorem write_right(h:PartR p)(hu:UpL id p)(ho:opOk o=true):RtN p(writeP o id p):=by
 obtain⟨f0,f1,f2,f3,f4⟩:=op_fields ho
 unfold writeP
 split
 ·exact rt_past h hu.up rfl(by omega)
 ·rename_i q hq
  obtain⟨k1,k2,k3⟩:=found_port h hq
  split
  ·exact rt_past h hu.up rfl(by omega)
  ·split
   ·refine rt_past(portUp_right h(fun y hy hk=> ?_)fun t ht=> ?_)hu.up rfl(n7 p.next)
    ·rw [only h.ports hq hy hk]; exact k1
    ·simp only [List.mem_cons,List.not_mem_nil,or_false] at ht; rw [ht]; exact f3
   ·split
    ·exact rt_past h hu.up rfl(by omega)
    ·refine rt_past(portUp_right h(fun y hy hk=> ?_)fun t ht=> ?_)hu.up rfl(n7 p.next)
     ·rw [only h.ports hq hy hk,List.length_append]; simp only [List.length_cons,List.length_nil]; omega
     ·rcases List.mem_append.1 ht with ht | ht
      ·exact k3 t ht
      ·simp only [List.mem_cons,List.not_mem_nil,or_false] at ht; rw [ht]; exact f3
theorem fetch_right(h:PartR p)(hu:UpL id p):RtN p(fetchP o id p):=by
 unfold fetchP
 split
 ·exact rt_past h hu.up rfl(by omega)
 ·rename_i q hq
  obtain⟨k1,k2,k3⟩:=found_port h hq
  split
  ·exact rt_past h hu.up rfl(by omega)
  ·split
   ·exact rt_past(gotAt_right h plain_no)hu.got.up rfl(n7 p.next)
   ·rename_i t r hr
    rw [hr] at k2 k3
    simp only [List.length_cons] at k2
    have hg:PartR(gotAt t id p):=gotAt_right h(k3 t(by simp))
    have hgb:findA(·.id)o.2.1(gotAt t id p).ports=some q:=hq
    split
    ·refine rt_past(portUp_right hg(fun y hy hk=> ?_)fun t ht=>k3 t(by simp [ht]))hu.got.up rfl(n7 p.next)
     rw [only hg.ports hgb hy hk]; omega
    ·exact rt_past hg hu.got.up rfl(n7 p.next)
theorem start_right(h:PartR p)(hu:UpL id p)(hn:p.next≤999999990):RtN p(startP o id p):=by
 have hnx:=inB_iff.1 h.next
 unfold startP
 split
 ·exact rt_past h hu.up rfl(by omega)
 ·rename_i y hy
  split
  ·rename_i h0
   obtain⟨m1,m2⟩:=findA_mem hy
   have hne: ¬ o.2.1=id:=fun e=>by have:=hu.up y m1(by omega); omega
   refine rt_past(h.turn(nx:=p.next+1)(f:=fun y=> { y with state:=1,since:=p.next })(fun _=>rfl)⟨by omega,by omega⟩fun z hz hi=> ?_)(hu.up.other hne fun _=>rfl)rfl(by show p.next≤p.next+1∧p.next+1≤p.next+7; omega)
   have e:=only h.procs hy hz hi
   subst e
   obtain⟨-,q1,q2,q3⟩:=h.proc hz
   have q4:=body_of q1
   rw [procB_is,Bool.and_eq_true] at q1
   have q5:=q1.2
   unfold stateB at q5
   rw [if_pos h0] at q5
   simp only [Bool.and_eq_true,decide_eq_true_eq] at q5
   obtain⟨⟨⟨⟨⟨a1,a2⟩,a3⟩,a4⟩,a5⟩,a6⟩:=q5
   have q6:progL z.prog=true:=by
    unfold bodyB at q4
    simp only [Bool.and_eq_true] at q4
    exact q4.1.1.1.2
   refine⟨?_,?_,rfl,.inr(.inr rfl)⟩
   ·rw [procB_is,Bool.and_eq_true]
    refine⟨q4,ready_state q6 rfl⟨by show 0≤z.pc; omega,?_⟩a2 a3 a4 a6⟩
    have:=prog_len q6
    show z.pc < z.prog.length
    omega
   ·unfold turnB
    rw [Bool.or_eq_true]
    exact .inr(inB_true(by show 1≤p.next; omega)(by show p.next≤p.next+1 - 1; omega))
  ·exact rt_past h hu.up rfl(by omega)
theorem restAt_right(h:PartR p) {k:Int} :PartR(restAt k p):=by
 have hnx:=inB_iff.1 h.next
 refine h.turn(nx:=p.next)(f:=restP)(fun _=>rfl)⟨Int.le_refl _,hnx.2⟩fun z hz hi=> ?_
 exact⟨rest_right(body_of(h.proc hz).2.1),rfl,rfl,.inr(.inl rfl)⟩
theorem stop_right(h:PartR p)(hu:UpL id p):RtN p(stopP o id p):=by
 unfold stopP
 split
 ·exact rt_past h hu.up rfl(by omega)
 ·split
  ·exact rt_past h hu.up rfl(by omega)
  ·split
   ·exact⟨restAt_right h,n7 p.next⟩
   ·rename_i hne
    exact rt_past(restAt_right h)(hu.up.other hne fun _=>rfl)rfl(n7 p.next)
end
theorem ite_cases {P:PartP→Prop} {c:Prop} [Decidable c] {a b:PartP} (h1:c→P a)(h2: ¬ c→P b):P(if c then a else b):=by
 split
 ·exact h1 ‹_›
 ·exact h2 ‹_›
theorem op_right {p:PartP} {x:ProcP} {now:Int} (h:PartR p)(hx:x∈p.procs)(hs:x.state=1)(hn:p.next≤999999990)(hnow:0≤now∧now≤1000000000):opOk(opAt x)=true∧RtN p(opP now x(opAt x)p):=by
 obtain⟨-,k1,k2,k3⟩:=h.proc hx
 have hnx:=inB_iff.1 h.next
 have hop:=op_of_state k1(by rw [hs]; decide)
 have hb:=body_of k1
 have hpl:progL x.prog=true:=by
  unfold bodyB at hb
  simp only [Bool.and_eq_true] at hb
  exact hb.1.1.1.2
 have hlt:x.pc.toNat < x.prog.length:=by omega
 have hoa:opAt x=x.prog[x.pc.toNat] :=by unfold opAt; rw [List.getElem?_eq_getElem hlt]; rfl
 have ho:opOk(opAt x)=true:=by rw [hoa]; exact prog_op hpl(List.getElem?_eq_getElem hlt)
 refine⟨ho,?_⟩
 have hst:hasOpB x=true∧leftB x=true∧x.wake=0∧x.on=0∧emptyB x.held=true:=by
  rw [procB_is,Bool.and_eq_true] at k1
  have h3:=k1.2
  unfold stateB at h3
  rw [if_neg(by omega),if_pos hs] at h3
  simp only [Bool.and_eq_true,decide_eq_true_eq] at h3
  exact⟨h3.1.1.1.1,h3.1.1.1.2,h3.1.1.2,h3.1.2,h3.2⟩
 have hone: ∀ y∈p.procs,y.id=x.id→y=x:=fun y hy e=>by
  have h5:=h.rise
  rw [List.pairwise_iff_getElem] at h5
  obtain⟨i,hi1,rfl⟩:=List.mem_iff_getElem.1 hy
  obtain⟨j,hj1,rfl⟩:=List.mem_iff_getElem.1 hx
  rcases Nat.lt_trichotomy i j with hlt | heq | hgt
  ·have:=h5 i j hi1 hj1 hlt; omega
  ·subst heq; rfl
  ·have:=h5 j i hj1 hi1 hgt; omega
 have hup:Up x.id p:=fun y hy e=>by rw [hone y hy e]; exact hs
 obtain⟨f0,f1,f2,f3,f4⟩:=op_fields ho
 have hl: ¬ (opAt x).1=1→UpL x.id p:=fun hk y hy e=>by
  rw [hone y hy e]
  refine⟨hs,?_⟩
  have h4:=hst.2.1
  unfold leftB at h4
  rw [if_neg hk] at h4
  exact of_decide_eq_true h4
 unfold opP
 refine ite_cases(P:=RtN p)(fun hk=> ?_)(fun hk1=> ?_)
 ·have h4:=hst.2.1
  unfold leftB at h4
  rw [if_pos hk] at h4
  simp only [Bool.and_eq_true,decide_eq_true_eq] at h4
  have hN:=f1(by omega)
  unfold runAt
  refine ite_cases(P:=RtN p)(fun _=> ?_)(fun hne=> ?_)
  ·exact rt_past h hup rfl(by omega)
  ·refine⟨h.turn(nx:=p.next)(f:=fun y=> { y with left:=(if x.left=0 then (opAt x).2.1 else x.left) - 1 })(fun _=>rfl)⟨Int.le_refl _,hnx.2⟩fun z hz hi=> ?_,n7 p.next⟩
   rw [hone z hz hi]
   refine⟨?_,k2,k3,.inl rfl⟩
   rw [procB_is,Bool.and_eq_true]
   refine⟨hb,?_⟩
   unfold stateB
   show (if x.state=0 then _ else if x.state=1 then hasOpB x && leftB { x with left:=(if x.left=0 then (opAt x).2.1 else x.left) - 1 } && decide(x.wake=0) && decide(x.on=0) && emptyB x.held else _)=true
   have h5:leftB { x with left:=(if x.left=0 then (opAt x).2.1 else x.left) - 1 } =true:=by
    unfold leftB
    show (if (opAt x).1=1 then decide(0≤(if x.left=0 then (opAt x).2.1 else x.left) - 1) && decide((if x.left=0 then (opAt x).2.1 else x.left) - 1 < (opAt x).2.1)else _)=true
    rw [if_pos hk]
    simp only [Bool.and_eq_true,decide_eq_true_eq]
    split <;> omega
   rw [if_neg(by omega),if_pos hs,h5,hst.1,hst.2.2.1,hst.2.2.2.1,hst.2.2.2.2]; rfl
 ·have hu:=hl hk1
  refine ite_cases(P:=RtN p)(fun hk=> ?_)(fun _=> ?_)
  ·have hN:=f1(by omega)
   exact⟨block_right h hu(by omega)(.inl⟨rfl,rfl,empty_no,inB_true(by omega)(by omega)⟩),by show p.next≤p.next+1; omega,by show p.next+1≤_; omega⟩
  ·refine ite_cases(P:=RtN p)(fun hk=> ?_)(fun _=> ?_)
   ·exact wait_right h hu hn ho hk hnow
   ·refine ite_cases(P:=RtN p)(fun hk=> ?_)(fun _=> ?_)
    ·clear hk; exact signal_right h hu hn
    ·refine ite_cases(P:=RtN p)(fun hk=> ?_)(fun _=> ?_)
     ·exact events_right h hu hn ho hk hnow
     ·refine ite_cases(P:=RtN p)(fun hk=> ?_)(fun _=> ?_)
      ·exact send_right h hu hn ho hnow
      ·refine ite_cases(P:=RtN p)(fun hk=> ?_)(fun _=> ?_)
       ·exact take_right h hu hn ho hk hnow
       ·refine ite_cases(P:=RtN p)(fun hk=> ?_)(fun _=> ?_)
        ·exact boards_right h hu hn ho hk hnow
        ·refine ite_cases(P:=RtN p)(fun hk=> ?_)(fun _=> ?_)
         ·exact write_right h hu ho
         ·refine ite_cases(P:=RtN p)(fun hk=> ?_)(fun _=> ?_)
          ·exact fetch_right h hu
          ·refine ite_cases(P:=RtN p)(fun hk=> ?_)(fun _=> ?_)
           ·exact start_right h hu hn
           ·refine ite_cases(P:=RtN p)(fun hk=> ?_)(fun _=> ?_)
            ·exact stop_right h hu
            ·refine⟨h.turn(nx:=p.next)(f:=fun y=> { y with pc:=0 })(fun _=>rfl)⟨Int.le_refl _,hnx.2⟩fun z hz hi=> ?_,n7 p.next⟩
             rw [hone z hz hi]
             have h5:=hu x hx rfl
             have h6:=prog_len hpl
             refine⟨?_,k2,k3,.inl rfl⟩
             rw [procB_is,Bool.and_eq_true]
             exact⟨hb,ready_state(x:= { x with pc:=0 })hpl hs⟨Int.le_refl _,by show (0:Int) < x.prog.length; omega⟩h5.2 hst.2.2.1 hst.2.2.2.1 hst.2.2.2.2⟩
theorem tick_right {p:PartP} {now:Int} (h:PartR p)(hn:p.next≤999999980)(hnow:0≤now∧now≤1000000000):PartR(tickL now p)∧p.next≤(tickL now p).next∧(tickL now p).next≤p.next+13:=by
 obtain⟨h1,h2,h3⟩:=wokenL_right(now:=now)h(by omega)
 unfold tickL
 split
 ·exact⟨h1,h2,by omega⟩
 ·rename_i x hx
  obtain⟨m1,m2,-⟩:=bestW_mem hx
  obtain⟨-,h4,h5,h6⟩:=op_right(now:=now)h1 m1 m2(by omega)hnow
  exact⟨h4,by omega,by omega⟩
end Go.Proofs.YtkbcplnlehdjfaaGreat
