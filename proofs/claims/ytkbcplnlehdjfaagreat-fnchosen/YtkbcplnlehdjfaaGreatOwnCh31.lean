/- What the proof leans on, part 31: WithProcS, WithBufferS. -/
import Derived.Test.YtkbcplnlehdjfaaGreatOwnCh20
import Derived.Test.YtkbcplnlehdjfaaGreatOwnCh26
import Derived.Test.YtkbcplnlehdjfaaGreatOwnCh27
import Derived.Test.YtkbcplnlehdjfaaGreatOwnCh28
set_option maxRecDepth 100000
set_option maxHeartbeats 8000000

namespace Go.Proofs.YtkbcplnlehdjfaaGreat
open Go.RowKit Go.Maps
attribute [local go_sem ↓] Go.wp_at_zero Go.wp_at_succ
structure ListJ {α:Type} (K:Kind α)(T:TypeId)(W w:World)(acc:List α)(a:Option Addr)(c:Nat):Prop where
 own:w.ownsRow W.heap.size T K.n(.slice a acc.length c)acc.length(K.flat acc)
 bel:Below W.heap.size W w
theorem ListJ.start {α:Type} {K:Kind α} {T:TypeId} {W:World} :ListJ K T W(W.alloc(.cells #[] T)) [] (some⟨W.heap.size,0,none⟩)0:=⟨own_empty(heap_alloc_new _ _)(Nat.le_refl _),(Below.refl _ _).alloc(Nat.le_refl _)_⟩
theorem ListJ.add {α:Type} {K:Kind α} {T:TypeId} {W w:World} {acc:List α} {a:Option Addr} {c:Nat} (h:ListJ K T W w acc a c)(t:TypeId)(bytes:Nat) {z0:Value} {P:Program} (ht:P.underlying t=some(.slice T))
  (hi:(P.info? T).map(fun i=>(i.zero,i.size,i.bytes))=some(some z0,K.n,bytes))(hz:z0.cells.size=K.n)(hn:0 < K.n)(hby:bytes≤1000)(z:α)(zs:Array Value)(hzs:zs.toList=K.vals z)(h1: ∀ u∈K.vals z,u.oneCell'=true)(hl:acc.length≤2000000):
  ∃ a' c' w',(Builtin.append_ #[t,t] t #[.slice a acc.length c,.slice(some⟨w.heap.size,0,none⟩)1 1]).run P(w.alloc(.cells zs T))= .ok(.slice a'(acc.length+1)c')w'∧ListJ K T W w'(acc ++ [z])a' c':=by
 obtain⟨i,hi,e⟩:=Option.map_eq_some_iff.1 hi
 simp only [Prod.mk.injEq] at e
 have b1:Below w.heap.size w(w.alloc(.cells zs T)):=(Below.refl _ _).alloc(Nat.le_refl _)_
 have b2:=h.bel.trans(b1.mono h.bel.size)
 obtain⟨a',c',w',hr,ho,hg,-⟩:=append_more(P:=P)(w.alloc(.cells zs T))W.heap.size t t T i z0 K.n bytes ht hi e.1 e.2.1 e.2.2 hz hn a acc.length c _(own_below h.own b1)(some⟨w.heap.size,0,none⟩)1 1(K.vals z)(by rw [← hzs]; exact src_block(heap_alloc_new _ _))(by rw [K.len,Nat.one_mul])h1(by omega)hby b2.size
 refine⟨a',c',w',hr,⟨?_,b2.grown hg b2.size fun k e=>(own_lt h.own(own_block e)).1⟩⟩
 have e1:(acc ++ [z]).length=acc.length+1:=by simp
 rw [e1,K.flat_append]
 have e2:K.flat [z] =K.vals z:=by simp [Kind.flat]
 rw [e2]
 exact ho
theorem putProc {p q:PartD} {w W W2 w9:World} {o b0 n9 c9:Nat} {x:ProcD} {xp:ProcP} {acc:List ProcD} {a9:Option Addr} (hB:PartBox W2 w.heap.size p∧PartOwn W2 b0 p∧Below w.heap.size w W2∧W2.heap[w.heap.size+1]? =some(.cells zero8 32(0,0)))
  (hQ:PartBox W2 o q∧PartOwn W2 W.heap.size q∧q.pure=p.pure∧(∀ g∈q.blocks,g < o)∧W.heap.size≤o∧w.heap.size+1 < W.heap.size∧o < W2.heap.size)(hpb: ∀ g∈p.blocks,g < w.heap.size)(hl:ListJ procK 43 W2 w9 acc a9 c9)(ha:acc=insG(fun y:ProcD=>y.id)x q.procs)(hn:acc.length=n9)(hx:x.toProcP=xp)
  (hk: ∀ g,procN.kid x=some g→g∉q.blocks∧g≠o)(hm:procN.Mine W2 W.heap.size x):
  (PartBox(w9.setCell⟨o,2,none⟩(.slice a9 n9 c9))w.heap.size p∧PartOwn(w9.setCell⟨o,2,none⟩(.slice a9 n9 c9))b0 p∧Below w.heap.size w(w9.setCell⟨o,2,none⟩(.slice a9 n9 c9))∧(w9.setCell⟨o,2,none⟩(.slice a9 n9 c9)).heap[w.heap.size+1]? =some(.cells zero8 32(0,0)))∧PartBox(w9.setCell⟨o,2,none⟩(.slice a9 n9 c9))o({ q with procs:=acc,procA:=a9,procC:=c9 } :PartD)∧PartOwn(w9.setCell⟨o,2,none⟩(.slice a9 n9 c9))W.heap.size({ q with procs:=acc,procA:=a9,procC:=c9 } :PartD)∧({ q with procs:=acc,procA:=a9,procC:=c9 } :PartD).pure= { p.pure with procs:=insG(·.id)xp p.pure.procs } :=by
 have hb:=hl.bel
 have hqb:=hQ.2.2.2.1
 have sm: ∀ g,g < W2.heap.size→g≠o→(w9.setCell⟨o,2,none⟩(.slice a9 n9 c9)).heap[g]? =W2.heap[g]? :=fun g hg hne=>(setCell_other hne).trans(hb.block _ hg)
 have hbw:Below w.heap.size w(w9.setCell⟨o,2,none⟩(.slice a9 n9 c9)):=below_setCell(hB.2.2.1.trans(hb.mono(by omega)))(by omega)
 have hkid: ∀ g∈acc.filterMap procN.kid,g∈q.procs.filterMap procN.kid∨procN.kid x=some g:=fun g hg=>by
  obtain⟨z,hz,he⟩:=List.mem_filterMap.1 hg
  rw [ha] at hz
  rcases insG_mem.1 hz with rfl | hz
  ·exact .inr he
  ·exact .inl(List.mem_filterMap.2⟨z,hz,he⟩)
 have hin: ∀ g∈q.procs.filterMap procN.kid,g∈q.blocks:=fun g hg=>by simp only [PartD.blocks,List.mem_append]; simp [hg]
 refine⟨⟨(sm _(by omega)(by omega)).trans hB.1,hB.2.1.same fun g hg=>sm g(by have:=hpb g hg; omega)(by have:=hpb g hg; omega),hbw,(sm _(by omega)(by omega)).trans hB.2.2.2⟩,?_,?_,?_⟩
 ·have h5:=setCell_block(i:=2)(v:= .slice a9 n9 c9)((hb.block _ hQ.2.2.2.2.2.2).trans hQ.1)
  unfold PartBox
  simp only [hn]
  exact h5
 ·refine hQ.2.1.newProc(B:=W2.heap.size)(by omega)(fun g hg=>by have:=hqb g hg; omega)(fun g hg=>sm g(by have:=hqb g hg; omega)(by have:=hqb g hg; omega)) ?_(fun z hz=> ?_) ?_(fun g hg=> ?_)(fun g hg=> ?_)
  ·exact own_same hl.own fun g hg=>setCell_other(by have:=(own_lt hl.own hg).1; omega)
  ·rw [ha] at hz
   rcases insG_mem.1 hz with rfl | hz
   ·exact hm.same fun g hg=>sm g(hm.lt hg).2(hk g hg).2
   ·refine(hQ.2.1.mineP z hz).same fun g hg=> ?_
    have h5:=hqb g(hin g(List.mem_filterMap.2⟨z,hz,hg⟩))
    exact sm g(by omega)(by omega)
  ·have h5:=hQ.2.1.nodup
   simp only [PartD.blocks,List.nodup_append] at h5
   have h6:(q.procs.filterMap procN.kid).Nodup:=h5.2.1.1
   have hp:(acc.filterMap procN.kid).Perm((x :: q.procs).filterMap procN.kid):=by rw [ha]; exact(insG_perm x _).filterMap _
   refine hp.nodup_iff.2 ?_
   cases he:procN.kid x with
   | none=>rw [List.filterMap_cons_none he]; exact h6
   | some g=>rw [List.filterMap_cons_some he]; exact List.nodup_cons.2⟨fun h7=>(hk g he).1(hin g h7),h6⟩
  ·rcases hkid g hg with h5 | h5
   ·exact .inl h5
   ·exact .inr(hk g h5).1
  ·rcases hkid g hg with h5 | h5
   ·have:=hqb g(hin g h5); omega
   ·exact(hm.lt h5).2
 ·show ({ q.pure with procs:=acc.map(·.toProcP) } :PartP)=_
  have e1:q.procs.map(·.toProcP)=p.pure.procs:=congrArg PartP.procs hQ.2.2.1
  rw [ha,insG_map(num':=(·.id))(fun y:ProcD=>y.toProcP)(fun _=>rfl),e1,hx,hQ.2.2.1]
theorem specWithProc_any(p:PartD)(id prio:Int)(pa:Option Addr)(ops:List OpD)(pc:Nat)(w:World)(b0:Nat)(hwf:(Lit.int .i64 id).wf=true)(hop:ops.length≤1048576∧ ∀ o∈ops,o.2.2.2.size≤1048576)(hrow:Row w pa(opK.flat ops))(hsm:p.pure.Small)(h:PartOwn w b0 p):
  Calls Tryz.prog 28 #[.agg p.cells,.int .i64 id,.int .i64 prio,.slice pa ops.length pc] w fun e w'=>TurnRes w(withR p.pure { p.pure with procs:=insG(·.id)(newP id prio ops)p.pure.procs })e w':=by
 have HB:Hid(PartBox((w.alloc(.cells p.cells 32)).alloc(.cells zero8 32))w.heap.size p∧PartOwn((w.alloc(.cells p.cells 32)).alloc(.cells zero8 32))b0 p∧Below w.heap.size w((w.alloc(.cells p.cells 32)).alloc(.cells zero8 32))∧((w.alloc(.cells p.cells 32)).alloc(.cells zero8 32)).heap[w.heap.size+1]? =some(.cells zero8 32(0,0))):=by
  have b1:Below w.heap.size w((w.alloc(.cells p.cells 32)).alloc(.cells zero8 32)):=alloc2_below _ _ _
  exact⟨(alloc2_facts _ _ _).1,h.below b1,b1,(alloc2_facts _ _ _).2⟩
 have HFT:Hid(p.Fit∧(∀ x∈p.procs,x.Short)∧p.pure.Small∧(Lit.int .i64 id).wf=true):=⟨small_fit hsm,fun x hx=>(small_proc hsm hx).1,hsm,hwf⟩
 have HOP:Hid((ops.length≤1048576∧ ∀ o∈ops,o.2.2.2.size≤1048576)∧Row w pa(opK.flat ops)):=⟨hop,hrow⟩
 have hpl:p.procs.length≤1048576:=HFT.out.1.short.procs
 have hpb0: ∀ g∈p.blocks,g < w.heap.size:=fun g hg=>(h.lt g hg).2
 clear h hsm hwf hop hrow
 obtain⟨m0,m1,m2,m3,m4,m5,m6,m7⟩:=HB.out.1.cells
 unfold PartD.cells at *
 go_enter Tryz.func28,Tryz.ntmps28
 go_wp2_with fail
 generalize (w.alloc(.cells p.row 32)).alloc(.cells zero8 32)=W at *
 clear m0 m1 m2 m3 m4 m5 m6 m7
 refine(l3Copy_any p W HFT.out.1 HFT.out.2.1 HB.out.2.1.at).mono ?_
 rintro e W1⟨q,rfl,hown,hpu,hb1⟩
 have hb2:Below W1.heap.size W1(W1.alloc(.cells q.cells 32)):=(Below.refl _ _).alloc(Nat.le_refl _)_
 have hlt:w.heap.size+1 < W.heap.size:=(Array.getElem?_eq_some_iff.1 HB.out.2.2.2).1
 have hq1: ∀ g∈q.blocks,g < W1.heap.size:=fun g hg=>(hown.lt g hg).2
 have hql:q.procs.length≤1048576:=by have e1:=congrArg(fun z=>z.procs.length)hpu; simp only [PartD.pure,List.length_map] at e1; omega
 have hs2:(W1.alloc(.cells q.cells 32)).heap.size=W1.heap.size+1:=by simp
 have hb3:Below(W1.heap.size+1)(W1.alloc(.cells q.cells 32))((W1.alloc(.cells q.cells 32)).alloc(.cells #[] 134)):=by rw [← hs2]; exact(Below.refl _ _).alloc(Nat.le_refl _)_
 have hbW:Below w.heap.size w((W1.alloc(.cells q.cells 32)).alloc(.cells #[] 134)):=HB.out.2.2.1.trans((hb1.trans((hb2.trans(hb3.mono(by omega))).mono hb1.size)).mono HB.out.2.2.1.size)
 obtain⟨xa,xc,w4,hap,ho4,hg4,-⟩:=ontoOp((W1.alloc(.cells q.cells 32)).alloc(.cells #[] 134))(W1.heap.size+1)(W1.heap.size+1)(by have h5:=heap_alloc_new(W1.alloc(.cells q.cells 32))(.cells #[] 134); rw [hs2] at h5; exact h5)(Nat.le_refl _)pa ops pc(HOP.out.2.below hbW)HOP.out.1.1(by have:=hb3.size; omega)
 have hb4:Below(W1.heap.size+1)(W1.alloc(.cells q.cells 32))w4:=hb3.grown hg4(by have:=hb3.size; omega)fun c e=>by cases e; exact Nat.le_refl _
 have hsz4:W1.heap.size+1≤w4.heap.size:=by have:=hb4.size; omega
 have hb5:Below(W1.heap.size+1)(W1.alloc(.cells q.cells 32))(w4.alloc(.cells #[.int .i64 id,.int .i64 prio,.slice xa ops.length xc,.int .i64 0,.int .i64 0,.int .i64 0,.int .i64 0,.int .i64 0,.string⟨#[]⟩,.string⟨#[]⟩,.int .i64 0,.int .i64 0] 43)):=hb4.alloc hsz4 _
 have hb6:Below W1.heap.size W1(w4.alloc(.cells #[.int .i64 id,.int .i64 prio,.slice xa ops.length xc,.int .i64 0,.int .i64 0,.int .i64 0,.int .i64 0,.int .i64 0,.string⟨#[]⟩,.string⟨#[]⟩,.int .i64 0,.int .i64 0] 43)):=hb2.trans(hb5.mono(by omega))
 have hb7:Below W.heap.size W(w4.alloc(.cells #[.int .i64 id,.int .i64 prio,.slice xa ops.length xc,.int .i64 0,.int .i64 0,.int .i64 0,.int .i64 0,.int .i64 0,.string⟨#[]⟩,.string⟨#[]⟩,.int .i64 0,.int .i64 0] 43)):=hb1.trans(hb6.mono hb1.size)
 have HX:Hid((w4.alloc(.cells #[.int .i64 id,.int .i64 prio,.slice xa ops.length xc,.int .i64 0,.int .i64 0,.int .i64 0,.int .i64 0,.int .i64 0,.string⟨#[]⟩,.string⟨#[]⟩,.int .i64 0,.int .i64 0] 43)).heap[w4.heap.size]? =some(.cells #[.int .i64 id,.int .i64 prio,.slice xa ops.length xc,.int .i64 0,.int .i64 0,.int .i64 0,.int .i64 0,.int .i64 0,.string⟨#[]⟩,.string⟨#[]⟩,.int .i64 0,.int .i64 0] 43(0,0))∧procN.Mine(w4.alloc(.cells #[.int .i64 id,.int .i64 prio,.slice xa ops.length xc,.int .i64 0,.int .i64 0,.int .i64 0,.int .i64 0,.int .i64 0,.string⟨#[]⟩,.string⟨#[]⟩,.int .i64 0,.int .i64 0] 43))(W1.heap.size+1)(⟨newP id prio ops,xa,xc⟩:ProcD)∧w4.heap.size < (w4.alloc(.cells #[.int .i64 id,.int .i64 prio,.slice xa ops.length xc,.int .i64 0,.int .i64 0,.int .i64 0,.int .i64 0,.int .i64 0,.string⟨#[]⟩,.string⟨#[]⟩,.int .i64 0,.int .i64 0] 43)).heap.size):=⟨heap_alloc_new _ _,own_below ho4((Below.refl _ _).alloc(Nat.le_refl _)_),by simp⟩
 have HQ:Hid(PartBox(w4.alloc(.cells #[.int .i64 id,.int .i64 prio,.slice xa ops.length xc,.int .i64 0,.int .i64 0,.int .i64 0,.int .i64 0,.int .i64 0,.string⟨#[]⟩,.string⟨#[]⟩,.int .i64 0,.int .i64 0] 43))W1.heap.size q∧PartOwn(w4.alloc(.cells #[.int .i64 id,.int .i64 prio,.slice xa ops.length xc,.int .i64 0,.int .i64 0,.int .i64 0,.int .i64 0,.int .i64 0,.string⟨#[]⟩,.string⟨#[]⟩,.int .i64 0,.int .i64 0] 43))W.heap.size q∧q.pure=p.pure∧(∀ g∈q.blocks,g < W1.heap.size)∧W.heap.size≤W1.heap.size∧w.heap.size+1 < W.heap.size∧W1.heap.size < (w4.alloc(.cells #[.int .i64 id,.int .i64 prio,.slice xa ops.length xc,.int .i64 0,.int .i64 0,.int .i64 0,.int .i64 0,.int .i64 0,.string⟨#[]⟩,.string⟨#[]⟩,.int .i64 0,.int .i64 0] 43)).heap.size):=⟨(hb5.block _(by omega)).trans(heap_alloc_new _ _),hown.below hb6,hpu,hq1,hb1.size,hlt,by have:=hb5.size; omega⟩
 replace HB:Hid(PartBox(w4.alloc(.cells #[.int .i64 id,.int .i64 prio,.slice xa ops.length xc,.int .i64 0,.int .i64 0,.int .i64 0,.int .i64 0,.int .i64 0,.string⟨#[]⟩,.string⟨#[]⟩,.int .i64 0,.int .i64 0] 43))w.heap.size p∧PartOwn(w4.alloc(.cells #[.int .i64 id,.int .i64 prio,.slice xa ops.length xc,.int .i64 0,.int .i64 0,.int .i64 0,.int .i64 0,.int .i64 0,.string⟨#[]⟩,.string⟨#[]⟩,.int .i64 0,.int .i64 0] 43))b0 p∧Below w.heap.size w(w4.alloc(.cells #[.int .i64 id,.int .i64 prio,.slice xa ops.length xc,.int .i64 0,.int .i64 0,.int .i64 0,.int .i64 0,.int .i64 0,.string⟨#[]⟩,.string⟨#[]⟩,.int .i64 0,.int .i64 0] 43))∧(w4.alloc(.cells #[.int .i64 id,.int .i64 prio,.slice xa ops.length xc,.int .i64 0,.int .i64 0,.int .i64 0,.int .i64 0,.int .i64 0,.string⟨#[]⟩,.string⟨#[]⟩,.int .i64 0,.int .i64 0] 43)).heap[w.heap.size+1]? =some(.cells zero8 32(0,0))):=⟨HB.out.1.below hb7,HB.out.2.1.below hb7,HB.out.2.2.1.trans(hb7.mono HB.out.2.2.1.size),(hb7.block _ hlt).trans HB.out.2.2.2⟩
 have HPB:Hid(∀ g∈p.blocks,g < w.heap.size):=fun g hg=>hpb0 g hg
 clear hown hpu hb1 hb2 hb3 hb4 hb5 hb6 hb7 hbW hq1 hlt hpb0 ho4 hg4 hs2 hsz4
 have HL0:Hid(ListJ procK 43(w4.alloc(.cells #[.int .i64 id,.int .i64 prio,.slice xa ops.length xc,.int .i64 0,.int .i64 0,.int .i64 0,.int .i64 0,.int .i64 0,.string⟨#[]⟩,.string⟨#[]⟩,.int .i64 0,.int .i64 0] 43))((w4.alloc(.cells #[.int .i64 id,.int .i64 prio,.slice xa ops.length xc,.int .i64 0,.int .i64 0,.int .i64 0,.int .i64 0,.int .i64 0,.string⟨#[]⟩,.string⟨#[]⟩,.int .i64 0,.int .i64 0] 43)).alloc(.cells #[] 43)) [] (some⟨(w4.alloc(.cells #[.int .i64 id,.int .i64 prio,.slice xa ops.length xc,.int .i64 0,.int .i64 0,.int .i64 0,.int .i64 0,.int .i64 0,.string⟨#[]⟩,.string⟨#[]⟩,.int .i64 0,.int .i64 0] 43)).heap.size,0,none⟩)0):=ListJ.start
 have hoW:(w4.alloc(.cells #[.int .i64 id,.int .i64 prio,.slice xa ops.length xc,.int .i64 0,.int .i64 0,.int .i64 0,.int .i64 0,.int .i64 0,.string⟨#[]⟩,.string⟨#[]⟩,.int .i64 0,.int .i64 0] 43)).heap.size=w4.heap.size+1:=by simp
 have HW:Hid((w4.alloc(.cells #[.int .i64 id,.int .i64 prio,.slice xa ops.length xc,.int .i64 0,.int .i64 0,.int .i64 0,.int .i64 0,.int .i64 0,.string⟨#[]⟩,.string⟨#[]⟩,.int .i64 0,.int .i64 0] 43)).heap.size=w4.heap.size+1):=hoW
 clear hoW
 unfold PartD.cells at *
 go_wp2_with (at_builtin; refine wpList_append_run _ rfl _ _ 37 rfl _ _ _ _ rfl rfl hap ?_; clear hap)
 generalize w4.alloc(.cells #[.int .i64 id,.int .i64 prio,.slice xa ops.length xc,.int .i64 0,.int .i64 0,.int .i64 0,.int .i64 0,.int .i64 0,.string⟨#[]⟩,.string⟨#[]⟩,.int .i64 0,.int .i64 0] 43)=W2 at *
 generalize W1.heap.size=o at *
 generalize w4.heap.size=xb at *
 go_loopw [12,13,14] (fun l d i wr=> ∃ (k:Nat)(dn:Bool)(acc:List ProcD)(a:Option Addr)(c:Nat),k≤q.procs.length∧i= .int .i64 k∧d= .bool dn∧l= .slice a acc.length c∧Hid(ListJ procK 43 W2 wr acc a c∧AccIs(fun y:ProcD=>y.id)(⟨newP id prio ops,xa,xc⟩:ProcD)q.procs k dn acc))(fun _ _ i _=>q.procs.length - (Go.RowKit.intOf i).toNat)
 case atStart=>exact⟨0,false,[],some⟨W2.heap.size,0,none⟩,0,Nat.zero_le _,rfl,rfl,by rw [HW.out]; rfl,⟨HL0.out,AccIs.start _ _⟩⟩
 case round=>
  obtain⟨k,dn,acc,a,c,hk,rfl,rfl,rfl,HA⟩:=hrel
  have i0:(0:Int)≤(k:Int):=by omega
  have hbr:=HA.out.1.bel
  have hal:=HA.out.2.le
  have mo:wr.cell? ⟨o,2,none⟩=some(.slice q.procA q.procs.length q.procC):=(HQ.out.1.below hbr).cells.2.2.1
  by_cases hlt:k < q.procs.length
  ·have i1:(k:Int) < (q.procs.length:Int):=by omega
   obtain⟨y,hy⟩: ∃ y,q.procs[k]? =some y:=⟨_,List.getElem?_eq_getElem hlt⟩
   have HY:Hid(q.procs[k]? =some y):=hy
   obtain⟨g,ha,hat⟩:=proc_at(HQ.out.2.1.below hbr).at.1 hy
   rw [ha] at mo
   obtain⟨d0,d1,d2,d3,d4,d5,d6,d7,d8,d9,d10,d11⟩:=hat
   have HG:Hid(q.procA=some⟨g,0,none⟩):=ha
   clear ha hy
   obtain⟨a5,c5,w5,hap,hl5⟩:=HA.out.1.add 25 128(P:=Tryz.prog)Tryz.underlying25 rinfProc rfl(by decide)(by decide)y y.row rfl one_proc(by omega)
   have HL5:Hid(ListJ procK 43 W2 w5(acc ++ [y])a5 c5):=hl5
   clear hl5
   cases dn
   rotate_left
   ·go_wp2_with (at_builtin; first | (refine wpList_append_run _ rfl _ _ 25 rfl _ _ _ _ rfl rfl hap ?_; clear hap))
    go_round
    case rel=>exact⟨k+1,true,acc ++ [y],a5,c5,by omega,by go_num,rfl,by simp,⟨HL5.out,HA.out.2.on HY.out⟩⟩
    case measure=>simp [Go.RowKit.intOf]; omega
   by_cases hc:id < y.id
   rotate_left
   ·have HC:Hid(¬ id < y.id):=hc
    go_wp2_with (at_builtin; first | (refine wpList_append_run _ rfl _ _ 25 rfl _ _ _ _ rfl rfl hap ?_; clear hap))
    go_round
    case rel=>exact⟨k+1,false,acc ++ [y],a5,c5,by omega,by go_num,rfl,by simp,⟨HL5.out,HA.out.2.past HY.out HC.out⟩⟩
    case measure=>simp [Go.RowKit.intOf]; omega
   clear hap HL5 a5 c5 w5
   have HC:Hid(id < y.id):=hc
   obtain⟨a5,c5,w5,hap,hl5⟩:=HA.out.1.add 25 128(P:=Tryz.prog)Tryz.underlying25 rinfProc rfl(by decide)(by decide)(⟨newP id prio ops,xa,xc⟩:ProcD) #[.int .i64 id,.int .i64 prio,.slice xa ops.length xc,.int .i64 0,.int .i64 0,.int .i64 0,.int .i64 0,.int .i64 0,.string⟨#[]⟩,.string⟨#[]⟩,.int .i64 0,.int .i64 0] rfl one_proc(by omega)
   obtain⟨a7,c7,w7,hap2,hl7⟩:=hl5.add 25 128(P:=Tryz.prog)Tryz.underlying25 rinfProc rfl(by decide)(by decide)y y.row rfl one_proc(by simp; omega)
   rw [List.length_append] at hap2
   simp only [List.length_cons,List.length_nil,Nat.zero_add] at hap2
   have HL7:Hid(ListJ procK 43 W2 w7(acc ++ [(⟨newP id prio ops,xa,xc⟩:ProcD)] ++ [y])a7 c7):=hl7
   have mo5:w5.cell? ⟨o,2,none⟩=some(.slice q.procA q.procs.length q.procC):=(HQ.out.1.below hl5.bel).cells.2.2.1
   obtain⟨g2,ha2,hat2⟩:=proc_at(HQ.out.2.1.below hl5.bel).at.1 HY.out
   rw [HG.out] at ha2 mo5
   cases ha2
   obtain⟨e0,e1,e2,e3,e4,e5,e6,e7,e8,e9,e10,e11⟩:=hat2
   obtain⟨x0,x1,x2,x3,x4,x5,x6,x7,x8,x9,x10,x11⟩:=proc_cells(x:=(⟨newP id prio ops,xa,xc⟩:ProcD))(X:=xb)(W:=wr)((hbr.block _ HX.out.2.2).trans HX.out.1)
   clear hl5 hl7
   go_wp2_with (at_builtin; first | (refine wpList_append_run _ rfl _ _ 25 rfl _ _ _ _ rfl rfl hap ?_; clear hap) | (refine wpList_append_run _ rfl _ _ 25 rfl _ _ _ _ rfl rfl hap2 ?_; clear hap2))
   go_round
   case rel=>exact⟨k+1,true,acc ++ [(⟨newP id prio ops,xa,xc⟩:ProcD)] ++ [y],a7,c7,by omega,by go_num,rfl,by simp,⟨HL7.out,HA.out.2.here HY.out HC.out⟩⟩
   case measure=>simp [Go.RowKit.intOf]; omega
  have i1: ¬ (k:Int) < (q.procs.length:Int):=by omega
  cases dn
  ·obtain⟨a9,c9,w9,hap,hl9⟩:=HA.out.1.add 25 128(P:=Tryz.prog)Tryz.underlying25 rinfProc rfl(by decide)(by decide)(⟨newP id prio ops,xa,xc⟩:ProcD) #[.int .i64 id,.int .i64 prio,.slice xa ops.length xc,.int .i64 0,.int .i64 0,.int .i64 0,.int .i64 0,.int .i64 0,.string⟨#[]⟩,.string⟨#[]⟩,.int .i64 0,.int .i64 0] rfl one_proc(by omega)
   have HR:Hid(ListJ procK 43 W2 w9(acc ++ [(⟨newP id prio ops,xa,xc⟩:ProcD)])a9 c9∧acc ++ [(⟨newP id prio ops,xa,xc⟩:ProcD)] =insG(fun y:ProcD=>y.id)(⟨newP id prio ops,xa,xc⟩:ProcD)q.procs∧(acc ++ [(⟨newP id prio ops,xa,xc⟩:ProcD)]).length=acc.length+1):=⟨hl9,HA.out.2.last hlt,by simp⟩
   obtain⟨x0,x1,x2,x3,x4,x5,x6,x7,x8,x9,x10,x11⟩:=proc_cells(x:=(⟨newP id prio ops,xa,xc⟩:ProcD))(X:=xb)(W:=wr)((hbr.block _ HX.out.2.2).trans HX.out.1)
   clear hl9
   have H10:Hid(_):=putProc HB.out HQ.out HPB.out HR.out.1 HR.out.2.1 HR.out.2.2 rfl(fun g hg=>by have h5:=(HX.out.2.1.lt hg).1; exact⟨fun h6=>by have:=HQ.out.2.2.2.1 g h6; omega,by omega⟩)(HX.out.2.1.low(by have:=HQ.out.2.2.2.2.1; omega))
   have hcall:=l3Checked_any p({ q with procs:=(acc ++ [(⟨newP id prio ops,xa,xc⟩:ProcD)]),procA:=a9,procC:=c9 } :PartD)(w9.setCell⟨o,2,none⟩(.slice a9(acc.length+1)c9))⟨HFT.out.1,HFT.out.2.1,H10.out.1.2.1.at⟩(fun hr=>by
    have h5:PartP.Small({ q with procs:=(acc ++ [(⟨newP id prio ops,xa,xc⟩:ProcD)]),procA:=a9,procC:=c9 } :PartD).pure:=by rw [H10.out.2.2.2]; exact insProc_small HFT.out.2.2.1 hr HOP.out.1 HFT.out.2.2.2
    exact⟨small_fit h5,fun x hx=>(small_proc h5 hx).1,H10.out.2.2.1.at⟩)
   obtain⟨m0,m1,m2,m3,m4,m5,m6,m7⟩:=H10.out.1.1.cells
   obtain⟨k0,k1,k2,k3,k4,k5,k6,k7⟩:=H10.out.2.1.cells
   obtain⟨⟨u,co⟩,fo⟩:(∃ u,w9.cell? ⟨o,2,none⟩=some u)∧w9.frozen? ⟨o,2,none⟩=false:=⟨⟨_,(HQ.out.1.below HR.out.1.bel).cells.2.2.1⟩,frozen_of_row _ _ _ _ _(HQ.out.1.below HR.out.1.bel)⟩
   unfold PartD.cells at hcall
   have hln:=HR.out.2.2
   simp only [hln] at hcall k0 k1 k2 k3 k4 k5 k6 k7
   clear hln
   go_wp2_with (at_builtin; first | (refine wpList_append_run _ rfl _ _ 25 rfl _ _ _ _ rfl rfl hap ?_; clear hap))
   refine hcall.mono ?_
   clear hcall m0 m1 m2 m3 m4 m5 m6 m7 k0 k1 k2 k3 k4 k5 k6 k7
   rintro e w11⟨hb11,hok⟩
   have hq:=HQ.out.2.2.2.2
   have HZ:Hid(Below w.heap.size w w11∧w11.heap[w.heap.size+1]? =some(.cells zero8 32(0,0))∧PartOwn w11 W.heap.size({ q with procs:=(acc ++ [(⟨newP id prio ops,xa,xc⟩:ProcD)]),procA:=a9,procC:=c9 } :PartD)∧w.heap.size+1 < W.heap.size):=⟨H10.out.1.2.2.1.trans(hb11.mono H10.out.1.2.2.1.size),(hb11.block _(Array.getElem?_eq_some_iff.1 H10.out.1.2.2.2).1).trans H10.out.1.2.2.2,H10.out.2.2.1.below hb11,hq.2.1⟩
   clear hb11 hq
   rw [H10.out.2.2.2] at hok
   rcases hok with ⟨hok,rfl⟩ | ⟨hok,rfl⟩
   ·have HN:Hid(withR p.pure { p.pure with procs:=insG(·.id)(newP id prio ops)p.pure.procs } =some { p.pure with procs:=insG(·.id)(newP id prio ops)p.pure.procs }):=withR_ok hok
    clear hok
    go_wp2_with (refine stP 8 66(w.heap.size+1) #[.int .i64 q.id,.int .i64 q.next,.slice a9(acc.length+1)c9,.slice q.semA q.sems.length q.semC,.slice q.eventA q.events.length q.eventC,.slice q.boardA q.boards.length q.boardC,.slice q.bufferA q.buffers.length q.bufferC,.slice q.portA q.ports.length q.portC] HZ.out.2.1 ?_)
    refine rtQ Tryz.results28(w.heap.size+1) #[.int .i64 q.id,.int .i64 q.next,.slice a9(acc.length+1)c9,.slice q.semA q.sems.length q.semC,.slice q.eventA q.events.length q.eventC,.slice q.boardA q.boards.length q.boardC,.slice q.bufferA q.buffers.length q.bufferC,.slice q.portA q.ports.length q.portC] (.bool true)HZ.out.2.1 ?_
    have hl:=HZ.out.2.2.2
    rw [HN.out]
    refine⟨({ q with procs:=(acc ++ [(⟨newP id prio ops,xa,xc⟩:ProcD)]),procA:=a9,procC:=c9 } :PartD),by unfold PartD.cells; simp only [HR.out.2.2]; rfl,(HZ.out.2.2.1.lower(by omega)).same fun g hg=>setRow_other _ _ _ _(by have:=(HZ.out.2.2.1.lt g hg).1; omega),H10.out.2.2.2,below_setRow HZ.out.1(by omega)_⟩
   ·have HN:Hid(withR p.pure { p.pure with procs:=insG(·.id)(newP id prio ops)p.pure.procs } =none):=withR_bad hok
    clear hok
    go_wp2_with (refine stP 8 66(w.heap.size+1)zero8 HZ.out.2.1 ?_)
    refine rtQ Tryz.results28(w.heap.size+1)zero8(.bool false)HZ.out.2.1 ?_
    exact turnRes_no HN.out(below_setRow HZ.out.1(by omega)_)
  ·have HR:Hid(ListJ procK 43 W2 wr acc a c∧acc=insG(fun y:ProcD=>y.id)(⟨newP id prio ops,xa,xc⟩:ProcD)q.procs∧acc.length=acc.length):=⟨HA.out.1,HA.out.2.done hlt,rfl⟩
   have H10:Hid(_):=putProc HB.out HQ.out HPB.out HR.out.1 HR.out.2.1 HR.out.2.2 rfl(fun g hg=>by have h5:=(HX.out.2.1.lt hg).1; exact⟨fun h6=>by have:=HQ.out.2.2.2.1 g h6; omega,by omega⟩)(HX.out.2.1.low(by have:=HQ.out.2.2.2.2.1; omega))
   have hcall:=l3Checked_any p({ q with procs:=acc,procA:=a,procC:=c } :PartD)(wr.setCell⟨o,2,none⟩(.slice a acc.length c))⟨HFT.out.1,HFT.out.2.1,H10.out.1.2.1.at⟩(fun hr=>by
    have h5:PartP.Small({ q with procs:=acc,procA:=a,procC:=c } :PartD).pure:=by rw [H10.out.2.2.2]; exact insProc_small HFT.out.2.2.1 hr HOP.out.1 HFT.out.2.2.2
    exact⟨small_fit h5,fun x hx=>(small_proc h5 hx).1,H10.out.2.2.1.at⟩)
   obtain⟨m0,m1,m2,m3,m4,m5,m6,m7⟩:=H10.out.1.1.cells
   obtain⟨k0,k1,k2,k3,k4,k5,k6,k7⟩:=H10.out.2.1.cells
   obtain⟨⟨u,co⟩,fo⟩:(∃ u,wr.cell? ⟨o,2,none⟩=some u)∧wr.frozen? ⟨o,2,none⟩=false:=⟨⟨_,(HQ.out.1.below HR.out.1.bel).cells.2.2.1⟩,frozen_of_row _ _ _ _ _(HQ.out.1.below HR.out.1.bel)⟩
   unfold PartD.cells at hcall
   simp only at hcall k0 k1 k2 k3 k4 k5 k6 k7
   go_wp2_with fail
   refine hcall.mono ?_
   clear hcall m0 m1 m2 m3 m4 m5 m6 m7 k0 k1 k2 k3 k4 k5 k6 k7
   rintro e w11⟨hb11,hok⟩
   have hq:=HQ.out.2.2.2.2
   have HZ:Hid(Below w.heap.size w w11∧w11.heap[w.heap.size+1]? =some(.cells zero8 32(0,0))∧PartOwn w11 W.heap.size({ q with procs:=acc,procA:=a,procC:=c } :PartD)∧w.heap.size+1 < W.heap.size):=⟨H10.out.1.2.2.1.trans(hb11.mono H10.out.1.2.2.1.size),(hb11.block _(Array.getElem?_eq_some_iff.1 H10.out.1.2.2.2).1).trans H10.out.1.2.2.2,H10.out.2.2.1.below hb11,hq.2.1⟩
   clear hb11 hq
   rw [H10.out.2.2.2] at hok
   rcases hok with ⟨hok,rfl⟩ | ⟨hok,rfl⟩
   ·have HN:Hid(withR p.pure { p.pure with procs:=insG(·.id)(newP id prio ops)p.pure.procs } =some { p.pure with procs:=insG(·.id)(newP id prio ops)p.pure.procs }):=withR_ok hok
    clear hok
    go_wp2_with (refine stP 8 66(w.heap.size+1) #[.int .i64 q.id,.int .i64 q.next,.slice a acc.length c,.slice q.semA q.sems.length q.semC,.slice q.eventA q.events.length q.eventC,.slice q.boardA q.boards.length q.boardC,.slice q.bufferA q.buffers.length q.bufferC,.slice q.portA q.ports.length q.portC] HZ.out.2.1 ?_)
    refine rtQ Tryz.results28(w.heap.size+1) #[.int .i64 q.id,.int .i64 q.next,.slice a acc.length c,.slice q.semA q.sems.length q.semC,.slice q.eventA q.events.length q.eventC,.slice q.boardA q.boards.length q.boardC,.slice q.bufferA q.buffers.length q.bufferC,.slice q.portA q.ports.length q.portC] (.bool true)HZ.out.2.1 ?_
    have hl:=HZ.out.2.2.2
    rw [HN.out]
    refine⟨({ q with procs:=acc,procA:=a,procC:=c } :PartD),by rfl,(HZ.out.2.2.1.lower(by omega)).same fun g hg=>setRow_other _ _ _ _(by have:=(HZ.out.2.2.1.lt g hg).1; omega),H10.out.2.2.2,below_setRow HZ.out.1(by omega)_⟩
   ·have HN:Hid(withR p.pure { p.pure with procs:=insG(·.id)(newP id prio ops)p.pure.procs } =none):=withR_bad hok
    clear hok
    go_wp2_with (refine stP 8 66(w.heap.size+1)zero8 HZ.out.2.1 ?_)
    refine rtQ Tryz.results28(w.heap.size+1)zero8(.bool false)HZ.out.2.1 ?_
    exact turnRes_no HN.out(below_setRow HZ.out.1(by omega)_)
end Go.Proofs.YtkbcplnlehdjfaaGreat

namespace Go.Proofs.YtkbcplnlehdjfaaGreat
open Go.RowKit Go.Maps
attribute [local go_sem ↓] Go.wp_at_zero Go.wp_at_succ
theorem putBuffer {p q:PartD} {w W W2 w9:World} {o b0 n9 c9:Nat} {x:BufferD} {xp:BufferP} {XV:Array Value} {acc:List BufferD} {a9:Option Addr} (hB:PartBox W2 w.heap.size p∧PartOwn W2 b0 p∧Below w.heap.size w W2∧W2.heap[w.heap.size+1]? =some(.cells zero8 32(0,0)))
  (hQ:PartBox W2 o q∧PartOwn W2 W.heap.size q∧q.pure=p.pure∧(∀ g∈q.blocks,g < o)∧W.heap.size≤o∧w.heap.size+1 < W.heap.size∧o < W2.heap.size)(hpb: ∀ g∈p.blocks,g < w.heap.size)(hl:ListIn bufferK 144 XV W2 w9 acc a9 c9)(ha:acc=insG(fun y:BufferD=>y.id)x q.buffers)(hn:acc.length=n9)(hx:x.toBufferP=xp)
  (hk: ∀ g,bufferN.kid x=some g→g∉q.blocks∧g≠o)(hm:bufferN.Mine W2 W.heap.size x):
  (PartBox(w9.setCell⟨o,6,none⟩(.slice a9 n9 c9))w.heap.size p∧PartOwn(w9.setCell⟨o,6,none⟩(.slice a9 n9 c9))b0 p∧Below w.heap.size w(w9.setCell⟨o,6,none⟩(.slice a9 n9 c9))∧(w9.setCell⟨o,6,none⟩(.slice a9 n9 c9)).heap[w.heap.size+1]? =some(.cells zero8 32(0,0)))∧PartBox(w9.setCell⟨o,6,none⟩(.slice a9 n9 c9))o({ q with buffers:=acc,bufferA:=a9,bufferC:=c9 } :PartD)∧PartOwn(w9.setCell⟨o,6,none⟩(.slice a9 n9 c9))W.heap.size({ q with buffers:=acc,bufferA:=a9,bufferC:=c9 } :PartD)∧({ q with buffers:=acc,bufferA:=a9,bufferC:=c9 } :PartD).pure= { p.pure with buffers:=insG(·.id)xp p.pure.buffers } :=by
 have hb:=hl.bel
 have hqb:=hQ.2.2.2.1
 have sm: ∀ g,g < W2.heap.size→g≠o→(w9.setCell⟨o,6,none⟩(.slice a9 n9 c9)).heap[g]? =W2.heap[g]? :=fun g hg hne=>(setCell_other hne).trans(hb.block _ hg)
 have hbw:Below w.heap.size w(w9.setCell⟨o,6,none⟩(.slice a9 n9 c9)):=below_setCell(hB.2.2.1.trans(hb.mono(by omega)))(by omega)
 have hkid: ∀ g∈acc.filterMap bufferN.kid,g∈q.buffers.filterMap bufferN.kid∨bufferN.kid x=some g:=fun g hg=>by
  obtain⟨z,hz,he⟩:=List.mem_filterMap.1 hg
  rw [ha] at hz
  rcases insG_mem.1 hz with rfl | hz
  ·exact .inr he
  ·exact .inl(List.mem_filterMap.2⟨z,hz,he⟩)
 have hin: ∀ g∈q.buffers.filterMap bufferN.kid,g∈q.blocks:=fun g hg=>by simp only [PartD.blocks,List.mem_append]; simp [hg]
 refine⟨⟨(sm _(by omega)(by omega)).trans hB.1,hB.2.1.same fun g hg=>sm g(by have:=hpb g hg; omega)(by have:=hpb g hg; omega),hbw,(sm _(by omega)(by omega)).trans hB.2.2.2⟩,?_,?_,?_⟩
 ·have h5:=setCell_block(i:=6)(v:= .slice a9 n9 c9)((hb.block _ hQ.2.2.2.2.2.2).trans hQ.1)
  unfold PartBox
  simp only [hn]
  exact h5
 ·refine hQ.2.1.newBuffer(B:=W2.heap.size)(by omega)(fun g hg=>by have:=hqb g hg; omega)(fun g hg=>sm g(by have:=hqb g hg; omega)(by have:=hqb g hg; omega)) ?_(fun z hz=> ?_) ?_(fun g hg=> ?_)(fun g hg=> ?_)
  ·exact own_same hl.own fun g hg=>setCell_other(by have:=(own_lt hl.own hg).1; omega)
  ·rw [ha] at hz
   rcases insG_mem.1 hz with rfl | hz
   ·exact hm.same fun g hg=>sm g(hm.lt hg).2(hk g hg).2
   ·refine(hQ.2.1.mineF z hz).same fun g hg=> ?_
    have h5:=hqb g(hin g(List.mem_filterMap.2⟨z,hz,hg⟩))
    exact sm g(by omega)(by omega)
  ·have h5:=hQ.2.1.nodup
   simp only [PartD.blocks,List.nodup_append] at h5
   have h6:(q.buffers.filterMap bufferN.kid).Nodup:=h5.2.1.2.1.2.1.2.1.2.1.2.1.1
   have hp:(acc.filterMap bufferN.kid).Perm((x :: q.buffers).filterMap bufferN.kid):=by rw [ha]; exact(insG_perm x _).filterMap _
   refine hp.nodup_iff.2 ?_
   cases he:bufferN.kid x with
   | none=>rw [List.filterMap_cons_none he]; exact h6
   | some g=>rw [List.filterMap_cons_some he]; exact List.nodup_cons.2⟨fun h7=>(hk g he).1(hin g h7),h6⟩
  ·rcases hkid g hg with h5 | h5
   ·exact .inl h5
   ·exact .inr(hk g h5).1
  ·rcases hkid g hg with h5 | h5
   ·have:=hqb g(hin g h5); omega
   ·exact(hm.lt h5).2
 ·show ({ q.pure with buffers:=acc.map(·.toBufferP) } :PartP)=_
  have e1:q.buffers.map(·.toBufferP)=p.pure.buffers:=congrArg PartP.buffers hQ.2.2.1
  rw [ha,insG_map(num':=(·.id))(fun y:BufferD=>y.toBufferP)(fun _=>rfl),e1,hx,hQ.2.2.1]
theorem specWithBuffer_any(p:PartD)(id most:Int)(w:World)(b0:Nat)(hwf:(Lit.int .i64 id).wf=true)(hsm:p.pure.Small)(h:PartOwn w b0 p):
  Calls Tryz.prog 43 #[.agg p.cells,.int .i64 id,.int .i64 most] w fun e w'=>TurnRes w(withR p.pure { p.pure with buffers:=insG(·.id)(⟨id,most,[]⟩:BufferP)p.pure.buffers })e w':=by
 have HB:Hid(PartBox((w.alloc(.cells p.row 32)).alloc(.cells zero8 32))w.heap.size p∧PartOwn((w.alloc(.cells p.row 32)).alloc(.cells zero8 32))b0 p∧Below w.heap.size w((w.alloc(.cells p.row 32)).alloc(.cells zero8 32))∧((w.alloc(.cells p.row 32)).alloc(.cells zero8 32)).heap[w.heap.size+1]? =some(.cells zero8 32(0,0))):=by
  have b1:Below w.heap.size w((w.alloc(.cells p.row 32)).alloc(.cells zero8 32)):=((Below.refl _ _).alloc(Nat.le_refl _)_).alloc(by simp)_
  exact⟨(heap_alloc_old _ _(by simp)).trans(heap_alloc_new _ _),h.below b1,b1,heap_alloc2_new _ _ _⟩
 have HFT:Hid(p.Fit∧(∀ x∈p.procs,x.Short)∧p.pure.Small∧(Lit.int .i64 id).wf=true):=⟨small_fit hsm,fun x hx=>(small_proc hsm hx).1,hsm,hwf⟩
 have hpl:p.buffers.length≤1048576:=HFT.out.1.short.buffers
 have hpb0: ∀ g∈p.blocks,g < w.heap.size:=fun g hg=>(h.lt g hg).2
 clear h hsm hwf
 obtain⟨m0,m1,m2,m3,m4,m5,m6,m7⟩:=HB.out.1.cells
 unfold PartD.cells
 go_enter Tryz.func43,Tryz.ntmps43
 go_wp2_with fail
 generalize (w.alloc(.cells p.row 32)).alloc(.cells zero8 32)=W at *
 clear m0 m1 m2 m3 m4 m5 m6 m7
 refine(l3Copy_any p W HFT.out.1 HFT.out.2.1 HB.out.2.1.at).mono ?_
 rintro e W1⟨q,rfl,hown,hpu,hb1⟩
 have hb2:Below W1.heap.size W1(W1.alloc(.cells q.row 32)):=(Below.refl _ _).alloc(Nat.le_refl _)_
 have hlt:w.heap.size+1 < W.heap.size:=(Array.getElem?_eq_some_iff.1 HB.out.2.2.2).1
 have hb3:Below W.heap.size W(W1.alloc(.cells q.row 32)):=hb1.trans(hb2.mono hb1.size)
 have hq1: ∀ g∈q.blocks,g < W1.heap.size:=fun g hg=>(hown.lt g hg).2
 have hql:q.buffers.length≤1048576:=by have e1:=congrArg(fun z=>z.buffers.length)hpu; simp only [PartD.pure,List.length_map] at e1; omega
 have HQ:Hid(PartBox(W1.alloc(.cells q.row 32))W1.heap.size q∧PartOwn(W1.alloc(.cells q.row 32))W.heap.size q∧q.pure=p.pure∧(∀ g∈q.blocks,g < W1.heap.size)∧W.heap.size≤W1.heap.size∧w.heap.size+1 < W.heap.size∧W1.heap.size < (W1.alloc(.cells q.row 32)).heap.size):=⟨heap_alloc_new _ _,hown.below hb2,hpu,hq1,hb1.size,hlt,by simp⟩
 replace HB:Hid(PartBox(W1.alloc(.cells q.row 32))w.heap.size p∧PartOwn(W1.alloc(.cells q.row 32))b0 p∧Below w.heap.size w(W1.alloc(.cells q.row 32))∧(W1.alloc(.cells q.row 32)).heap[w.heap.size+1]? =some(.cells zero8 32(0,0))):=⟨HB.out.1.below hb3,HB.out.2.1.below hb3,HB.out.2.2.1.trans(hb3.mono HB.out.2.2.1.size),(hb3.block _ hlt).trans HB.out.2.2.2⟩
 have HPB:Hid(∀ g∈p.blocks,g < w.heap.size):=fun g hg=>hpb0 g hg
 clear hown hpu hb1 hb2 hb3 hq1 hlt hpb0
 have HL0:Hid(ListIn bufferK 144 #[.int .i64 id,.int .i64 most,.slice none 0 0] (W1.alloc(.cells q.row 32))(((W1.alloc(.cells q.row 32)).alloc(.cells #[] 144)).alloc(.cells #[.int .i64 id,.int .i64 most,.slice none 0 0] 144)) [] (some⟨(W1.alloc(.cells q.row 32)).heap.size,0,none⟩)0):=ListIn.start
 have hoW:(W1.alloc(.cells q.row 32)).heap.size=W1.heap.size+1:=by simp
 have HW:Hid((W1.alloc(.cells q.row 32)).heap.size=W1.heap.size+1):=hoW
 clear hoW
 unfold PartD.cells
 go_wp2_with fail
 generalize W1.alloc(.cells q.row 32)=W2 at *
 generalize W1.heap.size=o at *
 go_loopw [9,11,12] (fun l d i wr=> ∃ (k:Nat)(dn:Bool)(acc:List BufferD)(a:Option Addr)(c:Nat),k≤q.buffers.length∧i= .int .i64 k∧d= .bool dn∧l= .slice a acc.length c∧Hid(ListIn bufferK 144 #[.int .i64 id,.int .i64 most,.slice none 0 0] W2 wr acc a c∧AccIs(fun y:BufferD=>y.id)(⟨⟨id,most,[]⟩,none,0⟩:BufferD)q.buffers k dn acc))(fun _ _ i _=>q.buffers.length - (Go.RowKit.intOf i).toNat)
 case atStart=>exact⟨0,false,[],some⟨W2.heap.size,0,none⟩,0,Nat.zero_le _,rfl,rfl,by rw [HW.out]; rfl,⟨HL0.out,AccIs.start _ _⟩⟩
 case round=>
  obtain⟨k,dn,acc,a,c,hk,rfl,rfl,rfl,HA⟩:=hrel
  have i0:(0:Int)≤(k:Int):=by omega
  have hbr:=HA.out.1.bel
  have hal:=HA.out.2.le
  have mo:wr.cell? ⟨o,6,none⟩=some(.slice q.bufferA q.buffers.length q.bufferC):=(HQ.out.1.below hbr).cells.2.2.2.2.2.2.1
  by_cases hlt:k < q.buffers.length
  ·have i1:(k:Int) < (q.buffers.length:Int):=by omega
   obtain⟨y,hy⟩: ∃ y,q.buffers[k]? =some y:=⟨_,List.getElem?_eq_getElem hlt⟩
   have HY:Hid(q.buffers[k]? =some y):=hy
   obtain⟨g,ha,hat⟩:=buffer_at(HQ.out.2.1.below hbr).at.2.2.2.2.1 hy
   rw [ha] at mo
   obtain⟨d0,d1,d2⟩:=hat
   have HG:Hid(q.bufferA=some⟨g,0,none⟩):=ha
   clear ha hy
   obtain⟨a5,c5,w5,hap,hl5⟩:=HA.out.1.add 29 40(P:=Tryz.prog)Tryz.underlying29 rinfBuffer rfl(by decide)(by decide)y #[.int .i64 y.id,.int .i64 y.max,.slice y.itemsA y.items.length y.itemsC] rfl one_buffer(by omega)
   have HL5:Hid(ListIn bufferK 144 #[.int .i64 id,.int .i64 most,.slice none 0 0] W2 w5(acc ++ [y])a5 c5):=hl5
   clear hl5
   cases dn
   rotate_left
   ·go_wp2_with (at_builtin; first | (refine wpList_append_run _ rfl _ _ 29 rfl _ _ _ _ rfl rfl hap ?_; clear hap))
    go_round
    case rel=>exact⟨k+1,true,acc ++ [y],a5,c5,by omega,by go_num,rfl,by simp,⟨HL5.out,HA.out.2.on HY.out⟩⟩
    case measure=>simp [Go.RowKit.intOf]; omega
   by_cases hc:id < y.id
   rotate_left
   ·have HC:Hid(¬ id < y.id):=hc
    go_wp2_with (at_builtin; first | (refine wpList_append_run _ rfl _ _ 29 rfl _ _ _ _ rfl rfl hap ?_; clear hap))
    go_round
    case rel=>exact⟨k+1,false,acc ++ [y],a5,c5,by omega,by go_num,rfl,by simp,⟨HL5.out,HA.out.2.past HY.out HC.out⟩⟩
    case measure=>simp [Go.RowKit.intOf]; omega
   clear hap HL5 a5 c5 w5
   have HC:Hid(id < y.id):=hc
   obtain⟨a5,c5,w5,hap,hl5⟩:=HA.out.1.add 29 40(P:=Tryz.prog)Tryz.underlying29 rinfBuffer rfl(by decide)(by decide)(⟨⟨id,most,[]⟩,none,0⟩:BufferD) #[.int .i64 id,.int .i64 most,.slice none 0 0] rfl one_buffer(by omega)
   obtain⟨a7,c7,w7,hap2,hl7⟩:=hl5.add 29 40(P:=Tryz.prog)Tryz.underlying29 rinfBuffer rfl(by decide)(by decide)y #[.int .i64 y.id,.int .i64 y.max,.slice y.itemsA y.items.length y.itemsC] rfl one_buffer(by simp; omega)
   rw [List.length_append] at hap2
   simp only [List.length_cons,List.length_nil,Nat.zero_add] at hap2
   have HL7:Hid(ListIn bufferK 144 #[.int .i64 id,.int .i64 most,.slice none 0 0] W2 w7(acc ++ [(⟨⟨id,most,[]⟩,none,0⟩:BufferD)] ++ [y])a7 c7):=hl7
   have mo5:w5.cell? ⟨o,6,none⟩=some(.slice q.bufferA q.buffers.length q.bufferC):=(HQ.out.1.below hl5.bel).cells.2.2.2.2.2.2.1
   obtain⟨g2,ha2,hat2⟩:=buffer_at(HQ.out.2.1.below hl5.bel).at.2.2.2.2.1 HY.out
   rw [HG.out] at ha2 mo5
   cases ha2
   obtain⟨e0,e1,e2⟩:=hat2
   obtain⟨x0,x1,x2⟩:=buffer_cells(x:=(⟨⟨id,most,[]⟩,none,0⟩:BufferD))(X:=o+1+1)(W:=wr)(by rw [← HW.out]; exact HA.out.1.box)
   clear hl5 hl7
   simp only [List.length_nil] at *
   go_wp2_with (at_builtin; first | (refine wpList_append_run _ rfl _ _ 29 rfl _ _ _ _ rfl rfl hap ?_; clear hap) | (refine wpList_append_run _ rfl _ _ 29 rfl _ _ _ _ rfl rfl hap2 ?_; clear hap2))
   go_round
   case rel=>exact⟨k+1,true,acc ++ [(⟨⟨id,most,[]⟩,none,0⟩:BufferD)] ++ [y],a7,c7,by omega,by go_num,rfl,by simp,⟨HL7.out,HA.out.2.here HY.out HC.out⟩⟩
   case measure=>simp [Go.RowKit.intOf]; omega
  have i1: ¬ (k:Int) < (q.buffers.length:Int):=by omega
  cases dn
  ·obtain⟨a9,c9,w9,hap,hl9⟩:=HA.out.1.add 29 40(P:=Tryz.prog)Tryz.underlying29 rinfBuffer rfl(by decide)(by decide)(⟨⟨id,most,[]⟩,none,0⟩:BufferD) #[.int .i64 id,.int .i64 most,.slice none 0 0] rfl one_buffer(by omega)
   have HR:Hid(ListIn bufferK 144 #[.int .i64 id,.int .i64 most,.slice none 0 0] W2 w9(acc ++ [(⟨⟨id,most,[]⟩,none,0⟩:BufferD)])a9 c9∧acc ++ [(⟨⟨id,most,[]⟩,none,0⟩:BufferD)] =insG(fun y:BufferD=>y.id)(⟨⟨id,most,[]⟩,none,0⟩:BufferD)q.buffers∧(acc ++ [(⟨⟨id,most,[]⟩,none,0⟩:BufferD)]).length=acc.length+1):=⟨hl9,HA.out.2.last hlt,by simp⟩
   obtain⟨x0,x1,x2⟩:=buffer_cells(x:=(⟨⟨id,most,[]⟩,none,0⟩:BufferD))(X:=o+1+1)(W:=wr)(by rw [← HW.out]; exact HA.out.1.box)
   simp only [List.length_nil] at x0 x1 x2
   clear hl9
   have H10:Hid(_):=putBuffer HB.out HQ.out HPB.out HR.out.1 HR.out.2.1 HR.out.2.2 rfl(fun g hg=>by cases hg)(World.ownsRow_nil _ _ _ _)
   have hcall:=l3Checked_any p({ q with buffers:=(acc ++ [(⟨⟨id,most,[]⟩,none,0⟩:BufferD)]),bufferA:=a9,bufferC:=c9 } :PartD)(w9.setCell⟨o,6,none⟩(.slice a9(acc.length+1)c9))⟨HFT.out.1,HFT.out.2.1,H10.out.1.2.1.at⟩(fun hr=>by
    have h5:PartP.Small({ q with buffers:=(acc ++ [(⟨⟨id,most,[]⟩,none,0⟩:BufferD)]),bufferA:=a9,bufferC:=c9 } :PartD).pure:=by rw [H10.out.2.2.2]; exact insBuffer_small HFT.out.2.2.1 hr⟨HFT.out.2.2.2,Nat.zero_le _,(fun s hs=>by cases hs)⟩
    exact⟨small_fit h5,fun x hx=>(small_proc h5 hx).1,H10.out.2.2.1.at⟩)
   obtain⟨m0,m1,m2,m3,m4,m5,m6,m7⟩:=H10.out.1.1.cells
   obtain⟨k0,k1,k2,k3,k4,k5,k6,k7⟩:=H10.out.2.1.cells
   obtain⟨⟨u,co⟩,fo⟩:(∃ u,w9.cell? ⟨o,6,none⟩=some u)∧w9.frozen? ⟨o,6,none⟩=false:=⟨⟨_,(HQ.out.1.below HR.out.1.bel).cells.2.2.2.2.2.2.1⟩,frozen_of_row _ _ _ _ _(HQ.out.1.below HR.out.1.bel)⟩
   unfold PartD.cells at hcall
   have hln:=HR.out.2.2
   simp only [hln] at hcall k0 k1 k2 k3 k4 k5 k6 k7
   clear hln
   go_wp2_with (at_builtin; first | (refine wpList_append_run _ rfl _ _ 29 rfl _ _ _ _ rfl rfl hap ?_; clear hap))
   refine hcall.mono ?_
   clear hcall m0 m1 m2 m3 m4 m5 m6 m7 k0 k1 k2 k3 k4 k5 k6 k7
   rintro e w11⟨hb11,hok⟩
   have hq:=HQ.out.2.2.2.2
   have HZ:Hid(Below w.heap.size w w11∧w11.heap[w.heap.size+1]? =some(.cells zero8 32(0,0))∧PartOwn w11 W.heap.size({ q with buffers:=(acc ++ [(⟨⟨id,most,[]⟩,none,0⟩:BufferD)]),bufferA:=a9,bufferC:=c9 } :PartD)∧w.heap.size+1 < W.heap.size):=⟨H10.out.1.2.2.1.trans(hb11.mono H10.out.1.2.2.1.size),(hb11.block _(Array.getElem?_eq_some_iff.1 H10.out.1.2.2.2).1).trans H10.out.1.2.2.2,H10.out.2.2.1.below hb11,hq.2.1⟩
   clear hb11 hq
   rw [H10.out.2.2.2] at hok
   rcases hok with ⟨hok,rfl⟩ | ⟨hok,rfl⟩
   ·have HN:Hid(withR p.pure { p.pure with buffers:=insG(·.id)(⟨id,most,[]⟩:BufferP)p.pure.buffers } =some { p.pure with buffers:=insG(·.id)(⟨id,most,[]⟩:BufferP)p.pure.buffers }):=withR_ok hok
    clear hok
    go_wp2_with (refine stP 6 61(w.heap.size+1) #[.int .i64 q.id,.int .i64 q.next,.slice q.procA q.procs.length q.procC,.slice q.semA q.sems.length q.semC,.slice q.eventA q.events.length q.eventC,.slice q.boardA q.boards.length q.boardC,.slice a9(acc.length+1)c9,.slice q.portA q.ports.length q.portC] HZ.out.2.1 ?_)
    refine rtQ Tryz.results43(w.heap.size+1) #[.int .i64 q.id,.int .i64 q.next,.slice q.procA q.procs.length q.procC,.slice q.semA q.sems.length q.semC,.slice q.eventA q.events.length q.eventC,.slice q.boardA q.boards.length q.boardC,.slice a9(acc.length+1)c9,.slice q.portA q.ports.length q.portC] (.bool true)HZ.out.2.1 ?_
    have hl:=HZ.out.2.2.2
    rw [HN.out]
    refine⟨({ q with buffers:=(acc ++ [(⟨⟨id,most,[]⟩,none,0⟩:BufferD)]),bufferA:=a9,bufferC:=c9 } :PartD),by unfold PartD.cells; simp only [HR.out.2.2]; rfl,(HZ.out.2.2.1.lower(by omega)).same fun g hg=>setRow_other _ _ _ _(by have:=(HZ.out.2.2.1.lt g hg).1; omega),H10.out.2.2.2,below_setRow HZ.out.1(by omega)_⟩
   ·have HN:Hid(withR p.pure { p.pure with buffers:=insG(·.id)(⟨id,most,[]⟩:BufferP)p.pure.buffers } =none):=withR_bad hok
    clear hok
    go_wp2_with (refine stP 6 61(w.heap.size+1)zero8 HZ.out.2.1 ?_)
    refine rtQ Tryz.results43(w.heap.size+1)zero8(.bool false)HZ.out.2.1 ?_
    exact turnRes_no HN.out(below_setRow HZ.out.1(by omega)_)
  ·have HR:Hid(ListIn bufferK 144 #[.int .i64 id,.int .i64 most,.slice none 0 0] W2 wr acc a c∧acc=insG(fun y:BufferD=>y.id)(⟨⟨id,most,[]⟩,none,0⟩:BufferD)q.buffers∧acc.length=acc.length):=⟨HA.out.1,HA.out.2.done hlt,rfl⟩
   have H10:Hid(_):=putBuffer HB.out HQ.out HPB.out HR.out.1 HR.out.2.1 HR.out.2.2 rfl(fun g hg=>by cases hg)(World.ownsRow_nil _ _ _ _)
   have hcall:=l3Checked_any p({ q with buffers:=acc,bufferA:=a,bufferC:=c } :PartD)(wr.setCell⟨o,6,none⟩(.slice a acc.length c))⟨HFT.out.1,HFT.out.2.1,H10.out.1.2.1.at⟩(fun hr=>by
    have h5:PartP.Small({ q with buffers:=acc,bufferA:=a,bufferC:=c } :PartD).pure:=by rw [H10.out.2.2.2]; exact insBuffer_small HFT.out.2.2.1 hr⟨HFT.out.2.2.2,Nat.zero_le _,(fun s hs=>by cases hs)⟩
    exact⟨small_fit h5,fun x hx=>(small_proc h5 hx).1,H10.out.2.2.1.at⟩)
   obtain⟨m0,m1,m2,m3,m4,m5,m6,m7⟩:=H10.out.1.1.cells
   obtain⟨k0,k1,k2,k3,k4,k5,k6,k7⟩:=H10.out.2.1.cells
   obtain⟨⟨u,co⟩,fo⟩:(∃ u,wr.cell? ⟨o,6,none⟩=some u)∧wr.frozen? ⟨o,6,none⟩=false:=⟨⟨_,(HQ.out.1.below HR.out.1.bel).cells.2.2.2.2.2.2.1⟩,frozen_of_row _ _ _ _ _(HQ.out.1.below HR.out.1.bel)⟩
   unfold PartD.cells at hcall
   simp only at hcall k0 k1 k2 k3 k4 k5 k6 k7
   go_wp2_with fail
   refine hcall.mono ?_
   clear hcall m0 m1 m2 m3 m4 m5 m6 m7 k0 k1 k2 k3 k4 k5 k6 k7
   rintro e w11⟨hb11,hok⟩
   have hq:=HQ.out.2.2.2.2
   have HZ:Hid(Below w.heap.size w w11∧w11.heap[w.heap.size+1]? =some(.cells zero8 32(0,0))∧PartOwn w11 W.heap.size({ q with buffers:=acc,bufferA:=a,bufferC:=c } :PartD)∧w.heap.size+1 < W.heap.size):=⟨H10.out.1.2.2.1.trans(hb11.mono H10.out.1.2.2.1.size),(hb11.block _(Array.getElem?_eq_some_iff.1 H10.out.1.2.2.2).1).trans H10.out.1.2.2.2,H10.out.2.2.1.below hb11,hq.2.1⟩
   clear hb11 hq
   rw [H10.out.2.2.2] at hok
   rcases hok with ⟨hok,rfl⟩ | ⟨hok,rfl⟩
   ·have HN:Hid(withR p.pure { p.pure with buffers:=insG(·.id)(⟨id,most,[]⟩:BufferP)p.pure.buffers } =some { p.pure with buffers:=insG(·.id)(⟨id,most,[]⟩:BufferP)p.pure.buffers }):=withR_ok hok
    clear hok
    go_wp2_with (refine stP 6 61(w.heap.size+1) #[.int .i64 q.id,.int .i64 q.next,.slice q.procA q.procs.length q.procC,.slice q.semA q.sems.length q.semC,.slice q.eventA q.events.length q.eventC,.slice q.boardA q.boards.length q.boardC,.slice a acc.length c,.slice q.portA q.ports.length q.portC] HZ.out.2.1 ?_)
    refine rtQ Tryz.results43(w.heap.size+1) #[.int .i64 q.id,.int .i64 q.next,.slice q.procA q.procs.length q.procC,.slice q.semA q.sems.length q.semC,.slice q.eventA q.events.length q.eventC,.slice q.boardA q.boards.length q.boardC,.slice a acc.length c,.slice q.portA q.ports.length q.portC] (.bool true)HZ.out.2.1 ?_
    have hl:=HZ.out.2.2.2
    rw [HN.out]
    refine⟨({ q with buffers:=acc,bufferA:=a,bufferC:=c } :PartD),by rfl,(HZ.out.2.2.1.lower(by omega)).same fun g hg=>setRow_other _ _ _ _(by have:=(HZ.out.2.2.1.lt g hg).1; omega),H10.out.2.2.2,below_setRow HZ.out.1(by omega)_⟩
   ·have HN:Hid(withR p.pure { p.pure with buffers:=insG(·.id)(⟨id,most,[]⟩:BufferP)p.pure.buffers } =none):=withR_bad hok
    clear hok
    go_wp2_with (refine stP 6 61(w.heap.size+1)zero8 HZ.out.2.1 ?_)
    refine rtQ Tryz.results43(w.heap.size+1)zero8(.bool false)HZ.out.2.1 ?_
    exact turnRes_no HN.out(below_setRow HZ.out.1(by omega)_)
end Go.Proofs.YtkbcplnlehdjfaaGreat
