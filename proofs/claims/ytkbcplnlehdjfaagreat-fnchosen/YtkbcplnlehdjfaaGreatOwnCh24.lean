/- What the proof leans on, part 24: StB, ProcOfI, LawX. -/
import Derived.Test.YtkbcplnlehdjfaaGreatOwnCh1
import Derived.Test.YtkbcplnlehdjfaaGreatOwnCh4
import Derived.Test.YtkbcplnlehdjfaaGreatOwnCh20
import Derived.Test.YtkbcplnlehdjfaaGreatOwnCh22
import Derived.Test.YtkbcplnlehdjfaaGreatOwnCh23
set_option maxRecDepth 100000
set_option maxHeartbeats 8000000

namespace Go.Proofs.YtkbcplnlehdjfaaGreat
open Go.RowKit
def turnP(id:Int)(f:ProcP→ProcP)(l:List ProcP):List ProcP:=l.map fun x=>if x.id=id then f x else x
def turnedP(p:PartP)(id:Int)(ok:ProcP→Bool)(f:ProcP→ProcP)(nx:Int):Option PartP:=
 if partB p then match p.procs.find? (fun x=>decide(x.id=id))with
  | some y=>if ok y then some { p with next:=nx,procs:=turnP id f p.procs } else none
  | none=>none
 else none
def zeroPart:PartP:=⟨0,0,[],[],[],[],[],[]⟩
def TurnRes(w:World)(r:Option PartP)(e:Ending)(w':World):Prop:= ∃ q:PartD,e= .returned(.tuple #[.agg q.cells,.bool r.isSome])∧PartOwn w' w.heap.size q∧q.pure=r.getD zeroPart∧Below w.heap.size w w'
theorem own_zero(w:World)(base:Nat):PartOwn w base⟨0,0,[],none,0,[],none,0,[],none,0,[],none,0,[],none,0,[],none,0⟩:=
 ⟨World.ownsRow_nil _ _ _ _,World.ownsRow_nil _ _ _ _,World.ownsRow_nil _ _ _ _,World.ownsRow_nil _ _ _ _,World.ownsRow_nil _ _ _ _,World.ownsRow_nil _ _ _ _,(fun x hx=>by cases hx),(fun x hx=>by cases hx),(fun x hx=>by cases hx),by simp [PartD.blocks,blk]⟩
theorem turnRes_no {w w':World} {r:Option PartP} (h:r=none)(hb:Below w.heap.size w w'):TurnRes w r(.returned(.tuple #[.agg zero8,.bool false]))w':=by
 subst h
 exact⟨_,rfl,own_zero _ _,rfl,hb⟩
theorem turned_not {p:PartP} {id nx:Int} {ok:ProcP→Bool} {f:ProcP→ProcP} (h:partB p=false):turnedP p id ok f nx=none:=by simp [turnedP,h]
theorem turned_none {p:PartP} {id nx:Int} {ok:ProcP→Bool} {f:ProcP→ProcP} (h:p.procs.find? (fun x=>decide(x.id=id))=none):turnedP p id ok f nx=none:=by
 unfold turnedP
 split
 ·rw [h]
 ·rfl
theorem turned_no {p:PartP} {id nx:Int} {ok:ProcP→Bool} {f:ProcP→ProcP} {y:ProcP} (h:p.procs.find? (fun x=>decide(x.id=id))=some y)(ho:ok y=false):turnedP p id ok f nx=none:=by
 unfold turnedP
 split
 ·rw [h]; simp [ho]
 ·rfl
theorem turned_yes {p:PartP} {id nx:Int} {ok:ProcP→Bool} {f:ProcP→ProcP} {y:ProcP} (hp:partB p=true)(h:p.procs.find? (fun x=>decide(x.id=id))=some y)(ho:ok y=true):turnedP p id ok f nx=some { p with next:=nx,procs:=turnP id f p.procs } :=by
 unfold turnedP
 rw [if_pos hp,h]
 simp [ho]
theorem things_rise {α:Type} {num:α→Int} {ok:α→Bool} : ∀ {l:List α} {last:Int},thingsB num ok last l=true→(∀ x∈l,last < num x)∧l.Pairwise(fun x y=>num x < num y)
 | [],_,_=>⟨(fun x hx=>by cases hx),List.Pairwise.nil⟩
 | x :: r,last,h=>by
  simp only [thingsB,Bool.and_eq_true,decide_eq_true_eq] at h
  obtain⟨h1,h2⟩:=things_rise h.2
  refine⟨fun y hy=> ?_,List.Pairwise.cons(fun y hy=>h1 y hy)h2⟩
  rcases List.mem_cons.1 hy with rfl | hy
  ·exact h.1.1.2
  ·have:=h1 y hy; have:=h.1.1.2; omega
theorem turn_set {l:List ProcP} {f:ProcP→ProcP} {id:Int} {n:Nat} {y:ProcP} (hr:l.Pairwise(fun x y=>x.id < y.id))(hn:l[n]? =some y)(hy:y.id=id):turnP id f l=l.set n(f y):=by
 induction l generalizing n with
 | nil=>simp at hn
 | cons x r ih=>
  obtain⟨h1,h2⟩:=List.pairwise_cons.1 hr
  cases n with
  | zero=>
   simp only [List.getElem?_cons_zero,Option.some.injEq] at hn
   subst hn
   have e:turnP id f r=r:=by
    unfold turnP
    conv=>rhs; rw [← List.map_id r]
    refine List.map_congr_left fun z hz=> ?_
    rw [if_neg(by have:=h1 z hz; omega)]
    rfl
   simp only [List.set_cons_zero]
   show (if x.id=id then f x else x) :: turnP id f r=_
   rw [if_pos hy,e]
  | succ n=>
   simp only [List.getElem?_cons_succ] at hn
   have hlt:=h1 y(List.mem_of_getElem? hn)
   simp only [List.set_cons_succ]
   show (if x.id=id then f x else x) :: turnP id f r=_
   rw [if_neg(by omega),ih h2 hn]
theorem part_rise {p:PartP} (h:partB p=true):p.procs.Pairwise(fun x y=>x.id < y.id):=(things_rise((partB_iff _).1 h).procs).2
def SmallP(x:ProcP):Prop:=(x.prog.length≤1048576∧(∀ o∈x.prog,o.2.2.2.size≤1048576)∧x.held.size≤1048576∧x.got.size≤1048576)∧(Lit.int .i64 x.id).wf=true∧(Lit.int .i64 x.on).wf=true∧(Lit.int .i64 x.since).wf=true
theorem wf_next {p:PartP} (h:partB p=true):(Lit.int .i64 p.next).wf=true:=by
 have h2:=inB_iff.1((partB_iff _).1 h).next
 have e1:IntKind.min .i64≤0:=by decide
 have e2:2000000000≤IntKind.max .i64:=by decide
 simp only [Lit.wf,Bool.and_eq_true,decide_eq_true_eq]
 omega
theorem zero_small:zeroPart.Small:=⟨Nat.zero_le _,Nat.zero_le _,Nat.zero_le _,Nat.zero_le _,Nat.zero_le _,Nat.zero_le _,(fun x hx=>by cases hx),(fun x hx=>by cases hx),(fun x hx=>by cases hx),(fun x hx=>by cases hx),(fun x hx=>by cases hx),(fun x hx=>by cases hx)⟩
theorem turned_cases {p:PartP} {id nx:Int} {ok:ProcP→Bool} {f:ProcP→ProcP} :(turnedP p id ok f nx).getD zeroPart=zeroPart∨partB p=true∧(turnedP p id ok f nx).getD zeroPart= { p with next:=nx,procs:=turnP id f p.procs } :=by
 unfold turnedP
 split
 ·rename_i hp
  split
  ·split
   ·exact .inr⟨hp,rfl⟩
   ·exact .inl rfl
  ·exact .inl rfl
 ·exact .inl rfl
theorem turned_small {p:PartP} {id nx:Int} {ok:ProcP→Bool} {f:ProcP→ProcP} (h:p.Small)(hf:partB p=true→ ∀ y∈p.procs,SmallP y→SmallP(f y)):((turnedP p id ok f nx).getD zeroPart).Small:=by
 rcases turned_cases(p:=p)(id:=id)(nx:=nx)(ok:=ok)(f:=f)with e | ⟨hp,e⟩
 ·rw [e]; exact zero_small
 ·rw [e]
  refine⟨by simpa [turnP] using h.nProc,h.nSem,h.nEvent,h.nBoard,h.nBuffer,h.nPort,fun x hx=> ?_,h.sems,h.events,h.boards,h.buffers,h.ports⟩
  obtain⟨y,hy,rfl⟩:=List.mem_map.1 hx
  split
  ·exact hf hp y hy(h.procs y hy)
  ·exact h.procs y hy
theorem PartOwn.setProc {w:World} {base n j gs:Nat} {q:PartD} {x y:ProcD} {vs:List Value} (h:PartOwn w base q)(hx:q.procs[n]? =some x)(ha:q.procA=some⟨gs,0,none⟩)(hy:y.prog=x.prog∧y.progA=x.progA∧y.progC=x.progC)
  (hj:j+vs.length≤12)(h1: ∀ r,r < vs.length→(procK.vals y)[j+r]? =vs[r]?)(h2: ∀ r,r < 12→ ¬ (j≤r∧r < j+vs.length)→(procK.vals y)[r]? =(procK.vals x)[r]?):
  PartOwn(setAllW w gs(n * 12+j)vs)base({ q with procs:=q.procs.set n y } :PartD)∧KeptBut w(setAllW w gs(n * 12+j)vs) [gs] ∧({ q with procs:=q.procs.set n y } :PartD).blocks=q.blocks:=by
 have hn:n < q.procs.length:=(List.getElem?_eq_some_iff.1 hx).1
 have hsp:=split_at hx
 have hset:q.procs.set n y=q.procs.take n ++ y :: q.procs.drop(n+1):=by rw [List.set_eq_take_append_cons_drop,if_pos hn]
 have hl:(q.procs.take n).length=n:=by rw [List.length_take]; omega
 have hkb:KeptBut w(setAllW w gs(n * 12+j)vs) [gs] :=KeptBut.set _(by simp)
 have ho:=h.procs
 rw [ha] at ho
 obtain⟨g,hg,hrow⟩:=RowAt.of_owns(K:=procK)ho(by omega)
 cases hg
 rw [hsp] at hrow
 have h5:=RowAt.part(K:=procK)(x:=x)(y:=y)(j:=j)(vs:=vs)hrow hj h1 h2
 rw [hl,show procK.n=12 from rfl,← hset] at h5
 have h6:=h5.owns
 have hki:(q.procs.set n y).filterMap procN.kid=q.procs.filterMap procN.kid:=by
  rw [hset]
  conv=>rhs; rw [hsp]
  have e:procN.kid y=procN.kid x:=by show y.progA.map(·.block)=x.progA.map(·.block); rw [hy.2.1]
  simp only [List.filterMap_append,List.filterMap_cons,e]
 have hmx:procN.Mine w base y:=by
  have h7:=h.mineP x(List.mem_of_getElem? hx)
  show w.ownsRow base _ 4(.slice y.progA y.prog.length y.progC)y.prog.length(opK.flat y.prog)
  rw [hy.1,hy.2.1,hy.2.2]
  exact h7
 have hgk: ∀ z∈q.procs,∀ b,procN.kid z=some b→b≠gs:=fun z hz b hb e=>by
  have h8:=h.nodup
  rw [PartD.blocks,ha] at h8
  have h9:=(List.nodup_append.1 h8).2.2 gs(by simp [blk])b(List.mem_append_left _(List.mem_filterMap.2⟨z,hz,hb⟩))
  exact h9 e.symm
 have hsame: ∀ b,b≠gs→(setAllW w gs(n * 12+j)vs).heap[b]? =w.heap[b]? :=fun b hb=>setAllW_other _ hb
 have hm: ∀ z∈q.procs.set n y,procN.Mine(setAllW w gs(n * 12+j)vs)base z:=fun z hz=>by
  rcases List.mem_or_eq_of_mem_set hz with hz | rfl
  ·exact(h.mineP z hz).same fun b hb=>hsame b(hgk z hz b hb)
  ·refine hmx.same fun b hb=>hsame b(hgk x(List.mem_of_getElem? hx)b ?_)
   rw [← hb]
   show x.progA.map(·.block)=z.progA.map(·.block)
   rw [hy.2.1]
 have ht:=h.turnProc(w':=setAllW w gs(n * 12+j)vs)(l:=q.procs.set n y)(by rw [ha]; rw [List.length_set] at h6; exact h6)(by simp)hm hki(hkb.mono(by simp [ha,blk]))
 exact⟨ht.1,hkb,ht.2⟩
end Go.Proofs.YtkbcplnlehdjfaaGreat

namespace Go.Proofs.YtkbcplnlehdjfaaGreat
open Go.RowKit Go.Maps
attribute [local go_sem ↓] Go.wp_at_zero Go.wp_at_succ
def zeroP:ProcP:=⟨0,0,[],0,0,0,0,0,noT,noT,0,0⟩
def procOfP(p:PartP)(id:Int):Option ProcP:=if partB p then p.procs.find? (fun x=>decide(x.id=id))else none
def ProcEnds(w:World)(r:Option ProcP)(e:Ending)(w':World):Prop:= ∃ x:ProcD,e= .returned(.tuple #[.agg(procVs x),.bool r.isSome])∧procN.Mine w' w.heap.size x∧x.toProcP=r.getD zeroP∧Below w.heap.size w w'
theorem procEnds_no {w w':World} {r:Option ProcP} (h:r=none)(hb:Below w.heap.size w w'):ProcEnds w r(.returned(.tuple #[.agg zero12,.bool false]))w':=by
 subst h
 exact⟨⟨zeroP,none,0⟩,rfl,World.ownsRow_nil _ _ _ _,rfl,hb⟩
theorem procOf_not {p:PartP} {id:Int} (h:partB p=false):procOfP p id=none:=by simp [procOfP,h]
theorem place_find(id:Int): ∀ (l:List ProcP)(k:Nat),(place(l.map(·.id))id k= -1∧l.find? (fun x=>decide(x.id=id))=none)∨ ∃ n x,place(l.map(·.id))id k=((k+n:Nat):Int)∧l[n]? =some x∧l.find? (fun x=>decide(x.id=id))=some x
 | [],k=> .inl⟨rfl,rfl⟩
 | x :: r,k=>by
  by_cases h:x.id=id
  ·refine .inr⟨0,x,?_,rfl,by simp [h]⟩
   simp [place,h]
  ·rcases place_find id r(k+1)with ⟨h1,h2⟩ | ⟨n,y,h1,h2,h3⟩
   ·exact .inl⟨by simp only [List.map_cons,place]; rw [if_neg h]; exact h1,by simp only [List.find?_cons,h,decide_false]; exact h2⟩
   ·refine .inr⟨n+1,y,?_,h2,by simp only [List.find?_cons,h,decide_false]; exact h3⟩
    simp only [List.map_cons,place]
    rw [if_neg h,h1]
    omega
theorem look_find(id:Int)(lp:List(ProcD × Nat)):lookM(keysOf(fun x:ProcD=>x.id)lp)id=(lp.find? (fun p=>decide(p.1.id=id))).map(·.2):=by
 unfold lookM keysOf
 rw [List.find?_map,Option.map_map]
 have e:((fun p:Int × Nat=>p.1 == id) ∘ fun p:ProcD × Nat=>(p.1.id,p.2))=fun p=>decide(p.1.id=id):=by
  funext p
  show (p.1.id == id)=_
  rw [Bool.beq_eq_decide_eq]
 rw [e]
 rfl
theorem find_pure(id:Int)(lp:List(ProcD × Nat)):(lp.map fun p=>p.1.toProcP).find? (fun x=>decide(x.id=id))=(lp.find? (fun p=>decide(p.1.id=id))).map(fun p=>p.1.toProcP):=by
 rw [List.find?_map]
 rfl
theorem implProcOf_any(p:PartD)(id:Int)(w:World)(hid:(Lit.int .i64 id).wf=true)(hg:p.Good w):
  Calls Tryz.prog 30 #[.agg p.cells,.int .i64 id] w fun e w'=>ProcEnds w(procOfP p.pure id)e w':=by
 have HB:Hid(p.Good((w.alloc(.cells p.row 32)).alloc(.cells zero12 43))∧Below w.heap.size w((w.alloc(.cells p.row 32)).alloc(.cells zero12 43))∧((w.alloc(.cells p.row 32)).alloc(.cells zero12 43)).heap[w.heap.size+1]? =some(.cells zero12 43(0,0))∧PartBox((w.alloc(.cells p.row 32)).alloc(.cells zero12 43))w.heap.size p∧(Lit.int .i64 id).wf=true):=by
  have b1:Below w.heap.size w((w.alloc(.cells p.row 32)).alloc(.cells zero12 43)):=((Below.refl _ _).alloc(Nat.le_refl _)_).alloc(by simp)_
  exact⟨hg.below b1,b1,heap_alloc2_new _ _ _,(heap_alloc_old _ _(by simp)).trans(heap_alloc_new _ _),hid⟩
 clear hg hid
 obtain⟨m0,m1,m2,m3,m4,m5,m6,m7⟩:=HB.out.2.2.2.1.cells
 unfold PartD.cells
 go_enter Tryz.func30,Tryz.ntmps30
 go_wp2_with fail
 generalize (w.alloc(.cells p.row 32)).alloc(.cells zero12 43)=W at *
 clear m0 m1 m2 m3 m4 m5 m6 m7
 refine(opened_any p W HB.out.1).mono ?_
 rintro e w1⟨hb1,⟨hno,rfl⟩ | ⟨hyes,o,S,rfl,hat,hpu⟩⟩
 ·have HZ:Hid(Below w.heap.size w w1∧w1.heap[w.heap.size+1]? =some(.cells zero12 43(0,0))∧True):=⟨HB.out.2.1.trans(hb1.mono HB.out.2.1.size),(hb1.block _(Array.getElem?_eq_some_iff.1 HB.out.2.2.1).1).trans HB.out.2.2.1,trivial⟩
  have HN:Hid(procOfP p.pure id=none):=procOf_not(partB_false hno)
  clear hb1 hno
  dsimp only
  repeat (first | (go_big_may; refine wpList_store_row rfl 43(Operand.tmp 4)(Operand.tmp 16)rfl(w.heap.size+1)_ _ zero12 rfl rfl HZ.out.2.1(by kernel_rfl)rfl(by kernel_rfl) ?_) | go_values | go_skip | go_guarded | go_step | go_upon | go_back)
  refine bodyPost_ret(v:= .tuple #[.agg zero12,.bool false])(results_row_tmp Tryz.results30 _ _(w.heap.size+1)_ _ _ _(by rfl)(setRow_heap _ _ _ _ _ _ HZ.out.2.1)Tryz.underlying43 rfl(by kernel_rfl))rfl ?_
  exact procEnds_no HN.out(below_setRow HZ.out.1(by omega)_)
 have HZ:Hid(Below w.heap.size w w1∧w1.heap[w.heap.size+1]? =some(.cells zero12 43(0,0))∧PartR S.pure∧OpenAt w1 W.heap.size o S∧S.pure=p.pure∧w.heap.size+1 < W.heap.size):=⟨HB.out.2.1.trans(hb1.mono HB.out.2.1.size),(hb1.block _(Array.getElem?_eq_some_iff.1 HB.out.2.2.1).1).trans HB.out.2.2.1,by rw [hpu]; exact hyes,hat,hpu,(Array.getElem?_eq_some_iff.1 HB.out.2.2.1).1⟩
 have c3:w1.cell? ⟨o,3,none⟩=some(.map(some S.q.bp)):=hat.opn.cell 3
 have hlk:=hat.procs.map.look Tryz.underlying108(zeroPtrProc w1)HB.out.2.2.2.2 true
 have hpo:procOfP p.pure id=(S.lp.find? (fun p=>decide(p.1.id=id))).map(fun p=>p.1.toProcP):=by
  rw [← hpu]
  simp only [procOfP,partB_true HZ.out.2.2.1,if_true]
  exact find_pure id S.lp
 rw [look_find] at hlk
 simp only [if_true] at hlk
 clear hb1 hyes hat hpu
 cases hfd:S.lp.find? (fun p=>decide(p.1.id=id))with
 | none=>
  rw [hfd] at hlk hpo
  simp only [Option.map_none,ptrO,Option.isSome_none] at hlk
  have HN:Hid(procOfP p.pure id=none):=hpo
  clear hfd hpo
  go_wp2_with (refine wpList_store_row rfl 43(Operand.tmp 4)(Operand.tmp 29)rfl(w.heap.size+1)_ _ zero12 rfl rfl HZ.out.2.1(by kernel_rfl)rfl(by kernel_rfl) ?_)
  refine bodyPost_ret(v:= .tuple #[.agg zero12,.bool false])(results_row_tmp Tryz.results30 _ _(w.heap.size+1)_ _ _ _(by rfl)(setRow_heap _ _ _ _ _ _ HZ.out.2.1)Tryz.underlying43 rfl(by kernel_rfl))rfl ?_
  exact procEnds_no HN.out(below_setRow HZ.out.1(by omega)_)
 | some r=>
  obtain⟨x,g⟩:=r
  rw [hfd] at hlk hpo
  simp only [Option.map_some,ptrO,ptrV,Option.isSome_some] at hlk
  have hm:(x,g)∈S.lp:=List.mem_of_find?_eq_some hfd
  have HN:Hid(procOfP p.pure id=some x.toProcP∧procN.Mine w1 W.heap.size x):=⟨hpo,HZ.out.2.2.2.1.mineP(x,g)hm⟩
  obtain⟨d0,d1,d2,d3,d4,d5,d6,d7,d8,d9,d10,d11⟩:=proc_cells(HZ.out.2.2.2.1.procs.box(x,g)hm)
  clear hfd hpo hm
  go_wp2_with (refine wpList_store_row rfl 43(Operand.tmp 4)(Operand.tmp 32)rfl(w.heap.size+1)_ _ x.row rfl rfl HZ.out.2.1(by kernel_rfl)rfl(by kernel_rfl) ?_)
  refine bodyPost_ret(v:= .tuple #[.agg x.row,.bool true])(results_row_tmp Tryz.results30 _ _(w.heap.size+1)_ _ _ _(by rfl)(setRow_heap _ _ _ _ _ _ HZ.out.2.1)Tryz.underlying43 rfl(by kernel_rfl))rfl ?_
  rw [HN.out.1]
  have hWs:=HZ.out.2.2.2.2.2
  exact⟨x,rfl,(HN.out.2.low(by omega)).same fun g hk=>setRow_other _ _ _ _(by have:=(HN.out.2.lt hk).1; omega),rfl,below_setRow HZ.out.1(by omega)_⟩
end Go.Proofs.YtkbcplnlehdjfaaGreat

namespace Go.Proofs.YtkbcplnlehdjfaaGreat
open Go.RowKit
theorem mine_below {α:Type} {N:Nest α} {w w':World} {base:Nat} {x:α} (h:N.Mine w base x)(hb:Below w.heap.size w w'):N.Mine w' base x:=h.same fun g hk=>hb.block g(h.lt hk).2
def SrcS(p:PartD)(w W:World):Prop:=W.heap[w.heap.size]? =some(.cells p.cells 73(0,0))∧Below w.heap.size w W
def PartIn(W:World)(X b:Nat)(q:PartD):Prop:=PartBox W X q∧PartOwn W b q
def ProcIs(W:World)(X b:Nat)(x:ProcD):Prop:=ProcBox W X x∧procN.Mine W b x
section
variable {p q:PartD} {x:ProcD} {w W W':World} {X b:Nat} {bs:List Nat}
theorem SrcS.below(h:SrcS p w W)(hb:Below W.heap.size W W'):SrcS p w W':=⟨(hb.block _(Array.getElem?_eq_some_iff.1 h.1).1).trans h.1,h.2.trans(hb.mono h.2.size)⟩
theorem SrcS.kept(h:SrcS p w W)(hk:KeptBut W W' bs)(hs: ∀ g∈bs,w.heap.size < g):SrcS p w W':=⟨(hk.same _(Array.getElem?_eq_some_iff.1 h.1).1 fun hm=>by have:=hs _ hm; omega).trans h.1,h.2.trans(hk.below h.2.size fun g hg=>by have:=hs g hg; omega)⟩
theorem PartIn.below(h:PartIn W X b q)(hb:Below W.heap.size W W'):PartIn W' X b q:=⟨h.1.below hb,h.2.below hb⟩
theorem PartIn.kept(h:PartIn W X b q)(hk:KeptBut W W' bs)(hs:X∉bs)(ho: ∀ g∈q.blocks,g∉bs):PartIn W' X b q:=⟨(hk.same _(Array.getElem?_eq_some_iff.1 h.1).1 hs).trans h.1,h.2.same fun g hg=>hk.same g(h.2.lt g hg).2(ho g hg)⟩
theorem ProcIs.below(h:ProcIs W X b x)(hb:Below W.heap.size W W'):ProcIs W' X b x:=⟨h.1.below hb,mine_below h.2 hb⟩
theorem ProcIs.kept(h:ProcIs W X b x)(hk:KeptBut W W' bs)(hs:X∉bs)(ho: ∀ g∈blk x.progA,g∉bs):ProcIs W' X b x:=⟨(hk.same _(Array.getElem?_eq_some_iff.1 h.1).1 hs).trans h.1,h.2.same fun g hg=>hk.same g(h.2.lt hg).2(ho g(mem_blk.2 hg))⟩
theorem PartBox.lt {W:World} {X:Nat} {q:PartD} (h:PartBox W X q):X < W.heap.size:=(Array.getElem?_eq_some_iff.1 h).1
theorem ProcBox.lt {W:World} {X:Nat} {x:ProcD} (h:ProcBox W X x):X < W.heap.size:=(Array.getElem?_eq_some_iff.1 h).1
end
end Go.Proofs.YtkbcplnlehdjfaaGreat
