/- What the proof leans on, part 4: DwProg, PD, ProgSpec, Place, SrcCells. -/
import Derived.Test.YtkbcplnlehdjfaaGreatOwnCh2
import Derived.Test.YtkbcplnlehdjfaaGreatOwnCh3
import Derived.Deep.OwnRows
import Derived.Deep.AppendLies
import Derived.Maps.AppendAt
set_option maxRecDepth 100000
set_option maxHeartbeats 8000000

namespace Go.Proofs.YtkbcplnlehdjfaaGreat
open Go.RowKit
def cellsO:List OpD→List Value
 | [] => []
 | o :: os=> .int .i64 o.1 :: .int .i64 o.2.1 :: .int .i64 o.2.2.1 :: .string o.2.2.2 :: cellsO os
theorem cellsO_append: ∀ (os os':List OpD),cellsO(os ++ os')=cellsO os ++ cellsO os'
 | [],_=>rfl
 | o :: os,os'=>by simp [cellsO,cellsO_append os os']
theorem cellsO_at: ∀ (os:List OpD)(j:Nat),j < os.length * 4→(cellsO os)[j]? =some(opV(kOf os)(nOf os)(mOf os)(sOf os)j)
 | [],j,h=>by simp at h
 | o :: os,j,h=>by
  have hk: ∀ i,kOf(o :: os)(i+1)=kOf os i∧nOf(o :: os)(i+1)=nOf os i∧mOf(o :: os)(i+1)=mOf os i∧sOf(o :: os)(i+1)=sOf os i:=fun i=>by simp [kOf,nOf,mOf,sOf]
  match j,h with
  | 0,_=>simp [cellsO,opV,kOf]
  | 1,_=>simp [cellsO,opV,nOf]
  | 2,_=>simp [cellsO,opV,mOf]
  | 3,_=>simp [cellsO,opV,sOf]
  | j+4,h=>
   have ih:=cellsO_at os j(by simp at h; omega)
   have e1:(j+4) / 4=j / 4+1:=by omega
   have e2:(j+4) % 4=j % 4:=by omega
   obtain⟨h1,h2,h3,h4⟩:=hk(j / 4)
   simp only [cellsO,List.getElem?_cons_succ]
   rw [ih]
   simp only [opV,e1,e2,h1,h2,h3,h4]
theorem ownO_form {w:World} {base n:Nat} {v:Value} {os:List OpD} (h:w.ownsRow base 134 4 v n(cellsO os))(hn:n=os.length):(v= .slice none 0 0∧os.length=0)∨ ∃ g c,v= .slice(some⟨g,0,none⟩)os.length c∧base≤g∧ListAt w g os∧ ∃ cur:Array Value,w.heap[g]? =some(.cells cur 134(0,0))∧os.length * 4≤cur.size∧ ∀ j,j < os.length * 4→cur[j]? =some(opV(kOf os)(nOf os)(mOf os)(sOf os)j):=by
 subst hn
 rcases h.2 with ⟨h1,h2⟩ | ⟨g,cap,cur,h1,h2,h3,h4,h5,h6,h7⟩
 ·exact .inl⟨h1,h2⟩
 ·have key: ∀ j,j < os.length * 4→cur[j]? =some(opV(kOf os)(nOf os)(mOf os)(sOf os)j):=fun j hj=>by
   rw [← cellsO_at os j hj,← h7,List.getElem?_take_of_lt(by omega)]
   simp
  refine .inr⟨g,cap,h1,h2,⟨(Array.getElem?_eq_some_iff.1 h3).1,fun j hj=> ?_⟩,cur,h3,by omega,key⟩
  rw [cell_of_row _ _ _ _ _ _ h3]
  exact key j hj
theorem ownO_some {w:World} {base n:Nat} {v:Value} {xs:List Value} (h:w.ownsRow base 134 4 v(n+1)xs): ∃ g c,v= .slice(some⟨g,0,none⟩)(n+1)c:=by
 rcases h.2 with ⟨_,h2⟩ | ⟨g,cap,cur,h1,_⟩
 ·omega
 ·exact⟨g,cap,h1⟩
theorem opInfo':(Tryz.prog.info? 134).map(fun i=>(i.zero,i.size,i.bytes))=some(some(.agg #[.int .i64 0,.int .i64 0,.int .i64 0,.string⟨#[]⟩]),4,40):=by kernel_rfl
theorem len_snocO(os:List OpD)(o:OpD):(os ++ [o]).length=os.length+1:=by simp
structure PgUp(r:Nat)(a:Option Addr)(len cap:Nat)(w x:World)(g c:Nat)(os:List OpD):Prop where
 own:x.ownsRow w.heap.size 134 4(.slice(some⟨g,0,none⟩)os.length c)os.length(cellsO os)
 but:But r w x
 rd:Rd r a len cap x
 st:Rd r a len cap w
 sz: ∀ o∈os,o.2.2.2.size≤3
theorem PgUp.form {r:Nat} {a:Option Addr} {len cap:Nat} {w x:World} {g c:Nat} {os:List OpD} (h:PgUp r a len cap w x g c os):w.heap.size≤g∧ListAt x g os:=by
 rcases ownO_form h.own rfl with ⟨h1,_⟩ | ⟨g',c',h1,h2,h3,_⟩
 ·cases h1
 ·cases h1
  exact⟨h2,h3⟩
theorem PgUp.move {r:Nat} {a:Option Addr} {len cap:Nat} {w x y:World} {g c:Nat} {os:List OpD} (h:PgUp r a len cap w x g c os)(hb:But r x y)(hr:Rd r a len cap y):PgUp r a len cap w y g c os:=
 ⟨ownsRow_but h.own hb h.st.lt,h.but.trans hb,hr,h.st,h.sz⟩
theorem PgUp.alloc {r:Nat} {a:Option Addr} {len cap:Nat} {w x:World} {g c:Nat} {os:List OpD} (h:PgUp r a len cap w x g c os)(o:Obj):PgUp r a len cap w(x.alloc o)g c os:=
 h.move((But.refl _ _).alloc _)(h.rd.below((Below.refl _ _).alloc(Nat.le_refl _)_))
theorem PgUp.next {r:Nat} {a:Option Addr} {len cap:Nat} {w x w5:World} {g c g' c':Nat} {os:List OpD} {o:OpD} (h:PgUp r a len cap w x g c os)(hz:o.2.2.2.size≤3)(hg:x.grownBy w5(some g))
  (hown:w5.ownsRow w.heap.size 134 4(.slice(some⟨g',0,none⟩)(os.length+1)c')(os.length+1)(cellsO os ++ [.int .i64 o.1,.int .i64 o.2.1,.int .i64 o.2.2.1,.string o.2.2.2])):PgUp r a len cap w w5 g' c'(os ++ [o]):=by
 have hf:=h.form.1
 have hb:But r w w5:=h.but.grown hg(fun k hk=>by cases hk; exact hf)
 obtain⟨p,hp,hrow⟩:=h.rd.1
 have hrl:=h.st.lt
 have hrow5:w5.heap[r]? =some(.cells #[.slice a len cap,.int .i64 p] 188(0,0)):=(hg.block r(Array.getElem?_eq_some_iff.1 hrow).1(fun e=>by cases e; omega)).trans hrow
 refine⟨?_,hb,⟨⟨p,hp,hrow5⟩,h.st.2.but hb⟩,h.st,fun q hq=> ?_⟩
 ·rw [cellsO_append,len_snocO]
  simpa [cellsO] using hown
 ·rcases List.mem_append.1 hq with hq | hq
  ·exact h.sz q hq
  ·rw [List.mem_singleton] at hq; subst hq; exact hz
theorem prog_any(r:Nat)(a:Option Addr)(len cap:Nat)(w:World)(hl:len≤1048576)(h:Rd r a len cap w):
  Calls Tryz.prog 83 #[.pointer(some⟨r,0,none⟩)] w fun e w'=> ∃ (g c:Nat)(os:List OpD),e= .returned(.slice(some⟨g,0,none⟩)os.length c)∧os.length≤6∧PgUp r a len cap w w' g c os:=by
 obtain⟨i0,hi,e0⟩:=Option.map_eq_some_iff.1 opInfo'
 simp only [Prod.mk.injEq] at e0
 have HI:Hid(Tryz.prog.info? 134=some i0∧i0.zero=some(.agg #[.int .i64 0,.int .i64 0,.int .i64 0,.string⟨#[]⟩])∧i0.size=4∧i0.bytes=40):=⟨hi,e0⟩
 clear hi e0
 have HA:Hid(PgUp r a len cap w(w.alloc(.cells #[] 134))w.heap.size 0 []):=
  ⟨⟨rfl,.inr⟨w.heap.size,0,#[],rfl,Nat.le_refl _,heap_alloc_new _ _,Nat.le_refl _,Nat.zero_le _,rfl,rfl⟩⟩,(But.refl _ _).alloc _,h.below((Below.refl _ _).alloc(Nat.le_refl _)_),h,fun o ho=>by simp at ho⟩
 clear h
 go_enter Tryz.func83,Tryz.ntmps83
 go_wp2_with fail
 generalize w.alloc(.cells #[] 134)=W0 at *
 generalize hgs:w.heap.size=g0 at *
 refine(below_any r a len cap 5 _ hl(by omega)(by omega)HA.out.rd).mono ?_
 rintro e w1⟨v,v0,v1,rfl,hb1,hr1⟩
 have H1:Hid(PgUp r a len cap w w1 g0 0 []):=HA.out.move hb1 hr1
 have e1:IntKind.i64.wrap(1+v)=1+v:=by rw [IntKind.wrap_i64]; omega
 clear hb1 hr1 HA
 go_wp2_with fail
 go_loopw [3,4] (fun v i wr=> ∃ (g c:Nat)(os:List OpD)(m:Int),v= .slice(some⟨g,0,none⟩)os.length c∧i= .int .i64 m∧0≤m∧(os.length:Int)+m≤5∧Hid(PgUp r a len cap w wr g c os))(fun _ i _=>(intOf i).toNat)
 case atStart=>exact⟨g0,0,[],1+v,rfl,rfl,by omega,by simp; omega,H1⟩
 case round=>
  clear H1
  obtain⟨g,c,os,m,rfl,rfl,hm0,hm5,H⟩:=hrel
  by_cases hm:0 < m
  ·go_wp2_with fail
   refine(op_any r a len cap _ hl H.out.rd).mono ?_
   rintro e w4⟨o,hoz,rfl,hb4,hr4⟩
   have H4:Hid(PgUp r a len cap w w4 g c os):=H.out.move hb4 hr4
   have HX:Hid(PgUp r a len cap w(w4.alloc(.cells #[.int .i64 o.1,.int .i64 o.2.1,.int .i64 o.2.2.1,.string o.2.2.2] 134))g c os):=H4.out.alloc _
   have e2:IntKind.i64.wrap(m - 1)=m - 1:=by rw [IntKind.wrap_i64]; omega
   have hw4:=H4.out.but.size
   clear hb4 hr4 H
   go_wp2_with (at_builtin; refine wpList_append_own_at _ rfl _ _ 37 rfl w.heap.size 134 i0(.agg #[.int .i64 0,.int .i64 0,.int .i64 0,.string⟨#[]⟩])4 40 Tryz.underlying37 HI.out.1 HI.out.2.1 HI.out.2.2.1 HI.out.2.2.2 rfl(by decide)(.slice(some⟨g,0,none⟩)os.length c)os.length(cellsO os)rfl HX.out.own⟨w4.heap.size,0,none⟩1 1 [.int .i64 o.1,.int .i64 o.2.1,.int .i64 o.2.2.1,.string o.2.2.2] (by rfl)rfl(World.news_of_block(cs:= #[.int .i64 o.1,.int .i64 o.2.1,.int .i64 o.2.2.1,.string o.2.2.2])(t:=134)(fr:=(0,0))(heap_alloc_new w4 _))(by simp [Value.oneCell'])(by unfold maxLen; omega)(by omega)(by simp; omega) ?_; intro v' w5 hown' hgrow hnil hloc; obtain⟨gg,cp,rfl⟩:=ownO_some hown'; have HN:Hid(PgUp r a len cap w w5 gg cp(os ++ [o])):=HX.out.next hoz hgrow hown'; clear hown' hgrow hnil hloc HX)
   go_roundw
   case rel=>exact⟨gg,cp,os ++ [o],m - 1,by rw [len_snocO],rfl,by omega,by rw [len_snocO]; omega,HN⟩
   case measure=>simp [intOf]; omega
  ·go_wp2_with fail
   refine(once_any r a len cap 3 _ hl(by omega)(by omega)H.out.rd).mono ?_
   rintro e w3⟨bb,rfl,hb3,hr3⟩
   have H3:Hid(PgUp r a len cap w w3 g c os):=H.out.move hb3 hr3
   clear hb3 hr3 H
   cases bb with
   | false=>
    go_wp2
    go_ret
    exact⟨g,c,os,rfl,by omega,H3.out⟩
   | true=>
    have HX:Hid(PgUp r a len cap w(w3.alloc(.cells #[.int .i64 17,.int .i64 0,.int .i64 0,.string⟨#[]⟩] 134))g c os):=H3.out.alloc _
    have hw4:=H3.out.but.size
    go_wp2_with (at_builtin; refine wpList_append_own_at _ rfl _ _ 37 rfl w.heap.size 134 i0(.agg #[.int .i64 0,.int .i64 0,.int .i64 0,.string⟨#[]⟩])4 40 Tryz.underlying37 HI.out.1 HI.out.2.1 HI.out.2.2.1 HI.out.2.2.2 rfl(by decide)(.slice(some⟨g,0,none⟩)os.length c)os.length(cellsO os)rfl HX.out.own⟨w3.heap.size,0,none⟩1 1 [.int .i64 17,.int .i64 0,.int .i64 0,.string⟨#[]⟩] (by rfl)rfl(World.news_of_block(cs:= #[.int .i64 17,.int .i64 0,.int .i64 0,.string⟨#[]⟩])(t:=134)(fr:=(0,0))(heap_alloc_new w3 _))(by simp [Value.oneCell'])(by unfold maxLen; omega)(by omega)(by simp; omega) ?_; intro v' w5 hown' hgrow hnil hloc; obtain⟨gg,cp,rfl⟩:=ownO_some hown'; have HN:Hid(PgUp r a len cap w w5 gg cp(os ++ [(17,0,0,⟨#[]⟩)])):=HX.out.next(Nat.zero_le 3)hgrow hown'; clear hown' hgrow hnil hloc HX)
    go_ret
    exact⟨gg,cp,os ++ [(17,0,0,⟨#[]⟩)],by rw [len_snocO]; rfl,by rw [len_snocO]; omega,HN.out⟩
end Go.Proofs.YtkbcplnlehdjfaaGreat

namespace Go.Proofs.YtkbcplnlehdjfaaGreat
open Go.RowKit
structure SemD where
 id:Int
 n:Int
 max:Int
def semVals(x:SemD):List Value:= [.int .i64 x.id,.int .i64 x.n,.int .i64 x.max]
def semK:Kind SemD:=⟨3,semVals,fun _=> [],by decide,fun _=>rfl⟩
def SemD.At(w:World)(g i:Nat)(x:SemD):Prop:=w.cell? ⟨g,i * 3,none⟩=some(.int .i64 x.id)∧w.cell? ⟨g,i * 3+1,none⟩=some(.int .i64 x.n)∧w.cell? ⟨g,i * 3+2,none⟩=some(.int .i64 x.max)
theorem sem_at {w:World} {a:Option Addr} {l:List SemD} (h:semK.Lies w a l) {i:Nat} {x:SemD} (hx:l[i]? =some x): ∃ g,a=some⟨g,0,none⟩∧SemD.At w g i x:=by
 obtain⟨g,e,hc⟩:=h.at hx
 exact⟨g,e,hc 0 _ rfl,hc 1 _ rfl,hc 2 _ rfl⟩
structure EventD where
 id:Int
 up:Bool
def eventVals(x:EventD):List Value:= [.int .i64 x.id,.bool x.up]
def eventK:Kind EventD:=⟨2,eventVals,fun _=> [],by decide,fun _=>rfl⟩
def EventD.At(w:World)(g i:Nat)(x:EventD):Prop:=w.cell? ⟨g,i * 2,none⟩=some(.int .i64 x.id)∧w.cell? ⟨g,i * 2+1,none⟩=some(.bool x.up)
theorem event_at {w:World} {a:Option Addr} {l:List EventD} (h:eventK.Lies w a l) {i:Nat} {x:EventD} (hx:l[i]? =some x): ∃ g,a=some⟨g,0,none⟩∧EventD.At w g i x:=by
 obtain⟨g,e,hc⟩:=h.at hx
 exact⟨g,e,hc 0 _ rfl,hc 1 _ rfl⟩
structure BoardD where
 id:Int
 shown:Bool
 text:ByteArray
def boardVals(x:BoardD):List Value:= [.int .i64 x.id,.bool x.shown,.string x.text]
def boardK:Kind BoardD:=⟨3,boardVals,fun _=> [],by decide,fun _=>rfl⟩
def BoardD.At(w:World)(g i:Nat)(x:BoardD):Prop:=w.cell? ⟨g,i * 3,none⟩=some(.int .i64 x.id)∧w.cell? ⟨g,i * 3+1,none⟩=some(.bool x.shown)∧w.cell? ⟨g,i * 3+2,none⟩=some(.string x.text)
theorem board_at {w:World} {a:Option Addr} {l:List BoardD} (h:boardK.Lies w a l) {i:Nat} {x:BoardD} (hx:l[i]? =some x): ∃ g,a=some⟨g,0,none⟩∧BoardD.At w g i x:=by
 obtain⟨g,e,hc⟩:=h.at hx
 exact⟨g,e,hc 0 _ rfl,hc 1 _ rfl,hc 2 _ rfl⟩
structure BufferP where
 id:Int
 max:Int
 items:List ByteArray
structure BufferD extends BufferP where
 itemsA:Option Addr
 itemsC:Nat
def bufferVals(x:BufferD):List Value:= [.int .i64 x.id,.int .i64 x.max,.slice x.itemsA x.items.length x.itemsC]
def bufferK:Kind BufferD:=⟨3,bufferVals,fun x=> [(x.itemsA,strK.flat x.items)],by decide,fun _=>rfl⟩
def BufferD.At(w:World)(g i:Nat)(x:BufferD):Prop:=w.cell? ⟨g,i * 3,none⟩=some(.int .i64 x.id)∧w.cell? ⟨g,i * 3+1,none⟩=some(.int .i64 x.max)∧w.cell? ⟨g,i * 3+2,none⟩=some(.slice x.itemsA x.items.length x.itemsC)
theorem buffer_at {w:World} {a:Option Addr} {l:List BufferD} (h:bufferK.Lies w a l) {i:Nat} {x:BufferD} (hx:l[i]? =some x): ∃ g,a=some⟨g,0,none⟩∧BufferD.At w g i x:=by
 obtain⟨g,e,hc⟩:=h.at hx
 exact⟨g,e,hc 0 _ rfl,hc 1 _ rfl,hc 2 _ rfl⟩
theorem buffer_items {w:World} {a:Option Addr} {l:List BufferD} (h:bufferK.Lies w a l) {i:Nat} {x:BufferD} (hx:l[i]? =some x):Row w x.itemsA(strK.flat x.items):=h.kid hx(r:=(x.itemsA,strK.flat x.items))(by simp [bufferK])
structure PortP where
 id:Int
 out:Bool
 queue:Bool
 max:Int
 items:List ByteArray
structure PortD extends PortP where
 itemsA:Option Addr
 itemsC:Nat
def portVals(x:PortD):List Value:= [.int .i64 x.id,.bool x.out,.bool x.queue,.int .i64 x.max,.slice x.itemsA x.items.length x.itemsC]
def portK:Kind PortD:=⟨5,portVals,fun x=> [(x.itemsA,strK.flat x.items)],by decide,fun _=>rfl⟩
def PortD.At(w:World)(g i:Nat)(x:PortD):Prop:=w.cell? ⟨g,i * 5,none⟩=some(.int .i64 x.id)∧w.cell? ⟨g,i * 5+1,none⟩=some(.bool x.out)∧w.cell? ⟨g,i * 5+2,none⟩=some(.bool x.queue)∧w.cell? ⟨g,i * 5+3,none⟩=some(.int .i64 x.max)∧w.cell? ⟨g,i * 5+4,none⟩=some(.slice x.itemsA x.items.length x.itemsC)
theorem port_at {w:World} {a:Option Addr} {l:List PortD} (h:portK.Lies w a l) {i:Nat} {x:PortD} (hx:l[i]? =some x): ∃ g,a=some⟨g,0,none⟩∧PortD.At w g i x:=by
 obtain⟨g,e,hc⟩:=h.at hx
 exact⟨g,e,hc 0 _ rfl,hc 1 _ rfl,hc 2 _ rfl,hc 3 _ rfl,hc 4 _ rfl⟩
theorem port_items {w:World} {a:Option Addr} {l:List PortD} (h:portK.Lies w a l) {i:Nat} {x:PortD} (hx:l[i]? =some x):Row w x.itemsA(strK.flat x.items):=h.kid hx(r:=(x.itemsA,strK.flat x.items))(by simp [portK])
structure ProcP where
 id:Int
 prio:Int
 prog:List OpD
 state:Int
 pc:Int
 left:Int
 wake:Int
 on:Int
 held:ByteArray
 got:ByteArray
 code:Int
 since:Int
structure ProcD extends ProcP where
 progA:Option Addr
 progC:Nat
def procVals(x:ProcD):List Value:= [.int .i64 x.id,.int .i64 x.prio,.slice x.progA x.prog.length x.progC,.int .i64 x.state,.int .i64 x.pc,.int .i64 x.left,.int .i64 x.wake,.int .i64 x.on,.string x.held,.string x.got,.int .i64 x.code,.int .i64 x.since]
def procK:Kind ProcD:=⟨12,procVals,fun x=> [(x.progA,opK.flat x.prog)],by decide,fun _=>rfl⟩
def ProcD.At(w:World)(g i:Nat)(x:ProcD):Prop:=w.cell? ⟨g,i * 12,none⟩=some(.int .i64 x.id)∧w.cell? ⟨g,i * 12+1,none⟩=some(.int .i64 x.prio)∧w.cell? ⟨g,i * 12+2,none⟩=some(.slice x.progA x.prog.length x.progC)∧w.cell? ⟨g,i * 12+3,none⟩=some(.int .i64 x.state)∧w.cell? ⟨g,i * 12+4,none⟩=some(.int .i64 x.pc)∧w.cell? ⟨g,i * 12+5,none⟩=some(.int .i64 x.left)∧w.cell? ⟨g,i * 12+6,none⟩=some(.int .i64 x.wake)∧w.cell? ⟨g,i * 12+7,none⟩=some(.int .i64 x.on)∧w.cell? ⟨g,i * 12+8,none⟩=some(.string x.held)∧w.cell? ⟨g,i * 12+9,none⟩=some(.string x.got)∧w.cell? ⟨g,i * 12+10,none⟩=some(.int .i64 x.code)∧w.cell? ⟨g,i * 12+11,none⟩=some(.int .i64 x.since)
theorem proc_at {w:World} {a:Option Addr} {l:List ProcD} (h:procK.Lies w a l) {i:Nat} {x:ProcD} (hx:l[i]? =some x): ∃ g,a=some⟨g,0,none⟩∧ProcD.At w g i x:=by
 obtain⟨g,e,hc⟩:=h.at hx
 exact⟨g,e,hc 0 _ rfl,hc 1 _ rfl,hc 2 _ rfl,hc 3 _ rfl,hc 4 _ rfl,hc 5 _ rfl,hc 6 _ rfl,hc 7 _ rfl,hc 8 _ rfl,hc 9 _ rfl,hc 10 _ rfl,hc 11 _ rfl⟩
theorem proc_prog {w:World} {a:Option Addr} {l:List ProcD} (h:procK.Lies w a l) {i:Nat} {x:ProcD} (hx:l[i]? =some x):Row w x.progA(opK.flat x.prog):=h.kid hx(r:=(x.progA,opK.flat x.prog))(by simp [procK])
structure PartD where
 id:Int
 next:Int
 procs:List ProcD
 procA:Option Addr
 procC:Nat
 sems:List SemD
 semA:Option Addr
 semC:Nat
 events:List EventD
 eventA:Option Addr
 eventC:Nat
 boards:List BoardD
 boardA:Option Addr
 boardC:Nat
 buffers:List BufferD
 bufferA:Option Addr
 bufferC:Nat
 ports:List PortD
 portA:Option Addr
 portC:Nat
def PartD.cells(p:PartD):Array Value:= #[.int .i64 p.id,.int .i64 p.next,.slice p.procA p.procs.length p.procC,.slice p.semA p.sems.length p.semC,.slice p.eventA p.events.length p.eventC,.slice p.boardA p.boards.length p.boardC,.slice p.bufferA p.buffers.length p.bufferC,.slice p.portA p.ports.length p.portC]
def PartD.At(w:World)(p:PartD):Prop:=procK.Lies w p.procA p.procs∧semK.Lies w p.semA p.sems∧eventK.Lies w p.eventA p.events∧boardK.Lies w p.boardA p.boards∧bufferK.Lies w p.bufferA p.buffers∧portK.Lies w p.portA p.ports
theorem PartD.At.below {w w':World} {p:PartD} (h:PartD.At w p)(hb:Below w.heap.size w w'):PartD.At w' p:=⟨h.1.below hb,h.2.1.below hb,h.2.2.1.below hb,h.2.2.2.1.below hb,h.2.2.2.2.1.below hb,h.2.2.2.2.2.below hb⟩
structure PartP where
 id:Int
 next:Int
 procs:List ProcP
 sems:List SemD
 events:List EventD
 boards:List BoardD
 buffers:List BufferP
 ports:List PortP
def PartD.pure(p:PartD):PartP:=⟨p.id,p.next,p.procs.map(·.toProcP),p.sems,p.events,p.boards,p.buffers.map(·.toBufferP),p.ports.map(·.toPortP)⟩
def place(l:List Int)(id:Int)(i:Nat):Int:=match l with
 | [] => -1
 | x :: r=>if x=id then i else place r id(i+1)
theorem place_ge: ∀ (l:List Int)(id:Int)(i:Nat),place l id i= -1∨(i:Int)≤place l id i
 | [],_,_=> .inl rfl
 | y :: r,id,i=>by
  simp only [place]
  split
  ·exact .inr(by omega)
  ·rcases place_ge r id(i+1)with h | h
   ·exact .inl h
   ·exact .inr(by omega)
theorem place_none: ∀ {l:List Int} {id:Int} {i:Nat},place l id i= -1↔id∉l
 | [],id,i=>by simp [place]
 | y :: r,id,i=>by
  simp only [place,List.mem_cons,not_or]
  split
  ·rename_i h
   constructor
   ·intro h2; omega
   ·intro h2; exact absurd h.symm h2.1
  ·rename_i h
   rw [place_none(l:=r)]
   exact⟨fun h2=>⟨fun e=>h e.symm,h2⟩,fun h2=>h2.2⟩
theorem place_take {l:List Int} {id:Int} {k:Nat} (h:id∉l.take k) {x:Int} (hx:l[k]? =some x)(e:x=id):place l id 0=k:=by
 have hk:k < l.length:=(List.getElem?_eq_some_iff.1 hx).1
 have e1:l=l.take k ++ x :: l.drop(k+1):=by
  have:=List.take_append_drop k l
  rw [List.drop_eq_getElem_cons hk] at this
  rw [← this]
  rw [List.getElem?_eq_getElem hk] at hx
  cases hx
  simp
 have key: ∀ (t:List Int)(i:Nat),id∉t→place(t ++ x :: l.drop(k+1))id i=((i+t.length:Nat):Int):=by
  intro t
  induction t with
  | nil=>intro i _; simp [place,e]
  | cons y r ih=>
   intro i hn
   simp only [List.mem_cons,not_or] at hn
   simp only [List.cons_append,place]
   rw [if_neg(fun h=>hn.1 h.symm),ih(i+1)hn.2]
   simp only [List.length_cons]
   rw [show i+1+r.length=i+(r.length+1)by omega]
 have:=key(l.take k)0 h
 rw [← e1] at this
 rw [this,List.length_take]
 congr 1
 omega
abbrev PartD.row(p:PartD):Array Value:= #[.int .i64 p.id,.int .i64 p.next,.slice p.procA p.procs.length p.procC,.slice p.semA p.sems.length p.semC,.slice p.eventA p.events.length p.eventC,.slice p.boardA p.boards.length p.boardC,.slice p.bufferA p.buffers.length p.bufferC,.slice p.portA p.ports.length p.portC]
abbrev ProcD.row(x:ProcD):Array Value:= #[.int .i64 x.id,.int .i64 x.prio,.slice x.progA x.prog.length x.progC,.int .i64 x.state,.int .i64 x.pc,.int .i64 x.left,.int .i64 x.wake,.int .i64 x.on,.string x.held,.string x.got,.int .i64 x.code,.int .i64 x.since]
abbrev zero8:Array Value:= #[.int .i64 0,.int .i64 0,.slice none 0 0,.slice none 0 0,.slice none 0 0,.slice none 0 0,.slice none 0 0,.slice none 0 0]
abbrev zero12:Array Value:= #[.int .i64 0,.int .i64 0,.slice none 0 0,.int .i64 0,.int .i64 0,.int .i64 0,.int .i64 0,.int .i64 0,.string⟨#[]⟩,.string⟨#[]⟩,.int .i64 0,.int .i64 0]
end Go.Proofs.YtkbcplnlehdjfaaGreat

namespace Go.Proofs.YtkbcplnlehdjfaaGreat
open Go.RowKit
theorem specProgOk_any(g len cap:Nat)(K N M:Nat→Int)(S:Nat→ByteArray)(w:World)(hl:len≤1048576)(hs: ∀ i,i < len→(S i).size≤1048576)(hr:OpsAt w g len K N M S):
  Calls Tryz.prog 183 #[.slice(some⟨g,0,none⟩)len cap] w fun e w'=>e= .returned(.bool(progB len K N M S))∧Below w.heap.size w w':=by
 have HR:Hid(OpsAt w g len K N M S):=hr
 have HS:Hid(∀ i,i < len→(S i).size≤1048576):=hs
 clear hr hs
 go_enter Tryz.func183,Tryz.ntmps183
 go_wp2
 go_loopw [3] (fun i wr=> ∃ k:Nat,k≤len∧i= .int .i64 k∧(∀ j,j < k→opAtB K N M S j=true)∧Below w.heap.size w wr)(fun i _=>len - (intOf i).toNat)
 case atStart=>exact⟨0,Nat.zero_le _,rfl,fun j hj=>absurd hj(by omega),Below.refl _ _⟩
 case round=>
  obtain⟨k,hk,rfl,hall,hbel⟩:=hrel
  have HA:Hid(∀ j,j < k→opAtB K N M S j=true):=hall
  have HB:Hid(Below w.heap.size w wr):=hbel
  have HW:Hid(OpsAt wr g len K N M S):=HR.out.below hbel
  clear hall hbel
  by_cases hlt:k < len
  ·have c0:=HW.out.c0 hlt
   have c1:=HW.out.c1 hlt
   have c2:=HW.out.c2 hlt
   have c3:=HW.out.c3 hlt
   have i0:(0:Int)≤(k:Int):=by omega
   have i1:(k:Int) < (len:Int):=by omega
   go_wp2_with fail
   refine(specOpOk_any(K k)(N k)(M k)(S k)wr(HS.out k hlt)).mono ?_
   rintro e w1⟨rfl,hb1⟩
   have HB1:Hid(Below w.heap.size w w1):=HB.out.trans(hb1.mono HB.out.size)
   have HO:Hid(opB(K k)(N k)(M k)(S k)=opAtB K N M S k):=rfl
   rw [HO.out]
   clear hb1 c0 c1 c2 c3
   cases hop:opAtB K N M S k with
   | true=>
    have HP:Hid(opAtB K N M S k=true):=hop
    clear hop
    go_wp2
    go_roundw
    case rel=>exact⟨k+1,by omega,by go_num,fun j hj=>by
     by_cases e:j=k
     ·subst e; exact HP.out
     ·exact HA.out j(by omega),HB1.out⟩
    case measure=>simp [intOf]; omega
   | false=>
    have HP:Hid(opAtB K N M S k=false):=hop
    clear hop
    go_wp2
    go_ret
    exact⟨ret_bool(progB_false(fun h=>by have:=h.2.2 k hlt; rw [HP.out] at this; cases this)).symm,HB1.out⟩
  ·have e:k=len:=by omega
   subst e
   by_cases h1:1≤k
   ·have h1':(1:Int)≤(k:Int):=by omega
    by_cases h2:k≤20
    ·have h2':(k:Int)≤20:=by omega
     go_wp2
     go_ret
     exact⟨ret_bool(by rw [progB_true⟨h1,h2,HA.out⟩]),HB.out⟩
    ·have h2': ¬ (k:Int)≤20:=by omega
     go_wp2
     go_ret
     exact⟨ret_bool(by rw [progB_false(fun h=>h2 h.2.1)]),HB.out⟩
   ·have h1': ¬ (1:Int)≤(k:Int):=by omega
    go_wp2
    go_ret
    exact⟨ret_bool(by rw [progB_false(fun h=>h1 h.1)]),HB.out⟩
theorem implProgOk_any(g len cap:Nat)(K N M:Nat→Int)(S:Nat→ByteArray)(w:World)(hl:len≤1048576)(hs: ∀ i,i < len→(S i).size≤1048576)(hr:OpsAt w g len K N M S):
  Calls Tryz.prog 284 #[.slice(some⟨g,0,none⟩)len cap] w fun e w'=>e= .returned(.bool(progB len K N M S))∧Below w.heap.size w w':=by
 have HR:Hid(OpsAt w g len K N M S):=hr
 have HS:Hid(∀ i,i < len→(S i).size≤1048576):=hs
 clear hr hs
 by_cases h1: ¬ 1≤len
 ·have h1':(len:Int) < 1:=by omega
  go_enter Tryz.func284,Tryz.ntmps284
  go_wp2
  go_ret
  exact⟨ret_bool(progB_false(fun h=>h1 h.1)).symm,Below.refl _ _⟩
 have h1': ¬ (len:Int) < 1:=by omega
 by_cases h2:20 < len
 ·have h2':(20:Int) < (len:Int):=by omega
  go_enter Tryz.func284,Tryz.ntmps284
  go_wp2
  go_ret
  exact⟨ret_bool(progB_false(fun h=>by omega)).symm,Below.refl _ _⟩
 have h2': ¬ (20:Int) < (len:Int):=by omega
 go_enter Tryz.func284,Tryz.ntmps284
 go_wp2_with fail
 go_loopw [15] (fun i wr=> ∃ k:Nat,k≤len∧i= .int .i64 k∧(∀ j,j < k→opAtB K N M S j=true)∧Below w.heap.size w wr)(fun i _=>len - (intOf i).toNat)
 case atStart=>exact⟨0,Nat.zero_le _,rfl,fun j hj=>absurd hj(by omega),Below.refl _ _⟩
 case round=>
  obtain⟨k,hk,rfl,hall,hbel⟩:=hrel
  have HA:Hid(∀ j,j < k→opAtB K N M S j=true):=hall
  have HB:Hid(Below w.heap.size w wr):=hbel
  have HW:Hid(OpsAt wr g len K N M S):=HR.out.below hbel
  clear hall hbel
  by_cases hlt:k < len
  ·have c0:=HW.out.c0 hlt
   have c1:=HW.out.c1 hlt
   have c2:=HW.out.c2 hlt
   have c3:=HW.out.c3 hlt
   have i0:(0:Int)≤(k:Int):=by omega
   have i1:(k:Int) < (len:Int):=by omega
   have hgl:=HW.out.1
   go_wp2_with fail
   refine(implOpOk_any(K k)(N k)(M k)(S k)_(HS.out k hlt)).mono ?_
   rintro e w1⟨rfl,hb1⟩
   have HB1:Hid(Below w.heap.size w w1):=(HB.out.alloc HB.out.size _).trans(hb1.mono(by have:=HB.out.size; simp; omega))
   have HO:Hid(opB(K k)(N k)(M k)(S k)=opAtB K N M S k):=rfl
   rw [HO.out]
   clear hb1 c0 c1 c2 c3
   cases hop:opAtB K N M S k with
   | true=>
    have HP:Hid(opAtB K N M S k=true):=hop
    clear hop
    go_wp2
    go_roundw
    case rel=>exact⟨k+1,by omega,by go_num,fun j hj=>by
     by_cases e:j=k
     ·subst e; exact HP.out
     ·exact HA.out j(by omega),HB1.out⟩
    case measure=>simp [intOf]; omega
   | false=>
    have HP:Hid(opAtB K N M S k=false):=hop
    clear hop
    go_wp2
    go_ret
    exact⟨ret_bool(progB_false(fun h=>by have:=h.2.2 k hlt; rw [HP.out] at this; cases this)).symm,HB1.out⟩
  ·have e:k=len:=by omega
   subst e
   go_wp2
   go_ret
   exact⟨ret_bool(progB_true⟨by omega,by omega,HA.out⟩).symm,HB.out⟩
end Go.Proofs.YtkbcplnlehdjfaaGreat

namespace Go.Proofs.YtkbcplnlehdjfaaGreat
open Go.RowKit
theorem not_take {l:List Int} {k:Nat} {id x:Int} (h:id∉l.take k)(hx:l[k]? =some x)(hne: ¬ x=id):id∉l.take(k+1):=by
 have hk:k < l.length:=(List.getElem?_eq_some_iff.1 hx).1
 rw [List.take_succ_eq_append_getElem hk,List.mem_append,List.mem_singleton]
 rw [List.getElem?_eq_getElem hk] at hx
 cases hx
 rintro (h1 | h1)
 ·exact h h1
 ·exact hne h1.symm
theorem not_all_take {l:List Int} {k:Nat} {id:Int} (h:id∉l.take k)(hk:l.length≤k):place l id 0= -1:=by
 rw [List.take_of_length_le hk] at h
 exact place_none.2 h
theorem l3Proc_any(p:PartD)(id:Int)(w:World)(hl:p.procs.length≤1048576)(h:PartD.At w p):
  Calls Tryz.prog 97 #[.agg p.cells,.int .i64 id] w fun e w'=>e= .returned(.int .i64(place(p.procs.map(·.id))id 0))∧Below w.heap.size w w':=by
 have H:Hid(procK.Lies(w.alloc(.cells p.cells 32))p.procA p.procs∧Below w.heap.size w(w.alloc(.cells p.cells 32))):=⟨h.1.below((Below.refl _ _).alloc(Nat.le_refl _)_),(Below.refl _ _).alloc(Nat.le_refl _)_⟩
 have q:(w.alloc(.cells p.cells 32)).cell? ⟨w.heap.size,2,none⟩=some(.slice p.procA p.procs.length p.procC):=by rw [cell_of_row _ _ _ _ _ _(heap_alloc_new _ _)]; rfl
 clear h
 unfold PartD.cells at *
 go_enter Tryz.func97,Tryz.ntmps97
 go_wp2_with fail
 generalize w.alloc(.cells p.row 32)=W at *
 go_loop [5] (fun i=> ∃ k:Nat,k≤p.procs.length∧i= .int .i64 k∧Hid(id∉(p.procs.map(·.id)).take k))(fun i=>p.procs.length - (intOf i).toNat)
 case atStart=>exact⟨0,Nat.zero_le _,rfl,(by simp:id∉(p.procs.map(·.id)).take 0)⟩
 case round=>
  obtain⟨k,hk,rfl,HA⟩:=hrel
  by_cases hlt:k < p.procs.length
  ·have i0:(0:Int)≤(k:Int):=by omega
   have i1:(k:Int) < (p.procs.length:Int):=by omega
   obtain⟨x,hx⟩: ∃ x,p.procs[k]? =some x:=⟨_,List.getElem?_eq_getElem hlt⟩
   have HX:Hid((p.procs.map(·.id))[k]? =some x.id):=by show _=_; rw [List.getElem?_map,hx]; rfl
   obtain⟨g,ha,hat⟩:=proc_at H.out.1 hx
   have c0:=hat.1
   rw [ha] at q
   clear hat hx
   by_cases hc:x.id=id
   ·have HC:Hid(x.id=id):=hc
    have h1:(x.id == id)=true:=by simp [hc]
    clear hc
    go_wp2
    go_ret
    exact⟨ret_int(place_take HA.out HX.out HC.out).symm,H.out.2⟩
   ·have HC:Hid(¬ x.id=id):=hc
    have h1:(x.id == id)=false:=by simp [hc]
    clear hc
    go_wp2
    go_round
    case rel=>exact⟨k+1,by omega,by go_num,not_take HA.out HX.out HC.out⟩
    case measure=>simp [intOf]; omega
  ·have i1: ¬ (k:Int) < (p.procs.length:Int):=by omega
   go_wp2
   go_ret
   exact⟨ret_int(not_all_take HA.out(by rw [List.length_map]; omega)).symm,H.out.2⟩
theorem l3Sem_any(p:PartD)(id:Int)(w:World)(hl:p.sems.length≤1048576)(h:PartD.At w p):
  Calls Tryz.prog 214 #[.agg p.cells,.int .i64 id] w fun e w'=>e= .returned(.int .i64(place(p.sems.map(·.id))id 0))∧Below w.heap.size w w':=by
 have H:Hid(semK.Lies(w.alloc(.cells p.cells 32))p.semA p.sems∧Below w.heap.size w(w.alloc(.cells p.cells 32))):=⟨h.2.1.below((Below.refl _ _).alloc(Nat.le_refl _)_),(Below.refl _ _).alloc(Nat.le_refl _)_⟩
 have q:(w.alloc(.cells p.cells 32)).cell? ⟨w.heap.size,3,none⟩=some(.slice p.semA p.sems.length p.semC):=by rw [cell_of_row _ _ _ _ _ _(heap_alloc_new _ _)]; rfl
 clear h
 unfold PartD.cells at *
 go_enter Tryz.func214,Tryz.ntmps214
 go_wp2_with fail
 generalize w.alloc(.cells p.row 32)=W at *
 go_loop [5] (fun i=> ∃ k:Nat,k≤p.sems.length∧i= .int .i64 k∧Hid(id∉(p.sems.map(·.id)).take k))(fun i=>p.sems.length - (intOf i).toNat)
 case atStart=>exact⟨0,Nat.zero_le _,rfl,(by simp:id∉(p.sems.map(·.id)).take 0)⟩
 case round=>
  obtain⟨k,hk,rfl,HA⟩:=hrel
  by_cases hlt:k < p.sems.length
  ·have i0:(0:Int)≤(k:Int):=by omega
   have i1:(k:Int) < (p.sems.length:Int):=by omega
   obtain⟨x,hx⟩: ∃ x,p.sems[k]? =some x:=⟨_,List.getElem?_eq_getElem hlt⟩
   have HX:Hid((p.sems.map(·.id))[k]? =some x.id):=by show _=_; rw [List.getElem?_map,hx]; rfl
   obtain⟨g,ha,hat⟩:=sem_at H.out.1 hx
   have c0:=hat.1
   rw [ha] at q
   clear hat hx
   by_cases hc:x.id=id
   ·have HC:Hid(x.id=id):=hc
    have h1:(x.id == id)=true:=by simp [hc]
    clear hc
    go_wp2
    go_ret
    exact⟨ret_int(place_take HA.out HX.out HC.out).symm,H.out.2⟩
   ·have HC:Hid(¬ x.id=id):=hc
    have h1:(x.id == id)=false:=by simp [hc]
    clear hc
    go_wp2
    go_round
    case rel=>exact⟨k+1,by omega,by go_num,not_take HA.out HX.out HC.out⟩
    case measure=>simp [intOf]; omega
  ·have i1: ¬ (k:Int) < (p.sems.length:Int):=by omega
   go_wp2
   go_ret
   exact⟨ret_int(not_all_take HA.out(by rw [List.length_map]; omega)).symm,H.out.2⟩
theorem l3Event_any(p:PartD)(id:Int)(w:World)(hl:p.events.length≤1048576)(h:PartD.At w p):
  Calls Tryz.prog 215 #[.agg p.cells,.int .i64 id] w fun e w'=>e= .returned(.int .i64(place(p.events.map(·.id))id 0))∧Below w.heap.size w w':=by
 have H:Hid(eventK.Lies(w.alloc(.cells p.cells 32))p.eventA p.events∧Below w.heap.size w(w.alloc(.cells p.cells 32))):=⟨h.2.2.1.below((Below.refl _ _).alloc(Nat.le_refl _)_),(Below.refl _ _).alloc(Nat.le_refl _)_⟩
 have q:(w.alloc(.cells p.cells 32)).cell? ⟨w.heap.size,4,none⟩=some(.slice p.eventA p.events.length p.eventC):=by rw [cell_of_row _ _ _ _ _ _(heap_alloc_new _ _)]; rfl
 clear h
 unfold PartD.cells at *
 go_enter Tryz.func215,Tryz.ntmps215
 go_wp2_with fail
 generalize w.alloc(.cells p.row 32)=W at *
 go_loop [5] (fun i=> ∃ k:Nat,k≤p.events.length∧i= .int .i64 k∧Hid(id∉(p.events.map(·.id)).take k))(fun i=>p.events.length - (intOf i).toNat)
 case atStart=>exact⟨0,Nat.zero_le _,rfl,(by simp:id∉(p.events.map(·.id)).take 0)⟩
 case round=>
  obtain⟨k,hk,rfl,HA⟩:=hrel
  by_cases hlt:k < p.events.length
  ·have i0:(0:Int)≤(k:Int):=by omega
   have i1:(k:Int) < (p.events.length:Int):=by omega
   obtain⟨x,hx⟩: ∃ x,p.events[k]? =some x:=⟨_,List.getElem?_eq_getElem hlt⟩
   have HX:Hid((p.events.map(·.id))[k]? =some x.id):=by show _=_; rw [List.getElem?_map,hx]; rfl
   obtain⟨g,ha,hat⟩:=event_at H.out.1 hx
   have c0:=hat.1
   rw [ha] at q
   clear hat hx
   by_cases hc:x.id=id
   ·have HC:Hid(x.id=id):=hc
    have h1:(x.id == id)=true:=by simp [hc]
    clear hc
    go_wp2
    go_ret
    exact⟨ret_int(place_take HA.out HX.out HC.out).symm,H.out.2⟩
   ·have HC:Hid(¬ x.id=id):=hc
    have h1:(x.id == id)=false:=by simp [hc]
    clear hc
    go_wp2
    go_round
    case rel=>exact⟨k+1,by omega,by go_num,not_take HA.out HX.out HC.out⟩
    case measure=>simp [intOf]; omega
  ·have i1: ¬ (k:Int) < (p.events.length:Int):=by omega
   go_wp2
   go_ret
   exact⟨ret_int(not_all_take HA.out(by rw [List.length_map]; omega)).symm,H.out.2⟩
theorem l3Board_any(p:PartD)(id:Int)(w:World)(hl:p.boards.length≤1048576)(h:PartD.At w p):
  Calls Tryz.prog 217 #[.agg p.cells,.int .i64 id] w fun e w'=>e= .returned(.int .i64(place(p.boards.map(·.id))id 0))∧Below w.heap.size w w':=by
 have H:Hid(boardK.Lies(w.alloc(.cells p.cells 32))p.boardA p.boards∧Below w.heap.size w(w.alloc(.cells p.cells 32))):=⟨h.2.2.2.1.below((Below.refl _ _).alloc(Nat.le_refl _)_),(Below.refl _ _).alloc(Nat.le_refl _)_⟩
 have q:(w.alloc(.cells p.cells 32)).cell? ⟨w.heap.size,5,none⟩=some(.slice p.boardA p.boards.length p.boardC):=by rw [cell_of_row _ _ _ _ _ _(heap_alloc_new _ _)]; rfl
 clear h
 unfold PartD.cells at *
 go_enter Tryz.func217,Tryz.ntmps217
 go_wp2_with fail
 generalize w.alloc(.cells p.row 32)=W at *
 go_loop [5] (fun i=> ∃ k:Nat,k≤p.boards.length∧i= .int .i64 k∧Hid(id∉(p.boards.map(·.id)).take k))(fun i=>p.boards.length - (intOf i).toNat)
 case atStart=>exact⟨0,Nat.zero_le _,rfl,(by simp:id∉(p.boards.map(·.id)).take 0)⟩
 case round=>
  obtain⟨k,hk,rfl,HA⟩:=hrel
  by_cases hlt:k < p.boards.length
  ·have i0:(0:Int)≤(k:Int):=by omega
   have i1:(k:Int) < (p.boards.length:Int):=by omega
   obtain⟨x,hx⟩: ∃ x,p.boards[k]? =some x:=⟨_,List.getElem?_eq_getElem hlt⟩
   have HX:Hid((p.boards.map(·.id))[k]? =some x.id):=by show _=_; rw [List.getElem?_map,hx]; rfl
   obtain⟨g,ha,hat⟩:=board_at H.out.1 hx
   have c0:=hat.1
   rw [ha] at q
   clear hat hx
   by_cases hc:x.id=id
   ·have HC:Hid(x.id=id):=hc
    have h1:(x.id == id)=true:=by simp [hc]
    clear hc
    go_wp2
    go_ret
    exact⟨ret_int(place_take HA.out HX.out HC.out).symm,H.out.2⟩
   ·have HC:Hid(¬ x.id=id):=hc
    have h1:(x.id == id)=false:=by simp [hc]
    clear hc
    go_wp2
    go_round
    case rel=>exact⟨k+1,by omega,by go_num,not_take HA.out HX.out HC.out⟩
    case measure=>simp [intOf]; omega
  ·have i1: ¬ (k:Int) < (p.boards.length:Int):=by omega
   go_wp2
   go_ret
   exact⟨ret_int(not_all_take HA.out(by rw [List.length_map]; omega)).symm,H.out.2⟩
theorem l3Buffer_any(p:PartD)(id:Int)(w:World)(hl:p.buffers.length≤1048576)(h:PartD.At w p):
  Calls Tryz.prog 216 #[.agg p.cells,.int .i64 id] w fun e w'=>e= .returned(.int .i64(place(p.buffers.map(·.id))id 0))∧Below w.heap.size w w':=by
 have H:Hid(bufferK.Lies(w.alloc(.cells p.cells 32))p.bufferA p.buffers∧Below w.heap.size w(w.alloc(.cells p.cells 32))):=⟨h.2.2.2.2.1.below((Below.refl _ _).alloc(Nat.le_refl _)_),(Below.refl _ _).alloc(Nat.le_refl _)_⟩
 have q:(w.alloc(.cells p.cells 32)).cell? ⟨w.heap.size,6,none⟩=some(.slice p.bufferA p.buffers.length p.bufferC):=by rw [cell_of_row _ _ _ _ _ _(heap_alloc_new _ _)]; rfl
 clear h
 unfold PartD.cells at *
 go_enter Tryz.func216,Tryz.ntmps216
 go_wp2_with fail
 generalize w.alloc(.cells p.row 32)=W at *
 go_loop [5] (fun i=> ∃ k:Nat,k≤p.buffers.length∧i= .int .i64 k∧Hid(id∉(p.buffers.map(·.id)).take k))(fun i=>p.buffers.length - (intOf i).toNat)
 case atStart=>exact⟨0,Nat.zero_le _,rfl,(by simp:id∉(p.buffers.map(·.id)).take 0)⟩
 case round=>
  obtain⟨k,hk,rfl,HA⟩:=hrel
  by_cases hlt:k < p.buffers.length
  ·have i0:(0:Int)≤(k:Int):=by omega
   have i1:(k:Int) < (p.buffers.length:Int):=by omega
   obtain⟨x,hx⟩: ∃ x,p.buffers[k]? =some x:=⟨_,List.getElem?_eq_getElem hlt⟩
   have HX:Hid((p.buffers.map(·.id))[k]? =some x.id):=by show _=_; rw [List.getElem?_map,hx]; rfl
   obtain⟨g,ha,hat⟩:=buffer_at H.out.1 hx
   have c0:=hat.1
   rw [ha] at q
   clear hat hx
   by_cases hc:x.id=id
   ·have HC:Hid(x.id=id):=hc
    have h1:(x.id == id)=true:=by simp [hc]
    clear hc
    go_wp2
    go_ret
    exact⟨ret_int(place_take HA.out HX.out HC.out).symm,H.out.2⟩
   ·have HC:Hid(¬ x.id=id):=hc
    have h1:(x.id == id)=false:=by simp [hc]
    clear hc
    go_wp2
    go_round
    case rel=>exact⟨k+1,by omega,by go_num,not_take HA.out HX.out HC.out⟩
    case measure=>simp [intOf]; omega
  ·have i1: ¬ (k:Int) < (p.buffers.length:Int):=by omega
   go_wp2
   go_ret
   exact⟨ret_int(not_all_take HA.out(by rw [List.length_map]; omega)).symm,H.out.2⟩
theorem l3Port_any(p:PartD)(id:Int)(w:World)(hl:p.ports.length≤1048576)(h:PartD.At w p):
  Calls Tryz.prog 248 #[.agg p.cells,.int .i64 id] w fun e w'=>e= .returned(.int .i64(place(p.ports.map(·.id))id 0))∧Below w.heap.size w w':=by
 have H:Hid(portK.Lies(w.alloc(.cells p.cells 32))p.portA p.ports∧Below w.heap.size w(w.alloc(.cells p.cells 32))):=⟨h.2.2.2.2.2.below((Below.refl _ _).alloc(Nat.le_refl _)_),(Below.refl _ _).alloc(Nat.le_refl _)_⟩
 have q:(w.alloc(.cells p.cells 32)).cell? ⟨w.heap.size,7,none⟩=some(.slice p.portA p.ports.length p.portC):=by rw [cell_of_row _ _ _ _ _ _(heap_alloc_new _ _)]; rfl
 clear h
 unfold PartD.cells at *
 go_enter Tryz.func248,Tryz.ntmps248
 go_wp2_with fail
 generalize w.alloc(.cells p.row 32)=W at *
 go_loop [5] (fun i=> ∃ k:Nat,k≤p.ports.length∧i= .int .i64 k∧Hid(id∉(p.ports.map(·.id)).take k))(fun i=>p.ports.length - (intOf i).toNat)
 case atStart=>exact⟨0,Nat.zero_le _,rfl,(by simp:id∉(p.ports.map(·.id)).take 0)⟩
 case round=>
  obtain⟨k,hk,rfl,HA⟩:=hrel
  by_cases hlt:k < p.ports.length
  ·have i0:(0:Int)≤(k:Int):=by omega
   have i1:(k:Int) < (p.ports.length:Int):=by omega
   obtain⟨x,hx⟩: ∃ x,p.ports[k]? =some x:=⟨_,List.getElem?_eq_getElem hlt⟩
   have HX:Hid((p.ports.map(·.id))[k]? =some x.id):=by show _=_; rw [List.getElem?_map,hx]; rfl
   obtain⟨g,ha,hat⟩:=port_at H.out.1 hx
   have c0:=hat.1
   rw [ha] at q
   clear hat hx
   by_cases hc:x.id=id
   ·have HC:Hid(x.id=id):=hc
    have h1:(x.id == id)=true:=by simp [hc]
    clear hc
    go_wp2
    go_ret
    exact⟨ret_int(place_take HA.out HX.out HC.out).symm,H.out.2⟩
   ·have HC:Hid(¬ x.id=id):=hc
    have h1:(x.id == id)=false:=by simp [hc]
    clear hc
    go_wp2
    go_round
    case rel=>exact⟨k+1,by omega,by go_num,not_take HA.out HX.out HC.out⟩
    case measure=>simp [intOf]; omega
  ·have i1: ¬ (k:Int) < (p.ports.length:Int):=by omega
   go_wp2
   go_ret
   exact⟨ret_int(not_all_take HA.out(by rw [List.length_map]; omega)).symm,H.out.2⟩
def textsB(l:List ByteArray)(most:Int):Bool:=l.all plainB && decide((l.length:Int)≤most)
theorem textsB_no {l:List ByteArray} {most:Int} {k:Nat} {x:ByteArray} (hx:l[k]? =some x)(h:plainB x=false):textsB l most=false:=by
 have:l.all plainB=false:=by
  rw [List.all_eq_false]
  exact⟨x,List.mem_of_getElem? hx,by simp [h]⟩
 simp [textsB,this]
theorem all_take_snoc {l:List ByteArray} {k:Nat} {x:ByteArray} (h:(l.take k).all plainB=true)(hx:l[k]? =some x)(hp:plainB x=true):(l.take(k+1)).all plainB=true:=by
 have hk:k < l.length:=(List.getElem?_eq_some_iff.1 hx).1
 rw [List.take_succ_eq_append_getElem hk,List.all_append,h]
 rw [List.getElem?_eq_getElem hk] at hx
 cases hx
 simp [hp]
theorem str_at {w:World} {a:Option Addr} {l:List ByteArray} (h:Row w a(strK.flat l)) {k:Nat} {x:ByteArray} (hx:l[k]? =some x): ∃ g,a=some⟨g,0,none⟩∧w.cell? ⟨g,k,none⟩=some(.string x):=by
 have h1:(strK.flat l)[k]? =some(.string x):=by
  have:=strK.flat_get hx(j:=0)(by decide)
  simpa [strK] using this
 exact h k _ h1
theorem l3Texts_any(a:Option Addr)(l:List ByteArray)(cap:Nat)(most:Int)(w:World)(hl:l.length≤1048576)(hs: ∀ x∈l,x.size≤1048576)(h:Row w a(strK.flat l)):
  Calls Tryz.prog 182 #[.slice a l.length cap,.int .i64 most] w fun e w'=>e= .returned(.bool(textsB l most))∧w'=w:=by
 have H:Hid(Row w a(strK.flat l)∧ ∀ x∈l,x.size≤1048576):=⟨h,hs⟩
 clear h hs
 go_enter Tryz.func182,Tryz.ntmps182
 go_wp2_with fail
 go_loop [5] (fun i=> ∃ k:Nat,k≤l.length∧i= .int .i64 k∧Hid((l.take k).all plainB=true))(fun i=>l.length - (intOf i).toNat)
 case atStart=>exact⟨0,Nat.zero_le _,rfl,(by simp:(l.take 0).all plainB=true)⟩
 case round=>
  obtain⟨k,hk,rfl,HA⟩:=hrel
  by_cases hlt:k < l.length
  ·have i0:(0:Int)≤(k:Int):=by omega
   have i1:(k:Int) < (l.length:Int):=by omega
   obtain⟨x,hx⟩: ∃ x,l[k]? =some x:=⟨_,List.getElem?_eq_getElem hlt⟩
   have HX:Hid(l[k]? =some x):=hx
   obtain⟨g,rfl,c0⟩:=str_at H.out.1 hx
   have hxs:=H.out.2 x(List.mem_of_getElem? hx)
   clear hx
   go_wp2_with fail
   refine(l2Plain_any x w hxs).mono ?_
   rintro e w'⟨rfl,rfl⟩
   cases hp:plainB x with
   | true=>
    have HP:Hid(plainB x=true):=hp
    clear hp
    go_wp2
    go_round
    case rel=>exact⟨k+1,by omega,by go_num,all_take_snoc HA.out HX.out HP.out⟩
    case measure=>simp [intOf]; omega
   | false=>
    have HP:Hid(plainB x=false):=hp
    clear hp
    go_wp2
    go_ret
    exact⟨ret_bool(textsB_no HX.out HP.out).symm,rfl⟩
  ·have i1: ¬ (k:Int) < (l.length:Int):=by omega
   have HT:Hid(l.all plainB=true):=by have:=HA.out; rwa [List.take_of_length_le(by omega)] at this
   have e1:wrap64(l.length:Int)=l.length:=by unfold wrap64; omega
   go_wp2
   go_ret
   exact⟨ret_bool(by rw [textsB,HT.out]; simp),rfl⟩
def hasB(p:PartP)(state id:Int):Bool:=
 if state=3 then decide(id∈p.sems.map(·.id))else if state=4 then decide(id∈p.events.map(·.id))
 else if state=5∨state=6 then decide(id∈p.buffers.map(·.id))else if state=7 then decide(id∈p.boards.map(·.id))else false
theorem place_mem(l:List Int)(id:Int):decide(0≤place l id 0)=decide(id∈l):=by
 by_cases h:id∈l
 ·rw [decide_eq_true h]
  rcases place_ge l id 0 with h1 | h1
  ·exact absurd h(place_none.1 h1)
  ·exact decide_eq_true(by simpa using h1)
 ·rw [decide_eq_false h,place_none.2 h]
  rfl
structure PartD.Short(p:PartD):Prop where
 procs:p.procs.length≤1048576
 sems:p.sems.length≤1048576
 events:p.events.length≤1048576
 boards:p.boards.length≤1048576
 buffers:p.buffers.length≤1048576
 ports:p.ports.length≤1048576
theorem l3Has_any(p:PartD)(state id:Int)(w:World)(hl:p.Short)(h:PartD.At w p):
  Calls Tryz.prog 184 #[.agg p.cells,.int .i64 state,.int .i64 id] w fun e w'=>e= .returned(.bool(hasB p.pure state id))∧Below w.heap.size w w':=by
 have hp:p.cells=p.row:=rfl
 have H:Hid((PartD.At(w.alloc(.cells p.cells 32))p∧Below w.heap.size w(w.alloc(.cells p.cells 32)))∧p.Short):=⟨⟨h.below((Below.refl _ _).alloc(Nat.le_refl _)_),(Below.refl _ _).alloc(Nat.le_refl _)_⟩,hl⟩
 rw [hp] at H
 rw [hp]
 clear h hl hp
 by_cases s3:state=3
 ·subst s3
  go_enter Tryz.func184,Tryz.ntmps184
  go_wp2_with fail
  refine(l3Sem_any p id _ H.out.2.sems H.out.1.1).mono ?_
  rintro e w1⟨rfl,hb1⟩
  have HB:Hid(Below w.heap.size w w1):=H.out.1.2.trans(hb1.mono(by simp))
  have HM:Hid(decide(0≤place(p.sems.map(·.id))id 0)=decide(id∈p.sems.map(·.id))):=place_mem _ id
  clear hb1
  go_wp2
  go_ret
  exact⟨ret_bool(HM.out.trans(by simp [hasB,PartD.pure])),HB.out⟩
 by_cases s4:state=4
 ·subst s4
  go_enter Tryz.func184,Tryz.ntmps184
  go_wp2_with fail
  refine(l3Event_any p id _ H.out.2.events H.out.1.1).mono ?_
  rintro e w1⟨rfl,hb1⟩
  have HB:Hid(Below w.heap.size w w1):=H.out.1.2.trans(hb1.mono(by simp))
  have HM:Hid(decide(0≤place(p.events.map(·.id))id 0)=decide(id∈p.events.map(·.id))):=place_mem _ id
  clear hb1
  go_wp2
  go_ret
  exact⟨ret_bool(HM.out.trans(by simp [hasB,PartD.pure])),HB.out⟩
 by_cases s5:state=5
 ·subst s5
  go_enter Tryz.func184,Tryz.ntmps184
  go_wp2_with fail
  refine(l3Buffer_any p id _ H.out.2.buffers H.out.1.1).mono ?_
  rintro e w1⟨rfl,hb1⟩
  have HB:Hid(Below w.heap.size w w1):=H.out.1.2.trans(hb1.mono(by simp))
  have HM:Hid(decide(0≤place(p.buffers.map(·.id))id 0)=decide(id∈p.buffers.map(·.id))):=place_mem _ id
  clear hb1
  go_wp2
  go_ret
  exact⟨ret_bool(HM.out.trans(by simp [hasB,PartD.pure])),HB.out⟩
 by_cases s6:state=6
 ·subst s6
  go_enter Tryz.func184,Tryz.ntmps184
  go_wp2_with fail
  refine(l3Buffer_any p id _ H.out.2.buffers H.out.1.1).mono ?_
  rintro e w1⟨rfl,hb1⟩
  have HB:Hid(Below w.heap.size w w1):=H.out.1.2.trans(hb1.mono(by simp))
  have HM:Hid(decide(0≤place(p.buffers.map(·.id))id 0)=decide(id∈p.buffers.map(·.id))):=place_mem _ id
  clear hb1
  go_wp2
  go_ret
  exact⟨ret_bool(HM.out.trans(by simp [hasB,PartD.pure])),HB.out⟩
 by_cases s7:state=7
 ·subst s7
  go_enter Tryz.func184,Tryz.ntmps184
  go_wp2_with fail
  refine(l3Board_any p id _ H.out.2.boards H.out.1.1).mono ?_
  rintro e w1⟨rfl,hb1⟩
  have HB:Hid(Below w.heap.size w w1):=H.out.1.2.trans(hb1.mono(by simp))
  have HM:Hid(decide(0≤place(p.boards.map(·.id))id 0)=decide(id∈p.boards.map(·.id))):=place_mem _ id
  clear hb1
  go_wp2
  go_ret
  exact⟨ret_bool(HM.out.trans(by simp [hasB,PartD.pure])),HB.out⟩
 have e3:(state == 3)=false:=by simp [s3]
 have e4:(state == 4)=false:=by simp [s4]
 have e5:(state == 5)=false:=by simp [s5]
 have e6:(state == 6)=false:=by simp [s6]
 have e7:(state == 7)=false:=by simp [s7]
 have HN:Hid(hasB p.pure state id=false):=by show hasB p.pure state id=false; simp [hasB,s3,s4,s5,s6,s7]
 clear s3 s4 s5 s6 s7
 go_enter Tryz.func184,Tryz.ntmps184
 go_wp2
 go_ret
 exact⟨ret_bool HN.out.symm,H.out.1.2⟩
end Go.Proofs.YtkbcplnlehdjfaaGreat

namespace Go.Proofs.YtkbcplnlehdjfaaGreat
open Go.RowKit
end Go.Proofs.YtkbcplnlehdjfaaGreat
