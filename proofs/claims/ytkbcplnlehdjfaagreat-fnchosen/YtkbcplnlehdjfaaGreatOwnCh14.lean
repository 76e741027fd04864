/- What the proof leans on, part 14: OwnI, ChImpl, ChSpec. -/
import Derived.Test.YtkbcplnlehdjfaaGreatOwnCh1
import Derived.Test.YtkbcplnlehdjfaaGreatOwnCh5
import Derived.Test.YtkbcplnlehdjfaaGreatOwnCh6
import Derived.Test.YtkbcplnlehdjfaaGreatOwnCh7
import Derived.Test.YtkbcplnlehdjfaaGreatOwnCh11
set_option maxRecDepth 100000
set_option maxHeartbeats 8000000

namespace Go.Proofs.YtkbcplnlehdjfaaGreat
open Go.RowKit Go.Maps
attribute [local go_sem ↓] Go.wp_at_zero Go.wp_at_succ
def procN:Nest ProcD:=⟨procVs,fun x=>x.id,43,134,4,fun x=>x.progA,fun x=>x.progC,fun x=>x.prog.length,fun x=>opK.flat x.prog,fun x a c=> { x with progA:=a,progC:=c },fun _ _ _=>rfl,fun _ _ _=>rfl,fun _ _ _=>rfl,fun _ _ _=>rfl,fun _ _ _=>rfl,fun _ _ _ _ _=>rfl⟩
def bufferN:Nest BufferD:=⟨bufferVs,fun x=>x.id,144,9,1,fun x=>x.itemsA,fun x=>x.itemsC,fun x=>x.items.length,fun x=>strK.flat x.items,fun x a c=> { x with itemsA:=a,itemsC:=c },fun _ _ _=>rfl,fun _ _ _=>rfl,fun _ _ _=>rfl,fun _ _ _=>rfl,fun _ _ _=>rfl,fun _ _ _ _ _=>rfl⟩
def portN:Nest PortD:=⟨portVs,fun x=>x.id,61,9,1,fun x=>x.itemsA,fun x=>x.itemsC,fun x=>x.items.length,fun x=>strK.flat x.items,fun x a c=> { x with itemsA:=a,itemsC:=c },fun _ _ _=>rfl,fun _ _ _=>rfl,fun _ _ _=>rfl,fun _ _ _=>rfl,fun _ _ _=>rfl,fun _ _ _ _ _=>rfl⟩
def ListsIn {α:Type} (N:Nest α)(w:World)(base:Nat)(l:List(α × Nat)):Prop:= ∀ p∈l,Row w(N.ad p.1)(N.flat p.1)∧N.len p.1≤1048576∧ ∀ g,N.kid p.1=some g→g < base
theorem ListsIn.low {α:Type} {N:Nest α} {w w':World} {base:Nat} {l:List(α × Nat)} (h:ListsIn N w base l)(hb:Below base w w'):ListsIn N w' base l:=fun p hp=>
 ⟨(h p hp).1.low(fun q e=>(h p hp).2.2 q.block(by simp [Nest.kid,e]))hb,(h p hp).2⟩
theorem opInfoL:(Tryz.prog.info? 134).map(fun i=>(i.zero,i.size,i.bytes))=some(some(.agg #[.int .i64 0,.int .i64 0,.int .i64 0,.string⟨#[]⟩]),4,40):=by kernel_rfl
theorem strInfo:(Tryz.prog.info? 9).map(fun i=>(i.zero,i.size,i.bytes))=some(some(.string⟨#[]⟩),1,16):=by kernel_rfl
theorem one_op {l:List OpD} : ∀ u∈opK.flat l,u.oneCell'=true:=fun u hu=>by
 obtain⟨x,_,hx⟩:=List.mem_flatMap.1 hu
 simp only [opK,opVals,List.mem_cons,List.not_mem_nil,or_false] at hx
 rcases hx with rfl | rfl | rfl | rfl <;> rfl
theorem one_str {l:List ByteArray} : ∀ u∈strK.flat l,u.oneCell'=true:=fun u hu=>by
 obtain⟨x,_,hx⟩:=List.mem_flatMap.1 hu
 simp only [strK,List.mem_cons,List.not_mem_nil,or_false] at hx
 subst hx
 rfl
theorem copy_ops(w:World)(a:Option Addr)(l:List OpD)(cap:Nat)(h:Row w a(opK.flat l))(hl:l.length≤1048576):
  ∃ a' cap' w',(Builtin.append_ #[37,37] 37 #[.slice none 0 0,.slice a l.length cap]).run Tryz.prog w= .ok(.slice a' l.length cap')w'∧w'.ownsRow w.heap.size 134 4(.slice a' l.length cap')l.length(opK.flat l)∧w.grownBy w' none:=by
 obtain⟨i,hi,e⟩:=Option.map_eq_some_iff.1 opInfoL
 simp only [Prod.mk.injEq] at e
 exact append_copy w _ _ 134 i _ 4 40 Tryz.underlying37 hi e.1 e.2.1 e.2.2 rfl(by decide)a l.length cap _ h(opK.flat_length l)one_op hl(by decide)
theorem copy_strs(w:World)(a:Option Addr)(l:List ByteArray)(cap:Nat)(h:Row w a(strK.flat l))(hl:l.length≤1048576):
  ∃ a' cap' w',(Builtin.append_ #[59,59] 59 #[.slice none 0 0,.slice a l.length cap]).run Tryz.prog w= .ok(.slice a' l.length cap')w'∧w'.ownsRow w.heap.size 9 1(.slice a' l.length cap')l.length(strK.flat l)∧w.grownBy w' none:=by
 obtain⟨i,hi,e⟩:=Option.map_eq_some_iff.1 strInfo
 simp only [Prod.mk.injEq] at e
 exact append_copy w _ _ 9 i _ 1 16 Tryz.underlying59 hi e.1 e.2.1 e.2.2 rfl(by decide)a l.length cap _ h(strK.flat_length l)one_str hl(by decide)
structure Owned {α:Type} (N:Nest α)(w0 wr:World)(base b:Nat)(l l':List(α × Nat)):Prop where
 shelf:Shelf N.vs N.num N.T wr base b l'
 alike:l'.map(fun p=>(N.set p.1 none 0,p.2))=l.map(fun p=>(N.set p.1 none 0,p.2))
 mine: ∀ p∈l',N.Mine wr w0.heap.size p.1
 nodup:(kids N l').Nodup
 os:wr.os=w0.os
 tape:wr.tape=w0.tape
 output:wr.output=w0.output
 size:w0.heap.size≤wr.heap.size
 same: ∀ g,g < w0.heap.size→g∉l.map(·.2)→wr.heap[g]? =w0.heap[g]?
theorem OwnIn.owned {α:Type} {N:Nest α} {w0 wr:World} {base b:Nat} {l l':List(α × Nat)} {left:Lit→Bool} (h:OwnIn N w0 wr base b l l' left)(hd: ∀ kl,left kl=false):Owned N w0 wr base b l l':=
 ⟨h.shelf,h.alike,fun p hp=>h.own p hp(hd _),h.nodup hd,h.os,h.tape,h.output,h.size,h.same⟩
theorem Owned.below {α:Type} {N:Nest α} {w0 wr:World} {base b:Nat} {l l':List(α × Nat)} (h:Owned N w0 wr base b l l')(hb:base≤w0.heap.size)(hl: ∀ g∈l.map(·.2),base≤g):Below base w0 wr:=
 ⟨h.os,h.tape,h.output,h.size,fun g hg=>h.same g(by omega)(fun hm=>by have:=hl g hm; omega)⟩
structure Three(w:World)(base o:Nat)(q:Opn)(lp:List(ProcD × Nat))(lf:List(BufferD × Nat))(lq:List(PortD × Nat)):Prop where
 opn:OpenBox w o q
 procs:Shelf procVs(fun x:ProcD=>x.id)43 w base q.bp lp
 buffers:Shelf bufferVs(fun x:BufferD=>x.id)144 w base q.bf lf
 ports:Shelf portVs(fun x:PortD=>x.id)61 w base q.bq lq
 nodup:(o :: ((q.bp :: lp.map(·.2)) ++ ((q.bf :: lf.map(·.2)) ++ (q.bq :: lq.map(·.2))))).Nodup
theorem Three.ownedProc {w w':World} {base o:Nat} {q:Opn} {lp l':List(ProcD × Nat)} {lf:List(BufferD × Nat)} {lq:List(PortD × Nat)} (h:Three w base o q lp lf lq)(ho:Owned procN w w' base q.bp lp l'):Three w' base o q l' lf lq:=by
 have hbl:l'.map(·.2)=lp.map(·.2):=by
  have:=congrArg(List.map(·.2))ho.alike
  simp only [List.map_map,Function.comp_def] at this
  exact this
 have hn:=h.nodup
 rw [List.nodup_cons,List.nodup_append] at hn
 obtain⟨h1,h2,h3,h4⟩:=hn
 have hlp: ∀ g,g∈(q.bf :: lf.map(·.2)) ++ (q.bq :: lq.map(·.2))→g∉lp.map(·.2):=fun g hg hm=>h4 g(List.mem_cons_of_mem _ hm)g hg rfl
 refine⟨(ho.same o(Array.getElem?_eq_some_iff.1 h.opn).1(fun hm=>h1(by simp [List.mem_map.1 hm]))).trans h.opn,ho.shelf,h.buffers.same fun g hg=>ho.same g(h.buffers.lt g hg)(hlp g(List.mem_append_left _ hg)),h.ports.same fun g hg=>ho.same g(h.ports.lt g hg)(hlp g(List.mem_append_right _ hg)),?_⟩
 rw [hbl]
 exact h.nodup
theorem Three.ownedBuffer {w w':World} {base o:Nat} {q:Opn} {lp:List(ProcD × Nat)} {lf l':List(BufferD × Nat)} {lq:List(PortD × Nat)} (h:Three w base o q lp lf lq)(ho:Owned bufferN w w' base q.bf lf l'):Three w' base o q lp l' lq:=by
 have hbl:l'.map(·.2)=lf.map(·.2):=by
  have:=congrArg(List.map(·.2))ho.alike
  simp only [List.map_map,Function.comp_def] at this
  exact this
 have hn:=h.nodup
 rw [List.nodup_cons,List.nodup_append,List.nodup_append] at hn
 obtain⟨h1,h2,⟨h3,h5,h6⟩,h4⟩:=hn
 refine⟨(ho.same o(Array.getElem?_eq_some_iff.1 h.opn).1(fun hm=>h1(by simp [List.mem_map.1 hm]))).trans h.opn,h.procs.same fun g hg=>ho.same g(h.procs.lt g hg)(fun hm=>h4 g hg g(List.mem_append_left _(List.mem_cons_of_mem _ hm))rfl),ho.shelf,h.ports.same fun g hg=>ho.same g(h.ports.lt g hg)(fun hm=>h6 g(List.mem_cons_of_mem _ hm)g hg rfl),?_⟩
 rw [hbl]
 exact h.nodup
theorem ownLists_walk(o base:Nat)(q:Opn)(lp:List(ProcD × Nat))(lf:List(BufferD × Nat))(lq:List(PortD × Nat))(w:World)(h:Three w base o q lp lf lq)(hb:base≤w.heap.size)(h1:ListsIn procN w base lp)(h2:ListsIn bufferN w base lf)(h3:ListsIn portN w base lq):
  Calls Tryz.prog 155 #[.pointer(some⟨o,0,none⟩)] w fun e w'=>e= .returned(.tuple #[])∧ ∃ w1 w2 l0 l1 l2,Owned procN w w1 base q.bp lp l0∧Owned bufferN w1 w2 base q.bf lf l1∧Owned portN w2 w' base q.bq lq l2:=by
 have HT:Hid(Three w base o q lp lf lq):=h
 have HB0:Hid(base≤w.heap.size):=hb
 have HBL:Hid(∀ g∈lp.map(·.2),base≤g):=fun g hg=>h.procs.low g(List.mem_cons_of_mem _ hg)
 have HLP:Hid(ListsIn procN w base lp):=h1
 have HLF:Hid(ListsIn bufferN w base lf):=h2
 have HLQ:Hid(ListsIn portN w base lq):=h3
 clear h hb h1 h2 h3
 go_enter Tryz.func155,Tryz.ntmps155
 have c0:w.cell? ⟨o,3,none⟩=some(.map(some q.bp)):=HT.out.opn.cell 3
 have hown:=HT.out.procs.map.1
 go_wp2_with (at_range; refine wpList_range_own _ rfl _ 108 rfl 2 102 keyed64 Tryz.underlying108 ptrR q.bp _ _ rfl hown ?_; intro w1 hrg1 hg1 hs1)
 have HS:Hid(OwnIn procN w w1 base q.bp lp lp(Maps.has(mapD(keysOf procN.num lp)))):=OwnIn.start HT.out.procs hg1
 have HL0:Hid(∀ g∈q.bp :: lp.map(·.2),g < w.heap.size):=HT.out.procs.lt
 clear hown c0 hg1
 go_frame
 go_loopw [3] (fun _ wr1=> ∃ (left:Lit→Bool)(cnt:Nat)(l':List(ProcD × Nat)),wr1.ranges Tryz.prog 2 ptrR q.bp w.heap.size(keysOf(fun x:ProcD=>x.id)lp).length(mapD(keysOf(fun x:ProcD=>x.id)lp))left cnt∧Hid(OwnIn procN w wr1 base q.bp lp l' left))(fun _ wr1=>wr1.rangeLeft q.bp w.heap.size)
 case atStart=>exact⟨_,_,lp,hrg1,HS.out⟩
 case round=>
  rename World=>wr1
  clear HS hrg1 hs1 w1
  obtain⟨left,cnt,l0,hrg,HO⟩:=hrel
  go_wp2_with (at_next; refine wpList_next_ranges _ rfl _ rfl 2 keyed64 ptrR(Value.int .i64)ptrV(fun key kl hk=>by obtain⟨x,rfl,_⟩:=keyOf_int_inv Tryz.underlying2 hk; exact⟨x,rfl⟩)(fun v y hv=>by obtain⟨g,rfl,_⟩:=ptrR_inv hv; exact⟨g,rfl⟩)q.bp w.heap.size _ _ _ _ rfl hrg ?_ ?_)
  ·intro hc0 hl0
   have HD0:Hid(Owned procN w wr1 base q.bp lp l0):=HO.out.owned hl0
   clear hrg HO hc0 hl0 HL0 left cnt
   have HTN:Hid(Three wr1 base o q l0 lf lq):=HT.out.ownedProc HD0.out
   clear HT
   have HT:Hid(Three wr1 base o q l0 lf lq):=HTN.out
   have HLI:Hid(ListsIn bufferN wr1 base lf∧ListsIn portN wr1 base lq):=⟨HLF.out.low(HD0.out.below HB0.out HBL.out),HLQ.out.low(HD0.out.below HB0.out HBL.out)⟩
   have HBN:Hid(base≤wr1.heap.size):=Nat.le_trans HB0.out HD0.out.size
   clear HTN HB0 HBL HLP
   have HB0:Hid(base≤wr1.heap.size):=HBN.out
   have HBL:Hid(∀ g∈lf.map(·.2),base≤g):=fun g hg=>HT.out.buffers.low g(List.mem_cons_of_mem _ hg)
   clear HLF HLQ
   have HLF:Hid(ListsIn bufferN wr1 base lf):=HLI.out.1
   have HLQ:Hid(ListsIn portN wr1 base lq):=HLI.out.2
   clear HLI HBN
   have c1:wr1.cell? ⟨o,11,none⟩=some(.map(some q.bf)):=HT.out.opn.cell 11
   have hown:=HT.out.buffers.map.1
   go_wp2_with (at_range; refine wpList_range_own _ rfl _ 120 rfl 2 224 keyed64 Tryz.underlying120 ptrR q.bf _ _ rfl hown ?_; intro w1 hrg1 hg1 hs1)
   have HS:Hid(OwnIn bufferN wr1 w1 base q.bf lf lf(Maps.has(mapD(keysOf bufferN.num lf)))):=OwnIn.start HT.out.buffers hg1
   have HL1:Hid(∀ g∈q.bf :: lf.map(·.2),g < wr1.heap.size):=HT.out.buffers.lt
   clear hown c1 hg1
   go_frame
   go_loopw [5] (fun _ wr2=> ∃ (left:Lit→Bool)(cnt:Nat)(l':List(BufferD × Nat)),wr2.ranges Tryz.prog 2 ptrR q.bf wr1.heap.size(keysOf(fun x:BufferD=>x.id)lf).length(mapD(keysOf(fun x:BufferD=>x.id)lf))left cnt∧Hid(OwnIn bufferN wr1 wr2 base q.bf lf l' left))(fun _ wr2=>wr2.rangeLeft q.bf wr1.heap.size)
   case atStart=>exact⟨_,_,lf,hrg1,HS.out⟩
   case round=>
    rename World=>wr2
    clear HS hrg1 hs1 w1
    obtain⟨left,cnt,l1,hrg,HO⟩:=hrel
    go_wp2_with (at_next; refine wpList_next_ranges _ rfl _ rfl 2 keyed64 ptrR(Value.int .i64)ptrV(fun key kl hk=>by obtain⟨x,rfl,_⟩:=keyOf_int_inv Tryz.underlying2 hk; exact⟨x,rfl⟩)(fun v y hv=>by obtain⟨g,rfl,_⟩:=ptrR_inv hv; exact⟨g,rfl⟩)q.bf wr1.heap.size _ _ _ _ rfl hrg ?_ ?_)
    ·intro hc0 hl0
     have HD1:Hid(Owned bufferN wr1 wr2 base q.bf lf l1):=HO.out.owned hl0
     clear hrg HO hc0 hl0 HL1 left cnt
     have HTN:Hid(Three wr2 base o q l0 l1 lq):=HT.out.ownedBuffer HD1.out
     clear HT
     have HT:Hid(Three wr2 base o q l0 l1 lq):=HTN.out
     have HLI:Hid(ListsIn portN wr2 base lq):=HLQ.out.low(HD1.out.below HB0.out HBL.out)
     have HBN:Hid(base≤wr2.heap.size):=Nat.le_trans HB0.out HD1.out.size
     clear HTN HB0 HBL HLF
     have HB0:Hid(base≤wr2.heap.size):=HBN.out
     have HBL:Hid(∀ g∈lq.map(·.2),base≤g):=fun g hg=>HT.out.ports.low g(List.mem_cons_of_mem _ hg)
     clear HLQ
     have HLQ:Hid(ListsIn portN wr2 base lq):=HLI.out
     clear HLI HBN
     have c2:wr2.cell? ⟨o,13,none⟩=some(.map(some q.bq)):=HT.out.opn.cell 13
     have hown:=HT.out.ports.map.1
     go_wp2_with (at_range; refine wpList_range_own _ rfl _ 123 rfl 2 225 keyed64 Tryz.underlying123 ptrR q.bq _ _ rfl hown ?_; intro w1 hrg1 hg1 hs1)
     have HS:Hid(OwnIn portN wr2 w1 base q.bq lq lq(Maps.has(mapD(keysOf portN.num lq)))):=OwnIn.start HT.out.ports hg1
     have HL2:Hid(∀ g∈q.bq :: lq.map(·.2),g < wr2.heap.size):=HT.out.ports.lt
     clear hown c2 hg1
     go_frame
     go_loopw [7] (fun _ wr3=> ∃ (left:Lit→Bool)(cnt:Nat)(l':List(PortD × Nat)),wr3.ranges Tryz.prog 2 ptrR q.bq wr2.heap.size(keysOf(fun x:PortD=>x.id)lq).length(mapD(keysOf(fun x:PortD=>x.id)lq))left cnt∧Hid(OwnIn portN wr2 wr3 base q.bq lq l' left))(fun _ wr3=>wr3.rangeLeft q.bq wr2.heap.size)
     case atStart=>exact⟨_,_,lq,hrg1,HS.out⟩
     case round=>
      rename World=>wr3
      clear HS hrg1 hs1 w1
      obtain⟨left,cnt,l2,hrg,HO⟩:=hrel
      go_wp2_with (at_next; refine wpList_next_ranges _ rfl _ rfl 2 keyed64 ptrR(Value.int .i64)ptrV(fun key kl hk=>by obtain⟨x,rfl,_⟩:=keyOf_int_inv Tryz.underlying2 hk; exact⟨x,rfl⟩)(fun v y hv=>by obtain⟨g,rfl,_⟩:=ptrR_inv hv; exact⟨g,rfl⟩)q.bq wr2.heap.size _ _ _ _ rfl hrg ?_ ?_)
      ·intro hc0 hl0
       have HD2:Hid(Owned portN wr2 wr3 base q.bq lq l2):=HO.out.owned hl0
       clear hrg HO hc0 hl0 HL2 left cnt
       go_wp2
       go_end0
       exact⟨rfl,wr1,wr2,l0,l1,l2,HD0.out,HD1.out,HD2.out⟩
      ·intro x c kl y1 y2 w2 cnt2 hkey hlk hv hat hrg2 hlt2 hgr2 hsz2 hen
       obtain⟨p,hp,rfl,rfl,rfl⟩:=HO.out.pick hkey hv hat
       have hpl:p.2∈lq.map(·.2):=by rw [← HO.out.blocks]; exact List.mem_map.2⟨p,hp,rfl⟩
       have hpo:=HO.out.old p hp hlk
       have hpw:=HL2.out p.2(List.mem_cons_of_mem _ hpl)
       have hbox:w2.heap[p.2]? =some(.cells(portVs p.1)61(0,0)):=(hgr2.block p.2(Nat.lt_of_lt_of_le hpw HO.out.size)(fun e=>by have:=Option.some.inj e; omega)).trans(HO.out.shelf.box p hp)
       have hrow:Row w2 p.1.itemsA(strK.flat p.1.items):=(HLQ.out p hpo).1.same fun g e=>by
        have hgb:g < base:=(HLQ.out p hpo).2.2 g(by show (p.1.itemsA).map(·.block)=some g; rw [show p.1.itemsA=some⟨g,0,none⟩from e]; rfl)
        have hb0:=HB0.out
        refine(hgr2.block g(by have:=HO.out.size; omega)(fun e=>by have:=Option.some.inj e; omega)).trans(HO.out.same g(by omega)(fun hm=>by have:=HBL.out g hm; omega))
       obtain⟨a3,cap3,w3,hap,hown3,hg3⟩:=copy_strs w2 p.1.itemsA p.1.items p.1.itemsC hrow(HLQ.out p hpo).2.1
       have cc:w2.cell? ⟨p.2,4,none⟩=some(.slice p.1.itemsA p.1.items.length p.1.itemsC):=by simp [World.cell?,hbox,portVs]
       have hbox3:=(hg3.block p.2(Array.getElem?_eq_some_iff.1 hbox).1(by simp)).trans hbox
       have cc3:w3.cell? ⟨p.2,4,none⟩=some(.slice p.1.itemsA p.1.items.length p.1.itemsC):=by simp [World.cell?,hbox3,portVs]
       have cf3:w3.frozen? ⟨p.2,4,none⟩=false:=by simp [World.frozen?,hbox3]
       have HN:=HO.out.turn(i:=4)hrg hgr2 hrg2 HL2.out(Nat.le_refl _)hp hown3 hg3 rfl
       have HNH:Hid(_∧_):=HN
       have HLT:Hid(cnt2 < cnt∧wr3.rangeLeft q.bq wr2.heap.size=cnt):=⟨hlt2,hrg.left_eq⟩
       simp only [ptrV] at hen
       clear HN hrg hrg2 hgr2 hsz2 hkey hlk hv hat hlt2 hpl hpo hpw hbox hbox3 hrow hown3 hg3
       unfold ptrV
       go_wp2_with (at_builtin; refine wpList_append_run _ rfl _ _ 59 rfl _ _ _ _ rfl rfl hap ?_; clear hap)
       go_roundw
       case rel=>exact⟨_,_,_,HNH.out.2,HNH.out.1⟩
       case measure=>have h5:=HNH.out.2.left_eq; have h6:=HLT.out; rw [h6.2]; exact Nat.lt_of_le_of_lt(Nat.le_of_eq h5)h6.1
    ·intro x c kl y1 y2 w2 cnt2 hkey hlk hv hat hrg2 hlt2 hgr2 hsz2 hen
     obtain⟨p,hp,rfl,rfl,rfl⟩:=HO.out.pick hkey hv hat
     have hpl:p.2∈lf.map(·.2):=by rw [← HO.out.blocks]; exact List.mem_map.2⟨p,hp,rfl⟩
     have hpo:=HO.out.old p hp hlk
     have hpw:=HL1.out p.2(List.mem_cons_of_mem _ hpl)
     have hbox:w2.heap[p.2]? =some(.cells(bufferVs p.1)144(0,0)):=(hgr2.block p.2(Nat.lt_of_lt_of_le hpw HO.out.size)(fun e=>by have:=Option.some.inj e; omega)).trans(HO.out.shelf.box p hp)
     have hrow:Row w2 p.1.itemsA(strK.flat p.1.items):=(HLF.out p hpo).1.same fun g e=>by
      have hgb:g < base:=(HLF.out p hpo).2.2 g(by show (p.1.itemsA).map(·.block)=some g; rw [show p.1.itemsA=some⟨g,0,none⟩from e]; rfl)
      have hb0:=HB0.out
      refine(hgr2.block g(by have:=HO.out.size; omega)(fun e=>by have:=Option.some.inj e; omega)).trans(HO.out.same g(by omega)(fun hm=>by have:=HBL.out g hm; omega))
     obtain⟨a3,cap3,w3,hap,hown3,hg3⟩:=copy_strs w2 p.1.itemsA p.1.items p.1.itemsC hrow(HLF.out p hpo).2.1
     have cc:w2.cell? ⟨p.2,2,none⟩=some(.slice p.1.itemsA p.1.items.length p.1.itemsC):=by simp [World.cell?,hbox,bufferVs]
     have hbox3:=(hg3.block p.2(Array.getElem?_eq_some_iff.1 hbox).1(by simp)).trans hbox
     have cc3:w3.cell? ⟨p.2,2,none⟩=some(.slice p.1.itemsA p.1.items.length p.1.itemsC):=by simp [World.cell?,hbox3,bufferVs]
     have cf3:w3.frozen? ⟨p.2,2,none⟩=false:=by simp [World.frozen?,hbox3]
     have HN:=HO.out.turn(i:=2)hrg hgr2 hrg2 HL1.out(Nat.le_refl _)hp hown3 hg3 rfl
     have HNH:Hid(_∧_):=HN
     have HLT:Hid(cnt2 < cnt∧wr2.rangeLeft q.bf wr1.heap.size=cnt):=⟨hlt2,hrg.left_eq⟩
     simp only [ptrV] at hen
     clear HN hrg hrg2 hgr2 hsz2 hkey hlk hv hat hlt2 hpl hpo hpw hbox hbox3 hrow hown3 hg3
     unfold ptrV
     go_wp2_with (at_builtin; refine wpList_append_run _ rfl _ _ 59 rfl _ _ _ _ rfl rfl hap ?_; clear hap)
     go_roundw
     case rel=>exact⟨_,_,_,HNH.out.2,HNH.out.1⟩
     case measure=>have h5:=HNH.out.2.left_eq; have h6:=HLT.out; rw [h6.2]; exact Nat.lt_of_le_of_lt(Nat.le_of_eq h5)h6.1
  ·intro x c kl y1 y2 w2 cnt2 hkey hlk hv hat hrg2 hlt2 hgr2 hsz2 hen
   obtain⟨p,hp,rfl,rfl,rfl⟩:=HO.out.pick hkey hv hat
   have hpl:p.2∈lp.map(·.2):=by rw [← HO.out.blocks]; exact List.mem_map.2⟨p,hp,rfl⟩
   have hpo:=HO.out.old p hp hlk
   have hpw:=HL0.out p.2(List.mem_cons_of_mem _ hpl)
   have hbox:w2.heap[p.2]? =some(.cells(procVs p.1)43(0,0)):=(hgr2.block p.2(Nat.lt_of_lt_of_le hpw HO.out.size)(fun e=>by have:=Option.some.inj e; omega)).trans(HO.out.shelf.box p hp)
   have hrow:Row w2 p.1.progA(opK.flat p.1.prog):=(HLP.out p hpo).1.same fun g e=>by
    have hgb:g < base:=(HLP.out p hpo).2.2 g(by show (p.1.progA).map(·.block)=some g; rw [show p.1.progA=some⟨g,0,none⟩from e]; rfl)
    have hb0:=HB0.out
    refine(hgr2.block g(by have:=HO.out.size; omega)(fun e=>by have:=Option.some.inj e; omega)).trans(HO.out.same g(by omega)(fun hm=>by have:=HBL.out g hm; omega))
   obtain⟨a3,cap3,w3,hap,hown3,hg3⟩:=copy_ops w2 p.1.progA p.1.prog p.1.progC hrow(HLP.out p hpo).2.1
   have cc:w2.cell? ⟨p.2,2,none⟩=some(.slice p.1.progA p.1.prog.length p.1.progC):=by simp [World.cell?,hbox,procVs]
   have hbox3:=(hg3.block p.2(Array.getElem?_eq_some_iff.1 hbox).1(by simp)).trans hbox
   have cc3:w3.cell? ⟨p.2,2,none⟩=some(.slice p.1.progA p.1.prog.length p.1.progC):=by simp [World.cell?,hbox3,procVs]
   have cf3:w3.frozen? ⟨p.2,2,none⟩=false:=by simp [World.frozen?,hbox3]
   have HN:=HO.out.turn(i:=2)hrg hgr2 hrg2 HL0.out(Nat.le_refl _)hp hown3 hg3 rfl
   have HNH:Hid(_∧_):=HN
   have HLT:Hid(cnt2 < cnt∧wr1.rangeLeft q.bp w.heap.size=cnt):=⟨hlt2,hrg.left_eq⟩
   simp only [ptrV] at hen
   clear HN hrg hrg2 hgr2 hsz2 hkey hlk hv hat hlt2 hpl hpo hpw hbox hbox3 hrow hown3 hg3
   unfold ptrV
   go_wp2_with (at_builtin; refine wpList_append_run _ rfl _ _ 37 rfl _ _ _ _ rfl rfl hap ?_; clear hap)
   go_roundw
   case rel=>exact⟨_,_,_,HNH.out.2,HNH.out.1⟩
   case measure=>have h5:=HNH.out.2.left_eq; have h6:=HLT.out; rw [h6.2]; exact Nat.lt_of_le_of_lt(Nat.le_of_eq h5)h6.1
end Go.Proofs.YtkbcplnlehdjfaaGreat

namespace Go.Proofs.YtkbcplnlehdjfaaGreat
open Go.RowKit Go.Maps
attribute [local go_sem ↓] Go.wp_at_zero Go.wp_at_succ
def stepD(r:Option(ProcD × Nat))(x:ProcD × Nat):Option(ProcD × Nat):=match r with
 | none=>some x
 | some b=>if aheadB x.1.toProcP b.1.toProcP then some x else some b
def bestD(l:List(ProcD × Nat)):Option(ProcD × Nat):=l.foldl stepD none
theorem bestD_snoc(l:List(ProcD × Nat))(x:ProcD × Nat):bestD(l ++ [x])=stepD(bestD l)x:=by simp [bestD]
theorem stepD_some(r:Option(ProcD × Nat))(x:ProcD × Nat): ∃ y,stepD r x=some y∧(y=x∨r=some y):=by
 unfold stepD
 split
 ·exact⟨_,rfl,.inl rfl⟩
 ·split
  ·exact⟨_,rfl,.inl rfl⟩
  ·exact⟨_,rfl,.inr rfl⟩
theorem bestD_take {l:List(ProcD × Nat)} : ∀ {k:Nat},0 < k→k≤l.length→ ∃ y,bestD(l.take k)=some y∧y∈l
 | 0,h,_=>absurd h(by omega)
 | k+1,_,hk=>by
  obtain⟨x,hx⟩: ∃ x,l[k]? =some x:=⟨_,List.getElem?_eq_getElem(by omega)⟩
  rw [take_up hx,bestD_snoc]
  obtain⟨y,hy,h1⟩:=stepD_some(bestD(l.take k))x
  refine⟨y,hy,?_⟩
  rcases h1 with rfl | h1
  ·exact List.mem_of_getElem? hx
  ·by_cases h0:0 < k
   ·obtain⟨z,hz,hm⟩:=bestD_take h0(by omega:k≤l.length)
    rw [hz] at h1
    cases h1
    exact hm
   ·rw [show k=0 by omega] at h1
    simp [bestD] at h1
theorem bestD_pure(l:List(ProcD × Nat)):(bestD l).map(fun p=>p.1.toProcP)=bestL(l.map fun p=>p.1.toProcP):=by
 have key: ∀ (l:List(ProcD × Nat))(r:Option(ProcD × Nat)),(l.foldl stepD r).map(fun p=>p.1.toProcP)=(l.map fun p=>p.1.toProcP).foldl bestStep(r.map fun p=>p.1.toProcP):=by
  intro l
  induction l with
  | nil=>intro r; rfl
  | cons x l ih=>
   intro r
   simp only [List.foldl_cons,List.map_cons,ih]
   congr 1
   cases r with
   | none=>rfl
   | some b=>
    simp only [stepD,bestStep,Option.map_some]
    split <;> rfl
 exact key l none
def readyL(l:List(ProcD × Nat)):List(ProcD × Nat):=l.filter fun p=>decide(p.1.state=1)
theorem readyL_snoc(l:List(ProcD × Nat))(p:ProcD × Nat):readyL(l ++ [p])=readyL l ++ (if p.1.state=1 then [p] else []):=by
 unfold readyL
 rw [List.filter_append]
 by_cases h:p.1.state=1 <;> simp [h]
theorem readyL_pure(l:List(ProcD × Nat)):(readyL l).map(fun p=>p.1.toProcP)=(l.map fun p=>p.1.toProcP).filter fun x=>decide(x.state=1):=by
 unfold readyL
 rw [List.filter_map]
 rfl
theorem isBetter_any(A B:Nat)(a b:ProcD)(w:World)(ha:w.heap[A]? =some(.cells(procVs a)43(0,0)))(hb:w.heap[B]? =some(.cells(procVs b)43(0,0))):
  Calls Tryz.prog 158 #[.pointer(some⟨A,0,none⟩),.pointer(some⟨B,0,none⟩)] w fun e w'=>e= .returned(.bool(aheadB a.toProcP b.toProcP))∧Below w.heap.size w w':=by
 obtain⟨-,a1,-,-,-,-,-,-,-,-,-,a11⟩:=proc_cells ha
 obtain⟨-,b1,-,-,-,-,-,-,-,-,-,b11⟩:=proc_cells hb
 clear ha hb
 go_enter Tryz.func158,Tryz.ntmps158
 by_cases hp:a.prio=b.prio
 ·have e1:(a.prio != b.prio)=false:=by simp [hp]
  by_cases hs:a.since < b.since
  ·have ds:decide(a.since < b.since)=true:=decide_eq_true hs
   have HV:Hid(aheadB a.toProcP b.toProcP=true):=by show aheadB _ _=_; unfold aheadB; rw [if_pos hp]; exact ds
   clear hp hs
   go_wp2_with fail
   refine tame_region(fun w'=>w'=w.drew)(by kernel_rfl)rfl ?_
   iterate 9(refine ty(v:= ?_)(some _)rfl rfl(by kernel_rfl)(fun _ _ _ h=>h)(does_yield(by kernel_rfl) ?_) ?_; rotate_left; (intro w0 hS0; subst hS0; go_simp; try with_reducible rfl); simp only [pt,sb,s0,s1])
   refine tame_done(by kernel_rfl) ?_ _
   intro w1 hS1
   subst hS1
   go_wp2_with fail
   refine tame_region(fun w'=>w'=w.drew.drew)(by kernel_rfl)rfl ?_
   iterate 10(refine ty(v:= ?_)(some _)rfl rfl(by kernel_rfl)(fun _ _ _ h=>h)(does_yield(by kernel_rfl) ?_) ?_; rotate_left; (intro w0 hS0; subst hS0; go_simp; try with_reducible rfl); simp only [pt,sb,s0,s1])
   refine tame_done(by kernel_rfl) ?_ _
   intro w1 hS1
   subst hS1
   go_wp2
   go_ret
   exact⟨ret_bool HV.out.symm,(Below.refl _ _).drew.drew⟩
  ·have ds:decide(a.since < b.since)=false:=decide_eq_false hs
   have HV:Hid(aheadB a.toProcP b.toProcP=false):=by show aheadB _ _=_; unfold aheadB; rw [if_pos hp]; exact ds
   clear hp hs
   go_wp2_with fail
   refine tame_region(fun w'=>w'=w.drew)(by kernel_rfl)rfl ?_
   iterate 9(refine ty(v:= ?_)(some _)rfl rfl(by kernel_rfl)(fun _ _ _ h=>h)(does_yield(by kernel_rfl) ?_) ?_; rotate_left; (intro w0 hS0; subst hS0; go_simp; try with_reducible rfl); simp only [pt,sb,s0,s1])
   refine tame_done(by kernel_rfl) ?_ _
   intro w1 hS1
   subst hS1
   go_wp2_with fail
   refine tame_region(fun w'=>w'=w.drew.drew)(by kernel_rfl)rfl ?_
   iterate 10(refine ty(v:= ?_)(some _)rfl rfl(by kernel_rfl)(fun _ _ _ h=>h)(does_yield(by kernel_rfl) ?_) ?_; rotate_left; (intro w0 hS0; subst hS0; go_simp; try with_reducible rfl); simp only [pt,sb,s0,s1])
   refine tame_done(by kernel_rfl) ?_ _
   intro w1 hS1
   subst hS1
   go_wp2
   go_ret
   exact⟨ret_bool HV.out.symm,(Below.refl _ _).drew.drew⟩
 ·have e1:(a.prio != b.prio)=true:=by simp [hp]
  by_cases hs:b.prio < a.prio
  ·have ds:decide(b.prio < a.prio)=true:=decide_eq_true hs
   have HV:Hid(aheadB a.toProcP b.toProcP=true):=by show aheadB _ _=_; unfold aheadB; rw [if_neg hp]; exact ds
   clear hp hs
   go_wp2_with fail
   refine tame_region(fun w'=>w'=w.drew)(by kernel_rfl)rfl ?_
   iterate 9(refine ty(v:= ?_)(some _)rfl rfl(by kernel_rfl)(fun _ _ _ h=>h)(does_yield(by kernel_rfl) ?_) ?_; rotate_left; (intro w0 hS0; subst hS0; go_simp; try with_reducible rfl); simp only [pt,sb,s0,s1])
   refine tame_done(by kernel_rfl) ?_ _
   intro w1 hS1
   subst hS1
   go_wp2_with fail
   refine tame_region(fun w'=>w'=w.drew.drew)(by kernel_rfl)rfl ?_
   iterate 10(refine ty(v:= ?_)(some _)rfl rfl(by kernel_rfl)(fun _ _ _ h=>h)(does_yield(by kernel_rfl) ?_) ?_; rotate_left; (intro w0 hS0; subst hS0; go_simp; try with_reducible rfl); simp only [pt,sb,s0,s1])
   refine tame_done(by kernel_rfl) ?_ _
   intro w1 hS1
   subst hS1
   go_wp2
   go_ret
   exact⟨ret_bool HV.out.symm,(Below.refl _ _).drew.drew⟩
  ·have ds:decide(b.prio < a.prio)=false:=decide_eq_false hs
   have HV:Hid(aheadB a.toProcP b.toProcP=false):=by show aheadB _ _=_; unfold aheadB; rw [if_neg hp]; exact ds
   clear hp hs
   go_wp2_with fail
   refine tame_region(fun w'=>w'=w.drew)(by kernel_rfl)rfl ?_
   iterate 9(refine ty(v:= ?_)(some _)rfl rfl(by kernel_rfl)(fun _ _ _ h=>h)(does_yield(by kernel_rfl) ?_) ?_; rotate_left; (intro w0 hS0; subst hS0; go_simp; try with_reducible rfl); simp only [pt,sb,s0,s1])
   refine tame_done(by kernel_rfl) ?_ _
   intro w1 hS1
   subst hS1
   go_wp2_with fail
   refine tame_region(fun w'=>w'=w.drew.drew)(by kernel_rfl)rfl ?_
   iterate 10(refine ty(v:= ?_)(some _)rfl rfl(by kernel_rfl)(fun _ _ _ h=>h)(does_yield(by kernel_rfl) ?_) ?_; rotate_left; (intro w0 hS0; subst hS0; go_simp; try with_reducible rfl); simp only [pt,sb,s0,s1])
   refine tame_done(by kernel_rfl) ?_ _
   intro w1 hS1
   subst hS1
   go_wp2
   go_ret
   exact⟨ret_bool HV.out.symm,(Below.refl _ _).drew.drew⟩
theorem bestOf_better(a:Option Addr)(l:List(ProcD × Nat))(cap:Nat)(w:World)(hl:l.length≤1048576)(hr:Row w a(l.map fun p=>ptrV p.2))(hb: ∀ p∈l,w.heap[p.2]? =some(.cells(procVs p.1)43(0,0))):
  Calls Tryz.prog 156 #[.slice a l.length cap,.func(.func 158) #[] #[]] w fun e w'=>e= .returned(.tuple #[ptrO((bestD l).map(·.2)),.bool(decide(0 < l.length))])∧Below w.heap.size w w':=by
 have H:Hid(Row w a(l.map fun p=>ptrV p.2)∧ ∀ p∈l,w.heap[p.2]? =some(.cells(procVs p.1)43(0,0))):=⟨hr,hb⟩
 clear hr hb
 go_enter Tryz.func156,Tryz.ntmps156
 go_wp2_with fail
 go_loopw [6,11] (fun b i wr=> ∃ (k:Nat)(r:Option(ProcD × Nat)),k≤l.length∧i= .int .i64 k∧b=ptrO(r.map(·.2))∧Hid(r=bestD(l.take k)∧Below w.heap.size w wr))(fun _ i _=>l.length - (intOf i).toNat)
 case atStart=>exact⟨0,none,Nat.zero_le _,rfl,rfl,⟨by simp [bestD],Below.refl _ _⟩⟩
 case round=>
  obtain⟨k,r,hk,rfl,rfl,HA⟩:=hrel
  by_cases hlt:k < l.length
  ·have i0:(0:Int)≤(k:Int):=by omega
   have i1:(k:Int) < (l.length:Int):=by omega
   obtain⟨p,hp⟩: ∃ p,l[k]? =some p:=⟨_,List.getElem?_eq_getElem hlt⟩
   obtain⟨g,ha,hc⟩:=(H.out.1.below HA.out.2)k(ptrV p.2)(by simp [hp])
   subst ha
   unfold ptrV at hc
   have HP:Hid(l[k]? =some p∧p∈l):=⟨hp,List.mem_of_getElem? hp⟩
   clear hp
   by_cases hk0:k=0
   ·have e0:((k:Int) == 0)=true:=by simp [hk0]
    have HS:Hid(some p=bestD(l.take(k+1))):=by show _=_; rw [take_up HP.out.1,bestD_snoc,hk0]; rfl
    clear hk0
    go_wp2
    go_roundw
    case rel=>exact⟨k+1,some p,by omega,by go_num,rfl,⟨HS.out,HA.out.2⟩⟩
    case measure=>simp [intOf]; omega
   ·have e0:((k:Int) == 0)=false:=by simp [hk0]
    obtain⟨y,hy,hym⟩:=bestD_take(l:=l)(by omega:0 < k)hk
    have hry:r=some y:=HA.out.1.trans hy
    subst hry
    have HQ:Hid(bestD(l.take k)=some y∧y∈l):=⟨hy,hym⟩
    clear hk0 hy hym
    simp only [ptrO,ptrV,Option.map_some]
    go_wp2_with fail
    refine(isBetter_any p.2 y.2 p.1 y.1 wr((HA.out.2.block _(Array.getElem?_eq_some_iff.1(H.out.2 p HP.out.2)).1).trans(H.out.2 p HP.out.2))((HA.out.2.block _(Array.getElem?_eq_some_iff.1(H.out.2 y HQ.out.2)).1).trans(H.out.2 y HQ.out.2))).mono ?_
    rintro e w4⟨rfl,hb4⟩
    have HB4:Hid(Below w.heap.size w w4):=HA.out.2.trans(hb4.mono HA.out.2.size)
    clear hb4
    cases hah:aheadB p.1.toProcP y.1.toProcP with
    | true=>
     have HS:Hid(some p=bestD(l.take(k+1))):=by show _=_; rw [take_up HP.out.1,bestD_snoc,HQ.out.1]; simp [stepD,hah]
     clear hah
     go_wp2
     go_roundw
     case rel=>exact⟨k+1,some p,by omega,by go_num,rfl,⟨HS.out,HB4.out⟩⟩
     case measure=>simp [intOf]; omega
    | false=>
     have HS:Hid(some y=bestD(l.take(k+1))):=by show _=_; rw [take_up HP.out.1,bestD_snoc,HQ.out.1]; simp [stepD,hah]
     clear hah
     go_wp2
     go_roundw
     case rel=>exact⟨k+1,some y,by omega,by go_num,rfl,⟨HS.out,HB4.out⟩⟩
     case measure=>simp [intOf]; omega
  ·have i1: ¬ (k:Int) < (l.length:Int):=by omega
   have HE:Hid(r=bestD l):=by have h5:=HA.out.1; rwa [List.take_of_length_le(by omega)] at h5
   go_wp2
   go_ret2
   refine⟨?_,HA.out.2⟩
   rw [HE.out]
   simp
theorem ready_any(o:Nat)(q:Opn)(lp:List(ProcD × Nat))(base:Nat)(w:World)(hop:OpenBox w o q)(hsh:Shelf procVs(fun x:ProcD=>x.id)43 w base q.bp lp)(hl:lp.length≤1048576)(hwf: ∀ p∈keysOf(fun x:ProcD=>x.id)lp,(Lit.int .i64 p.1).wf=true):
  Calls Tryz.prog 157 #[.pointer(some⟨o,0,none⟩)] w fun e w'=>(∃ a cap,e= .returned(.slice a(readyL lp).length cap)∧Row w' a((readyL lp).map fun p=>ptrV p.2))∧Below w.heap.size w w':=by
 obtain⟨i0,hi,e0⟩:=Option.map_eq_some_iff.1 ptrInfoProc
 simp only [Prod.mk.injEq] at e0
 have HI:Hid(Tryz.prog.info? 102=some i0∧i0.zero=some(.pointer none)∧i0.size=1∧i0.bytes=8):=⟨hi,e0⟩
 have H:Hid(Shelf procVs(fun x:ProcD=>x.id)43 w base q.bp lp∧ ∀ p∈keysOf(fun x:ProcD=>x.id)lp,(Lit.int .i64 p.1).wf=true):=⟨hsh,hwf⟩
 have c2:w.cell? ⟨o,2,none⟩=some(.int .i64 6):=hop.cell 2
 have c3:w.cell? ⟨o,3,none⟩=some(.map(some q.bp)):=hop.cell 3
 have HK:Hid((keysOf(fun x:ProcD=>x.id)lp).length=lp.length):=keysOf_length lp
 clear hop hsh hwf hi e0
 go_enter Tryz.func157,Tryz.ntmps157
 go_wp2_with fail
 refine(allProc_any 6 q.bp(keysOf(fun x:ProcD=>x.id)lp)w H.out.1.map(by rw [HK.out]; exact hl)H.out.2).mono ?_
 rintro e w2⟨a,cap,rfl,hown,hb2⟩
 obtain⟨a',cap',hv,hrow⟩:=own_form hown
 cases hv
 have HR:Hid(Row w2 a((keysOf(fun x:ProcD=>x.id)lp).map fun p=>ptrV p.2)):=hrow
 have HO:Hid(Shelf procVs(fun x:ProcD=>x.id)43 w2 base q.bp lp∧Below w.heap.size w w2):=⟨H.out.1.below hb2,hb2⟩
 rw [HK.out]
 clear hown hrow hb2 c2 c3
 go_wp2_with fail
 go_loopw [3,12] (fun l i wr=> ∃ (k n:Nat),k≤lp.length∧n≤k∧i= .int .i64 k∧ ∃ a' cap',l= .slice a' n cap'∧Hid(n=(readyL(lp.take k)).length∧wr.ownsRow w2.heap.size 102 1(.slice a' n cap')n((readyL(lp.take k)).map fun p=>ptrV p.2)∧Below w2.heap.size w2 wr))(fun _ i _=>lp.length - (intOf i).toNat)
 case atStart=>exact⟨0,0,Nat.zero_le _,Nat.le_refl _,rfl,none,0,rfl,⟨rfl,World.ownsRow_nil _ _ _ _,Below.refl _ _⟩⟩
 case round=>
  obtain⟨k,n,hk,hn,rfl,a',cap',rfl,HA⟩:=hrel
  by_cases hlt:k < lp.length
  ·have i0':(0:Int)≤(k:Int):=by omega
   have i1:(k:Int) < (lp.length:Int):=by omega
   obtain⟨p,hp⟩: ∃ p,lp[k]? =some p:=⟨_,List.getElem?_eq_getElem hlt⟩
   obtain⟨g,ha,hc⟩:=(HR.out.below HA.out.2.2)k(ptrV p.2)(by simp [keysOf,hp])
   subst ha
   unfold ptrV at hc
   have HP:Hid(lp[k]? =some p):=hp
   have hbx:wr.heap[p.2]? =some(.cells(procVs p.1)43(0,0)):=(HO.out.1.below HA.out.2.2).box p(List.mem_of_getElem? hp)
   obtain⟨-,-,-,s3,-⟩:=proc_cells hbx
   have hsz3:=HA.out.2.2.size
   clear hp hbx
   by_cases hs:p.1.state=1
   ·have e1:(p.1.state == 1)=true:=by simp [hs]
    have HRL:Hid((readyL(lp.take(k+1)))=(readyL(lp.take k)) ++ [p]):=by show _=_; rw [take_up HP.out,readyL_snoc,if_pos hs]
    clear hs
    go_wp2_with (at_builtin; refine wpList_append_own_at _ rfl _ _ 204 rfl w2.heap.size 102 i0(.pointer none)1 8 Tryz.underlying204 HI.out.1 HI.out.2.1 HI.out.2.2.1 HI.out.2.2.2 rfl(by decide)(.slice a' n cap')n((readyL(lp.take k)).map fun p=>ptrV p.2)rfl(HA.out.2.1.alloc _)⟨wr.heap.size,0,none⟩1 1 [.pointer(some⟨p.2,0,none⟩)] (by rfl)rfl(World.news_of_block(cs:= #[.pointer(some⟨p.2,0,none⟩)])(t:=102)(fr:=(0,0))(heap_alloc_new wr _))(by simp [Value.oneCell'])(by unfold maxLen; omega)(by omega)(by simp; omega) ?_; intro v' w5 hown' hgrow hnil hloc; obtain⟨a5,cap5,rfl,-⟩:=own_form hown'; have HN:Hid(n+1=(readyL(lp.take(k+1))).length∧w5.ownsRow w2.heap.size 102 1(.slice a5(n+1)cap5)(n+1)((readyL(lp.take(k+1))).map fun p=>ptrV p.2)∧Below w2.heap.size w2 w5):=⟨by rw [HRL.out,List.length_append,← HA.out.1]; rfl,by rw [HRL.out,List.map_append]; exact hown',(HA.out.2.2.alloc hsz3 _).grown hgrow(by simp; omega)(fun q hq=>(HA.out.2.1.lt q hq).1)⟩; clear hown' hgrow hnil hloc)
    go_roundw
    case rel=>exact⟨k+1,n+1,by omega,by omega,by go_num,a5,cap5,rfl,HN⟩
    case measure=>simp [intOf]; omega
   ·have e1:(p.1.state == 1)=false:=by simp [hs]
    have HRL:Hid((readyL(lp.take(k+1)))=(readyL(lp.take k))):=by show _=_; rw [take_up HP.out,readyL_snoc,if_neg hs,List.append_nil]
    clear hs
    go_wp2
    go_roundw
    case rel=>exact⟨k+1,n,by omega,by omega,by go_num,a',cap',rfl,by show _∧_; rw [HRL.out]; exact HA.out⟩
    case measure=>simp [intOf]; omega
  ·have i1: ¬ (k:Int) < (lp.length:Int):=by omega
   have HE:Hid(n=(readyL lp).length∧Row wr a'((readyL lp).map fun p=>ptrV p.2)):=by
    have h5:=HA.out
    rw [List.take_of_length_le(by omega)] at h5
    obtain⟨b1,b2,hv,hrow⟩:=own_form h5.2.1
    cases hv
    exact⟨h5.1,hrow⟩
   go_wp2
   go_ret
   exact⟨⟨a',⟨cap',by rw [← HE.out.1]; rfl⟩,HE.out.2⟩,HO.out.2.trans(HA.out.2.2.mono HO.out.2.size)⟩
theorem chosen_any(o:Nat)(q:Opn)(lp:List(ProcD × Nat))(base:Nat)(w:World)(hop:OpenBox w o q)(hsh:Shelf procVs(fun x:ProcD=>x.id)43 w base q.bp lp)(hl:lp.length≤1048576)(hwf: ∀ p∈keysOf(fun x:ProcD=>x.id)lp,(Lit.int .i64 p.1).wf=true):
  Calls Tryz.prog 80 #[.pointer(some⟨o,0,none⟩)] w fun e w'=>e= .returned(.tuple #[ptrO((bestD(readyL lp)).map(·.2)),.bool(decide(0 < (readyL lp).length))])∧Below w.heap.size w w':=by
 have H:Hid(OpenBox w o q∧Shelf procVs(fun x:ProcD=>x.id)43 w base q.bp lp∧ ∀ p∈keysOf(fun x:ProcD=>x.id)lp,(Lit.int .i64 p.1).wf=true):=⟨hop,hsh,hwf⟩
 have HLR:Hid((readyL lp).length≤1048576):=Nat.le_trans(List.length_filter_le _ _)hl
 clear hop hsh hwf
 go_enter Tryz.func80,Tryz.ntmps80
 go_wp2_with fail
 refine(ready_any o q lp base w H.out.1 H.out.2.1 hl H.out.2.2).mono ?_
 rintro e w2⟨⟨a,cap,rfl,hr⟩,hb2⟩
 have HB:Hid(Row w2 a((readyL lp).map fun p=>ptrV p.2)∧Below w.heap.size w w2∧ ∀ p∈readyL lp,w2.heap[p.2]? =some(.cells(procVs p.1)43(0,0))):=⟨hr,hb2,fun p hp=>(H.out.2.1.below hb2).box p(List.mem_filter.1 hp).1⟩
 clear hr hb2
 go_wp2_with fail
 refine(bestOf_better a(readyL lp)cap w2 HLR.out HB.out.1 HB.out.2.2).mono ?_
 rintro e w3⟨rfl,hb3⟩
 have HB3:Hid(Below w.heap.size w w3):=HB.out.2.1.trans(hb3.mono HB.out.2.1.size)
 clear hb3
 go_wp2
 go_ret2
 exact⟨rfl,HB3.out⟩
end Go.Proofs.YtkbcplnlehdjfaaGreat

namespace Go.Proofs.YtkbcplnlehdjfaaGreat
open Go.RowKit
attribute [local go_sem ↓] Go.wp_at_zero Go.wp_at_succ
theorem l4Best_any(p:PartD)(st on:Int)(w:World)(hl:p.procs.length≤1048576)(h:PartD.At w p):
  Calls Tryz.prog 101 #[.agg p.cells,.int .i64 st,.int .i64 on] w fun e w'=>(∃ i:Int,e= .returned(.int .i64 i)∧BestIs(fun x:ProcP=>decide(x.state=st) && decide(x.on=on))p.pure.procs p.procs.length i)∧Below w.heap.size w w':=by
 have HB:Hid(PartBox(w.alloc(.cells p.cells 32))w.heap.size p∧PartD.At(w.alloc(.cells p.cells 32))p∧Below w.heap.size w(w.alloc(.cells p.cells 32))):=⟨heap_alloc_new _ _,h.below((Below.refl _ _).alloc(Nat.le_refl _)_),(Below.refl _ _).alloc(Nat.le_refl _)_⟩
 clear h
 unfold PartD.cells at *
 go_enter Tryz.func101,Tryz.ntmps101
 go_wp2_with fail
 generalize w.alloc(.cells p.row 32)=W at *
 go_loopw [7,8] (fun b i wr=> ∃ (k:Nat)(z:Int),k≤p.procs.length∧i= .int .i64 k∧b= .int .i64 z∧Hid(BestIs(fun x:ProcP=>decide(x.state=st) && decide(x.on=on))p.pure.procs k z∧Below W.heap.size W wr))(fun _ i _=>p.procs.length - (intOf i).toNat)
 case atStart=>exact⟨0,-1,Nat.zero_le _,rfl,rfl,⟨BestIs.start _ _,Below.refl _ _⟩⟩
 case round=>
  obtain⟨k,z,hk,rfl,rfl,HA⟩:=hrel
  have HW:Hid(PartBox wr w.heap.size p∧PartD.At wr p∧Below w.heap.size w wr):=⟨HB.out.1.below HA.out.2,HB.out.2.1.below HA.out.2,HB.out.2.2.trans(HA.out.2.mono HB.out.2.2.size)⟩
  obtain⟨-,-,m2,-⟩:=HW.out.1.cells
  by_cases hlt:k < p.procs.length
  ·have i0:(0:Int)≤(k:Int):=by omega
   have i1:(k:Int) < (p.procs.length:Int):=by omega
   obtain⟨x,hx⟩: ∃ x,p.procs[k]? =some x:=⟨_,List.getElem?_eq_getElem hlt⟩
   have HX:Hid(p.procs[k]? =some x∧p.pure.procs[k]? =some x.toProcP):=⟨hx,by show (p.procs.map(·.toProcP))[k]? =_; rw [List.getElem?_map,hx]; rfl⟩
   obtain⟨gs,ha,hat⟩:=proc_at HW.out.2.1.1 hx
   have HG:Hid(p.procA=some⟨gs,0,none⟩):=ha
   rw [ha] at m2
   obtain⟨d0,d1,d2,d3,d4,d5,d6,d7,d8,d9,d10,d11⟩:=hat
   clear hx ha
   have hgl:w.heap.size < wr.heap.size:=(Array.getElem?_eq_some_iff.1 HW.out.1).1
   have HN:Hid(PartBox(wr.alloc(.cells x.row 43))w.heap.size p∧PartD.At(wr.alloc(.cells x.row 43))p∧ProcBox(wr.alloc(.cells x.row 43))wr.heap.size x∧Below W.heap.size W(wr.alloc(.cells x.row 43))):=⟨HW.out.1.below((Below.refl _ _).alloc(Nat.le_refl _)_),HW.out.2.1.below((Below.refl _ _).alloc(Nat.le_refl _)_),heap_alloc_new _ _,HA.out.2.alloc HA.out.2.size _⟩
   by_cases hs:x.state=st
   ·by_cases ho:x.on=on
    ·have HF:Hid((fun x:ProcP=>decide(x.state=st) && decide(x.on=on))x.toProcP=true):=by show _=true; simp [hs,ho]
     have e1:(x.state != st)=false:=by simp [hs]
     have e2:(x.on != on)=false:=by simp [ho]
     clear hs ho
     go_wp2_with fail
     generalize wr.alloc(.cells x.row 43)=W5 at *
     generalize wr.heap.size=X at *
     clear d0 d1 d2 d3 d4 d5 d6 d7 d8 d9 d10 d11 m2 e1 e2 hgl
     obtain⟨-,-,m2,-⟩:=HN.out.1.cells
     rw [HG.out] at m2
     obtain⟨-,b1,-,-,-,-,-,-,-,-,-,b11⟩:=HN.out.2.2.1.cells
     by_cases hz:z < 0
     ·have dz:decide(z < 0)=true:=decide_eq_true hz
      have HY:Hid(BestIs(fun x:ProcP=>decide(x.state=st) && decide(x.on=on))p.pure.procs(k+1)k):=HA.out.1.first hz HX.out.2 HF.out
      refine tame_region(fun w'=>w'=W5.drew)(by kernel_rfl)rfl ?_
      iterate 3(refine ty(v:= ?_)(some _)rfl rfl(by kernel_rfl)(fun _ _ _ h=>h)(does_yield(by kernel_rfl) ?_) ?_; rotate_left; (intro w0 hS0; subst hS0; go_simp; try with_reducible rfl); simp only [pt,sb,s0,s1])
      iterate 9(refine ty(some _)rfl rfl(by kernel_rfl)(fun _ _ _ h=>h)(does_skip(by kernel_rfl)) ?_; simp only [pt,sb,s0,s1])
      iterate 2(refine ty(v:= ?_)(some _)rfl rfl(by kernel_rfl)(fun _ _ _ h=>h)(does_yield(by kernel_rfl) ?_) ?_; rotate_left; (intro w0 hS0; subst hS0; go_simp; try with_reducible rfl); simp only [pt,sb,s0,s1])
      iterate 20(refine ty(some _)rfl rfl(by kernel_rfl)(fun _ _ _ h=>h)(does_skip(by kernel_rfl)) ?_; simp only [pt,sb,s0,s1])
      (refine ty(v:= ?_)(some _)rfl rfl(by kernel_rfl)(fun _ _ _ h=>h)(does_yield(by kernel_rfl) ?_) ?_; rotate_left; (intro w0 hS0; subst hS0; go_simp; try with_reducible rfl); simp only [pt,sb,s0,s1])
      refine tame_done(by kernel_rfl) ?_ _
      intro w1 hS1
      subst hS1
      go_wp2
      go_roundw
      case rel=>exact⟨k+1,k,by omega,by go_num,rfl,⟨HY.out,HN.out.2.2.2.drew⟩⟩
      case measure=>simp [intOf]; omega
     have dz:decide(z < 0)=false:=decide_eq_false hz
     obtain⟨n,y0,hzn,hn,hy0,hbe⟩:=HA.out.1.got hz
     subst hzn
     have HYB:Hid(BestIs(fun x:ProcP=>decide(x.state=st) && decide(x.on=on))p.pure.procs(k+1)(if aheadB x.toProcP y0 then (k:Int)else (n:Int))):=BestIs.next hn hy0 hbe HX.out.2 HF.out
     obtain⟨y,hy,rfl⟩: ∃ y,p.procs[n]? =some y∧y.toProcP=y0:=by
      have h5:(p.procs.map(·.toProcP))[n]? =some y0:=hy0
      rw [List.getElem?_map,Option.map_eq_some_iff] at h5
      exact h5
     have j0:(0:Int)≤(n:Int):=by omega
     have j1:(n:Int) < (p.procs.length:Int):=by omega
     obtain⟨gs2,ha2,hat2⟩:=proc_at HN.out.2.1.1 hy
     rw [HG.out] at ha2
     cases ha2
     obtain⟨-,y1,-,-,-,-,-,-,-,-,-,y11⟩:=hat2
     clear hy hy0 hbe hz
     by_cases hp:y.prio < x.prio
     ·have dp:decide(y.prio < x.prio)=true:=decide_eq_true hp
      have HY:Hid(BestIs(fun x:ProcP=>decide(x.state=st) && decide(x.on=on))p.pure.procs(k+1)k):=by have h5:=HYB.out; rwa [show aheadB x.toProcP y.toProcP=true by unfold aheadB; rw [if_neg(by intro e; have e2:x.prio=y.prio:=e; omega)]; exact decide_eq_true hp,if_pos rfl] at h5
      clear hp HYB
      refine tame_region(fun w'=>w'=W5.drew)(by kernel_rfl)rfl ?_
      iterate 14(refine ty(v:= ?_)(some _)rfl rfl(by kernel_rfl)(fun _ _ _ h=>h)(does_yield(by kernel_rfl) ?_) ?_; rotate_left; (intro w0 hS0; subst hS0; go_simp; try with_reducible rfl); simp only [pt,sb,s0,s1])
      iterate 20(refine ty(some _)rfl rfl(by kernel_rfl)(fun _ _ _ h=>h)(does_skip(by kernel_rfl)) ?_; simp only [pt,sb,s0,s1])
      (refine ty(v:= ?_)(some _)rfl rfl(by kernel_rfl)(fun _ _ _ h=>h)(does_yield(by kernel_rfl) ?_) ?_; rotate_left; (intro w0 hS0; subst hS0; go_simp; try with_reducible rfl); simp only [pt,sb,s0,s1])
      refine tame_done(by kernel_rfl) ?_ _
      intro w1 hS1
      subst hS1
      go_wp2
      go_roundw
      case rel=>exact⟨k+1,k,by omega,by go_num,rfl,⟨HY.out,HN.out.2.2.2.drew⟩⟩
      case measure=>simp [intOf]; omega
     have dp:decide(y.prio < x.prio)=false:=decide_eq_false hp
     by_cases hq:x.prio=y.prio
     ·have dq:(x.prio == y.prio)=true:=by simp [hq]
      by_cases hr:x.since < y.since
      ·have dr:decide(x.since < y.since)=true:=decide_eq_true hr
       have HY:Hid(BestIs(fun x:ProcP=>decide(x.state=st) && decide(x.on=on))p.pure.procs(k+1)k):=by have h5:=HYB.out; rwa [show aheadB x.toProcP y.toProcP=true by unfold aheadB; rw [if_pos hq]; exact dr,if_pos rfl] at h5
       clear hp hr HYB hq
       refine tame_region(fun w'=>w'=W5.drew)(by kernel_rfl)rfl ?_
       iterate 35(refine ty(v:= ?_)(some _)rfl rfl(by kernel_rfl)(fun _ _ _ h=>h)(does_yield(by kernel_rfl) ?_) ?_; rotate_left; (intro w0 hS0; subst hS0; go_simp; try with_reducible rfl); simp only [pt,sb,s0,s1])
       refine tame_done(by kernel_rfl) ?_ _
       intro w1 hS1
       subst hS1
       go_wp2
       go_roundw
       case rel=>exact⟨k+1,k,by omega,by go_num,rfl,⟨HY.out,HN.out.2.2.2.drew⟩⟩
       case measure=>simp [intOf]; omega
      ·have dr:decide(x.since < y.since)=false:=decide_eq_false hr
       have HY:Hid(BestIs(fun x:ProcP=>decide(x.state=st) && decide(x.on=on))p.pure.procs(k+1)n):=by have h5:=HYB.out; rwa [show aheadB x.toProcP y.toProcP=false by unfold aheadB; rw [if_pos hq]; exact dr,if_neg Bool.false_ne_true] at h5
       clear hp hr HYB hq
       refine tame_region(fun w'=>w'=W5.drew)(by kernel_rfl)rfl ?_
       iterate 35(refine ty(v:= ?_)(some _)rfl rfl(by kernel_rfl)(fun _ _ _ h=>h)(does_yield(by kernel_rfl) ?_) ?_; rotate_left; (intro w0 hS0; subst hS0; go_simp; try with_reducible rfl); simp only [pt,sb,s0,s1])
       refine tame_done(by kernel_rfl) ?_ _
       intro w1 hS1
       subst hS1
       go_wp2
       go_roundw
       case rel=>exact⟨k+1,n,by omega,by go_num,rfl,⟨HY.out,HN.out.2.2.2.drew⟩⟩
       case measure=>simp [intOf]; omega
     ·have dq:(x.prio == y.prio)=false:=by simp [hq]
      have HY:Hid(BestIs(fun x:ProcP=>decide(x.state=st) && decide(x.on=on))p.pure.procs(k+1)n):=by have h5:=HYB.out; rwa [show aheadB x.toProcP y.toProcP=false by unfold aheadB; rw [if_neg hq]; exact dp,if_neg Bool.false_ne_true] at h5
      clear hp HYB hq
      refine tame_region(fun w'=>w'=W5.drew)(by kernel_rfl)rfl ?_
      iterate 24(refine ty(v:= ?_)(some _)rfl rfl(by kernel_rfl)(fun _ _ _ h=>h)(does_yield(by kernel_rfl) ?_) ?_; rotate_left; (intro w0 hS0; subst hS0; go_simp; try with_reducible rfl); simp only [pt,sb,s0,s1])
      iterate 9(refine ty(some _)rfl rfl(by kernel_rfl)(fun _ _ _ h=>h)(does_skip(by kernel_rfl)) ?_; simp only [pt,sb,s0,s1])
      iterate 2(refine ty(v:= ?_)(some _)rfl rfl(by kernel_rfl)(fun _ _ _ h=>h)(does_yield(by kernel_rfl) ?_) ?_; rotate_left; (intro w0 hS0; subst hS0; go_simp; try with_reducible rfl); simp only [pt,sb,s0,s1])
      refine tame_done(by kernel_rfl) ?_ _
      intro w1 hS1
      subst hS1
      go_wp2
      go_roundw
      case rel=>exact⟨k+1,n,by omega,by go_num,rfl,⟨HY.out,HN.out.2.2.2.drew⟩⟩
      case measure=>simp [intOf]; omega
    ·have HY:Hid(BestIs(fun x:ProcP=>decide(x.state=st) && decide(x.on=on))p.pure.procs(k+1)z):=HA.out.1.skip HX.out.2(by simp [ho])
     have e1:(x.state != st)=false:=by simp [hs]
     have e2:(x.on != on)=true:=by simp [ho]
     clear hs ho
     go_wp2
     go_roundw
     case rel=>exact⟨k+1,z,by omega,by go_num,rfl,⟨HY.out,HN.out.2.2.2⟩⟩
     case measure=>simp [intOf]; omega
   ·have HY:Hid(BestIs(fun x:ProcP=>decide(x.state=st) && decide(x.on=on))p.pure.procs(k+1)z):=HA.out.1.skip HX.out.2(by simp [hs])
    have e1:(x.state != st)=true:=by simp [hs]
    clear hs
    go_wp2
    go_roundw
    case rel=>exact⟨k+1,z,by omega,by go_num,rfl,⟨HY.out,HN.out.2.2.2⟩⟩
    case measure=>simp [intOf]; omega
  ·have i1: ¬ (k:Int) < (p.procs.length:Int):=by omega
   have HE:Hid(BestIs(fun x:ProcP=>decide(x.state=st) && decide(x.on=on))p.pure.procs p.procs.length z):=by have h5:=HA.out.1; rwa [show k=p.procs.length by omega] at h5
   go_wp2
   go_ret
   exact⟨⟨z,rfl,HE.out⟩,HW.out.2.2⟩
end Go.Proofs.YtkbcplnlehdjfaaGreat
