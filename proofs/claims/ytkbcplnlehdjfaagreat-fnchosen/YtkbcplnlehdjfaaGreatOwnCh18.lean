/- What the proof leans on, part 18: LwB, OpenW. -/
import Derived.Test.YtkbcplnlehdjfaaGreatOwnCh9
import Derived.Test.YtkbcplnlehdjfaaGreatOwnCh15
import Derived.Test.YtkbcplnlehdjfaaGreatOwnCh17
import Derived.Deep.MidRow
set_option maxRecDepth 100000
set_option maxHeartbeats 8000000

namespace Go.Proofs.YtkbcplnlehdjfaaGreat
open Go.RowKit
def setAll(cur:Array Value)(off:Nat):List Value→Array Value
 | [] =>cur
 | v :: r=>setAll(cur.setIfInBounds off v)(off+1)r
theorem setAll_size: ∀ (vs:List Value)(cur:Array Value)(off:Nat),(setAll cur off vs).size=cur.size
 | [],_,_=>rfl
 | v :: r,cur,off=>by rw [setAll,setAll_size r]; simp
theorem setAll_low: ∀ (vs:List Value)(cur:Array Value)(off j:Nat),j < off→(setAll cur off vs)[j]? =cur[j]?
 | [],_,_,_,_=>rfl
 | v :: r,cur,off,j,h=>by
  rw [setAll,setAll_low r _ _ _(by omega),Array.getElem?_setIfInBounds_ne(by omega)]
theorem setAll_at: ∀ (vs:List Value)(cur:Array Value)(off j:Nat)(v:Value),off+vs.length≤cur.size→vs[j]? =some v→(setAll cur off vs)[off+j]? =some v
 | [],_,_,_,_,_,h=>by simp at h
 | u :: r,cur,off,j,v,hl,h=>by
  simp only [List.length_cons] at hl
  cases j with
  | zero=>
   simp only [List.getElem?_cons_zero,Option.some.injEq] at h
   subst h
   rw [setAll,setAll_low r _ _ _(by omega)]
   simp [show off < cur.size by omega]
  | succ j=>
   have h':r[j]? =some v:=by simpa using h
   have:=setAll_at r(cur.setIfInBounds off u)(off+1)j v(by simp; omega)h'
   rw [setAll,show off+(j+1)=off+1+j by omega]
   exact this
theorem setAll_take {vs:List Value} {cur:Array Value} {off:Nat} (hl:off+vs.length≤cur.size):(setAll cur off vs).toList.take(off+vs.length)=cur.toList.take off ++ vs:=by
 apply List.ext_getElem?
 intro j
 rw [List.getElem?_take]
 by_cases h1:j < off
 ·rw [if_pos(by omega),List.getElem?_append_left(by simp; omega),List.getElem?_take,if_pos h1,Array.getElem?_toList,Array.getElem?_toList,setAll_low _ _ _ _ h1]
 ·by_cases h2:j < off+vs.length
  ·rw [if_pos h2,List.getElem?_append_right(by simp; omega)]
   have e:(cur.toList.take off).length=off:=by simp; omega
   rw [e]
   obtain⟨d,rfl⟩: ∃ d,j=off+d:=⟨j - off,by omega⟩
   rw [show off+d - off=d by omega,Array.getElem?_toList,List.getElem?_eq_getElem(by omega)]
   exact setAll_at vs cur off d _ hl(List.getElem?_eq_getElem(by omega))
  ·rw [if_neg h2,List.getElem?_eq_none(by simp; omega)]
def setAllW(w:World)(g off:Nat):List Value→World
 | [] =>w
 | v :: r=>setAllW(w.setCell⟨g,off,none⟩v)g(off+1)r
theorem setAllW_heap: ∀ (vs:List Value) {w:World} {g off:Nat} {cur:Array Value} {T:TypeId},w.heap[g]? =some(.cells cur T(0,0))→(setAllW w g off vs).heap[g]? =some(.cells(setAll cur off vs)T(0,0))
 | [],_,_,_,_,_,h=>h
 | v :: r,w,g,off,cur,T,h=>setAllW_heap r(heap_setCell_same w g off cur T v h)
theorem setAllW_other: ∀ (vs:List Value) {w:World} {g off k:Nat},¬ k=g→(setAllW w g off vs).heap[k]? =w.heap[k]?
 | [],_,_,_,_,_=>rfl
 | v :: r,w,_,_,k,h=>(setAllW_other r h).trans(Below.heap_setCell w _ v k h)
theorem setAllW_size: ∀ (vs:List Value) {w:World} {g off:Nat},(setAllW w g off vs).heap.size=w.heap.size
 | [],_,_,_=>rfl
 | v :: r,w,g,off=>by rw [setAllW,setAllW_size r]; simp [World.setCell]
theorem setAllW_below: ∀ (vs:List Value) {B:Nat} {w0 w:World} {g off:Nat},B≤g→Below B w0 w→Below B w0(setAllW w g off vs)
 | [],_,_,_,_,_,_,h=>h
 | v :: r,_,_,_,_,_,hB,h=>setAllW_below r hB(h.setCell hB v)
theorem setCells_is: ∀ (vs:List Value)(w:World)(g off:Nat),w.setCells g off vs=setAllW w g off vs
 | [],_,_,_=>rfl
 | v :: r,w,g,off=>setCells_is r(w.setCell⟨g,off,none⟩v)g(off+1)
theorem heap_alloc3_new(w:World)(o1 o2 o3:Obj):(((w.alloc o1).alloc o2).alloc o3).heap[w.heap.size+1+1]? =some o3:=by
 have:=heap_alloc_new((w.alloc o1).alloc o2)o3
 simpa using this
theorem alloc3_facts(w:World)(o1 o2 o3:Obj):(((w.alloc o1).alloc o2).alloc o3).heap[w.heap.size]? =some o1∧(((w.alloc o1).alloc o2).alloc o3).heap[w.heap.size+1]? =some o2∧(((w.alloc o1).alloc o2).alloc o3).heap[w.heap.size+1+1]? =some o3∧(((w.alloc o1).alloc o2).alloc o3).heap.size=w.heap.size+1+1+1:=
 ⟨by rw [heap_alloc_old _ _(by simp; omega),heap_alloc_old _ _(by simp),heap_alloc_new],by rw [heap_alloc_old _ _(by simp)]; exact heap_alloc2_new _ _ _,heap_alloc3_new _ _ _ _,by simp⟩
theorem alloc3_below(w:World)(o1 o2 o3:Obj):Below w.heap.size w(((w.alloc o1).alloc o2).alloc o3):=(((Below.refl _ _).alloc(Nat.le_refl _)_).alloc(by simp)_).alloc(by simp; omega)_
theorem alloc2_facts(w:World)(o1 o2:Obj):((w.alloc o1).alloc o2).heap[w.heap.size]? =some o1∧((w.alloc o1).alloc o2).heap[w.heap.size+1]? =some o2:=⟨(heap_alloc_old _ _(by simp)).trans(heap_alloc_new _ _),heap_alloc2_new _ _ _⟩
theorem alloc2_below(w:World)(o1 o2:Obj):Below w.heap.size w((w.alloc o1).alloc o2):=((Below.refl _ _).alloc(Nat.le_refl _)_).alloc(by simp)_
section
variable {α:Type}
theorem all_up {P:α→Prop} {l:List α} {k:Nat} {x:α} (hx:l[k]? =some x)(h: ∀ y∈l.take k,P y)(hp:P x): ∀ y∈l.take(k+1),P y:=fun y hy=>by
 rw [take_up hx] at hy
 rcases List.mem_append.1 hy with hy | hy
 ·exact h y hy
 ·simp only [List.mem_cons,List.not_mem_nil,or_false] at hy
  subst hy
  exact hp
structure Fill(K:Kind α)(T:TypeId)(w wr:World)(len:Nat)(out:List α):Prop where
 row: ∃ cur:Array Value,wr.heap[w.heap.size]? =some(.cells cur T(0,0))∧cur.size=len * K.n∧cur.toList.take(out.length * K.n)=K.flat out
 bel:Below w.heap.size w wr
variable {K:Kind α} {T:TypeId} {w wr w':World} {len:Nat} {out:List α}
theorem Fill.start {cs:Array Value} (hs:cs.size=len * K.n):Fill K T w(w.alloc(.cells cs T))len [] :=
 ⟨⟨cs,heap_alloc_new _ _,hs,by simp [Kind.flat]⟩,(Below.refl _ _).alloc(Nat.le_refl _)_⟩
theorem Fill.below(h:Fill K T w wr len out)(hb:Below wr.heap.size wr w'):Fill K T w w' len out:=by
 obtain⟨cur,h1,h2⟩:=h.row
 exact⟨⟨cur,(hb.block _(Array.getElem?_eq_some_iff.1 h1).1).trans h1,h2⟩,h.bel.trans(hb.mono h.bel.size)⟩
theorem Fill.at (h:Fill K T w wr len out):(∃ u:Nat→Value,∀ j,j < len * K.n→wr.cell? ⟨w.heap.size,j,none⟩=some(u j))∧ ∀ j,wr.frozen? ⟨w.heap.size,j,none⟩=false:=by
 obtain⟨cur,h1,h2,h3⟩:=h.row
 refine⟨⟨fun j=>cur.getD j undef,fun j hj=> ?_⟩,fun j=>frozen_of_row _ _ _ _ _ h1⟩
 rw [cell_of_row _ _ _ _ _ _ h1]
 simp [Array.getD,show j < cur.size by omega]
theorem Fill.lt(h:Fill K T w wr len out):w.heap.size < wr.heap.size:=by
 obtain⟨cur,h1,_⟩:=h.row
 exact(Array.getElem?_eq_some_iff.1 h1).1
theorem Fill.more(h:Fill K T w wr len out)(hl:out.length < len)(x:α):Fill K T w(setAllW wr w.heap.size(out.length * K.n)(K.vals x))len(out ++ [x]):=by
 obtain⟨cur,h1,h2,h3⟩:=h.row
 have hle:out.length * K.n+(K.vals x).length≤cur.size:=by
  rw [K.len,h2,← Nat.succ_mul]
  exact Nat.mul_le_mul_right _ hl
 refine⟨⟨_,setAllW_heap _ h1,by rw [setAll_size,h2],?_⟩,setAllW_below _(Nat.le_refl _)h.bel⟩
 have:=setAll_take hle
 rw [K.len,← Nat.succ_mul] at this
 rw [List.length_append,List.length_singleton]
 refine this.trans ?_
 rw [h3,K.flat_append,K.flat_one]
theorem Fill.done(h:Fill K T w wr len out)(hl:out.length=len)(hm:len≤maxLen):wr.ownsRow w.heap.size T K.n(.slice(some⟨w.heap.size,0,none⟩)len len)len(K.flat out):=by
 obtain⟨cur,h1,h2,h3⟩:=h.row
 subst hl
 exact⟨K.flat_length out,.inr⟨w.heap.size,out.length,cur,rfl,Nat.le_refl _,h1,Nat.le_refl _,hm,h2,h3⟩⟩
end
structure CopyIs {α:Type} (N:Nest α)(K:Kind α)(w w':World)(len:Nat)(l out:List α):Prop where
 row:w'.ownsRow w.heap.size N.T K.n(.slice(some⟨w.heap.size,0,none⟩)len len)len(K.flat out)
 alike:out.map(fun x=>N.set x none 0)=l.map(fun x=>N.set x none 0)
 mine: ∀ x∈out,N.Mine w'(w.heap.size+1)x
 nodup:(out.filterMap N.kid).Nodup
 bel:Below w.heap.size w w'
structure FillN {α:Type} (N:Nest α)(K:Kind α)(w wr:World)(l out:List α)(k:Nat):Prop where
 fill:Fill K N.T w wr l.length out
 len:out.length=k
 alike:out.map(fun x=>N.set x none 0)=(l.take k).map(fun x=>N.set x none 0)
 mine: ∀ x∈out,N.Mine wr(w.heap.size+1)x
 nodup:(out.filterMap N.kid).Nodup
section
variable {α:Type} {N:Nest α} {K:Kind α} {w wr w':World} {l out:List α} {k:Nat}
theorem FillN.start(h:Fill K N.T w wr l.length []):FillN N K w wr l [] 0:=⟨h,rfl,rfl,(fun x hx=>by cases hx),List.nodup_nil⟩
theorem FillN.below(h:FillN N K w wr l out k)(hb:Below wr.heap.size wr w'):FillN N K w w' l out k:=
 ⟨h.fill.below hb,h.len,h.alike,fun x hx=>(h.mine x hx).same fun g hg=>hb.block g((h.mine x hx).lt hg).2,h.nodup⟩
theorem FillN.more {x:α} {a:Option Addr} {c:Nat} (h:FillN N K w w' l out k)(hlt:k < l.length)(hx:l[k]? =some x)(hm:N.Mine w'(w.heap.size+1)(N.set x a c))(hk: ∀ g,N.kid(N.set x a c)=some g→wr.heap.size≤g)(hr:FillN N K w wr l out k):
  FillN N K w(setAllW w' w.heap.size(k * K.n)(K.vals(N.set x a c)))l(out ++ [N.set x a c])(k+1):=by
 have hf:=h.fill.more(by rw [h.len]; exact hlt)(N.set x a c)
 rw [h.len] at hf
 refine⟨hf,by rw [List.length_append,h.len]; rfl,?_,fun y hy=> ?_,?_⟩
 ·rw [take_up hx,List.map_append,List.map_append,h.alike]
  simp [N.set_set]
 ·have hmy:N.Mine w'(w.heap.size+1)y:=by
   rcases List.mem_append.1 hy with hy | hy
   ·exact h.mine y hy
   ·simp only [List.mem_cons,List.not_mem_nil,or_false] at hy
    subst hy
    exact hm
  exact hmy.same fun g hg=>setAllW_other _(by have:=(hmy.lt hg).1; omega)
 ·rw [List.filterMap_append,List.nodup_append]
  refine⟨h.nodup,?_,fun g hg g' hg' e=> ?_⟩
  ·simp only [List.filterMap_cons,List.filterMap_nil]
   split <;> simp
  ·obtain⟨y,hy,hky⟩:=List.mem_filterMap.1 hg
   obtain⟨z,hz,hkz⟩:=List.mem_filterMap.1 hg'
   simp only [List.mem_cons,List.not_mem_nil,or_false] at hz
   subst hz
   have h1:=((hr.mine y hy).lt hky).2
   have h2:=hk g' hkz
   omega
theorem FillN.done(h:FillN N K w wr l out l.length)(hm:l.length≤maxLen):CopyIs N K w wr l.length l out:=by
 refine⟨h.fill.done h.len hm,?_,h.mine,h.nodup,h.fill.bel⟩
 have:=h.alike
 rwa [List.take_length] at this
end
theorem own_row {w:World} {base n size cap:Nat} {e:TypeId} {a:Option Addr} {xs:List Value} (h:w.ownsRow base e size(.slice a n cap)n xs):Row w a xs:=by
 obtain⟨a',cap',e',hr⟩:=own_form h
 simp only [Value.slice.injEq] at e'
 rw [e'.1]
 exact hr
theorem own_below {w w':World} {base n size cap:Nat} {e:TypeId} {a:Option Addr} {xs:List Value} (h:w.ownsRow base e size(.slice a n cap)n xs)(hb:Below w.heap.size w w'):w'.ownsRow base e size(.slice a n cap)n xs:=by
 obtain⟨hl,h2⟩:=h
 refine⟨hl,?_⟩
 rcases h2 with h2 | ⟨g,c,cur,hv,h1,hg,r⟩
 ·exact .inl h2
 ·exact .inr⟨g,c,cur,hv,h1,(hb.block g(Array.getElem?_eq_some_iff.1 hg).1).trans hg,r⟩
end Go.Proofs.YtkbcplnlehdjfaaGreat

namespace Go.Proofs.YtkbcplnlehdjfaaGreat
open Go.RowKit Go.Maps
attribute [local go_sem ↓] Go.wp_at_zero Go.wp_at_succ
def Btw(lo hi:Nat)(l:List Nat):Prop:=l.Nodup∧ ∀ g∈l,lo≤g∧g < hi
theorem Btw.append {lo m m' hi:Nat} {l r:List Nat} (h1:Btw lo m l)(h2:Btw m' hi r)(h3:m≤m')(h4:lo≤m')(h5:m≤hi):Btw lo hi(l ++ r):=by
 refine⟨List.nodup_append.2⟨h1.1,h2.1,fun a ha b hb e=> ?_⟩,fun g hg=> ?_⟩
 ·have:=h1.2 a ha
  have:=h2.2 b hb
  omega
 ·rcases List.mem_append.1 hg with hg | hg
  ·have:=h1.2 g hg
   omega
  ·have:=h2.2 g hg
   omega
theorem Btw.cons {lo m hi g:Nat} {l:List Nat} (h:Btw lo m l)(h1:m≤g)(h2:g < hi)(h3:lo≤g):Btw lo hi(g :: l):=by
 refine⟨List.nodup_cons.2⟨fun hm=> ?_,h.1⟩,fun k hk=> ?_⟩
 ·have:=h.2 g hm
  omega
 ·rcases List.mem_cons.1 hk with rfl | hk
  ·omega
  ·have:=h.2 k hk
   omega
theorem shelf_btw {α:Type} {vs:α→Array Value} {num:α→Int} {T:TypeId} {W:World} {lo hi b:Nat} {l:List(α × Nat)} (h:Shelf vs num T W lo b l∧ ∀ g∈b :: l.map(·.2),g < hi):Btw lo hi(b :: l.map(·.2)):=
 ⟨h.1.nodup,fun g hg=>⟨h.1.low g hg,h.2 g hg⟩⟩
theorem kids_btw {α:Type} {N:Nest α} {w0 wr:World} {base b:Nat} {l l':List(α × Nat)} (h:Owned N w0 wr base b l l'):Btw w0.heap.size wr.heap.size(kids N l'):=
 ⟨h.nodup,fun g hg=>by
  obtain⟨p,hp,hk⟩:=List.mem_filterMap.1 hg
  exact(h.mine p hp).lt hk⟩
theorem Owned.blocks {α:Type} {N:Nest α} {w0 wr:World} {base b:Nat} {l l':List(α × Nat)} (h:Owned N w0 wr base b l l'):l'.map(·.2)=l.map(·.2):=by
 have:=congrArg(List.map(·.2))h.alike
 simp only [List.map_map,Function.comp_def] at this
 exact this
def Steps(n w0 v1 w1 v2 w2 v3 w3 v4 w4 v5 w5 v6:Nat):Prop:=n≤w0∧w0≤v1∧v1 < w1∧w1≤v2∧v2 < w2∧w2≤v3∧v3 < w3∧w3≤v4∧v4 < w4∧w4≤v5∧v5 < w5∧w5≤v6
section
variable {w WO X2 X3:World} {p:PartD} {b1 b2 b3 b4 b5 b6 w0 v1 w1 v2 w2 v3 w3 v4 w4 v5 w5 v6:Nat} {l1:List(ProcD × Nat)} {l2:List(SemD × Nat)} {l3:List(EventD × Nat)} {l4:List(BoardD × Nat)} {l5:List(BufferD × Nat)} {l6:List(PortD × Nat)}
theorem open_three(hs:Steps w.heap.size w0 v1 w1 v2 w2 v3 w3 v4 w4 v5 w5 v6)(ho:OpenBox WO(v6+1)⟨p.id,p.next,b1,b2,b3,b4,b5,b6⟩)(hb:Below WO.heap.size WO X2)
  (h1:Shelf procVs(fun x:ProcD=>x.id)43 WO w0 b1 l1∧ ∀ g∈b1 :: l1.map(·.2),g < v1)(h5:Shelf bufferVs(fun x:BufferD=>x.id)144 WO w4 b5 l5∧ ∀ g∈b5 :: l5.map(·.2),g < v5)(h6:Shelf portVs(fun x:PortD=>x.id)61 WO w5 b6 l6∧ ∀ g∈b6 :: l6.map(·.2),g < v6):
  Three X2 w.heap.size(v6+1)⟨p.id,p.next,b1,b2,b3,b4,b5,b6⟩l1 l5 l6:=by
 obtain⟨s0,s1,s2,s3,s4,s5,s6,s7,s8,s9,s10,s11⟩:=hs
 refine⟨ho.below hb,(h1.1.below hb).lower(by omega),(h5.1.below hb).lower(by omega),(h6.1.below hb).lower(by omega),?_⟩
 exact(((shelf_btw h1).append((shelf_btw h5).append(shelf_btw h6)(by omega)(by omega)(by omega))(by omega)(by omega)(by omega)).cons(g:=v6+1)(hi:=v6+2)(by omega)(by omega)(by omega)).1
theorem listsProc {X:World} (hg:p.Good w)(hb:Below w.heap.size w X)(hl:l1.map(·.1)=p.procs):ListsIn procN X w.heap.size l1:=fun q hq=>by
 have hm:q.1∈p.procs:=by rw [← hl]; exact List.mem_map.2⟨q,hq,rfl⟩
 exact⟨((hg.fitProc q.1 hm).2).below hb,(hg.procs q.1 hm).1.prog,fun g hk=>hg.lowProc q.1 hm g hk⟩
theorem listsBuffer {X:World} (hg:p.Good w)(hb:Below w.heap.size w X)(hl:l5.map(·.1)=p.buffers):ListsIn bufferN X w.heap.size l5:=fun q hq=>by
 have hm:q.1∈p.buffers:=by rw [← hl]; exact List.mem_map.2⟨q,hq,rfl⟩
 exact⟨((hg.fitBuffer q.1 hm).row).below hb,(hg.buffers q.1 hm).2.1,fun g hk=>hg.lowBuffer q.1 hm g hk⟩
theorem listsPort {X:World} (hg:p.Good w)(hb:Below w.heap.size w X)(hl:l6.map(·.1)=p.ports):ListsIn portN X w.heap.size l6:=fun q hq=>by
 have hm:q.1∈p.ports:=by rw [← hl]; exact List.mem_map.2⟨q,hq,rfl⟩
 exact⟨((hg.fitPort q.1 hm).row).below hb,(hg.ports q.1 hm).2.1,fun g hk=>hg.lowPort q.1 hm g hk⟩
theorem pureP {l l':List(ProcD × Nat)} (h:l'.map(fun p=>(procN.set p.1 none 0,p.2))=l.map(fun p=>(procN.set p.1 none 0,p.2))):l'.map(·.1.toProcP)=l.map(·.1.toProcP):=by
 have:=congrArg(List.map(·.1.toProcP))h
 simp only [List.map_map,Function.comp_def] at this
 exact this
theorem pureF {l l':List(BufferD × Nat)} (h:l'.map(fun p=>(bufferN.set p.1 none 0,p.2))=l.map(fun p=>(bufferN.set p.1 none 0,p.2))):l'.map(·.1.toBufferP)=l.map(·.1.toBufferP):=by
 have:=congrArg(List.map(·.1.toBufferP))h
 simp only [List.map_map,Function.comp_def] at this
 exact this
theorem pureQ {l l':List(PortD × Nat)} (h:l'.map(fun p=>(portN.set p.1 none 0,p.2))=l.map(fun p=>(portN.set p.1 none 0,p.2))):l'.map(·.1.toPortP)=l.map(·.1.toPortP):=by
 have:=congrArg(List.map(·.1.toPortP))h
 simp only [List.map_map,Function.comp_def] at this
 exact this
theorem open_end {u1 u2:World} {l1':List(ProcD × Nat)} {l5':List(BufferD × Nat)} {l6':List(PortD × Nat)} (hs:Steps w.heap.size w0 v1 w1 v2 w2 v3 w3 v4 w4 v5 w5 v6)(hw:Below w.heap.size w WO∧WO.heap.size=v6+1+1)(ho:OpenBox WO(v6+1)⟨p.id,p.next,b1,b2,b3,b4,b5,b6⟩)(hb:Below WO.heap.size WO X2)
  (h1:l1.map(·.1)=p.procs∧Shelf procVs(fun x:ProcD=>x.id)43 WO w0 b1 l1∧ ∀ g∈b1 :: l1.map(·.2),g < v1)
  (h2:l2.map(·.1)=p.sems∧Shelf semVs(fun x:SemD=>x.id)49 WO w1 b2 l2∧ ∀ g∈b2 :: l2.map(·.2),g < v2)
  (h3:l3.map(·.1)=p.events∧Shelf eventVs(fun x:EventD=>x.id)138 WO w2 b3 l3∧ ∀ g∈b3 :: l3.map(·.2),g < v3)
  (h4:l4.map(·.1)=p.boards∧Shelf boardVs(fun x:BoardD=>x.id)141 WO w3 b4 l4∧ ∀ g∈b4 :: l4.map(·.2),g < v4)
  (h5:l5.map(·.1)=p.buffers∧Shelf bufferVs(fun x:BufferD=>x.id)144 WO w4 b5 l5∧ ∀ g∈b5 :: l5.map(·.2),g < v5)
  (h6:l6.map(·.1)=p.ports∧Shelf portVs(fun x:PortD=>x.id)61 WO w5 b6 l6∧ ∀ g∈b6 :: l6.map(·.2),g < v6)
  (o1:Owned procN X2 u1 w.heap.size b1 l1 l1')(o5:Owned bufferN u1 u2 w.heap.size b5 l5 l5')(o6:Owned portN u2 X3 w.heap.size b6 l6 l6'):
  Below w.heap.size w X3∧OpenAt X3 w.heap.size(v6+1)⟨⟨p.id,p.next,b1,b2,b3,b4,b5,b6⟩,l1',l2,l3,l4,l5',l6'⟩∧(⟨⟨p.id,p.next,b1,b2,b3,b4,b5,b6⟩,l1',l2,l3,l4,l5',l6'⟩:OpenD).pure=p.pure:=by
 have hT:=open_three hs ho hb h1.2 h5.2 h6.2
 obtain⟨s0,s1,s2,s3,s4,s5,s6,s7,s8,s9,s10,s11⟩:=hs
 have hX2:v6+1+1≤X2.heap.size:=by rw [← hw.2]; exact hb.size
 have z1:=o1.size
 have z5:=o5.size
 have z6:=o6.size
 have n1: ∀ g∈l1.map(·.2),w0≤g∧g < v1:=fun g hg=>(shelf_btw h1.2).2 g(List.mem_cons_of_mem _ hg)
 have n5: ∀ g∈l5.map(·.2),w4≤g∧g < v5:=fun g hg=>(shelf_btw h5.2).2 g(List.mem_cons_of_mem _ hg)
 have n6: ∀ g∈l6.map(·.2),w5≤g∧g < v6:=fun g hg=>(shelf_btw h6.2).2 g(List.mem_cons_of_mem _ hg)
 have q1: ∀ g,g < X2.heap.size→ ¬ (w0≤g∧g < v1)→ ¬ (w4≤g∧g < v6)→X3.heap[g]? =X2.heap[g]? :=fun g hg k1 k2=>
  (o6.same g(by omega)(fun hm=>by have:=n6 g hm; omega)).trans((o5.same g(by omega)(fun hm=>by have:=n5 g hm; omega)).trans(o1.same g hg(fun hm=>by have:=n1 g hm; omega)))
 have q5: ∀ g,g < u1.heap.size→ ¬ (w4≤g∧g < v6)→X3.heap[g]? =u1.heap[g]? :=fun g hg k2=>
  (o6.same g(by omega)(fun hm=>by have:=n6 g hm; omega)).trans(o5.same g hg(fun hm=>by have:=n5 g hm; omega))
 have q6: ∀ g,g < u2.heap.size→ ¬ (w5≤g∧g < v6)→X3.heap[g]? =u2.heap[g]? :=fun g hg k2=>o6.same g hg(fun hm=>by have:=n6 g hm; omega)
 have hBX:Below w.heap.size w X3:=by
  have hw':=hw.1
  have hwx:Below w.heap.size w X2:=hw'.trans(hb.mono hw'.size)
  refine⟨o6.os.trans(o5.os.trans(o1.os.trans hwx.os)),o6.tape.trans(o5.tape.trans(o1.tape.trans hwx.tape)),o6.output.trans(o5.output.trans(o1.output.trans hwx.output)),by have:=hwx.size; omega,fun g hg=>(q1 g(by have:=hwx.size; omega)(by omega)(by omega)).trans(hwx.block g hg)⟩
 refine⟨hBX,⟨?_,?_,?_,?_,?_,?_,?_,?_,?_,?_,?_,?_⟩,?_⟩
 ·exact(q1(v6+1)(by omega)(by omega)(by omega)).trans(ho.below hb)
 ·refine(o1.shelf.same fun g hg=>q5 g(o1.shelf.lt g hg) ?_)
  rw [o1.blocks] at hg
  have:=(shelf_btw h1.2).2 g hg
  omega
 ·refine((h2.2.1.below hb).lower(by omega)).same fun g hg=> ?_
  have:=(shelf_btw h2.2).2 g hg
  exact q1 g(by omega)(by omega)(by omega)
 ·refine((h3.2.1.below hb).lower(by omega)).same fun g hg=> ?_
  have:=(shelf_btw h3.2).2 g hg
  exact q1 g(by omega)(by omega)(by omega)
 ·refine((h4.2.1.below hb).lower(by omega)).same fun g hg=> ?_
  have:=(shelf_btw h4.2).2 g hg
  exact q1 g(by omega)(by omega)(by omega)
 ·refine(o5.shelf.same fun g hg=>q6 g(o5.shelf.lt g hg) ?_)
  rw [o5.blocks] at hg
  have:=(shelf_btw h5.2).2 g hg
  omega
 ·exact o6.shelf
 ·intro q hq
  refine((o1.mine q hq).low(by have:=hw.1.size; omega)).same fun g hk=> ?_
  have:=(o1.mine q hq).lt hk
  exact q5 g this.2(by omega)
 ·intro q hq
  refine((o5.mine q hq).low(by have:=hw.1.size; omega)).same fun g hk=> ?_
  have:=(o5.mine q hq).lt hk
  exact q6 g this.2(by omega)
 ·intro q hq
  exact(o6.mine q hq).low(by have:=hw.1.size; omega)
 ·have e1:=o1.blocks
  have e5:=o5.blocks
  have e6:=o6.blocks
  simp only [OpenD.boxes,OpenD.kids,e1,e5,e6]
  have hbx:=(shelf_btw h1.2).append((shelf_btw h2.2).append((shelf_btw h3.2).append((shelf_btw h4.2).append((shelf_btw h5.2).append(shelf_btw h6.2)(by omega)(by omega)(by omega))(by omega)(by omega)(by omega))(by omega)(by omega)(by omega))(by omega)(by omega)(by omega))(by omega)(by omega)(by omega)
  have hkd:=(kids_btw o1).append((kids_btw o5).append(kids_btw o6)(Nat.le_refl _)z5(by omega))(Nat.le_refl _)z1(by omega)
  have hall:=hbx.append hkd(by omega)(by omega)(by omega)
  refine List.nodup_cons.2⟨fun hm=> ?_,hall.1⟩
  rcases List.mem_append.1 hm with hm | hm
  ·have:=hbx.2 _ hm
   omega
  ·have:=hkd.2 _ hm
   omega
 ·have:=hw.1.size
  omega
 ·show PartP.mk _ _ _ _ _ _ _ _=PartP.mk _ _ _ _ _ _ _ _
  have a1:=pureP o1.alike
  have a5:=pureF o5.alike
  have a6:=pureQ o6.alike
  simp only [a1,a5,a6,← h1.1,← h2.1,← h3.1,← h4.1,← h5.1,← h6.1,List.map_map,Function.comp_def]
end
theorem opened_any(p:PartD)(w:World)(hg:p.Good w):Calls Tryz.prog 79 #[.agg p.cells] w fun e w'=>OpenEnds w p.pure e w':=by
 have HG:Hid(p.Good w):=hg
 have HK0:Hid(Opg w(w.alloc(.cells p.cells 32))p []):=Opg.start w p
 clear hg
 obtain⟨m0,m1,m2,m3,m4,m5,m6,m7⟩:=HK0.out.part.cells
 unfold PartD.cells at *
 go_enter Tryz.func79,Tryz.ntmps79
 go_wp2_with fail
 generalize w.alloc(.cells p.row 32)=W0 at *
 clear m0 m1 m2 m3 m4 m5 m6 m7
 have HW0:Hid(w.heap.size≤W0.heap.size):=HK0.out.bel.size
 refine(shelfOfProc_any p.procA p.procs p.procC 6 _ HG.out.short.procs(HG.out.at'.1.below HK0.out.bel)(HG.out.below HK0.out.bel).fitProc HG.out.wfProc).mono ?_
 intro e v1 hend
 obtain⟨ok1,n1,mb1,rfl,hok1,hb1,hr1⟩:=hend.res
 clear hend
 have HE1:Hid(ok1=okProc p):=hok1
 have HK1:Hid(Opg w(v1.alloc(.cells #[.int .i64 n1,.map mb1] 110))p((v1.heap.size,n1,mb1) :: [])):=HK0.out.push hb1 _
 have HS1:Hid(ShRes procVs(fun x:ProcD=>x.id)43(v1.alloc(.cells #[.int .i64 n1,.map mb1] 110))W0.heap.size v1.heap.size 6 ok1 p.procs n1 mb1):=hr1.below((Below.refl _ _).alloc(Nat.le_refl _)_)
 have HV1:Hid(W0.heap.size≤v1.heap.size∧v1.heap.size < (v1.alloc(.cells #[.int .i64 n1,.map mb1] 110)).heap.size):=⟨hb1.size,by simp⟩
 clear hb1 hr1 hok1
 have p1:(v1.alloc(.cells #[.int .i64 n1,.map mb1] 110)).cell? ⟨w.heap.size,3,none⟩=some(.slice p.semA p.sems.length p.semC):=by have:=HK1.out.part.cells; simp only [this]
 go_wp2_with fail
 generalize v1.alloc(.cells #[.int .i64 n1,.map mb1] 110)=W1 at *
 generalize v1.heap.size=V1 at *
 clear HK0 p1
 refine(shelfOfSem_any p.semA p.sems p.semC 5 _ HG.out.short.sems(HG.out.at'.2.1.below HK1.out.bel)(HG.out.below HK1.out.bel).fitSem HG.out.wfSem).mono ?_
 intro e v2 hend
 obtain⟨ok2,n2,mb2,rfl,hok2,hb2,hr2⟩:=hend.res
 clear hend
 have HE2:Hid(ok2=okSem p):=hok2
 have HK2:Hid(Opg w(v2.alloc(.cells #[.int .i64 n2,.map mb2] 113))p((v2.heap.size,n2,mb2) :: (V1,n1,mb1) :: [])):=HK1.out.push hb2 _
 have HS2:Hid(ShRes semVs(fun x:SemD=>x.id)49(v2.alloc(.cells #[.int .i64 n2,.map mb2] 113))W1.heap.size v2.heap.size 5 ok2 p.sems n2 mb2):=hr2.below((Below.refl _ _).alloc(Nat.le_refl _)_)
 have HZ1:Hid(ShRes procVs(fun x:ProcD=>x.id)43(v2.alloc(.cells #[.int .i64 n2,.map mb2] 113))W0.heap.size V1 6 ok1 p.procs n1 mb1):=(HS1.out.below hb2).below((Below.refl _ _).alloc(Nat.le_refl _)_)
 clear HS1
 have HS1:=HZ1
 clear HZ1
 have HV2:Hid(W1.heap.size≤v2.heap.size∧v2.heap.size < (v2.alloc(.cells #[.int .i64 n2,.map mb2] 113)).heap.size):=⟨hb2.size,by simp⟩
 clear hb2 hr2 hok2
 have p2:(v2.alloc(.cells #[.int .i64 n2,.map mb2] 113)).cell? ⟨w.heap.size,4,none⟩=some(.slice p.eventA p.events.length p.eventC):=by have:=HK2.out.part.cells; simp only [this]
 go_wp2_with fail
 generalize v2.alloc(.cells #[.int .i64 n2,.map mb2] 113)=W2 at *
 generalize v2.heap.size=V2 at *
 clear HK1 p2
 refine(shelfOfEvent_any p.eventA p.events p.eventC 5 _ HG.out.short.events(HG.out.at'.2.2.1.below HK2.out.bel)(HG.out.below HK2.out.bel).fitEvent HG.out.wfEvent).mono ?_
 intro e v3 hend
 obtain⟨ok3,n3,mb3,rfl,hok3,hb3,hr3⟩:=hend.res
 clear hend
 have HE3:Hid(ok3=okEvent p):=hok3
 have HK3:Hid(Opg w(v3.alloc(.cells #[.int .i64 n3,.map mb3] 116))p((v3.heap.size,n3,mb3) :: (V2,n2,mb2) :: (V1,n1,mb1) :: [])):=HK2.out.push hb3 _
 have HS3:Hid(ShRes eventVs(fun x:EventD=>x.id)138(v3.alloc(.cells #[.int .i64 n3,.map mb3] 116))W2.heap.size v3.heap.size 5 ok3 p.events n3 mb3):=hr3.below((Below.refl _ _).alloc(Nat.le_refl _)_)
 have HZ1:Hid(ShRes procVs(fun x:ProcD=>x.id)43(v3.alloc(.cells #[.int .i64 n3,.map mb3] 116))W0.heap.size V1 6 ok1 p.procs n1 mb1):=(HS1.out.below hb3).below((Below.refl _ _).alloc(Nat.le_refl _)_)
 clear HS1
 have HS1:=HZ1
 clear HZ1
 have HZ2:Hid(ShRes semVs(fun x:SemD=>x.id)49(v3.alloc(.cells #[.int .i64 n3,.map mb3] 116))W1.heap.size V2 5 ok2 p.sems n2 mb2):=(HS2.out.below hb3).below((Below.refl _ _).alloc(Nat.le_refl _)_)
 clear HS2
 have HS2:=HZ2
 clear HZ2
 have HV3:Hid(W2.heap.size≤v3.heap.size∧v3.heap.size < (v3.alloc(.cells #[.int .i64 n3,.map mb3] 116)).heap.size):=⟨hb3.size,by simp⟩
 clear hb3 hr3 hok3
 have p3:(v3.alloc(.cells #[.int .i64 n3,.map mb3] 116)).cell? ⟨w.heap.size,5,none⟩=some(.slice p.boardA p.boards.length p.boardC):=by have:=HK3.out.part.cells; simp only [this]
 go_wp2_with fail
 generalize v3.alloc(.cells #[.int .i64 n3,.map mb3] 116)=W3 at *
 generalize v3.heap.size=V3 at *
 clear HK2 p3
 refine(shelfOfBoard_any p.boardA p.boards p.boardC 5 _ HG.out.short.boards(HG.out.at'.2.2.2.1.below HK3.out.bel)(HG.out.below HK3.out.bel).fitBoard HG.out.wfBoard).mono ?_
 intro e v4 hend
 obtain⟨ok4,n4,mb4,rfl,hok4,hb4,hr4⟩:=hend.res
 clear hend
 have HE4:Hid(ok4=okBoard p):=hok4
 have HK4:Hid(Opg w(v4.alloc(.cells #[.int .i64 n4,.map mb4] 119))p((v4.heap.size,n4,mb4) :: (V3,n3,mb3) :: (V2,n2,mb2) :: (V1,n1,mb1) :: [])):=HK3.out.push hb4 _
 have HS4:Hid(ShRes boardVs(fun x:BoardD=>x.id)141(v4.alloc(.cells #[.int .i64 n4,.map mb4] 119))W3.heap.size v4.heap.size 5 ok4 p.boards n4 mb4):=hr4.below((Below.refl _ _).alloc(Nat.le_refl _)_)
 have HZ1:Hid(ShRes procVs(fun x:ProcD=>x.id)43(v4.alloc(.cells #[.int .i64 n4,.map mb4] 119))W0.heap.size V1 6 ok1 p.procs n1 mb1):=(HS1.out.below hb4).below((Below.refl _ _).alloc(Nat.le_refl _)_)
 clear HS1
 have HS1:=HZ1
 clear HZ1
 have HZ2:Hid(ShRes semVs(fun x:SemD=>x.id)49(v4.alloc(.cells #[.int .i64 n4,.map mb4] 119))W1.heap.size V2 5 ok2 p.sems n2 mb2):=(HS2.out.below hb4).below((Below.refl _ _).alloc(Nat.le_refl _)_)
 clear HS2
 have HS2:=HZ2
 clear HZ2
 have HZ3:Hid(ShRes eventVs(fun x:EventD=>x.id)138(v4.alloc(.cells #[.int .i64 n4,.map mb4] 119))W2.heap.size V3 5 ok3 p.events n3 mb3):=(HS3.out.below hb4).below((Below.refl _ _).alloc(Nat.le_refl _)_)
 clear HS3
 have HS3:=HZ3
 clear HZ3
 have HV4:Hid(W3.heap.size≤v4.heap.size∧v4.heap.size < (v4.alloc(.cells #[.int .i64 n4,.map mb4] 119)).heap.size):=⟨hb4.size,by simp⟩
 clear hb4 hr4 hok4
 have p4:(v4.alloc(.cells #[.int .i64 n4,.map mb4] 119)).cell? ⟨w.heap.size,6,none⟩=some(.slice p.bufferA p.buffers.length p.bufferC):=by have:=HK4.out.part.cells; simp only [this]
 go_wp2_with fail
 generalize v4.alloc(.cells #[.int .i64 n4,.map mb4] 119)=W4 at *
 generalize v4.heap.size=V4 at *
 clear HK3 p4
 refine(shelfOfBuffer_any p.bufferA p.buffers p.bufferC 5 _ HG.out.short.buffers(HG.out.at'.2.2.2.2.1.below HK4.out.bel)(HG.out.below HK4.out.bel).fitBuffer HG.out.wfBuffer).mono ?_
 intro e v5 hend
 obtain⟨ok5,n5,mb5,rfl,hok5,hb5,hr5⟩:=hend.res
 clear hend
 have HE5:Hid(ok5=okBuffer p):=hok5
 have HK5:Hid(Opg w(v5.alloc(.cells #[.int .i64 n5,.map mb5] 122))p((v5.heap.size,n5,mb5) :: (V4,n4,mb4) :: (V3,n3,mb3) :: (V2,n2,mb2) :: (V1,n1,mb1) :: [])):=HK4.out.push hb5 _
 have HS5:Hid(ShRes bufferVs(fun x:BufferD=>x.id)144(v5.alloc(.cells #[.int .i64 n5,.map mb5] 122))W4.heap.size v5.heap.size 5 ok5 p.buffers n5 mb5):=hr5.below((Below.refl _ _).alloc(Nat.le_refl _)_)
 have HZ1:Hid(ShRes procVs(fun x:ProcD=>x.id)43(v5.alloc(.cells #[.int .i64 n5,.map mb5] 122))W0.heap.size V1 6 ok1 p.procs n1 mb1):=(HS1.out.below hb5).below((Below.refl _ _).alloc(Nat.le_refl _)_)
 clear HS1
 have HS1:=HZ1
 clear HZ1
 have HZ2:Hid(ShRes semVs(fun x:SemD=>x.id)49(v5.alloc(.cells #[.int .i64 n5,.map mb5] 122))W1.heap.size V2 5 ok2 p.sems n2 mb2):=(HS2.out.below hb5).below((Below.refl _ _).alloc(Nat.le_refl _)_)
 clear HS2
 have HS2:=HZ2
 clear HZ2
 have HZ3:Hid(ShRes eventVs(fun x:EventD=>x.id)138(v5.alloc(.cells #[.int .i64 n5,.map mb5] 122))W2.heap.size V3 5 ok3 p.events n3 mb3):=(HS3.out.below hb5).below((Below.refl _ _).alloc(Nat.le_refl _)_)
 clear HS3
 have HS3:=HZ3
 clear HZ3
 have HZ4:Hid(ShRes boardVs(fun x:BoardD=>x.id)141(v5.alloc(.cells #[.int .i64 n5,.map mb5] 122))W3.heap.size V4 5 ok4 p.boards n4 mb4):=(HS4.out.below hb5).below((Below.refl _ _).alloc(Nat.le_refl _)_)
 clear HS4
 have HS4:=HZ4
 clear HZ4
 have HV5:Hid(W4.heap.size≤v5.heap.size∧v5.heap.size < (v5.alloc(.cells #[.int .i64 n5,.map mb5] 122)).heap.size):=⟨hb5.size,by simp⟩
 clear hb5 hr5 hok5
 have p5:(v5.alloc(.cells #[.int .i64 n5,.map mb5] 122)).cell? ⟨w.heap.size,7,none⟩=some(.slice p.portA p.ports.length p.portC):=by have:=HK5.out.part.cells; simp only [this]
 go_wp2_with fail
 generalize v5.alloc(.cells #[.int .i64 n5,.map mb5] 122)=W5 at *
 generalize v5.heap.size=V5 at *
 clear HK4 p5
 refine(shelfOfPort_any p.portA p.ports p.portC 5 _ HG.out.short.ports(HG.out.at'.2.2.2.2.2.below HK5.out.bel)(HG.out.below HK5.out.bel).fitPort HG.out.wfPort).mono ?_
 intro e v6 hend
 obtain⟨ok6,n6,mb6,rfl,hok6,hb6,hr6⟩:=hend.res
 clear hend
 have HE6:Hid(ok6=okPort p):=hok6
 have HK6:Hid(Opg w(v6.alloc(.cells #[.int .i64 n6,.map mb6] 125))p((v6.heap.size,n6,mb6) :: (V5,n5,mb5) :: (V4,n4,mb4) :: (V3,n3,mb3) :: (V2,n2,mb2) :: (V1,n1,mb1) :: [])):=HK5.out.push hb6 _
 have HS6:Hid(ShRes portVs(fun x:PortD=>x.id)61(v6.alloc(.cells #[.int .i64 n6,.map mb6] 125))W5.heap.size v6.heap.size 5 ok6 p.ports n6 mb6):=hr6.below((Below.refl _ _).alloc(Nat.le_refl _)_)
 have HZ1:Hid(ShRes procVs(fun x:ProcD=>x.id)43(v6.alloc(.cells #[.int .i64 n6,.map mb6] 125))W0.heap.size V1 6 ok1 p.procs n1 mb1):=(HS1.out.below hb6).below((Below.refl _ _).alloc(Nat.le_refl _)_)
 clear HS1
 have HS1:=HZ1
 clear HZ1
 have HZ2:Hid(ShRes semVs(fun x:SemD=>x.id)49(v6.alloc(.cells #[.int .i64 n6,.map mb6] 125))W1.heap.size V2 5 ok2 p.sems n2 mb2):=(HS2.out.below hb6).below((Below.refl _ _).alloc(Nat.le_refl _)_)
 clear HS2
 have HS2:=HZ2
 clear HZ2
 have HZ3:Hid(ShRes eventVs(fun x:EventD=>x.id)138(v6.alloc(.cells #[.int .i64 n6,.map mb6] 125))W2.heap.size V3 5 ok3 p.events n3 mb3):=(HS3.out.below hb6).below((Below.refl _ _).alloc(Nat.le_refl _)_)
 clear HS3
 have HS3:=HZ3
 clear HZ3
 have HZ4:Hid(ShRes boardVs(fun x:BoardD=>x.id)141(v6.alloc(.cells #[.int .i64 n6,.map mb6] 125))W3.heap.size V4 5 ok4 p.boards n4 mb4):=(HS4.out.below hb6).below((Below.refl _ _).alloc(Nat.le_refl _)_)
 clear HS4
 have HS4:=HZ4
 clear HZ4
 have HZ5:Hid(ShRes bufferVs(fun x:BufferD=>x.id)144(v6.alloc(.cells #[.int .i64 n6,.map mb6] 125))W4.heap.size V5 5 ok5 p.buffers n5 mb5):=(HS5.out.below hb6).below((Below.refl _ _).alloc(Nat.le_refl _)_)
 clear HS5
 have HS5:=HZ5
 clear HZ5
 have HV6:Hid(W5.heap.size≤v6.heap.size∧v6.heap.size < (v6.alloc(.cells #[.int .i64 n6,.map mb6] 125)).heap.size):=⟨hb6.size,by simp⟩
 clear hb6 hr6 hok6
 clear HK5
 cases ok1 with
 | false=>
  go_wp2
  go_ret2
  exact⟨HK6.out.bel,.inl⟨open_noProc HE1.out.symm,rfl⟩⟩
 | true=>
 cases ok2 with
 | false=>
  go_wp2
  go_ret2
  exact⟨HK6.out.bel,.inl⟨open_noSem HE2.out.symm,rfl⟩⟩
 | true=>
 cases ok3 with
 | false=>
  go_wp2
  go_ret2
  exact⟨HK6.out.bel,.inl⟨open_noEvent HE3.out.symm,rfl⟩⟩
 | true=>
 cases ok4 with
 | false=>
  go_wp2
  go_ret2
  exact⟨HK6.out.bel,.inl⟨open_noBoard HE4.out.symm,rfl⟩⟩
 | true=>
 cases ok5 with
 | false=>
  go_wp2
  go_ret2
  exact⟨HK6.out.bel,.inl⟨open_noBuffer HE5.out.symm,rfl⟩⟩
 | true=>
 cases ok6 with
 | false=>
  go_wp2
  go_ret2
  exact⟨HK6.out.bel,.inl⟨open_noPort HE6.out.symm,rfl⟩⟩
 | true=>
 obtain⟨rfl,b1,l1,rfl,hl1,hs1,hh1⟩:=HS1.out rfl
 have HX1:Hid(l1.map(·.1)=p.procs∧Shelf procVs(fun x:ProcD=>x.id)43(v6.alloc(.cells #[.int .i64 n6,.map mb6] 125))W0.heap.size b1 l1∧ ∀ g∈b1 :: l1.map(·.2),g < V1):=⟨hl1,hs1,hh1⟩
 clear hl1 hs1 hh1 HS1
 obtain⟨rfl,b2,l2,rfl,hl2,hs2,hh2⟩:=HS2.out rfl
 have HX2:Hid(l2.map(·.1)=p.sems∧Shelf semVs(fun x:SemD=>x.id)49(v6.alloc(.cells #[.int .i64 n6,.map mb6] 125))W1.heap.size b2 l2∧ ∀ g∈b2 :: l2.map(·.2),g < V2):=⟨hl2,hs2,hh2⟩
 clear hl2 hs2 hh2 HS2
 obtain⟨rfl,b3,l3,rfl,hl3,hs3,hh3⟩:=HS3.out rfl
 have HX3:Hid(l3.map(·.1)=p.events∧Shelf eventVs(fun x:EventD=>x.id)138(v6.alloc(.cells #[.int .i64 n6,.map mb6] 125))W2.heap.size b3 l3∧ ∀ g∈b3 :: l3.map(·.2),g < V3):=⟨hl3,hs3,hh3⟩
 clear hl3 hs3 hh3 HS3
 obtain⟨rfl,b4,l4,rfl,hl4,hs4,hh4⟩:=HS4.out rfl
 have HX4:Hid(l4.map(·.1)=p.boards∧Shelf boardVs(fun x:BoardD=>x.id)141(v6.alloc(.cells #[.int .i64 n6,.map mb6] 125))W3.heap.size b4 l4∧ ∀ g∈b4 :: l4.map(·.2),g < V4):=⟨hl4,hs4,hh4⟩
 clear hl4 hs4 hh4 HS4
 obtain⟨rfl,b5,l5,rfl,hl5,hs5,hh5⟩:=HS5.out rfl
 have HX5:Hid(l5.map(·.1)=p.buffers∧Shelf bufferVs(fun x:BufferD=>x.id)144(v6.alloc(.cells #[.int .i64 n6,.map mb6] 125))W4.heap.size b5 l5∧ ∀ g∈b5 :: l5.map(·.2),g < V5):=⟨hl5,hs5,hh5⟩
 clear hl5 hs5 hh5 HS5
 obtain⟨rfl,b6,l6,rfl,hl6,hs6,hh6⟩:=HS6.out rfl
 have HX6:Hid(l6.map(·.1)=p.ports∧Shelf portVs(fun x:PortD=>x.id)61(v6.alloc(.cells #[.int .i64 5,.map(some b6)] 125))W5.heap.size b6 l6∧ ∀ g∈b6 :: l6.map(·.2),g < v6.heap.size):=⟨hl6,hs6,hh6⟩
 clear hl6 hs6 hh6 HS6
 have i0:(v6.alloc(.cells #[.int .i64 5,.map(some b6)] 125)).cell? ⟨w.heap.size,0,none⟩=some(.int .i64 p.id):=by have:=HK6.out.part.cells; simp only [this]
 have i1:(v6.alloc(.cells #[.int .i64 5,.map(some b6)] 125)).cell? ⟨w.heap.size,1,none⟩=some(.int .i64 p.next):=by have:=HK6.out.part.cells; simp only [this]
 have a1:(v6.alloc(.cells #[.int .i64 5,.map(some b6)] 125)).cell? ⟨V1,0,none⟩=some(.int .i64 6):=HK6.out.c0(mb:=some b1)(by simp)
 have c1:(v6.alloc(.cells #[.int .i64 5,.map(some b6)] 125)).cell? ⟨V1,1,none⟩=some(.map(some b1)):=HK6.out.c1(m:=6)(by simp)
 have a2:(v6.alloc(.cells #[.int .i64 5,.map(some b6)] 125)).cell? ⟨V2,0,none⟩=some(.int .i64 5):=HK6.out.c0(mb:=some b2)(by simp)
 have c2:(v6.alloc(.cells #[.int .i64 5,.map(some b6)] 125)).cell? ⟨V2,1,none⟩=some(.map(some b2)):=HK6.out.c1(m:=5)(by simp)
 have a3:(v6.alloc(.cells #[.int .i64 5,.map(some b6)] 125)).cell? ⟨V3,0,none⟩=some(.int .i64 5):=HK6.out.c0(mb:=some b3)(by simp)
 have c3:(v6.alloc(.cells #[.int .i64 5,.map(some b6)] 125)).cell? ⟨V3,1,none⟩=some(.map(some b3)):=HK6.out.c1(m:=5)(by simp)
 have a4:(v6.alloc(.cells #[.int .i64 5,.map(some b6)] 125)).cell? ⟨V4,0,none⟩=some(.int .i64 5):=HK6.out.c0(mb:=some b4)(by simp)
 have c4:(v6.alloc(.cells #[.int .i64 5,.map(some b6)] 125)).cell? ⟨V4,1,none⟩=some(.map(some b4)):=HK6.out.c1(m:=5)(by simp)
 have a5:(v6.alloc(.cells #[.int .i64 5,.map(some b6)] 125)).cell? ⟨V5,0,none⟩=some(.int .i64 5):=HK6.out.c0(mb:=some b5)(by simp)
 have c5:(v6.alloc(.cells #[.int .i64 5,.map(some b6)] 125)).cell? ⟨V5,1,none⟩=some(.map(some b5)):=HK6.out.c1(m:=5)(by simp)
 have a6:(v6.alloc(.cells #[.int .i64 5,.map(some b6)] 125)).cell? ⟨v6.heap.size,0,none⟩=some(.int .i64 5):=HK6.out.c0(mb:=some b6)(by simp)
 have c6:(v6.alloc(.cells #[.int .i64 5,.map(some b6)] 125)).cell? ⟨v6.heap.size,1,none⟩=some(.map(some b6)):=HK6.out.c1(m:=5)(by simp)
 by_cases t1:p.id < 1
 ·have HN:Hid(¬ PartR p.pure):=open_noId(by omega)
  go_wp2_with fail
  go_ret2
  exact⟨HK6.out.bel.alloc HK6.out.bel.size _,.inl⟨HN.out,rfl⟩⟩
 by_cases t2:6 < p.id
 ·have HN:Hid(¬ PartR p.pure):=open_noId(by omega)
  go_wp2_with fail
  go_ret2
  exact⟨HK6.out.bel.alloc HK6.out.bel.size _,.inl⟨HN.out,rfl⟩⟩
 by_cases t3:p.next < 1
 ·have HN:Hid(¬ PartR p.pure):=open_noNext(by omega)
  go_wp2_with fail
  go_ret2
  exact⟨HK6.out.bel.alloc HK6.out.bel.size _,.inl⟨HN.out,rfl⟩⟩
 by_cases t4:1000000000 < p.next
 ·have HN:Hid(¬ PartR p.pure):=open_noNext(by omega)
  go_wp2_with fail
  go_ret2
  exact⟨HK6.out.bel.alloc HK6.out.bel.size _,.inl⟨HN.out,rfl⟩⟩
 have HID:Hid((1≤p.id∧p.id≤6)∧1≤p.next∧p.next≤1000000000):=⟨⟨by omega,by omega⟩,by omega,by omega⟩
 go_wp2_with fail
 have HB7:Hid(Below(v6.alloc(.cells #[.int .i64 5,.map(some b6)] 125)).heap.size(v6.alloc(.cells #[.int .i64 5,.map(some b6)] 125))((v6.alloc(.cells #[.int .i64 5,.map(some b6)] 125)).alloc(.cells #[.int .i64 p.id,.int .i64 p.next,.int .i64 6,.map(some b1),.int .i64 5,.map(some b2),.int .i64 5,.map(some b3),.int .i64 5,.map(some b4),.int .i64 5,.map(some b5),.int .i64 5,.map(some b6)] 127))):=(Below.refl _ _).alloc(Nat.le_refl _)_
 have HO:Hid(OpenBox((v6.alloc(.cells #[.int .i64 5,.map(some b6)] 125)).alloc(.cells #[.int .i64 p.id,.int .i64 p.next,.int .i64 6,.map(some b1),.int .i64 5,.map(some b2),.int .i64 5,.map(some b3),.int .i64 5,.map(some b4),.int .i64 5,.map(some b5),.int .i64 5,.map(some b6)] 127))(v6.heap.size+1)⟨p.id,p.next,b1,b2,b3,b4,b5,b6⟩):=heap_alloc2_new _ _ _
 have HK7:Hid(Below w.heap.size w((v6.alloc(.cells #[.int .i64 5,.map(some b6)] 125)).alloc(.cells #[.int .i64 p.id,.int .i64 p.next,.int .i64 6,.map(some b1),.int .i64 5,.map(some b2),.int .i64 5,.map(some b3),.int .i64 5,.map(some b4),.int .i64 5,.map(some b5),.int .i64 5,.map(some b6)] 127))∧((v6.alloc(.cells #[.int .i64 5,.map(some b6)] 125)).alloc(.cells #[.int .i64 p.id,.int .i64 p.next,.int .i64 6,.map(some b1),.int .i64 5,.map(some b2),.int .i64 5,.map(some b3),.int .i64 5,.map(some b4),.int .i64 5,.map(some b5),.int .i64 5,.map(some b6)] 127)).heap.size=v6.heap.size+1+1):=⟨HK6.out.bel.alloc HK6.out.bel.size _,by simp⟩
 have HY1:Hid(l1.map(·.1)=p.procs∧Shelf procVs(fun x:ProcD=>x.id)43((v6.alloc(.cells #[.int .i64 5,.map(some b6)] 125)).alloc(.cells #[.int .i64 p.id,.int .i64 p.next,.int .i64 6,.map(some b1),.int .i64 5,.map(some b2),.int .i64 5,.map(some b3),.int .i64 5,.map(some b4),.int .i64 5,.map(some b5),.int .i64 5,.map(some b6)] 127))W0.heap.size b1 l1∧ ∀ g∈b1 :: l1.map(·.2),g < V1):=⟨HX1.out.1,HX1.out.2.1.below HB7.out,HX1.out.2.2⟩
 have HY2:Hid(l2.map(·.1)=p.sems∧Shelf semVs(fun x:SemD=>x.id)49((v6.alloc(.cells #[.int .i64 5,.map(some b6)] 125)).alloc(.cells #[.int .i64 p.id,.int .i64 p.next,.int .i64 6,.map(some b1),.int .i64 5,.map(some b2),.int .i64 5,.map(some b3),.int .i64 5,.map(some b4),.int .i64 5,.map(some b5),.int .i64 5,.map(some b6)] 127))W1.heap.size b2 l2∧ ∀ g∈b2 :: l2.map(·.2),g < V2):=⟨HX2.out.1,HX2.out.2.1.below HB7.out,HX2.out.2.2⟩
 have HY3:Hid(l3.map(·.1)=p.events∧Shelf eventVs(fun x:EventD=>x.id)138((v6.alloc(.cells #[.int .i64 5,.map(some b6)] 125)).alloc(.cells #[.int .i64 p.id,.int .i64 p.next,.int .i64 6,.map(some b1),.int .i64 5,.map(some b2),.int .i64 5,.map(some b3),.int .i64 5,.map(some b4),.int .i64 5,.map(some b5),.int .i64 5,.map(some b6)] 127))W2.heap.size b3 l3∧ ∀ g∈b3 :: l3.map(·.2),g < V3):=⟨HX3.out.1,HX3.out.2.1.below HB7.out,HX3.out.2.2⟩
 have HY4:Hid(l4.map(·.1)=p.boards∧Shelf boardVs(fun x:BoardD=>x.id)141((v6.alloc(.cells #[.int .i64 5,.map(some b6)] 125)).alloc(.cells #[.int .i64 p.id,.int .i64 p.next,.int .i64 6,.map(some b1),.int .i64 5,.map(some b2),.int .i64 5,.map(some b3),.int .i64 5,.map(some b4),.int .i64 5,.map(some b5),.int .i64 5,.map(some b6)] 127))W3.heap.size b4 l4∧ ∀ g∈b4 :: l4.map(·.2),g < V4):=⟨HX4.out.1,HX4.out.2.1.below HB7.out,HX4.out.2.2⟩
 have HY5:Hid(l5.map(·.1)=p.buffers∧Shelf bufferVs(fun x:BufferD=>x.id)144((v6.alloc(.cells #[.int .i64 5,.map(some b6)] 125)).alloc(.cells #[.int .i64 p.id,.int .i64 p.next,.int .i64 6,.map(some b1),.int .i64 5,.map(some b2),.int .i64 5,.map(some b3),.int .i64 5,.map(some b4),.int .i64 5,.map(some b5),.int .i64 5,.map(some b6)] 127))W4.heap.size b5 l5∧ ∀ g∈b5 :: l5.map(·.2),g < V5):=⟨HX5.out.1,HX5.out.2.1.below HB7.out,HX5.out.2.2⟩
 have HY6:Hid(l6.map(·.1)=p.ports∧Shelf portVs(fun x:PortD=>x.id)61((v6.alloc(.cells #[.int .i64 5,.map(some b6)] 125)).alloc(.cells #[.int .i64 p.id,.int .i64 p.next,.int .i64 6,.map(some b1),.int .i64 5,.map(some b2),.int .i64 5,.map(some b3),.int .i64 5,.map(some b4),.int .i64 5,.map(some b5),.int .i64 5,.map(some b6)] 127))W5.heap.size b6 l6∧ ∀ g∈b6 :: l6.map(·.2),g < v6.heap.size):=⟨HX6.out.1,HX6.out.2.1.below HB7.out,HX6.out.2.2⟩
 have HW:Hid(w.heap.size≤W0.heap.size∧W0.heap.size≤V1∧V1 < W1.heap.size∧W1.heap.size≤V2∧V2 < W2.heap.size∧W2.heap.size≤V3∧V3 < W3.heap.size∧W3.heap.size≤V4∧V4 < W4.heap.size∧W4.heap.size≤V5∧V5 < W5.heap.size∧W5.heap.size≤v6.heap.size):=⟨HW0.out,HV1.out.1,HV1.out.2,HV2.out.1,HV2.out.2,HV3.out.1,HV3.out.2,HV4.out.1,HV4.out.2,HV5.out.1,HV5.out.2,HV6.out.1⟩
 clear i0 i1 HK6 HB7 HV1 HV2 HV3 HV4 HV5 HV6 HW0 a1 c1 HX1 a2 c2 HX2 a3 c3 HX3 a4 c4 HX4 a5 c5 HX5 a6 c6 HX6
 generalize (v6.alloc(.cells #[.int .i64 5,.map(some b6)] 125)).alloc(.cells #[.int .i64 p.id,.int .i64 p.next,.int .i64 6,.map(some b1),.int .i64 5,.map(some b2),.int .i64 5,.map(some b3),.int .i64 5,.map(some b4),.int .i64 5,.map(some b5),.int .i64 5,.map(some b6)] 127)=WO at *
 generalize v6.heap.size=V6 at *
 have HIN:Hid(OpenIn WO WO(V6+1)⟨p.id,p.next,b1,b2,b3,b4,b5,b6⟩l1(keysOf(fun x:SemD=>x.id)l2)(keysOf(fun x:EventD=>x.id)l3)(keysOf(fun x:BoardD=>x.id)l4)(keysOf(fun x:BufferD=>x.id)l5)):=⟨HO.out,HY1.out.2.1.lower(Nat.zero_le _),HY2.out.2.1.map,HY3.out.2.1.map,HY4.out.2.1.map,HY5.out.2.1.map,Below.refl _ _⟩
 have HLN:Hid(l1.length≤1048576∧ ∀ q∈l1,q.1.Wf):=⟨by have h1:=congrArg List.length HY1.out.1; have h2:=HG.out.short.procs; simp only [List.length_map] at h1; omega,fun q hq=>(HG.out.procs q.1(by rw [← HY1.out.1]; exact List.mem_map.2⟨q,hq,rfl⟩)).2⟩
 refine(turnsOk_any(V6+1)_ l1 _ _ _ _ WO HIN.out HLN.out.1 HLN.out.2).mono ?_
 rintro e X1⟨okt,rfl,hti,hx1⟩
 cases okt with
 | false=>
  have HN:Hid(¬ PartR p.pure):=open_noTurns fun ht=>absurd(hti.2((turns_is HY1.out.1).2 ht))(by simp)
  have HB:Hid(Below w.heap.size w X1):=HK7.out.1.trans(hx1.mono HK7.out.1.size)
  clear hti hx1
  go_wp2
  go_ret2
  exact⟨HB.out,.inl⟨HN.out,rfl⟩⟩
 | true=>
 have HTU:Hid(TurnsR p.next p.pure.procs):=(turns_is HY1.out.1).1(hti.1 rfl)
 have HX1:Hid(Below WO.heap.size WO X1):=hx1
 clear hti hx1
 go_wp2_with fail
 refine(waitsOk_any(V6+1)⟨p.id,p.next,b1,b2,b3,b4,b5,b6⟩l1(keysOf(fun x:SemD=>x.id)l2)(keysOf(fun x:EventD=>x.id)l3)(keysOf(fun x:BoardD=>x.id)l4)(keysOf(fun x:BufferD=>x.id)l5)X1⟨HIN.out.opn.below HX1.out,HIN.out.shelf.below HX1.out,HIN.out.ms.below HX1.out,HIN.out.me.below HX1.out,HIN.out.mb.below HX1.out,HIN.out.mf.below HX1.out,Below.refl _ _⟩HLN.out.1 HLN.out.2).mono ?_
 rintro e X2⟨rfl,hx2⟩
 rw [waits_is HY1.out.1 HY2.out.1 HY3.out.1 HY4.out.1 HY5.out.1 HE1.out.symm]
 have HB2:Hid(Below WO.heap.size WO X2):=HX1.out.trans(hx2.mono HX1.out.size)
 clear hx2
 cases hw:p.pure.procs.all(waitB p.pure)
 ·have HN:Hid(¬ PartR p.pure):=open_noWaits hw
  clear hw
  go_wp2
  go_ret2
  exact⟨HK7.out.1.trans(HB2.out.mono HK7.out.1.size),.inl⟨HN.out,rfl⟩⟩
 have HYES:Hid(PartR p.pure):=open_yes HE1.out.symm HE2.out.symm HE3.out.symm HE4.out.symm HE5.out.symm HE6.out.symm HID.out.1 HID.out.2 HTU.out hw
 clear hw
 go_wp2_with fail
 have HTH:Hid(Three X2 w.heap.size(V6+1)⟨p.id,p.next,b1,b2,b3,b4,b5,b6⟩l1 l5 l6):=open_three HW.out HO.out HB2.out HY1.out.2 HY5.out.2 HY6.out.2
 refine(ownLists_walk(V6+1)w.heap.size _ l1 l5 l6 X2 HTH.out(Nat.le_trans HK7.out.1.size HB2.out.size) ?_ ?_ ?_).mono ?_
 ·exact listsProc HG.out(HK7.out.1.trans(HB2.out.mono HK7.out.1.size))HY1.out.1
 ·exact listsBuffer HG.out(HK7.out.1.trans(HB2.out.mono HK7.out.1.size))HY5.out.1
 ·exact listsPort HG.out(HK7.out.1.trans(HB2.out.mono HK7.out.1.size))HY6.out.1
 rintro e X3⟨rfl,w1,w2,l1',l5',l6',ho1,ho5,ho6⟩
 have HEND:Hid(Below w.heap.size w X3∧OpenAt X3 w.heap.size(V6+1)⟨⟨p.id,p.next,b1,b2,b3,b4,b5,b6⟩,l1',l2,l3,l4,l5',l6'⟩∧(⟨⟨p.id,p.next,b1,b2,b3,b4,b5,b6⟩,l1',l2,l3,l4,l5',l6'⟩:OpenD).pure=p.pure):=open_end HW.out HK7.out HO.out HB2.out HY1.out HY2.out HY3.out HY4.out HY5.out HY6.out ho1 ho5 ho6
 clear ho1 ho5 ho6
 go_wp2
 go_ret2
 exact⟨HEND.out.1,.inr⟨HYES.out,V6+1,_,rfl,HEND.out.2.1,HEND.out.2.2⟩⟩
end Go.Proofs.YtkbcplnlehdjfaaGreat
