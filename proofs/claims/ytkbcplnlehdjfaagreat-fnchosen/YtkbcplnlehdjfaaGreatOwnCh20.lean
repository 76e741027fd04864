/- What the proof leans on, part 20: MkB, PartAdd, LwProc, LwBuffer, LwPort, CopyS, MkN, MkOp, MkSem, MkEvent, MkBoard, MkStr, LwPart, Brief, TdB, MkProc, MkBuffer, MkPort, LwBase, TdProc, TdSem, TdEvent, TdBoard, TdBuffer, TdPort. -/
import Derived.Test.YtkbcplnlehdjfaaGreatOwnCh1
import Derived.Test.YtkbcplnlehdjfaaGreatOwnCh9
import Derived.Test.YtkbcplnlehdjfaaGreatOwnCh11
import Derived.Test.YtkbcplnlehdjfaaGreatOwnCh19
import Derived.Deep.AppendSrc
import Derived.Deep.RegionHeld
set_option maxRecDepth 100000
set_option maxHeartbeats 8000000

namespace Go.Proofs.YtkbcplnlehdjfaaGreat
open Go.RowKit
structure KeptBut(w w':World)(bs:List Nat):Prop where
 os:w'.os=w.os
 tape:w'.tape=w.tape
 output:w'.output=w.output
 size:w.heap.size≤w'.heap.size
 same: ∀ g,g < w.heap.size→g∉bs→w'.heap[g]? =w.heap[g]?
section
variable {w w1 w2:World} {bs bs':List Nat}
theorem KeptBut.refl(w:World)(bs:List Nat):KeptBut w w bs:=⟨rfl,rfl,rfl,Nat.le_refl _,fun _ _ _=>rfl⟩
theorem KeptBut.trans(h:KeptBut w w1 bs)(h':KeptBut w1 w2 bs):KeptBut w w2 bs:=
 ⟨h'.os.trans h.os,h'.tape.trans h.tape,h'.output.trans h.output,Nat.le_trans h.size h'.size,fun g hg hn=>(h'.same g(Nat.lt_of_lt_of_le hg h.size)hn).trans(h.same g hg hn)⟩
theorem KeptBut.mono(h:KeptBut w w1 bs)(hs: ∀ g∈bs,g∈bs'):KeptBut w w1 bs':=⟨h.os,h.tape,h.output,h.size,fun g hg hn=>h.same g hg fun hm=>hn(hs g hm)⟩
theorem KeptBut.of_below(h:Below w.heap.size w w1):KeptBut w w1 bs:=⟨h.os,h.tape,h.output,h.size,fun g hg _=>h.block g hg⟩
theorem KeptBut.below {base:Nat} (h:KeptBut w w1 bs)(hb:base≤w.heap.size)(hs: ∀ g∈bs,base≤g):Below base w w1:=⟨h.os,h.tape,h.output,h.size,fun g hg=>h.same g(by omega)fun hm=>by have:=hs g hm; omega⟩
theorem KeptBut.set {g off:Nat} (vs:List Value)(hg:g∈bs):KeptBut w(setAllW w g off vs)bs:=
 have hb: ∀ (vs:List Value)(w:World)(off:Nat),(setAllW w g off vs).os=w.os∧(setAllW w g off vs).tape=w.tape∧(setAllW w g off vs).output=w.output:=fun vs=>by
  induction vs with
  | nil=>exact fun _ _=>⟨rfl,rfl,rfl⟩
  | cons v r ih=>exact fun w off=>ih(w.setCell⟨g,off,none⟩v)(off+1)
 ⟨(hb vs w off).1,(hb vs w off).2.1,(hb vs w off).2.2,by rw [setAllW_size]; exact Nat.le_refl _,fun k _ hn=>setAllW_other vs fun e=>hn(by rw [e]; exact hg)⟩
end
theorem setAll_high: ∀ (vs:List Value)(cur:Array Value)(off j:Nat),off+vs.length≤j→(setAll cur off vs)[j]? =cur[j]?
 | [],_,_,_,_=>rfl
 | v :: r,cur,off,j,h=>by
  simp only [List.length_cons] at h
  rw [setAll,setAll_high r _ _ _(by omega),Array.getElem?_setIfInBounds_ne(by omega)]
section
variable {α:Type} {K:Kind α}
theorem Kind.flat_ext {xs:List Value} {l:List α} (hl:xs.length=l.length * K.n)(h: ∀ i y r,l[i]? =some y→r < K.n→xs[i * K.n+r]? =(K.vals y)[r]?):xs=K.flat l:=by
 apply List.ext_getElem?
 intro q
 by_cases hq:q < l.length * K.n
 ·have hi:q / K.n < l.length:=Nat.div_lt_of_lt_mul(by rw [Nat.mul_comm]; exact hq)
  have hr:q % K.n < K.n:=Nat.mod_lt _ K.pos
  have e:q / K.n * K.n+q % K.n=q:=by rw [Nat.mul_comm]; exact Nat.div_add_mod q K.n
  obtain⟨y,hy⟩: ∃ y,l[q / K.n]? =some y:=⟨_,List.getElem?_eq_getElem hi⟩
  have h1:=h _ y _ hy hr
  rw [← K.flat_get hy hr,e] at h1
  exact h1
 ·rw [List.getElem?_eq_none(by omega),List.getElem?_eq_none(by rw [K.flat_length]; omega)]
theorem row_part {cur:Array Value} {A B:List α} {x y:α} {j:Nat} {vs:List Value} (h:cur.toList.take((A ++ x :: B).length * K.n)=K.flat(A ++ x :: B))(hs:(A ++ x :: B).length * K.n≤cur.size)(hj:j+vs.length≤K.n)
  (h1: ∀ r,r < vs.length→(K.vals y)[j+r]? =vs[r]?)(h2: ∀ r,r < K.n→ ¬ (j≤r∧r < j+vs.length)→(K.vals y)[r]? =(K.vals x)[r]?):
  (setAll cur(A.length * K.n+j)vs).toList.take((A ++ y :: B).length * K.n)=K.flat(A ++ y :: B):=by
 have hlen:(A ++ y :: B).length=(A ++ x :: B).length:=by simp
 have hA:A.length < (A ++ x :: B).length:=by rw [List.length_append,List.length_cons]; omega
 have hle:A.length * K.n+K.n≤(A ++ x :: B).length * K.n:=by rw [← Nat.succ_mul]; exact Nat.mul_le_mul_right _ hA
 have hcur: ∀ q,q < (A ++ x :: B).length * K.n→cur[q]? =(K.flat(A ++ x :: B))[q]? :=fun q hq=>by
  rw [← h,List.getElem?_take,if_pos hq,Array.getElem?_toList]
 have e0:(setAll cur(A.length * K.n+j)vs).toList.length=cur.size:=by rw [Array.length_toList,setAll_size]
 refine Kind.flat_ext(by rw [List.length_take,e0,hlen]; omega)fun i z r hz hr=> ?_
 have hi:i < (A ++ x :: B).length:=by rw [← hlen]; exact(List.getElem?_eq_some_iff.1 hz).1
 have hq:i * K.n+r < (A ++ x :: B).length * K.n:=by
  have:(i+1) * K.n≤(A ++ x :: B).length * K.n:=Nat.mul_le_mul_right _ hi
  rw [Nat.succ_mul] at this
  omega
 rw [List.getElem?_take,hlen,if_pos hq,Array.getElem?_toList]
 by_cases e:i=A.length
 ·subst e
  have hzy:z=y:=by
   rw [List.getElem?_append_right(Nat.le_refl _)] at hz
   simpa using hz.symm
  subst hzy
  have hx:(A ++ x :: B)[A.length]? =some x:=by rw [List.getElem?_append_right(Nat.le_refl _)]; simp
  by_cases hr2:j≤r∧r < j+vs.length
  ·obtain⟨d,rfl⟩: ∃ d,r=j+d:=⟨r - j,by omega⟩
   rw [h1 d(by omega),show A.length * K.n+(j+d)=A.length * K.n+j+d by omega,List.getElem?_eq_getElem(by omega)]
   exact setAll_at vs cur(A.length * K.n+j)d _(by omega)(List.getElem?_eq_getElem(by omega))
  ·rw [h2 r hr hr2,← K.flat_get hx hr,← hcur _ hq]
   by_cases h3:r < j
   ·exact setAll_low vs cur _ _(by omega)
   ·exact setAll_high vs cur _ _(by omega)
 ·have hx:(A ++ x :: B)[i]? =some z:=by
   by_cases h3:i < A.length
   ·rw [List.getElem?_append_left h3] at hz ⊢
    exact hz
   ·rw [List.getElem?_append_right(by omega)] at hz ⊢
    obtain⟨d,hd⟩: ∃ d,i - A.length=d+1:=⟨i - A.length - 1,by omega⟩
    rw [hd] at hz ⊢
    exact hz
  rw [← K.flat_get hx hr,← hcur _ hq]
  by_cases h3:i < A.length
  ·have:(i+1) * K.n≤A.length * K.n:=Nat.mul_le_mul_right _ h3
   rw [Nat.succ_mul] at this
   exact setAll_low vs cur _ _(by omega)
  ·have:(A.length+1) * K.n≤i * K.n:=Nat.mul_le_mul_right _(by omega)
   rw [Nat.succ_mul] at this
   exact setAll_high vs cur _ _(by omega)
def RowAt(K:Kind α)(T:TypeId)(w:World)(base g cap:Nat)(l:List α):Prop:= ∃ cur:Array Value,w.heap[g]? =some(.cells cur T(0,0))∧base≤g∧l.length≤cap∧cap≤maxLen∧cur.size=cap * K.n∧cur.toList.take(l.length * K.n)=K.flat l
theorem RowAt.owns {T:TypeId} {w:World} {base g cap:Nat} {l:List α} (h:RowAt K T w base g cap l):w.ownsRow base T K.n(.slice(some⟨g,0,none⟩)l.length cap)l.length(K.flat l):=by
 obtain⟨cur,h1,h2,h3,h4,h5,h6⟩:=h
 exact⟨K.flat_length l,.inr⟨g,cap,cur,rfl,h2,h1,h3,h4,h5,h6⟩⟩
theorem RowAt.of_owns {T:TypeId} {w:World} {base cap:Nat} {a:Option Addr} {l:List α} (h:w.ownsRow base T K.n(.slice a l.length cap)l.length(K.flat l))(hl: ¬ l.length=0): ∃ g,a=some⟨g,0,none⟩∧RowAt K T w base g cap l:=by
 rcases h.2 with ⟨_,h0⟩ | ⟨g,c,cur,hv,h1,h2,h3,h4,h5,h6⟩
 ·exact absurd h0 hl
 ·simp only [Value.slice.injEq] at hv
  obtain⟨rfl,-,rfl⟩:=hv
  exact⟨g,rfl,cur,h2,h1,h3,h4,h5,h6⟩
theorem RowAt.same {T:TypeId} {w w':World} {base g cap:Nat} {l:List α} (h:RowAt K T w base g cap l)(hs:w'.heap[g]? =w.heap[g]?):RowAt K T w' base g cap l:=by
 obtain⟨cur,h1,h2⟩:=h
 exact⟨cur,hs.trans h1,h2⟩
theorem RowAt.lt {T:TypeId} {w:World} {base g cap:Nat} {l:List α} (h:RowAt K T w base g cap l):g < w.heap.size:=by
 obtain⟨cur,h1,_⟩:=h
 exact(Array.getElem?_eq_some_iff.1 h1).1
theorem RowAt.cell {T:TypeId} {w:World} {base g cap:Nat} {l:List α} (h:RowAt K T w base g cap l) {i:Nat} {x:α} (hx:l[i]? =some x) {r:Nat} (hr:r < K.n):w.cell? ⟨g,i * K.n+r,none⟩=(K.vals x)[r]? ∧w.frozen? ⟨g,i * K.n+r,none⟩=false:=by
 obtain⟨cur,h1,h2,h3,h4,h5,h6⟩:=h
 refine⟨?_,frozen_of_row _ _ _ _ _ h1⟩
 have hi:i < l.length:=(List.getElem?_eq_some_iff.1 hx).1
 have hq:i * K.n+r < l.length * K.n:=by
  have:(i+1) * K.n≤l.length * K.n:=Nat.mul_le_mul_right _ hi
  rw [Nat.succ_mul] at this
  omega
 rw [cell_of_row _ _ _ _ _ _ h1,← K.flat_get hx hr,← h6,List.getElem?_take,if_pos hq,Array.getElem?_toList]
theorem RowAt.part {T:TypeId} {w:World} {base g cap:Nat} {A B:List α} {x y:α} {j:Nat} {vs:List Value} (h:RowAt K T w base g cap(A ++ x :: B))(hj:j+vs.length≤K.n)
  (h1: ∀ r,r < vs.length→(K.vals y)[j+r]? =vs[r]?)(h2: ∀ r,r < K.n→ ¬ (j≤r∧r < j+vs.length)→(K.vals y)[r]? =(K.vals x)[r]?):
  RowAt K T(setAllW w g(A.length * K.n+j)vs)base g cap(A ++ y :: B):=by
 obtain⟨cur,c1,c2,c3,c4,c5,c6⟩:=h
 have hl:(A ++ y :: B).length=(A ++ x :: B).length:=by simp
 refine⟨_,setAllW_heap vs c1,c2,by rw [hl]; exact c3,c4,by rw [setAll_size]; exact c5,?_⟩
 exact row_part c6(by rw [c5]; exact Nat.mul_le_mul_right _ c3)hj h1 h2
end
end Go.Proofs.YtkbcplnlehdjfaaGreat

namespace Go.Proofs.YtkbcplnlehdjfaaGreat
open Go.RowKit
theorem nodup_grow {Z A A' K k R:List Nat} (h:(Z ++ (A ++ (K ++ R))).Nodup)(hA:A'.Nodup)(hk:k.Nodup)(h1: ∀ g∈A',g∉Z∧g∉K∧g∉k∧g∉R)(h2: ∀ g∈k,g∉Z∧g∉K∧g∉R):(Z ++ (A' ++ ((K ++ k) ++ R))).Nodup:=by
 simp only [List.nodup_append,List.mem_append] at h ⊢
 obtain⟨hz,⟨-,⟨hK,hR,hKR⟩,-⟩,hzz⟩:=h
 refine⟨hz,⟨hA,⟨⟨hK,hk,fun a ha b hb e=>(h2 b hb).2.1(e ▸ ha)⟩,hR,fun a ha b hb e=> ?_⟩,fun a ha b hb e=> ?_⟩,fun a ha b hb e=> ?_⟩
 ·rcases ha with ha | ha
  ·exact hKR a ha b hb e
  ·exact(h2 a ha).2.2(e ▸ hb)
 ·subst e
  rcases hb with (hb | hb) | hb
  ·exact(h1 a ha).2.1 hb
  ·exact(h1 a ha).2.2.1 hb
  ·exact(h1 a ha).2.2.2 hb
 ·subst e
  rcases hb with hb | (hb | hb) | hb
  ·exact(h1 a hb).1 ha
  ·exact hzz a ha a(.inr(.inl hb))rfl
  ·exact(h2 a hb).1 ha
  ·exact hzz a ha a(.inr(.inr hb))rfl
theorem blk_nodup(a:Option Addr):(blk a).Nodup:=by cases a <;> simp [blk]
theorem kidL_nodup {α:Type} (N:Nest α)(x:α):([x].filterMap N.kid).Nodup:=by
 cases h:N.kid x <;> simp [h]
theorem exists_kid {α:Type} {N:Nest α} {l:List α} {y:α} {g:Nat} (hy:y∈l)(hk:N.kid y=some g):(∃ a,a∈l∧N.kid a=some g)=True:=by simp only [eq_iff_iff,iff_true]; exact⟨y,hy,hk⟩
theorem mem_kidL {α:Type} {N:Nest α} {x:α} {g:Nat} :g∈ [x].filterMap N.kid↔N.kid x=some g:=by simp
theorem PartOwn.addProc {w w':World} {base:Nat} {q:PartD} {x:ProcD} {a:Option Addr} {c:Nat} (h:PartOwn w base q)(hm:procN.Mine w base x)(hx: ∀ g,procN.kid x=some g→g∉q.blocks)
  (ho:w'.ownsRow base 43 12(.slice a(q.procs.length+1)c)(q.procs.length+1)(procK.flat(q.procs ++ [x])))(hg: ∀ g,g < w.heap.size→g∉blk q.procA→w'.heap[g]? =w.heap[g]?)(hb: ∀ g∈blk a,g∈blk q.procA∨g=w.heap.size):
  PartOwn w' base({ q with procs:=q.procs ++ [x],procA:=a,procC:=c } :PartD)∧ ∀ g∈({ q with procs:=q.procs ++ [x],procA:=a,procC:=c } :PartD).blocks,g∈q.blocks∨procN.kid x=some g∨g=w.heap.size:=by
 have hbs:q.blocks= [] ++ (blk q.procA ++ (q.procs.filterMap procN.kid ++ (blk q.semA ++ (blk q.eventA ++ (blk q.boardA ++ (blk q.bufferA ++ (q.buffers.filterMap bufferN.kid ++ (blk q.portA ++ q.ports.filterMap portN.kid)))))))):=by simp [PartD.blocks]
 have hbn:({ q with procs:=q.procs ++ [x],procA:=a,procC:=c } :PartD).blocks= [] ++ (blk a ++ ((q.procs.filterMap procN.kid ++ [x].filterMap procN.kid) ++ (blk q.semA ++ (blk q.eventA ++ (blk q.boardA ++ (blk q.bufferA ++ (q.buffers.filterMap bufferN.kid ++ (blk q.portA ++ q.ports.filterMap portN.kid)))))))):=by simp only [PartD.blocks,List.append_assoc,List.filterMap_append,List.nil_append]
 have hnd:=h.nodup
 rw [hbs] at hnd
 have hlt: ∀ g∈q.blocks,g < w.heap.size:=fun g hg=>(h.lt g hg).2
 have hapart: ∀ g∈q.blocks,g∉blk q.procA→w'.heap[g]? =w.heap[g]? :=fun g hgm hn=>hg g(hlt g hgm)hn
 have hdis: ∀ g,(g∈ [] ∨g∈q.procs.filterMap procN.kid∨g∈(blk q.semA ++ (blk q.eventA ++ (blk q.boardA ++ (blk q.bufferA ++ (q.buffers.filterMap bufferN.kid ++ (blk q.portA ++ q.ports.filterMap portN.kid)))))))→g∉blk q.procA:=fun g hgm hA=>by
  obtain⟨-,h2,h3⟩:=List.nodup_append.1 hnd
  obtain⟨-,-,h4⟩:=List.nodup_append.1 h2
  rcases hgm with hgm | hgm | hgm
  ·exact h3 g hgm g(List.mem_append_left _ hA)rfl
  ·exact h4 g hA g(List.mem_append_left _ hgm)rfl
  ·exact h4 g hA g(List.mem_append_right _ hgm)rfl
 have hmem: ∀ g,(g∈ [] ∨g∈q.procs.filterMap procN.kid∨g∈(blk q.semA ++ (blk q.eventA ++ (blk q.boardA ++ (blk q.bufferA ++ (q.buffers.filterMap bufferN.kid ++ (blk q.portA ++ q.ports.filterMap portN.kid)))))))→g∈q.blocks:=fun g hgm=>by
  rw [hbs]
  simp only [List.mem_append]
  simp only [List.mem_append] at hgm
  rcases hgm with hgm | hgm | hgm
  ·exact .inl hgm
  ·exact .inr(.inr(.inl hgm))
  ·exact .inr(.inr(.inr hgm))
 have hs: ∀ g,(g∈ [] ∨g∈q.procs.filterMap procN.kid∨g∈(blk q.semA ++ (blk q.eventA ++ (blk q.boardA ++ (blk q.bufferA ++ (q.buffers.filterMap bufferN.kid ++ (blk q.portA ++ q.ports.filterMap portN.kid)))))))→w'.heap[g]? =w.heap[g]? :=fun g hgm=>hapart g(hmem g hgm)(hdis g hgm)
 have hxs: ∀ g,procN.kid x=some g→w'.heap[g]? =w.heap[g]? :=fun g hk=>hg g(hm.lt hk).2 fun hA=>hx g hk(by rw [hbs]; simp only [List.mem_append]; exact .inr(.inl hA))
 refine⟨⟨(by simpa using ho),own_same h.sems fun g hgm=>hs g(.inr <| .inr(by simp [hgm])),own_same h.events fun g hgm=>hs g(.inr <| .inr(by simp [hgm])),own_same h.boards fun g hgm=>hs g(.inr <| .inr(by simp [hgm])),own_same h.buffers fun g hgm=>hs g(.inr <| .inr(by simp [hgm])),own_same h.ports fun g hgm=>hs g(.inr <| .inr(by simp [hgm])),fun y hy=>by
  rcases List.mem_append.1 hy with hy | hy
  ·exact(h.mineP y hy).same fun g hk=>hs g(.inr(.inl(List.mem_filterMap.2⟨y,hy,hk⟩)))
  ·simp only [List.mem_cons,List.not_mem_nil,or_false] at hy
   subst hy
   exact hm.same hxs,fun y hy=>(h.mineF y hy).same fun g hk=>hs g(.inr <| .inr(by simp only [List.mem_append,List.mem_filterMap]; simp [exists_kid hy hk])),fun y hy=>(h.mineQ y hy).same fun g hk=>hs g(.inr <| .inr(by simp only [List.mem_append,List.mem_filterMap]; simp [exists_kid hy hk])),?_⟩,?_⟩
 ·rw [hbn]
  refine nodup_grow hnd(blk_nodup a)(kidL_nodup _ x)(fun g hga=> ?_)(fun g hgk=> ?_)
  ·have key: ∀ g',(g'∈ [] ∨g'∈q.procs.filterMap procN.kid∨g'∈(blk q.semA ++ (blk q.eventA ++ (blk q.boardA ++ (blk q.bufferA ++ (q.buffers.filterMap bufferN.kid ++ (blk q.portA ++ q.ports.filterMap portN.kid)))))))→g'≠g:=fun g' hg' e=>by
    rcases hb g hga with h1 | h1
    ·exact hdis g' hg'(e ▸ h1)
    ·have:=hlt g'(hmem g' hg')
     omega
   refine⟨fun hz=>key g(.inl hz)rfl,fun hz=>key g(.inr(.inl hz))rfl,fun hz=> ?_,fun hz=>key g(.inr(.inr hz))rfl⟩
   rw [mem_kidL] at hz
   rcases hb g hga with h1 | h1
   ·exact hx g hz(by rw [hbs]; simp only [List.mem_append]; exact .inr(.inl h1))
   ·have:=(hm.lt hz).2
    omega
  ·rw [mem_kidL] at hgk
   have hn:=hx g hgk
   exact⟨fun hz=>hn(hmem g(.inl hz)),fun hz=>hn(hmem g(.inr(.inl hz))),fun hz=>hn(hmem g(.inr(.inr hz)))⟩
 ·intro g hgm
  rw [hbn] at hgm
  rw [hbs]
  simp only [List.mem_append] at hgm ⊢
  rcases hgm with hgm | hgm | (hgm | hgm) | hgm
  ·exact .inl(.inl hgm)
  ·rcases hb g hgm with h1 | h1
   ·exact .inl(.inr(.inl h1))
   ·exact .inr(.inr h1)
  ·exact .inl(.inr(.inr(.inl hgm)))
  ·exact .inr(.inl(mem_kidL.1 hgm))
  ·exact .inl(.inr(.inr(.inr hgm)))
theorem PartOwn.addBuffer {w w':World} {base:Nat} {q:PartD} {x:BufferD} {a:Option Addr} {c:Nat} (h:PartOwn w base q)(hm:bufferN.Mine w base x)(hx: ∀ g,bufferN.kid x=some g→g∉q.blocks)
  (ho:w'.ownsRow base 144 3(.slice a(q.buffers.length+1)c)(q.buffers.length+1)(bufferK.flat(q.buffers ++ [x])))(hg: ∀ g,g < w.heap.size→g∉blk q.bufferA→w'.heap[g]? =w.heap[g]?)(hb: ∀ g∈blk a,g∈blk q.bufferA∨g=w.heap.size):
  PartOwn w' base({ q with buffers:=q.buffers ++ [x],bufferA:=a,bufferC:=c } :PartD)∧ ∀ g∈({ q with buffers:=q.buffers ++ [x],bufferA:=a,bufferC:=c } :PartD).blocks,g∈q.blocks∨bufferN.kid x=some g∨g=w.heap.size:=by
 have hbs:q.blocks=(blk q.procA ++ q.procs.filterMap procN.kid ++ blk q.semA ++ blk q.eventA ++ blk q.boardA) ++ (blk q.bufferA ++ (q.buffers.filterMap bufferN.kid ++ (blk q.portA ++ q.ports.filterMap portN.kid))):=by simp [PartD.blocks,List.append_assoc]
 have hbn:({ q with buffers:=q.buffers ++ [x],bufferA:=a,bufferC:=c } :PartD).blocks=(blk q.procA ++ q.procs.filterMap procN.kid ++ blk q.semA ++ blk q.eventA ++ blk q.boardA) ++ (blk a ++ ((q.buffers.filterMap bufferN.kid ++ [x].filterMap bufferN.kid) ++ (blk q.portA ++ q.ports.filterMap portN.kid))):=by simp only [PartD.blocks,List.append_assoc,List.filterMap_append]
 have hnd:=h.nodup
 rw [hbs] at hnd
 have hlt: ∀ g∈q.blocks,g < w.heap.size:=fun g hg=>(h.lt g hg).2
 have hapart: ∀ g∈q.blocks,g∉blk q.bufferA→w'.heap[g]? =w.heap[g]? :=fun g hgm hn=>hg g(hlt g hgm)hn
 have hdis: ∀ g,(g∈(blk q.procA ++ q.procs.filterMap procN.kid ++ blk q.semA ++ blk q.eventA ++ blk q.boardA)∨g∈q.buffers.filterMap bufferN.kid∨g∈(blk q.portA ++ q.ports.filterMap portN.kid))→g∉blk q.bufferA:=fun g hgm hA=>by
  obtain⟨-,h2,h3⟩:=List.nodup_append.1 hnd
  obtain⟨-,-,h4⟩:=List.nodup_append.1 h2
  rcases hgm with hgm | hgm | hgm
  ·exact h3 g hgm g(List.mem_append_left _ hA)rfl
  ·exact h4 g hA g(List.mem_append_left _ hgm)rfl
  ·exact h4 g hA g(List.mem_append_right _ hgm)rfl
 have hmem: ∀ g,(g∈(blk q.procA ++ q.procs.filterMap procN.kid ++ blk q.semA ++ blk q.eventA ++ blk q.boardA)∨g∈q.buffers.filterMap bufferN.kid∨g∈(blk q.portA ++ q.ports.filterMap portN.kid))→g∈q.blocks:=fun g hgm=>by
  rw [hbs]
  simp only [List.mem_append]
  simp only [List.mem_append] at hgm
  rcases hgm with hgm | hgm | hgm
  ·exact .inl hgm
  ·exact .inr(.inr(.inl hgm))
  ·exact .inr(.inr(.inr hgm))
 have hs: ∀ g,(g∈(blk q.procA ++ q.procs.filterMap procN.kid ++ blk q.semA ++ blk q.eventA ++ blk q.boardA)∨g∈q.buffers.filterMap bufferN.kid∨g∈(blk q.portA ++ q.ports.filterMap portN.kid))→w'.heap[g]? =w.heap[g]? :=fun g hgm=>hapart g(hmem g hgm)(hdis g hgm)
 have hxs: ∀ g,bufferN.kid x=some g→w'.heap[g]? =w.heap[g]? :=fun g hk=>hg g(hm.lt hk).2 fun hA=>hx g hk(by rw [hbs]; simp only [List.mem_append]; exact .inr(.inl hA))
 refine⟨⟨own_same h.procs fun g hgm=>hs g(.inl(by simp [hgm])),own_same h.sems fun g hgm=>hs g(.inl(by simp [hgm])),own_same h.events fun g hgm=>hs g(.inl(by simp [hgm])),own_same h.boards fun g hgm=>hs g(.inl(by simp [hgm])),(by simpa using ho),own_same h.ports fun g hgm=>hs g(.inr <| .inr(by simp [hgm])),fun y hy=>(h.mineP y hy).same fun g hk=>hs g(.inl(by simp only [List.mem_append,List.mem_filterMap]; simp [exists_kid hy hk])),fun y hy=>by
  rcases List.mem_append.1 hy with hy | hy
  ·exact(h.mineF y hy).same fun g hk=>hs g(.inr(.inl(List.mem_filterMap.2⟨y,hy,hk⟩)))
  ·simp only [List.mem_cons,List.not_mem_nil,or_false] at hy
   subst hy
   exact hm.same hxs,fun y hy=>(h.mineQ y hy).same fun g hk=>hs g(.inr <| .inr(by simp only [List.mem_append,List.mem_filterMap]; simp [exists_kid hy hk])),?_⟩,?_⟩
 ·rw [hbn]
  refine nodup_grow hnd(blk_nodup a)(kidL_nodup _ x)(fun g hga=> ?_)(fun g hgk=> ?_)
  ·have key: ∀ g',(g'∈(blk q.procA ++ q.procs.filterMap procN.kid ++ blk q.semA ++ blk q.eventA ++ blk q.boardA)∨g'∈q.buffers.filterMap bufferN.kid∨g'∈(blk q.portA ++ q.ports.filterMap portN.kid))→g'≠g:=fun g' hg' e=>by
    rcases hb g hga with h1 | h1
    ·exact hdis g' hg'(e ▸ h1)
    ·have:=hlt g'(hmem g' hg')
     omega
   refine⟨fun hz=>key g(.inl hz)rfl,fun hz=>key g(.inr(.inl hz))rfl,fun hz=> ?_,fun hz=>key g(.inr(.inr hz))rfl⟩
   rw [mem_kidL] at hz
   rcases hb g hga with h1 | h1
   ·exact hx g hz(by rw [hbs]; simp only [List.mem_append]; exact .inr(.inl h1))
   ·have:=(hm.lt hz).2
    omega
  ·rw [mem_kidL] at hgk
   have hn:=hx g hgk
   exact⟨fun hz=>hn(hmem g(.inl hz)),fun hz=>hn(hmem g(.inr(.inl hz))),fun hz=>hn(hmem g(.inr(.inr hz)))⟩
 ·intro g hgm
  rw [hbn] at hgm
  rw [hbs]
  simp only [List.mem_append] at hgm ⊢
  rcases hgm with hgm | hgm | (hgm | hgm) | hgm
  ·exact .inl(.inl hgm)
  ·rcases hb g hgm with h1 | h1
   ·exact .inl(.inr(.inl h1))
   ·exact .inr(.inr h1)
  ·exact .inl(.inr(.inr(.inl hgm)))
  ·exact .inr(.inl(mem_kidL.1 hgm))
  ·exact .inl(.inr(.inr(.inr hgm)))
theorem PartOwn.addPort {w w':World} {base:Nat} {q:PartD} {x:PortD} {a:Option Addr} {c:Nat} (h:PartOwn w base q)(hm:portN.Mine w base x)(hx: ∀ g,portN.kid x=some g→g∉q.blocks)
  (ho:w'.ownsRow base 61 5(.slice a(q.ports.length+1)c)(q.ports.length+1)(portK.flat(q.ports ++ [x])))(hg: ∀ g,g < w.heap.size→g∉blk q.portA→w'.heap[g]? =w.heap[g]?)(hb: ∀ g∈blk a,g∈blk q.portA∨g=w.heap.size):
  PartOwn w' base({ q with ports:=q.ports ++ [x],portA:=a,portC:=c } :PartD)∧ ∀ g∈({ q with ports:=q.ports ++ [x],portA:=a,portC:=c } :PartD).blocks,g∈q.blocks∨portN.kid x=some g∨g=w.heap.size:=by
 have hbs:q.blocks=(blk q.procA ++ q.procs.filterMap procN.kid ++ blk q.semA ++ blk q.eventA ++ blk q.boardA ++ blk q.bufferA ++ q.buffers.filterMap bufferN.kid) ++ (blk q.portA ++ (q.ports.filterMap portN.kid ++ [])):=by simp [PartD.blocks,List.append_assoc]
 have hbn:({ q with ports:=q.ports ++ [x],portA:=a,portC:=c } :PartD).blocks=(blk q.procA ++ q.procs.filterMap procN.kid ++ blk q.semA ++ blk q.eventA ++ blk q.boardA ++ blk q.bufferA ++ q.buffers.filterMap bufferN.kid) ++ (blk a ++ ((q.ports.filterMap portN.kid ++ [x].filterMap portN.kid) ++ [])):=by simp only [PartD.blocks,List.append_assoc,List.filterMap_append,List.append_nil]
 have hnd:=h.nodup
 rw [hbs] at hnd
 have hlt: ∀ g∈q.blocks,g < w.heap.size:=fun g hg=>(h.lt g hg).2
 have hapart: ∀ g∈q.blocks,g∉blk q.portA→w'.heap[g]? =w.heap[g]? :=fun g hgm hn=>hg g(hlt g hgm)hn
 have hdis: ∀ g,(g∈(blk q.procA ++ q.procs.filterMap procN.kid ++ blk q.semA ++ blk q.eventA ++ blk q.boardA ++ blk q.bufferA ++ q.buffers.filterMap bufferN.kid)∨g∈q.ports.filterMap portN.kid∨g∈ [])→g∉blk q.portA:=fun g hgm hA=>by
  obtain⟨-,h2,h3⟩:=List.nodup_append.1 hnd
  obtain⟨-,-,h4⟩:=List.nodup_append.1 h2
  rcases hgm with hgm | hgm | hgm
  ·exact h3 g hgm g(List.mem_append_left _ hA)rfl
  ·exact h4 g hA g(List.mem_append_left _ hgm)rfl
  ·exact h4 g hA g(List.mem_append_right _ hgm)rfl
 have hmem: ∀ g,(g∈(blk q.procA ++ q.procs.filterMap procN.kid ++ blk q.semA ++ blk q.eventA ++ blk q.boardA ++ blk q.bufferA ++ q.buffers.filterMap bufferN.kid)∨g∈q.ports.filterMap portN.kid∨g∈ [])→g∈q.blocks:=fun g hgm=>by
  rw [hbs]
  simp only [List.mem_append]
  simp only [List.mem_append] at hgm
  rcases hgm with hgm | hgm | hgm
  ·exact .inl hgm
  ·exact .inr(.inr(.inl hgm))
  ·exact .inr(.inr(.inr hgm))
 have hs: ∀ g,(g∈(blk q.procA ++ q.procs.filterMap procN.kid ++ blk q.semA ++ blk q.eventA ++ blk q.boardA ++ blk q.bufferA ++ q.buffers.filterMap bufferN.kid)∨g∈q.ports.filterMap portN.kid∨g∈ [])→w'.heap[g]? =w.heap[g]? :=fun g hgm=>hapart g(hmem g hgm)(hdis g hgm)
 have hxs: ∀ g,portN.kid x=some g→w'.heap[g]? =w.heap[g]? :=fun g hk=>hg g(hm.lt hk).2 fun hA=>hx g hk(by rw [hbs]; simp only [List.mem_append]; exact .inr(.inl hA))
 refine⟨⟨own_same h.procs fun g hgm=>hs g(.inl(by simp [hgm])),own_same h.sems fun g hgm=>hs g(.inl(by simp [hgm])),own_same h.events fun g hgm=>hs g(.inl(by simp [hgm])),own_same h.boards fun g hgm=>hs g(.inl(by simp [hgm])),own_same h.buffers fun g hgm=>hs g(.inl(by simp [hgm])),(by simpa using ho),fun y hy=>(h.mineP y hy).same fun g hk=>hs g(.inl(by simp only [List.mem_append,List.mem_filterMap]; simp [exists_kid hy hk])),fun y hy=>(h.mineF y hy).same fun g hk=>hs g(.inl(by simp only [List.mem_append,List.mem_filterMap]; simp [exists_kid hy hk])),fun y hy=>by
  rcases List.mem_append.1 hy with hy | hy
  ·exact(h.mineQ y hy).same fun g hk=>hs g(.inr(.inl(List.mem_filterMap.2⟨y,hy,hk⟩)))
  ·simp only [List.mem_cons,List.not_mem_nil,or_false] at hy
   subst hy
   exact hm.same hxs,?_⟩,?_⟩
 ·rw [hbn]
  refine nodup_grow hnd(blk_nodup a)(kidL_nodup _ x)(fun g hga=> ?_)(fun g hgk=> ?_)
  ·have key: ∀ g',(g'∈(blk q.procA ++ q.procs.filterMap procN.kid ++ blk q.semA ++ blk q.eventA ++ blk q.boardA ++ blk q.bufferA ++ q.buffers.filterMap bufferN.kid)∨g'∈q.ports.filterMap portN.kid∨g'∈ [])→g'≠g:=fun g' hg' e=>by
    rcases hb g hga with h1 | h1
    ·exact hdis g' hg'(e ▸ h1)
    ·have:=hlt g'(hmem g' hg')
     omega
   refine⟨fun hz=>key g(.inl hz)rfl,fun hz=>key g(.inr(.inl hz))rfl,fun hz=> ?_,fun hz=>key g(.inr(.inr hz))rfl⟩
   rw [mem_kidL] at hz
   rcases hb g hga with h1 | h1
   ·exact hx g hz(by rw [hbs]; simp only [List.mem_append]; exact .inr(.inl h1))
   ·have:=(hm.lt hz).2
    omega
  ·rw [mem_kidL] at hgk
   have hn:=hx g hgk
   exact⟨fun hz=>hn(hmem g(.inl hz)),fun hz=>hn(hmem g(.inr(.inl hz))),fun hz=>hn(hmem g(.inr(.inr hz)))⟩
 ·intro g hgm
  rw [hbn] at hgm
  rw [hbs]
  simp only [List.mem_append] at hgm ⊢
  rcases hgm with hgm | hgm | (hgm | hgm) | hgm
  ·exact .inl(.inl hgm)
  ·rcases hb g hgm with h1 | h1
   ·exact .inl(.inr(.inl h1))
   ·exact .inr(.inr h1)
  ·exact .inl(.inr(.inr(.inl hgm)))
  ·exact .inr(.inl(mem_kidL.1 hgm))
  ·exact .inl(.inr(.inr(.inr hgm)))
end Go.Proofs.YtkbcplnlehdjfaaGreat

namespace Go.Proofs.YtkbcplnlehdjfaaGreat
open Go.RowKit
attribute [local go_sem ↓] Go.wp_at_zero Go.wp_at_succ
end Go.Proofs.YtkbcplnlehdjfaaGreat

namespace Go.Proofs.YtkbcplnlehdjfaaGreat
open Go.RowKit
attribute [local go_sem ↓] Go.wp_at_zero Go.wp_at_succ
end Go.Proofs.YtkbcplnlehdjfaaGreat

namespace Go.Proofs.YtkbcplnlehdjfaaGreat
open Go.RowKit
attribute [local go_sem ↓] Go.wp_at_zero Go.wp_at_succ
end Go.Proofs.YtkbcplnlehdjfaaGreat

namespace Go.Proofs.YtkbcplnlehdjfaaGreat
open Go.RowKit
theorem rinfSem:(Tryz.prog.info? 49).map(fun i=>(i.zero,i.size,i.bytes))=some(some(.agg #[.int .i64 0,.int .i64 0,.int .i64 0]),3,24):=by kernel_rfl
theorem rinfEvent:(Tryz.prog.info? 138).map(fun i=>(i.zero,i.size,i.bytes))=some(some(.agg #[.int .i64 0,.bool false]),2,16):=by kernel_rfl
theorem rinfBoard:(Tryz.prog.info? 141).map(fun i=>(i.zero,i.size,i.bytes))=some(some(.agg #[.int .i64 0,.bool false,.string⟨#[]⟩]),3,32):=by kernel_rfl
theorem rinfBuffer:(Tryz.prog.info? 144).map(fun i=>(i.zero,i.size,i.bytes))=some(some(.agg #[.int .i64 0,.int .i64 0,.slice none 0 0]),3,40):=by kernel_rfl
theorem rinfPort:(Tryz.prog.info? 61).map(fun i=>(i.zero,i.size,i.bytes))=some(some(.agg #[.int .i64 0,.bool false,.bool false,.int .i64 0,.slice none 0 0]),5,48):=by kernel_rfl
theorem rinfProc:(Tryz.prog.info? 43).map(fun i=>(i.zero,i.size,i.bytes))=some(some(.agg zero12),12,128):=by kernel_rfl
theorem own_empty {w:World} {base g:Nat} {e:TypeId} {size:Nat} (hg:w.heap[g]? =some(.cells #[] e(0,0)))(hb:base≤g):w.ownsRow base e size(.slice(some⟨g,0,none⟩)0 0)0 [] :=
 ⟨by simp,.inr⟨g,0,#[],rfl,hb,hg,Nat.le_refl _,Nat.zero_le _,by simp,by simp⟩⟩
theorem append_onto {P:Program} (w:World)(base:Nat)(t ty e:TypeId)(i:TypeInfo)(z:Value)(size bytes:Nat)(ht:P.underlying t=some(.slice e))(hi:P.info? e=some i)(hz:i.zero=some z)
  (hsize:i.size=size)(hby:i.bytes=bytes)(hzs:z.cells.size=size)(hsz:0 < size)(g:Nat)(hg:w.heap[g]? =some(.cells #[] e(0,0)))(hbg:base≤g)(a:Option Addr)(n cap:Nat)(xs:List Value)(h:Row w a xs)(hl:xs.length=n * size)(h1: ∀ u∈xs,u.oneCell'=true)
  (h63:n≤1048576)(hb:bytes≤1000)(hbw:base≤w.heap.size):
  ∃ a' cap' w',(Builtin.append_ #[t,t] ty #[.slice(some⟨g,0,none⟩)0 0,.slice a n cap]).run P w= .ok(.slice a' n cap')w'∧w'.ownsRow base e size(.slice a' n cap')n xs∧w.grownBy w'(some g)∧ ∀ q∈blk a',q=g∨q=w.heap.size:=by
 cases a with
 | none=>
  have hx:xs= [] :=by
   cases xs with
   | nil=>rfl
   | cons u r=>
    obtain⟨g,e',_⟩:=h 0 u rfl
    cases e'
  subst hx
  have hn:n=0:=by
   cases n with
   | zero=>rfl
   | succ n=>simp only [List.length_nil,Nat.succ_mul] at hl; omega
  subst hn
  refine⟨some⟨g,0,none⟩,0,w,?_,own_empty hg hbg,⟨rfl,rfl,rfl,Nat.le_refl _,fun _ _ _=>rfl⟩,fun q hq=>by simp [blk] at hq; exact .inl hq⟩
  simp [Builtin.append_,run_underlying ht,sizeOf,typeInfo,hi,Builtin.lenOf,Builtin.firstCells,storeCells]
 | some ad=>
  have hnews: ∀ j u,xs[j]? =some u→w.cell? (ad.add j)=some u:=fun j u hu=>by
   obtain⟨g,e',hc⟩:=h j u hu
   cases e'
   rw [add_off]
   exact hc
  obtain⟨v',w',hr,ho,hgr,-,hbl⟩:=run_append_own_at(P:=P)w base t ty e i z size bytes ht hi hz hsize hby hzs hsz(.slice(some⟨g,0,none⟩)0 0)0 [] (own_empty hg hbg)ad n cap xs hl hnews h1(by unfold maxLen; omega)(by rw [Nat.zero_add]; have:=Nat.mul_le_mul h63 hb; omega)hbw
  simp only [Nat.zero_add,List.nil_append] at ho
  obtain⟨a',cap',rfl,-⟩:=own_form ho
  refine⟨a',cap',w',hr,ho,hgr,fun q hq=> ?_⟩
  rw [mem_blk] at hq
  cases a' with
  | none=>simp at hq
  | some ad'=>
   simp only [Option.map_some,Option.some.injEq] at hq
   subst hq
   rcases hbl with hbl | hbl
   ·exact .inl(by simpa [Value.ownBlock] using hbl)
   ·exact .inr(by simpa [Value.ownBlock] using hbl)
theorem one_sem {l:List SemD} : ∀ u∈semK.flat l,u.oneCell'=true:=fun u hu=>by
 obtain⟨x,_,hx⟩:=List.mem_flatMap.1 hu
 simp only [semK,semVals,List.mem_cons,List.not_mem_nil,or_false] at hx
 rcases hx with rfl | rfl | rfl <;> rfl
theorem one_event {l:List EventD} : ∀ u∈eventK.flat l,u.oneCell'=true:=fun u hu=>by
 obtain⟨x,_,hx⟩:=List.mem_flatMap.1 hu
 simp only [eventK,eventVals,List.mem_cons,List.not_mem_nil,or_false] at hx
 rcases hx with rfl | rfl <;> rfl
theorem one_board {l:List BoardD} : ∀ u∈boardK.flat l,u.oneCell'=true:=fun u hu=>by
 obtain⟨x,_,hx⟩:=List.mem_flatMap.1 hu
 simp only [boardK,boardVals,List.mem_cons,List.not_mem_nil,or_false] at hx
 rcases hx with rfl | rfl | rfl <;> rfl
theorem ontoSem(w:World)(base g:Nat)(hg:w.heap[g]? =some(.cells #[] 49(0,0)))(hbg:base≤g)(a:Option Addr)(l:List SemD)(cap:Nat)(h:Row w a(semK.flat l))(hl:l.length≤1048576)(hbw:base≤w.heap.size):
  ∃ a' cap' w',(Builtin.append_ #[26,26] 26 #[.slice(some⟨g,0,none⟩)0 0,.slice a l.length cap]).run Tryz.prog w= .ok(.slice a' l.length cap')w'∧w'.ownsRow base 49 3(.slice a' l.length cap')l.length(semK.flat l)∧w.grownBy w'(some g)∧ ∀ q∈blk a',q=g∨q=w.heap.size:=by
 obtain⟨i,hi,e⟩:=Option.map_eq_some_iff.1 rinfSem
 simp only [Prod.mk.injEq] at e
 exact append_onto w base _ _ 49 i _ 3 24 Tryz.underlying26 hi e.1 e.2.1 e.2.2 rfl(by decide)g hg hbg a l.length cap _ h(semK.flat_length l)one_sem hl(by decide)hbw
theorem ontoEvent(w:World)(base g:Nat)(hg:w.heap[g]? =some(.cells #[] 138(0,0)))(hbg:base≤g)(a:Option Addr)(l:List EventD)(cap:Nat)(h:Row w a(eventK.flat l))(hl:l.length≤1048576)(hbw:base≤w.heap.size):
  ∃ a' cap' w',(Builtin.append_ #[27,27] 27 #[.slice(some⟨g,0,none⟩)0 0,.slice a l.length cap]).run Tryz.prog w= .ok(.slice a' l.length cap')w'∧w'.ownsRow base 138 2(.slice a' l.length cap')l.length(eventK.flat l)∧w.grownBy w'(some g)∧ ∀ q∈blk a',q=g∨q=w.heap.size:=by
 obtain⟨i,hi,e⟩:=Option.map_eq_some_iff.1 rinfEvent
 simp only [Prod.mk.injEq] at e
 exact append_onto w base _ _ 138 i _ 2 16 Tryz.underlying27 hi e.1 e.2.1 e.2.2 rfl(by decide)g hg hbg a l.length cap _ h(eventK.flat_length l)one_event hl(by decide)hbw
theorem ontoBoard(w:World)(base g:Nat)(hg:w.heap[g]? =some(.cells #[] 141(0,0)))(hbg:base≤g)(a:Option Addr)(l:List BoardD)(cap:Nat)(h:Row w a(boardK.flat l))(hl:l.length≤1048576)(hbw:base≤w.heap.size):
  ∃ a' cap' w',(Builtin.append_ #[28,28] 28 #[.slice(some⟨g,0,none⟩)0 0,.slice a l.length cap]).run Tryz.prog w= .ok(.slice a' l.length cap')w'∧w'.ownsRow base 141 3(.slice a' l.length cap')l.length(boardK.flat l)∧w.grownBy w'(some g)∧ ∀ q∈blk a',q=g∨q=w.heap.size:=by
 obtain⟨i,hi,e⟩:=Option.map_eq_some_iff.1 rinfBoard
 simp only [Prod.mk.injEq] at e
 exact append_onto w base _ _ 141 i _ 3 32 Tryz.underlying28 hi e.1 e.2.1 e.2.2 rfl(by decide)g hg hbg a l.length cap _ h(boardK.flat_length l)one_board hl(by decide)hbw
theorem ontoOp(w:World)(base g:Nat)(hg:w.heap[g]? =some(.cells #[] 134(0,0)))(hbg:base≤g)(a:Option Addr)(l:List OpD)(cap:Nat)(h:Row w a(opK.flat l))(hl:l.length≤1048576)(hbw:base≤w.heap.size):
  ∃ a' cap' w',(Builtin.append_ #[37,37] 37 #[.slice(some⟨g,0,none⟩)0 0,.slice a l.length cap]).run Tryz.prog w= .ok(.slice a' l.length cap')w'∧w'.ownsRow base 134 4(.slice a' l.length cap')l.length(opK.flat l)∧w.grownBy w'(some g)∧ ∀ q∈blk a',q=g∨q=w.heap.size:=by
 obtain⟨i,hi,e⟩:=Option.map_eq_some_iff.1 opInfoL
 simp only [Prod.mk.injEq] at e
 exact append_onto w base _ _ 134 i _ 4 40 Tryz.underlying37 hi e.1 e.2.1 e.2.2 rfl(by decide)g hg hbg a l.length cap _ h(opK.flat_length l)one_op hl(by decide)hbw
theorem ontoStr(w:World)(base g:Nat)(hg:w.heap[g]? =some(.cells #[] 9(0,0)))(hbg:base≤g)(a:Option Addr)(l:List ByteArray)(cap:Nat)(h:Row w a(strK.flat l))(hl:l.length≤1048576)(hbw:base≤w.heap.size):
  ∃ a' cap' w',(Builtin.append_ #[59,59] 59 #[.slice(some⟨g,0,none⟩)0 0,.slice a l.length cap]).run Tryz.prog w= .ok(.slice a' l.length cap')w'∧w'.ownsRow base 9 1(.slice a' l.length cap')l.length(strK.flat l)∧w.grownBy w'(some g)∧ ∀ q∈blk a',q=g∨q=w.heap.size:=by
 obtain⟨i,hi,e⟩:=Option.map_eq_some_iff.1 strInfo
 simp only [Prod.mk.injEq] at e
 exact append_onto w base _ _ 9 i _ 1 16 Tryz.underlying59 hi e.1 e.2.1 e.2.2 rfl(by decide)g hg hbg a l.length cap _ h(strK.flat_length l)one_str hl(by decide)hbw
section
variable {P:Program} {Q:Exit→Act→World→Prop} {K:Act→World→Prop} {o:Oper} {a:Act} {w:World}
theorem oper_append(s x:Operand)(t:TypeId)(ho:o.op= .call { callee:= .builtin .append,args:= #[s,x],argTypes:= #[t,t] })(v u r:Value)(w':World)(hs:a.eval s=v)(hx:a.eval x=u)(hr:(Builtin.append_ #[t,t] o.type #[v,u]).run P w= .ok r w')
  (h:K(a.put o.dst r)w'):Oper.wp P o a w K Q:=by
 unfold Oper.wp execOp
 simp only [ho,resolve,invoke,builtin,Sem.run_bind,Sem.run_pure,Result.andThen_ok,List.map_toArray,List.map_cons,List.map_nil,hs,hx,hr]
 exact h
theorem oper_store(ty:TypeId)(x y:Operand)(ho:o.op= .store ty x y)(g:Nat)(t:TypeId)(old cells:Array Value)(hx:a.eval x= .pointer(some⟨g,0,none⟩))(hy:a.eval y= .agg cells)(hg:w.heap[g]? =some(.cells old t(0,0)))(hi:(P.info? ty).map(·.size)=some cells.size)
  (hs:old.size=cells.size)(h1:cells.all(·.oneCell')=true)(h:K(a.put o.dst undef)(w.setRow g cells)):Oper.wp P o a w K Q:=by
 unfold Oper.wp execOp
 simp only [ho,hx,hy,Instr.storeAt,Instr.sureAddr,Sem.run_bind,Sem.run_pure,Result.andThen_ok,run_storeVar_row w g t ty old cells hg hi hs h1]
 exact h
theorem wpList_store_row {ops:Array Oper} {rest:List Oper} (hgd:o.guard=none)(ty:TypeId)(x y:Operand)(ho:o.op= .store ty x y)(g:Nat)(t:TypeId)(old cells:Array Value)(hx:a.eval x= .pointer(some⟨g,0,none⟩))(hy:a.eval y= .agg cells)(hg:w.heap[g]? =some(.cells old t(0,0)))(hi:(P.info? ty).map(·.size)=some cells.size)
  (hs:old.size=cells.size)(h1:cells.all(·.oneCell')=true)(h:wpList P ops Q rest(a.put o.dst undef)(w.setRow g cells)):wpList P ops Q(o :: rest)a w:=
 wpList_plain hgd fun _ hK=>oper_store ty x y ho g t old cells hx hy hg hi hs h1(hK _ _ h)
end
structure SlotIs(w:World)(base:Nat)(T:TypeId)(size len:Nat)(xs:List Value)(b c:Bool)(g:Nat)(a:Option Addr)(cap:Nat):Prop where
 made:b=true→c=false→w.heap[g]? =some(.cells #[] T(0,0))∧base≤g
 done:c=true→w.ownsRow base T size(.slice a len cap)len xs
def slotB(b c:Bool)(g:Nat)(a:Option Addr):List Nat:=bif c then blk a else bif b then [g] else []
theorem SlotIs.same {w w':World} {base:Nat} {T:TypeId} {size len:Nat} {xs:List Value} {b c:Bool} {g:Nat} {a:Option Addr} {cap:Nat} (h:SlotIs w base T size len xs b c g a cap)(hs: ∀ q∈slotB b c g a,w'.heap[q]? =w.heap[q]?):SlotIs w' base T size len xs b c g a cap:=by
 refine⟨fun hb hc=> ?_,fun hc=> ?_⟩
 ·subst hb hc
  exact⟨(hs g(by simp [slotB])).trans(h.made rfl rfl).1,(h.made rfl rfl).2⟩
 ·subst hc
  exact own_same(h.done rfl)fun q hq=>hs q(by simpa [slotB] using hq)
end Go.Proofs.YtkbcplnlehdjfaaGreat

namespace Go.Proofs.YtkbcplnlehdjfaaGreat
open Go.RowKit
section
variable {α:Type} {N:Nest α} {w w':World} {base g:Nat} {A B:List α} {x y:α}
structure Mines(N:Nest α)(w:World)(base g:Nat)(l:List α):Prop where
 mine: ∀ z∈l,N.Mine w base z
 nodup:(g :: l.filterMap N.kid).Nodup
theorem Mines.turn(h:Mines N w base g(A ++ x :: B))(hk:N.kid y=N.kid x)(hm:N.Mine w base y):Mines N w base g(A ++ y :: B):=by
 refine⟨fun z hz=> ?_,?_⟩
 ·rcases List.mem_append.1 hz with hz | hz
  ·exact h.mine z(List.mem_append_left _ hz)
  ·rcases List.mem_cons.1 hz with rfl | hz
   ·exact hm
   ·exact h.mine z(List.mem_append_right _(List.mem_cons_of_mem _ hz))
 ·have:=h.nodup
  rw [List.filterMap_append,List.filterMap_cons] at this ⊢
  rw [hk]
  exact this
theorem Mines.apart {l:List α} (h:Mines N w base g l) {z:α} (hz:z∈l):g∉blk(N.ad z):=fun hm=>
 (List.nodup_cons.1 h.nodup).1(List.mem_filterMap.2⟨z,hz,mem_blk.1 hm⟩)
end
end Go.Proofs.YtkbcplnlehdjfaaGreat

namespace Go.Proofs.YtkbcplnlehdjfaaGreat
open Go.RowKit
attribute [local go_sem ↓] Go.wp_at_zero Go.wp_at_succ
end Go.Proofs.YtkbcplnlehdjfaaGreat

namespace Go.Proofs.YtkbcplnlehdjfaaGreat
open Go.RowKit
attribute [local go_sem ↓] Go.wp_at_zero Go.wp_at_succ
end Go.Proofs.YtkbcplnlehdjfaaGreat

namespace Go.Proofs.YtkbcplnlehdjfaaGreat
open Go.RowKit
attribute [local go_sem ↓] Go.wp_at_zero Go.wp_at_succ
end Go.Proofs.YtkbcplnlehdjfaaGreat

namespace Go.Proofs.YtkbcplnlehdjfaaGreat
open Go.RowKit
attribute [local go_sem ↓] Go.wp_at_zero Go.wp_at_succ
end Go.Proofs.YtkbcplnlehdjfaaGreat

namespace Go.Proofs.YtkbcplnlehdjfaaGreat
open Go.RowKit
attribute [local go_sem ↓] Go.wp_at_zero Go.wp_at_succ
end Go.Proofs.YtkbcplnlehdjfaaGreat

namespace Go.Proofs.YtkbcplnlehdjfaaGreat
open Go.RowKit
attribute [local go_sem ↓] Go.wp_at_zero Go.wp_at_succ
structure PartD.Came(w:World)(p:PartD):Prop where
 procs:procK.Came w p.procA p.procs
 sems:semK.Came w p.semA p.sems
 events:eventK.Came w p.eventA p.events
 boards:boardK.Came w p.boardA p.boards
 buffers:bufferK.Came w p.bufferA p.buffers
 ports:portK.Came w p.portA p.ports
theorem PartD.Came.below {w w':World} {p:PartD} (h:p.Came w)(hb:Below w.heap.size w w'):p.Came w':=⟨h.procs.below hb,h.sems.below hb,h.events.below hb,h.boards.below hb,h.buffers.below hb,h.ports.below hb⟩
structure ToP(w W:World)(p:PartD)(cur:Array Value):Prop where
 src:W.heap[w.heap.size]? =some(.cells p.cells 73(0,0))
 res:W.heap[w.heap.size+1]? =some(.cells zero8 32(0,0))
 var:W.heap[w.heap.size+1+1]? =some(.cells cur 32(0,0))
 bel:Below w.heap.size w W
theorem ToP.lt {w W:World} {p:PartD} {cur:Array Value} (h:ToP w W p cur):w.heap.size+1+1 < W.heap.size:=(Array.getElem?_eq_some_iff.1 h.var).1
theorem ToP.below {w W W':World} {p:PartD} {cur:Array Value} (h:ToP w W p cur)(hb:Below W.heap.size W W'):ToP w W' p cur:=by
 have:=h.lt
 exact⟨(hb.block _(by omega)).trans h.src,(hb.block _(by omega)).trans h.res,(hb.block _(by omega)).trans h.var,h.bel.trans(hb.mono h.bel.size)⟩
theorem ToP.set {w W:World} {p:PartD} {cur:Array Value} (h:ToP w W p cur)(i:Nat)(v:Value):ToP w(W.setCell⟨w.heap.size+1+1,i,none⟩v)p(cur.setIfInBounds i v):=
 ⟨(Below.heap_setCell W _ v _(by show ¬ w.heap.size=w.heap.size+1+1; omega)).trans h.src,(Below.heap_setCell W _ v _(by show ¬ w.heap.size+1=w.heap.size+1+1; omega)).trans h.res,heap_setCell_same W _ i cur _ v h.var,h.bel.setCell(by show w.heap.size≤w.heap.size+1+1; omega)v⟩
end Go.Proofs.YtkbcplnlehdjfaaGreat

namespace Go.Proofs.YtkbcplnlehdjfaaGreat
open Go.RowKit
section
variable {ops:Array Oper} {rest:List Oper} {o:Oper} {a:Act} {w:World} {Q:Exit→Act→World→Prop} {fn:Func} {R:Ending→World→Prop} {p u:Tmp} {old:Array Value}
theorem ldP(n g:Nat)(cs:Array Value)(hg:w.heap[g]? =some(.cells cs 32(0,0)))(h:wpList Tryz.prog ops Q rest(a.put o.dst(.agg cs))w)(hgd:o.guard=none:=by exact rfl)(ho:o.op= .load 32(.tmp n):=by exact rfl)
  (hx:a.eval(.tmp n)= .pointer(some⟨g,0,none⟩):=by rfl)(hi:(Tryz.prog.info? 32).map(·.size)=some cs.size:=by kernel_rfl):wpList Tryz.prog ops Q(o :: rest)a w:=
 wpList_load_row hgd 32(.tmp n)ho g hx 32 cs(0,0)_ hg Tryz.underlying32 rfl hi h
theorem stP(n m g:Nat)(cs:Array Value)(hg:w.heap[g]? =some(.cells old 32(0,0)))(h:wpList Tryz.prog ops Q rest(a.put o.dst undef)(w.setRow g cs))(hgd:o.guard=none:=by exact rfl)(ho:o.op= .store 32(.tmp n)(.tmp m):=by exact rfl)
  (hx:a.eval(.tmp n)= .pointer(some⟨g,0,none⟩):=by exact rfl)(hy:a.eval(.tmp m)= .agg cs:=by exact rfl)(hi:(Tryz.prog.info? 32).map(·.size)=some cs.size:=by kernel_rfl)(hs:old.size=cs.size:=by exact rfl)(h1:cs.all(·.oneCell')=true:=by kernel_rfl):wpList Tryz.prog ops Q(o :: rest)a w:=
 wpList_store_row hgd 32(.tmp n)(.tmp m)ho g _ old cs hx hy hg hi hs h1 h
theorem rtP(hr:fn.results= #[.cell p 32])(g:Nat)(cs:Array Value)(hg:w.heap[g]? =some(.cells old 32(0,0)))(h:R(.returned(.agg cs))(w.setRow g cs))(hp:a.tmps.getD p undef= .pointer(some⟨g,0,none⟩):=by exact rfl)(hd:a.defers= [] :=by exact rfl)
  (hi:(Tryz.prog.info? 32).map(·.size)=some cs.size:=by kernel_rfl):bodyPost Tryz.prog fn R .ret a(w.setRow g cs):=
 bodyPost_ret(v:= .agg cs)(results_cell_row hr _ _ g _ _(0,0)_ hp(setRow_heap _ _ _ _ _ _ hg)Tryz.underlying32 rfl hi)hd h
theorem rtQ(hr:fn.results= #[.cell p 32,.tmp u])(g:Nat)(cs:Array Value)(v:Value)(hg:w.heap[g]? =some(.cells old 32(0,0)))(h:R(.returned(.tuple #[.agg cs,v]))(w.setRow g cs))(hp:a.tmps.getD p undef= .pointer(some⟨g,0,none⟩):=by rfl)(hv:a.tmps.getD u undef=v:=by exact rfl)(hd:a.defers= [] :=by exact rfl)
  (hi:(Tryz.prog.info? 32).map(·.size)=some cs.size:=by kernel_rfl):bodyPost Tryz.prog fn R .ret a(w.setRow g cs):=
 bodyPost_ret(v:= .tuple #[.agg cs,v])(by rw [← hv]; exact results_row_tmp hr _ _ g _ _ _ _ hp(setRow_heap _ _ _ _ _ _ hg)Tryz.underlying32 rfl hi)hd h
end
end Go.Proofs.YtkbcplnlehdjfaaGreat

namespace Go.Proofs.YtkbcplnlehdjfaaGreat
open Go.RowKit
end Go.Proofs.YtkbcplnlehdjfaaGreat

namespace Go.Proofs.YtkbcplnlehdjfaaGreat
open Go.RowKit
attribute [local go_sem ↓] Go.wp_at_zero Go.wp_at_succ
end Go.Proofs.YtkbcplnlehdjfaaGreat

namespace Go.Proofs.YtkbcplnlehdjfaaGreat
open Go.RowKit
attribute [local go_sem ↓] Go.wp_at_zero Go.wp_at_succ
end Go.Proofs.YtkbcplnlehdjfaaGreat

namespace Go.Proofs.YtkbcplnlehdjfaaGreat
open Go.RowKit
attribute [local go_sem ↓] Go.wp_at_zero Go.wp_at_succ
end Go.Proofs.YtkbcplnlehdjfaaGreat

namespace Go.Proofs.YtkbcplnlehdjfaaGreat
open Go.RowKit
end Go.Proofs.YtkbcplnlehdjfaaGreat

namespace Go.Proofs.YtkbcplnlehdjfaaGreat
open Go.RowKit Go.Maps
end Go.Proofs.YtkbcplnlehdjfaaGreat

namespace Go.Proofs.YtkbcplnlehdjfaaGreat
open Go.RowKit Go.Maps
end Go.Proofs.YtkbcplnlehdjfaaGreat

namespace Go.Proofs.YtkbcplnlehdjfaaGreat
open Go.RowKit Go.Maps
end Go.Proofs.YtkbcplnlehdjfaaGreat

namespace Go.Proofs.YtkbcplnlehdjfaaGreat
open Go.RowKit Go.Maps
end Go.Proofs.YtkbcplnlehdjfaaGreat

namespace Go.Proofs.YtkbcplnlehdjfaaGreat
open Go.RowKit Go.Maps
end Go.Proofs.YtkbcplnlehdjfaaGreat

namespace Go.Proofs.YtkbcplnlehdjfaaGreat
open Go.RowKit Go.Maps
end Go.Proofs.YtkbcplnlehdjfaaGreat
