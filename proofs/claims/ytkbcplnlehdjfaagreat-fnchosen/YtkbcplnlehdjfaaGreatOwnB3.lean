/- What the proof leans on, part 3: PList, MapIs, OpOk. -/
import Derived.Test.YtkbcplnlehdjfaaGreatOwnB2
import Derived.Maps.OwnSet
import Derived.Maps.RangeWalk
import Derived.Deep.RegionWith
set_option maxRecDepth 100000
set_option maxHeartbeats 8000000

namespace Go.Proofs.YtkbcplnlehdjfaaGreat
open Go.RowKit
def Cd (os:List dN) (i:Nat):Int:=(os[i]?.getD (0,0,0,⟨#[]⟩)).1
def Cg (os:List dN) (i:Nat):Int:=(os[i]?.getD (0,0,0,⟨#[]⟩)).2.1
def DW (os:List dN) (i:Nat):Int:=(os[i]?.getD (0,0,0,⟨#[]⟩)).2.2.1
def Ce (os:List dN) (i:Nat):ByteArray:=(os[i]?.getD (0,0,0,⟨#[]⟩)).2.2.2
def yA (w:World) (g:Nat) (os:List dN):Prop:=iG w g os.length (Cd os) (Cg os) (DW os) (Ce os)
def xq (w:World) (a:Option Addr) (os:List dN):Prop:=0 < os.length→ ∃ g,a=some ⟨g,0,none⟩∧yA w g os
theorem xq.below {w w':World} {a:Option Addr} {os:List dN} (h:xq w a os) (hb:Below w.heap.size w w'):xq w' a os:=fun hl=>by
 obtain ⟨g,rfl,hw⟩:=h hl
 exact ⟨g,rfl,iG.below hw hb⟩
theorem xq.low {w w':World} {a:Option Addr} {base:Nat} {os:List dN} (h:xq w a os) (ha: ∀ q,a=some q→q.block < base) (hb:Below base w w'):xq w' a os:=fun hl=>by
 obtain ⟨g,rfl,hw⟩:=h hl
 exact ⟨g,rfl,iG.of_block hw (hb.block g (ha _ rfl))⟩
end Go.Proofs.YtkbcplnlehdjfaaGreat
namespace Go.Proofs.YtkbcplnlehdjfaaGreat
open Go.RowKit Go.Maps
def og (v:Value):Option (DataW Unit × List MemPlace):=match v with
 | .pointer (some ⟨g,0,none⟩)=>some (.lit (.int .i64 g),[])
 | _=>none
def dm (g:Nat):Value:= .pointer (some ⟨g,0,none⟩)
def qy:Option Nat→Value
 | none=> .pointer none
 | some g=>dm g
theorem Je (g:Nat):og (dm g)=some (.lit (.int .i64 g),[]):=rfl
theorem o9 {v:Value} {z:DataW Unit × List MemPlace} (h:og v=some z): ∃ g:Nat,v=dm g∧z=(.lit (.int .i64 g),[]):=by
 unfold og at h
 split at h
 ·rename_i g
  cases h
  exact ⟨g,rfl,rfl⟩
 ·cases h
abbrev df:=List (Int × Nat)
def nR (p:Int × Nat):Lit × DataW Unit:=(.int .i64 p.1,.lit (.int .i64 p.2))
def gu (m:df):DataW Unit:= .map (m.map nR)
def AN (m:df):Prop:=m.Pairwise (fun p q=>p.1 < q.1)
def cy (m:df) (k:Int):Option Nat:=(m.find? (fun p=>p.1 == k)).map (·.2)
def oH (p:Int × Nat):df→df
 | [] => [p]
 | y :: r=>if p.1 < y.1 then p :: y :: r else y :: oH p r
def cF (w:World) (b:Nat) (m:df):Prop:=w.ownsMap Tryz.prog 2 og b m.length (gu m)∧AN m
theorem i6:Keyed Tryz.prog 2:=int_keyed Tryz.underlying2
theorem vi {k:Int} (hk:(Lit.int .i64 k).wf=true):keyOf Tryz.prog 2 (.int .i64 k)=some (.int .i64 k):=keyOf_int_mk Tryz.underlying2 hk
theorem kC (a b:Int):(Lit.int .i64 a).sameKey (.int .i64 b)=(a == b):=by
 simp [Lit.sameKey]
 by_cases h:a=b <;> simp [h]
theorem Gz (m:df) (k:Int):(m.map nR).find? (fun p=>p.1.sameKey (.int .i64 k))=(m.find? (fun p=>p.1 == k)).map nR:=by
 induction m with
 | nil=>rfl
 | cons p r ih=>
  simp only [List.map_cons,List.find?_cons]
  have e:(nR p).1.sameKey (.int .i64 k)=(p.1 == k):=kC _ _
  rw [e]
  cases (p.1 == k)
  ·exact ih
  ·rfl
theorem pm (m:df) (k:Int) (z:DataW Unit):(gu m).atKey (.int .i64 k) z=match cy m k with | some g=> .lit (.int .i64 g) | none=>z:=by
 simp only [gu,DataW.atKey,Gz]
 unfold cy
 cases m.find? (fun p=>p.1 == k) <;> rfl
theorem size_map (m:df):Maps.size (gu m)=m.length:=by simp [Maps.size,gu]
section
variable {w w':World} {b:Nat} {m:df}
theorem cF.lt (h:cF w b m):b < w.heap.size:=h.1.lt
theorem cF.same (h:cF w b m) (hs:w'.heap[b]? =w.heap[b]?):cF w' b m:=by
 obtain ⟨⟨es,clock,hb,r⟩,h2⟩:=h
 exact ⟨⟨es,clock,hs.trans hb,r⟩,h2⟩
theorem cF.below (h:cF w b m) (hb:Below w.heap.size w w'):cF w' b m:=h.same (hb.block b h.lt)
theorem cF.made (w:World):cF (w.alloc (.map #[] 0)) w.heap.size [] :=⟨World.ownsMap_made w Tryz.prog 2 og,List.Pairwise.nil⟩
theorem cF.Hr (hb:w.heap[b]? =some (.map #[] 0)):cF w b [] :=⟨⟨#[],0,hb,⟨by simp,MapKept.stamped_empty 0,by simp⟩,by simp,rfl⟩,List.Pairwise.nil⟩
theorem cF.look (h:cF w b m) {t e:TypeId} (ht:Tryz.prog.underlying t=some (.map 2 e)) (hz:(zeroValue e).run Tryz.prog w= .ok (.pointer none) w) {k:Int} (hk:(Lit.int .i64 k).wf=true) (c:Bool):
  (Instr.lookup t (.map (some b)) (.int .i64 k) c).run Tryz.prog w= .ok (if c then .tuple #[qy (cy m k),.bool (cy m k).isSome] else qy (cy m k)) w:=by
 obtain ⟨⟨es,clock,hb,F,_,hD⟩,_⟩:=h
 rcases Maps.fit_look c i6 ht hz hb F (vi hk) with ⟨hrun,_,hat⟩ | ⟨e0,y,_,_,hrun,hRv,hat,_⟩
 ·have h1:=hat .nil
  rw [← hD,pm] at h1
  have h2:=hat (.lit (.bool true))
  rw [← hD,pm] at h2
  cases hl:cy m k with
  | none=>exact hrun
  | some g=>rw [hl] at h1; cases h1
 ·obtain ⟨g,hv,rfl⟩:=o9 hRv
  have h1:=hat .nil
  rw [← hD,pm] at h1
  cases hl:cy m k with
  | none=>rw [hl] at h1; cases h1
  | some g'=>
   rw [hl] at h1
   simp only [DataW.lit.injEq,Lit.int.injEq,Int.natCast_inj,true_and] at h1
   rw [hrun,hv,h1]
   cases c <;> rfl
theorem cF.len (h:cF w b m) {t e:TypeId} (ht:Tryz.prog.underlying t=some (.map 2 e)) (ty:TypeId):(Builtin.len_ #[t] ty #[.map (some b)]).run Tryz.prog w= .ok (.int .i64 (m.length:Int)) w:=by
 have:=h.1.len ht ty
 rwa [size_map] at this
theorem Ar (p:Int × Nat) (m:df):(oH p m).length=m.length+1:=by
 induction m with
 | nil=>rfl
 | cons y r ih=>
  unfold oH
  split
  ·rfl
  ·simp [ih]
theorem F6 {p q:Int × Nat} {m:df} :q∈oH p m↔q=p∨q∈m:=by
 induction m with
 | nil=>simp [oH]
 | cons y r ih=>
  unfold oH
  split
  ·simp
  ·simp only [List.mem_cons,ih]
   constructor
   ·rintro (h | h | h)
    ·exact .inr (.inl h)
    ·exact .inl h
    ·exact .inr (.inr h)
   ·rintro (h | h | h)
    ·exact .inr (.inl h)
    ·exact .inl h
    ·exact .inr (.inr h)
theorem C7 {p:Int × Nat} {m:df} (h:AN m) (hn:cy m p.1=none):AN (oH p m):=by
 induction m with
 | nil=>exact List.pairwise_singleton _ _
 | cons y r ih=>
  obtain ⟨h1,h2⟩:=List.pairwise_cons.1 h
  have hy: ¬ y.1=p.1:=by
   intro e
   simp [cy,e] at hn
  have hn':cy r p.1=none:=by
   unfold cy at hn ⊢
   rw [List.find?_cons] at hn
   have:(y.1 == p.1)=false:=by simp [hy]
   rw [this] at hn
   exact hn
  unfold oH
  split
  ·rename_i hlt
   refine List.pairwise_cons.2 ⟨fun q hq=> ?_,h⟩
   rcases List.mem_cons.1 hq with rfl | hq
   ·exact hlt
   ·exact Int.lt_trans hlt (h1 q hq)
  ·rename_i hge
   refine List.pairwise_cons.2 ⟨fun q hq=> ?_,ih h2 hn'⟩
   rcases F6.1 hq with rfl | hq
   ·omega
   ·exact h1 q hq
theorem IU {m:df} {k:Int} {g:Nat} (hn:cy m k=none):(gu m).put (.int .i64 k) (.lit (.int .i64 g))=gu (oH (k,g) m):=by
 have hf:(m.map nR).filter (fun p=> !p.1.sameKey (.int .i64 k))=m.map nR:=by
  refine List.filter_eq_self.2 (fun p hp=> ?_)
  obtain ⟨q,hq,rfl⟩:=List.mem_map.1 hp
  have e:(nR q).1.sameKey (.int .i64 k)=(q.1 == k):=kC _ _
  rw [e]
  have:m.find? (fun p=>p.1 == k)=none:=by simpa [cy] using hn
  have:=List.find?_eq_none.1 this q hq
  simpa using this
 show DataW.map (DataW.insert _ ((m.map nR).filter _))=_
 rw [hf]
 show DataW.map (DataW.insert (nR (k,g)) (m.map nR))= .map ((oH (k,g) m).map nR)
 congr 1
 induction m with
 | nil=>rfl
 | cons y r ih=>
  unfold oH
  simp only [List.map_cons,DataW.insert]
  have e:(nR (k,g)).1.before (nR y).1=decide (k < y.1):=rfl
  rw [e]
  by_cases hlt:k < y.1
  ·simp [hlt]
  ·have hn':cy r k=none:=by
    unfold cy at hn ⊢
    rw [List.find?_cons] at hn
    split at hn
    ·cases hn
    ·exact hn
   have hf':(r.map nR).filter (fun p=> !p.1.sameKey (.int .i64 k))=r.map nR:=by
    simp only [List.map_cons,List.filter_cons] at hf
    split at hf
    ·exact (List.cons.inj hf).2
    ·have:=congrArg List.length hf
     have h2:=List.length_filter_le (fun p:Lit × DataW Unit=> !p.1.sameKey (.int .i64 k)) (r.map nR)
     simp only [List.length_cons] at this
     omega
   simp only [hlt,decide_false,Bool.false_eq_true,if_false]
   rw [ih hn' hf']
   simp
theorem cF.put (h:cF w b m) {t e:TypeId} (ht:Tryz.prog.underlying t=some (.map 2 e)) {k:Int} (hk:(Lit.int .i64 k).wf=true) (g:Nat) (hn:cy m k=none) (hm:m.length≤1048576):
  ∃ w',(Instr.mapUpdate t (.map (some b)) (.int .i64 k) (dm g)).run Tryz.prog w= .ok () w'∧cF w' b (oH (k,g) m)∧w.mapTurned w' b:=by
 obtain ⟨w',hrun,ho,ht'⟩:=h.1.store i6 ht (Nat.lt_of_le_of_lt hm (by decide)) (vi hk) (Je g)
 refine ⟨w',hrun,⟨?_,C7 h.2 hn⟩,ht'⟩
 rw [IU hn] at ho
 rwa [Ar]
end
theorem qt {m:df} {k:Int} :cy m k=none↔k∉m.map (·.1):=by
 unfold cy
 rw [Option.map_eq_none_iff,List.find?_eq_none]
 constructor
 ·intro h hm
  obtain ⟨p,hp,e⟩:=List.mem_map.1 hm
  exact h p hp (by simp [e])
 ·intro h p hp e
  exact h (List.mem_map.2 ⟨p,hp,by simpa using e⟩)
theorem rF (m:df) (k:Int):(cy m k).isSome=decide (k∈m.map (·.1)):=by
 by_cases h:k∈m.map (·.1)
 ·rw [decide_eq_true h]
  cases hl:cy m k with
  | none=>exact absurd h (qt.1 hl)
  | some g=>rfl
 ·rw [decide_eq_false h,qt.2 h]
  rfl
theorem jC {m:df} (hr:AN m) {p:Int × Nat} (hp:p∈m):cy m p.1=some p.2:=by
 induction m with
 | nil=>cases hp
 | cons y r ih=>
  obtain ⟨h1,h2⟩:=List.pairwise_cons.1 hr
  rcases List.mem_cons.1 hp with rfl | hp
  ·simp [cy]
  ·have:=h1 p hp
   have hne:(y.1 == p.1)=false:=by
    have: ¬ y.1=p.1:=by omega
    simp [this]
   have:=ih h2 hp
   unfold cy at this ⊢
   rw [List.find?_cons,hne]
   exact this
theorem yq {m:df} {k:Int} {g:Nat} (h:cy m k=some g):(k,g)∈m:=by
 unfold cy at h
 obtain ⟨p,hp,e⟩:=Option.map_eq_some_iff.1 h
 have h1:=List.mem_of_find?_eq_some hp
 have h2:=List.find?_some hp
 simp at h2
 rw [← h2,← e]
 exact h1
end Go.Proofs.YtkbcplnlehdjfaaGreat
namespace Go.Proofs.YtkbcplnlehdjfaaGreat
open Go.RowKit
attribute [local go_sem ↓] Go.wp_at_zero Go.wp_at_succ
theorem cT {w w1:World} {cs:Array Value} {t:TypeId} (h:Below (w.alloc (.cells cs t)).heap.size (w.alloc (.cells cs t)) w1) (i:Nat):w1.cell? ⟨w.heap.size,i,none⟩=cs[i]? :=
  (h.cell (p:=⟨w.heap.size,i,none⟩) (by simp)).trans (by simp)
theorem ev {B:Nat} {w w':World} (h:Below B w.drew w'):Below B w w':=⟨h.os,h.tape,h.output,h.size,h.block⟩
theorem bd {B:Nat} {w w':World} (h:Below B w w') (n:Nat):Below B w (w'.drewN n):=⟨h.os,h.tape,h.output,h.size,h.block⟩
theorem dQ {w w1 w2:World} {k n m:Int} {s:ByteArray} (HB:Hid (Below w.heap.size w w1)) (HS:Hid (w.heap.size < w1.heap.size)) (c0:w1.cell? ⟨w.heap.size,0,none⟩=some (.int .i64 k)) (c1:w1.cell? ⟨w.heap.size,1,none⟩=some (.int .i64 n)) (c2:w1.cell? ⟨w.heap.size,2,none⟩=some (.int .i64 m)) (c3:w1.cell? ⟨w.heap.size,3,none⟩=some (.string s)) (hb:Below w1.heap.size w1 w2):
    Hid (Below w.heap.size w w2)∧Hid (w.heap.size < w2.heap.size)∧w2.cell? ⟨w.heap.size,0,none⟩=some (.int .i64 k)∧w2.cell? ⟨w.heap.size,1,none⟩=some (.int .i64 n)∧w2.cell? ⟨w.heap.size,2,none⟩=some (.int .i64 m)∧w2.cell? ⟨w.heap.size,3,none⟩=some (.string s):=
  ⟨HB.out.trans (hb.mono (Nat.le_of_lt HS.out)),Nat.lt_of_lt_of_le HS.out hb.size,(hb.cell (p:=⟨w.heap.size,0,none⟩) HS.out).trans c0,(hb.cell (p:=⟨w.heap.size,1,none⟩) HS.out).trans c1,(hb.cell (p:=⟨w.heap.size,2,none⟩) HS.out).trans c2,(hb.cell (p:=⟨w.heap.size,3,none⟩) HS.out).trans c3⟩
theorem I6 {k n m:Int} {s:ByteArray} (h:pO k):mQ k n m s=(cv n 1 1000 && decide (m=0) && bI s):=by
  unfold pO at h
  unfold mQ
  rw [if_pos h]
theorem GM {k n m:Int} {s:ByteArray} (h:mM k):mQ k n m s=(cv n 1 1000 && cv m (-1) 1000 && bI s):=by
  unfold mM at h
  unfold mQ
  rw [if_neg (by omega),if_pos h]
theorem Gh {k n m:Int} {s:ByteArray} (h:k=8):mQ k n m s=(cv n 1 1000 && cv m (-1) 1000 && bw s):=by
  unfold mQ
  rw [if_neg (by omega),if_neg (by omega),if_pos h]
theorem Hd {k n m:Int} {s:ByteArray} (h:isText k):mQ k n m s=(cv n 1 1000 && decide (m=0) && bw s):=by
  unfold isText at h
  unfold mQ
  rw [if_neg (by omega),if_neg (by omega),if_neg (by omega),if_pos h]
theorem GP {k n m:Int} {s:ByteArray} (h:k=17):mQ k n m s=(decide (n=0) && decide (m=0) && bI s):=by
  unfold mQ
  rw [if_neg (by omega),if_neg (by omega),if_neg (by omega),if_neg (by omega),if_pos h]
theorem Dy (k n m:Int) (s:ByteArray) (w:World) (hk:pO k):
    Calls Tryz.prog 287 #[.agg #[.int .i64 k,.int .i64 n,.int .i64 m,.string s]] w fun e w'=>e= .returned (.bool (mQ k n m s))∧Below w.heap.size w w':=by
  have HO:Hid (mQ k n m s=(cv n 1 1000 && decide (m=0) && bI s)):=I6 hk
  have HK:Hid (pO k):=hk
  clear hk
  go_enter Tryz.func287,Tryz.ntmps287
  go_wp2_with fail
  refine (Co k n m s _ HK.out).mono ?_
  rintro e w1 ⟨rfl,hb1⟩
  have c0:w1.cell? ⟨w.heap.size,0,none⟩=some (.int .i64 k):=cT hb1 0
  have c1:w1.cell? ⟨w.heap.size,1,none⟩=some (.int .i64 n):=cT hb1 1
  have c2:w1.cell? ⟨w.heap.size,2,none⟩=some (.int .i64 m):=cT hb1 2
  have c3:w1.cell? ⟨w.heap.size,3,none⟩=some (.string s):=cT hb1 3
  have fU:Hid (Below w.heap.size w w1):=((Below.refl _ _).alloc (Nat.le_refl _) _).trans (hb1.mono (by simp))
  have mB:Hid (w.heap.size < w1.heap.size):=by have:=hb1.size; simp only [World.size_alloc] at this; exact this
  clear hb1
  by_cases hm:m=0
  rotate_left
  · have hm': ¬ 0=m:=fun h=>hm h.symm
    go_wp2_with fail
    first
      | (go_region_with
      ((first
        | (go_at_call 316
           refine (oX _ _ _).mono ?_
           rintro e w2 ⟨rfl,hb2⟩
           obtain ⟨cz,mL,d0,d1,d2,d3⟩:=dQ fU mB c0 c1 c2 c3 (ev hb2)
           clear hb2)
        | (go_at_call 291
           refine (mN _ _ _).mono ?_
           rintro e w3 ⟨rfl,hb3⟩
           obtain ⟨oh,-,f0,f1,f2,f3⟩:=dQ cz mL d0 d1 d2 d3 hb3
           clear hb3))))
      | (exact absurd rfl (by assumption))
    all_goals go_wp2
    all_goals go_ret
    all_goals exact ⟨al (by rw [HO.out]; simp [hm]),cz.out⟩
  subst hm
  by_cases hes:s.toList= []
  rotate_left
  · have hes': ¬ [] =s.toList:=fun h=>hes h.symm
    have hem:bI s=false:=by simp [bI,hes]
    go_wp2_with fail
    first
      | (go_region_with
      ((first
        | (go_at_call 316
           refine (oX _ _ _).mono ?_
           rintro e w2 ⟨rfl,hb2⟩
           obtain ⟨cz,mL,d0,d1,d2,d3⟩:=dQ fU mB c0 c1 c2 c3 (ev hb2)
           clear hb2)
        | (go_at_call 291
           refine (mN _ _ _).mono ?_
           rintro e w3 ⟨rfl,hb3⟩
           obtain ⟨oh,-,f0,f1,f2,f3⟩:=dQ cz mL d0 d1 d2 d3 hb3
           clear hb3))))
      | (exact absurd rfl (by assumption))
    all_goals go_wp2
    all_goals go_ret
    all_goals exact ⟨al (by rw [HO.out]; simp [hem]),cz.out⟩
  have hem:bI s=true:=by simp [bI,hes]
  go_wp2_with fail
  first
    | (go_region_with
    ((first
      | (go_at_call 316
         refine (oX _ _ _).mono ?_
         rintro e w2 ⟨rfl,hb2⟩
         obtain ⟨cz,mL,d0,d1,d2,d3⟩:=dQ fU mB c0 c1 c2 c3 (ev hb2)
         clear hb2)
      | (go_at_call 291
         refine (mN _ _ _).mono ?_
         rintro e w3 ⟨rfl,hb3⟩
         obtain ⟨oh,-,f0,f1,f2,f3⟩:=dQ cz mL d0 d1 d2 d3 hb3
         clear hb3))))
    | (exact absurd rfl (by assumption))
  all_goals go_wp2
  all_goals go_ret
  all_goals exact ⟨al (by rw [HO.out]; simp_all),oh.out⟩
theorem AS (k n m:Int) (s:ByteArray) (w:World) (hk:mM k):
    Calls Tryz.prog 287 #[.agg #[.int .i64 k,.int .i64 n,.int .i64 m,.string s]] w fun e w'=>e= .returned (.bool (mQ k n m s))∧Below w.heap.size w w':=by
  have HO:Hid (mQ k n m s=(cv n 1 1000 && cv m (-1) 1000 && bI s)):=GM hk
  have HK:Hid (mM k):=hk
  clear hk
  go_enter Tryz.func287,Tryz.ntmps287
  go_wp2_with fail
  refine (BB k n m s _ HK.out).mono ?_
  rintro e w1 ⟨rfl,hb1⟩
  have c0:w1.cell? ⟨w.heap.size,0,none⟩=some (.int .i64 k):=cT hb1 0
  have c1:w1.cell? ⟨w.heap.size,1,none⟩=some (.int .i64 n):=cT hb1 1
  have c2:w1.cell? ⟨w.heap.size,2,none⟩=some (.int .i64 m):=cT hb1 2
  have c3:w1.cell? ⟨w.heap.size,3,none⟩=some (.string s):=cT hb1 3
  have fU:Hid (Below w.heap.size w w1):=((Below.refl _ _).alloc (Nat.le_refl _) _).trans (hb1.mono (by simp))
  have mB:Hid (w.heap.size < w1.heap.size):=by have:=hb1.size; simp only [World.size_alloc] at this; exact this
  clear hb1
  by_cases hes:s.toList= []
  rotate_left
  · have hes': ¬ [] =s.toList:=fun h=>hes h.symm
    have hem:bI s=false:=by simp [bI,hes]
    go_wp2_with fail
    first
      | (go_region_with
      ((first
        | (go_at_call 317
           refine (xu _ _ _ _).mono ?_
           rintro e w2 ⟨rfl,hb2⟩
           obtain ⟨cz,mL,d0,d1,d2,d3⟩:=dQ fU mB c0 c1 c2 c3 (ev hb2)
           clear hb2)
        | (go_at_call 291
           refine (sS _ _ _ _).mono ?_
           rintro e w3 ⟨rfl,hb3⟩
           obtain ⟨oh,-,f0,f1,f2,f3⟩:=dQ cz mL d0 d1 d2 d3 hb3
           clear hb3))))
      | (exact absurd rfl (by assumption))
    all_goals go_wp2
    all_goals go_ret
    all_goals exact ⟨al (by rw [HO.out]; simp [hem]),cz.out⟩
  have hem:bI s=true:=by simp [bI,hes]
  go_wp2_with fail
  first
    | (go_region_with
    ((first
      | (go_at_call 317
         refine (xu _ _ _ _).mono ?_
         rintro e w2 ⟨rfl,hb2⟩
         obtain ⟨cz,mL,d0,d1,d2,d3⟩:=dQ fU mB c0 c1 c2 c3 (ev hb2)
         clear hb2)
      | (go_at_call 291
         refine (sS _ _ _ _).mono ?_
         rintro e w3 ⟨rfl,hb3⟩
         obtain ⟨oh,-,f0,f1,f2,f3⟩:=dQ cz mL d0 d1 d2 d3 hb3
         clear hb3))))
    | (exact absurd rfl (by assumption))
  all_goals go_wp2
  all_goals go_ret
  all_goals exact ⟨al (by rw [HO.out]; simp_all),oh.out⟩
theorem z8 (k n m:Int) (s:ByteArray) (w:World) (hs:s.size≤1048576) (hk:k=8):
    Calls Tryz.prog 287 #[.agg #[.int .i64 k,.int .i64 n,.int .i64 m,.string s]] w fun e w'=>e= .returned (.bool (mQ k n m s))∧Below w.heap.size w w':=by
  have HO:Hid (mQ k n m s=(cv n 1 1000 && cv m (-1) 1000 && bw s)):=Gh hk
  have HK:Hid (k=8):=hk
  clear hk
  go_enter Tryz.func287,Tryz.ntmps287
  go_wp2_with fail
  refine (BG k n m s _ HK.out).mono ?_
  rintro e w1 ⟨rfl,hb1⟩
  have c0:w1.cell? ⟨w.heap.size,0,none⟩=some (.int .i64 k):=cT hb1 0
  have c1:w1.cell? ⟨w.heap.size,1,none⟩=some (.int .i64 n):=cT hb1 1
  have c2:w1.cell? ⟨w.heap.size,2,none⟩=some (.int .i64 m):=cT hb1 2
  have c3:w1.cell? ⟨w.heap.size,3,none⟩=some (.string s):=cT hb1 3
  have fU:Hid (Below w.heap.size w w1):=((Below.refl _ _).alloc (Nat.le_refl _) _).trans (hb1.mono (by simp))
  have mB:Hid (w.heap.size < w1.heap.size):=by have:=hb1.size; simp only [World.size_alloc] at this; exact this
  clear hb1
  go_wp2_with fail
  first
    | (go_region_with
    ((first
      | (go_at_call 318
         refine (Es _ _ _ _ _).mono ?_
         rintro e w2 ⟨rfl,hb2⟩
         obtain ⟨cz,mL,d0,d1,d2,d3⟩:=dQ fU mB c0 c1 c2 c3 (ev hb2)
         clear hb2)
      | (go_at_call 291
         refine (zP _ _ _ _ _ hs).mono ?_
         rintro e w3 ⟨rfl,hb3⟩
         obtain ⟨oh,-,f0,f1,f2,f3⟩:=dQ cz mL d0 d1 d2 d3 hb3
         clear hb3))))
    | (exact absurd rfl (by assumption))
  all_goals go_wp2
  all_goals go_ret
  all_goals exact ⟨al (by rw [HO.out]),oh.out⟩
theorem BH (k n m:Int) (s:ByteArray) (w:World) (hs:s.size≤1048576) (hk:isText k):
    Calls Tryz.prog 287 #[.agg #[.int .i64 k,.int .i64 n,.int .i64 m,.string s]] w fun e w'=>e= .returned (.bool (mQ k n m s))∧Below w.heap.size w w':=by
  have HO:Hid (mQ k n m s=(cv n 1 1000 && decide (m=0) && bw s)):=Hd hk
  have HK:Hid (isText k):=hk
  clear hk
  go_enter Tryz.func287,Tryz.ntmps287
  go_wp2_with fail
  refine (AR k n m s _ HK.out).mono ?_
  rintro e w1 ⟨rfl,hb1⟩
  have c0:w1.cell? ⟨w.heap.size,0,none⟩=some (.int .i64 k):=cT hb1 0
  have c1:w1.cell? ⟨w.heap.size,1,none⟩=some (.int .i64 n):=cT hb1 1
  have c2:w1.cell? ⟨w.heap.size,2,none⟩=some (.int .i64 m):=cT hb1 2
  have c3:w1.cell? ⟨w.heap.size,3,none⟩=some (.string s):=cT hb1 3
  have fU:Hid (Below w.heap.size w w1):=((Below.refl _ _).alloc (Nat.le_refl _) _).trans (hb1.mono (by simp))
  have mB:Hid (w.heap.size < w1.heap.size):=by have:=hb1.size; simp only [World.size_alloc] at this; exact this
  clear hb1
  by_cases hm:m=0
  rotate_left
  · have hm': ¬ 0=m:=fun h=>hm h.symm
    go_wp2_with fail
    first
      | (go_region_with
      ((first
        | (go_at_call 319
           refine (xD _ _ _ _).mono ?_
           rintro e w2 ⟨rfl,hb2⟩
           obtain ⟨cz,mL,d0,d1,d2,d3⟩:=dQ fU mB c0 c1 c2 c3 (ev hb2)
           clear hb2)
        | (go_at_call 291
           refine (ta _ _ _ _ hs).mono ?_
           rintro e w3 ⟨rfl,hb3⟩
           obtain ⟨oh,-,f0,f1,f2,f3⟩:=dQ cz mL d0 d1 d2 d3 hb3
           clear hb3))))
      | (exact absurd rfl (by assumption))
    all_goals go_wp2
    all_goals go_ret
    all_goals exact ⟨al (by rw [HO.out]; simp [hm]),cz.out⟩
  subst hm
  go_wp2_with fail
  first
    | (go_region_with
    ((first
      | (go_at_call 319
         refine (xD _ _ _ _).mono ?_
         rintro e w2 ⟨rfl,hb2⟩
         obtain ⟨cz,mL,d0,d1,d2,d3⟩:=dQ fU mB c0 c1 c2 c3 (ev hb2)
         clear hb2)
      | (go_at_call 291
         refine (ta _ _ _ _ hs).mono ?_
         rintro e w3 ⟨rfl,hb3⟩
         obtain ⟨oh,-,f0,f1,f2,f3⟩:=dQ cz mL d0 d1 d2 d3 hb3
         clear hb3))))
    | (exact absurd rfl (by assumption))
  all_goals go_wp2
  all_goals go_ret
  all_goals exact ⟨al (by rw [HO.out]; simp_all),oh.out⟩
theorem Bw (k n m:Int) (s:ByteArray) (w:World) (hk:k=17):
    Calls Tryz.prog 287 #[.agg #[.int .i64 k,.int .i64 n,.int .i64 m,.string s]] w fun e w'=>e= .returned (.bool (mQ k n m s))∧Below w.heap.size w w':=by
  have HO:Hid (mQ k n m s=(decide (n=0) && decide (m=0) && bI s)):=GP hk
  have HK:Hid (k=17):=hk
  clear hk
  go_enter Tryz.func287,Tryz.ntmps287
  go_wp2_with fail
  refine (A6 k n m s _ HK.out).mono ?_
  rintro e w1 ⟨rfl,hb1⟩
  have c0:w1.cell? ⟨w.heap.size,0,none⟩=some (.int .i64 k):=cT hb1 0
  have c1:w1.cell? ⟨w.heap.size,1,none⟩=some (.int .i64 n):=cT hb1 1
  have c2:w1.cell? ⟨w.heap.size,2,none⟩=some (.int .i64 m):=cT hb1 2
  have c3:w1.cell? ⟨w.heap.size,3,none⟩=some (.string s):=cT hb1 3
  have fU:Hid (Below w.heap.size w w1):=((Below.refl _ _).alloc (Nat.le_refl _) _).trans (hb1.mono (by simp))
  have mB:Hid (w.heap.size < w1.heap.size):=by have:=hb1.size; simp only [World.size_alloc] at this; exact this
  clear hb1
  by_cases hn:n=0
  rotate_left
  · have hn': ¬ 0=n:=fun h=>hn h.symm
    go_wp2_with fail
    first
      | (go_region_with
      ((first
        | (go_at_call 320
           refine (py _ _).mono ?_
           rintro e w2 ⟨rfl,hb2⟩
           obtain ⟨cz,mL,d0,d1,d2,d3⟩:=dQ fU mB c0 c1 c2 c3 (ev hb2)
           clear hb2)
        | (go_at_call 291
           refine (lY _ _).mono ?_
           rintro e w3 ⟨rfl,hb3⟩
           obtain ⟨oh,-,f0,f1,f2,f3⟩:=dQ cz mL d0 d1 d2 d3 hb3
           clear hb3))))
      | (exact absurd rfl (by assumption))
    all_goals go_wp2
    all_goals go_ret
    all_goals exact ⟨al (by rw [HO.out]; simp [hn]),cz.out⟩
  subst hn
  by_cases hm:m=0
  rotate_left
  · have hm': ¬ 0=m:=fun h=>hm h.symm
    go_wp2_with fail
    first
      | (go_region_with
      ((first
        | (go_at_call 320
           refine (py _ _).mono ?_
           rintro e w2 ⟨rfl,hb2⟩
           obtain ⟨cz,mL,d0,d1,d2,d3⟩:=dQ fU mB c0 c1 c2 c3 (ev hb2)
           clear hb2)
        | (go_at_call 291
           refine (lY _ _).mono ?_
           rintro e w3 ⟨rfl,hb3⟩
           obtain ⟨oh,-,f0,f1,f2,f3⟩:=dQ cz mL d0 d1 d2 d3 hb3
           clear hb3))))
      | (exact absurd rfl (by assumption))
    all_goals go_wp2
    all_goals go_ret
    all_goals exact ⟨al (by rw [HO.out]; simp [hm]),cz.out⟩
  subst hm
  by_cases hes:s.toList= []
  rotate_left
  · have hes': ¬ [] =s.toList:=fun h=>hes h.symm
    have hem:bI s=false:=by simp [bI,hes]
    go_wp2_with fail
    first
      | (go_region_with
      ((first
        | (go_at_call 320
           refine (py _ _).mono ?_
           rintro e w2 ⟨rfl,hb2⟩
           obtain ⟨cz,mL,d0,d1,d2,d3⟩:=dQ fU mB c0 c1 c2 c3 (ev hb2)
           clear hb2)
        | (go_at_call 291
           refine (lY _ _).mono ?_
           rintro e w3 ⟨rfl,hb3⟩
           obtain ⟨oh,-,f0,f1,f2,f3⟩:=dQ cz mL d0 d1 d2 d3 hb3
           clear hb3))))
      | (exact absurd rfl (by assumption))
    all_goals go_wp2
    all_goals go_ret
    all_goals exact ⟨al (by rw [HO.out]; simp [hem]),cz.out⟩
  have hem:bI s=true:=by simp [bI,hes]
  go_wp2_with fail
  first
    | (go_region_with
    ((first
      | (go_at_call 320
         refine (py _ _).mono ?_
         rintro e w2 ⟨rfl,hb2⟩
         obtain ⟨cz,mL,d0,d1,d2,d3⟩:=dQ fU mB c0 c1 c2 c3 (ev hb2)
         clear hb2)
      | (go_at_call 291
         refine (lY _ _).mono ?_
         rintro e w3 ⟨rfl,hb3⟩
         obtain ⟨oh,-,f0,f1,f2,f3⟩:=dQ cz mL d0 d1 d2 d3 hb3
         clear hb3))))
    | (exact absurd rfl (by assumption))
  all_goals go_wp2
  all_goals go_ret
  all_goals exact ⟨al (by rw [HO.out]; simp_all),oh.out⟩
theorem zW (k n m:Int) (s:ByteArray) (w:World) (hk: ¬ (1≤k∧k≤17)):
    Calls Tryz.prog 287 #[.agg #[.int .i64 k,.int .i64 n,.int .i64 m,.string s]] w fun e w'=>e= .returned (.bool (mQ k n m s))∧Below w.heap.size w w':=by
  rw [A5 hk]
  go_enter Tryz.func287,Tryz.ntmps287
  go_wp2_with fail
  refine (BR k n m s _ hk).mono ?_
  rintro e w1 ⟨rfl,hb1⟩
  have fU:Hid (Below w.heap.size w w1):=((Below.refl _ _).alloc (Nat.le_refl _) _).trans (hb1.mono (by simp))
  clear hb1
  go_wp2_with fail
  go_quiet (fail)
  go_wp2
  go_ret
  exact ⟨rfl,bd fU.out _⟩
theorem ye (k n m:Int) (s:ByteArray) (w:World) (hs:s.size≤1048576):
    Calls Tryz.prog 287 #[.agg #[.int .i64 k,.int .i64 n,.int .i64 m,.string s]] w fun e w'=>e= .returned (.bool (mQ k n m s))∧Below w.heap.size w w':=by
  by_cases h0:1≤k∧k≤17
  · by_cases h1:pO k
    · exact Dy k n m s w h1
    by_cases h2:mM k
    · exact AS k n m s w h2
    by_cases h3:isText k
    · exact BH k n m s w hs h3
    by_cases h4:k=8
    · exact z8 k n m s w hs h4
    exact Bw k n m s w (by unfold pO at h1; unfold mM at h2; unfold isText at h3; omega)
  · exact zW k n m s w h0
end Go.Proofs.YtkbcplnlehdjfaaGreat
