/- What the proof leans on, part 6. -/
import Derived.Test.YtkbcplnlehdjfaaGreatOwnP4
import Derived.Test.YtkbcplnlehdjfaaGreatOwnP5
import Derived.Maps.RangeWalk
set_option maxRecDepth 100000
set_option maxHeartbeats 8000000
open Go.DataW.lit renaming injEq->QZ
open Go.Proofs.Tryz renaming func287->RP,ntmps287->RQ,prog->J3,underlying2->KN
open Go.RowKit.Below renaming refl->Kp
open Go.World renaming size_alloc->RR
open List renaming find?_cons->LL,map_cons->Lt,mem_cons->Kt,mem_map->Lr,pairwise_cons->LM
open Nat renaming le_refl->Ki

namespace Go.Proofs.YtkbcplnlehdjfaaGreat
section
open Go.RowKit
def Cd (os:List dN) (i:Nat):Int:=(os[i]?.getD (0,0,0,⟨#[]⟩)).1
def Cg (os:List dN) (i:Nat):Int:=(os[i]?.getD (0,0,0,⟨#[]⟩)).2.1
def Ea (os:List dN) (i:Nat):Int:=(os[i]?.getD (0,0,0,⟨#[]⟩)).2.2.1
def Ce (os:List dN) (i:Nat):ByteArray:=(os[i]?.getD (0,0,0,⟨#[]⟩)).2.2.2
def y9 (w:World) (g:Nat) (os:List dN):Prop:=iG w g os.length (Cd os) (Cg os) (Ea os) (Ce os)
def xu (w:World) (a:Option Addr) (os:List dN):Prop:=0 < os.length→ ∃ g,a=some ⟨g,0,none⟩∧y9 w g os
theorem xu.below {w w':World} {a:Option Addr} {os:List dN} (h:xu w a os) (hb:Below w.heap.size w w'):xu w' a os:=fun hl=>by
 obtain ⟨g,rfl,hw⟩:=h hl;exact ⟨g,rfl,iG.below hw hb⟩
theorem xu.low {w w':World} {a:Option Addr} {base:Nat} {os:List dN} (h:xu w a os) (ha: ∀ q,a=some q→q.block < base) (hb:Below base w w'):xu w' a os:=fun hl=>by
 obtain ⟨g,rfl,hw⟩:=h hl;exact ⟨g,rfl,iG.of_block hw (hb.block g (ha _ rfl))⟩
end
section
open Go.RowKit Go.Maps
def od (v:Value):Option (DataW Unit × List MemPlace):=match v with
 | .pointer (some ⟨g,0,none⟩)=>some (.lit (.int .i64 g),[])
 | _=>none
def dt (g:Nat):Value:= .pointer (some ⟨g,0,none⟩)
def qz:Option Nat→Value
 | none=> .pointer none
 | some g=>dt g
theorem Ie (g:Nat):od (dt g)=some (.lit (.int .i64 g),[]):=rfl
theorem oI {v:Value} {z:DataW Unit × List MemPlace} (h:od v=some z): ∃ g:Nat,v=dt g∧z=(.lit (.int .i64 g),[]):=by
 unfold od at h
 split at h
 ·rename_i g
  cases h;exact ⟨g,rfl,rfl⟩
 ·cases h
abbrev df:=List (Int × Nat)
def nM (p:Int × Nat):Lit × DataW Unit:=(.int .i64 p.1,.lit (.int .i64 p.2))
def gA (m:df):DataW Unit:= .map (m.map nM)
def zP (m:df):Prop:=m.Pairwise (fun p q=>p.1 < q.1)
def cz (m:df) (k:Int):Option Nat:=(m.find? (fun p=>p.1 == k)).map (·.2)
def oK (p:Int × Nat):df→df
 | [] => [p]
 | y :: r=>if p.1 < y.1 then p :: y :: r else y :: oK p r
def cF (w:World) (b:Nat) (m:df):Prop:=w.ownsMap J3 2 od b m.length (gA m)∧zP m
theorem jb:Keyed J3 2:=int_keyed KN
theorem vX {k:Int} (hk:(Lit.int .i64 k).wf=true):keyOf J3 2 (.int .i64 k)=some (.int .i64 k):=keyOf_int_mk KN hk
theorem kH (a b:Int):(Lit.int .i64 a).sameKey (.int .i64 b)=(a == b):=by
 simp [Lit.sameKey];by_cases h:a=b <;> simp [h]
theorem GF (m:df) (k:Int):(m.map nM).find? (fun p=>p.1.sameKey (.int .i64 k))=(m.find? (fun p=>p.1 == k)).map nM:=by
 induction m with
 | nil=>rfl
 | cons p r ih=>
  simp only [Lt,LL];have e:(nM p).1.sameKey (.int .i64 k)=(p.1 == k):=kH _ _;rw [e];cases (p.1 == k)
  ·exact ih
  ·rfl
theorem pk (m:df) (k:Int) (z:DataW Unit):(gA m).atKey (.int .i64 k) z=match cz m k with | some g=> .lit (.int .i64 g) | none=>z:=by
 simp only [gA,DataW.atKey,GF];unfold cz;cases m.find? (fun p=>p.1 == k) <;> rfl
theorem size_map (m:df):Maps.size (gA m)=m.length:=by simp [Maps.size,gA]
section
variable {w w':World} {b:Nat} {m:df}
theorem cF.lt (h:cF w b m):b < w.heap.size:=h.1.lt
theorem cF.same (h:cF w b m) (hs:w'.heap[b]? =w.heap[b]?):cF w' b m:=by
 obtain ⟨⟨es,clock,hb,r⟩,h2⟩:=h;exact ⟨⟨es,clock,hs.trans hb,r⟩,h2⟩
theorem cF.below (h:cF w b m) (hb:Below w.heap.size w w'):cF w' b m:=h.same (hb.block b h.lt)
theorem cF.made (w:World):cF (w.alloc (.map #[] 0)) w.heap.size [] :=⟨World.ownsMap_made w J3 2 od,List.Pairwise.nil⟩
theorem cF.Hh (hb:w.heap[b]? =some (.map #[] 0)):cF w b [] :=⟨⟨#[],0,hb,⟨by simp,MapKept.stamped_empty 0,by simp⟩,by simp,rfl⟩,List.Pairwise.nil⟩
theorem cF.look (h:cF w b m) {t e:TypeId} (ht:Tryz.prog.underlying t=some (.map 2 e)) (hz:(zeroValue e).run J3 w= .ok (.pointer none) w) {k:Int} (hk:(Lit.int .i64 k).wf=true) (c:Bool):
  (Instr.lookup t (.map (some b)) (.int .i64 k) c).run J3 w= .ok (if c then .tuple #[qz (cz m k),.bool (cz m k).isSome] else qz (cz m k)) w:=by
 obtain ⟨⟨es,clock,hb,F,_,hD⟩,_⟩:=h;rcases Maps.fit_look c jb ht hz hb F (vX hk) with ⟨hrun,_,hat⟩ | ⟨e0,y,_,_,hrun,hRv,hat,_⟩
 ·have h1:=hat .nil
  rw [← hD,pk] at h1;have h2:=hat (.lit (.bool true));rw [← hD,pk] at h2;cases hl:cz m k with
  | none=>exact hrun
  | some g=>rw [hl] at h1; cases h1
 ·obtain ⟨g,hv,rfl⟩:=oI hRv
  have h1:=hat .nil;rw [← hD,pk] at h1;cases hl:cz m k with
  | none=>rw [hl] at h1; cases h1
  | some g'=>
   rw [hl] at h1;simp only [QZ,Lit.int.injEq,Int.natCast_inj,true_and] at h1;rw [hrun,hv,h1];cases c <;> rfl
theorem cF.len (h:cF w b m) {t e:TypeId} (ht:Tryz.prog.underlying t=some (.map 2 e)) (ty:TypeId):(Builtin.len_ #[t] ty #[.map (some b)]).run J3 w= .ok (.int .i64 (m.length:Int)) w:=by
 have:=h.1.len ht ty
 rwa [size_map] at this
theorem Bo (p:Int × Nat) (m:df):(oK p m).length=m.length+1:=by
 induction m with
 | nil=>rfl
 | cons y r ih=>
  unfold oK
  split
  ·rfl
  ·simp [ih]
theorem Gw {p q:Int × Nat} {m:df} :q∈oK p m↔q=p∨q∈m:=by
 induction m with
 | nil=>simp [oK]
 | cons y r ih=>
  unfold oK
  split
  ·simp
  ·simp only [Kt,ih]
   constructor
   ·rintro (h | h | h)
    ·exact .inr (.inl h)
    ·exact .inl h
    ·exact .inr (.inr h)
   ·rintro (h | h | h)
    ·exact .inr (.inl h)
    ·exact .inl h
    ·exact .inr (.inr h)
theorem DD {p:Int × Nat} {m:df} (h:zP m) (hn:cz m p.1=none):zP (oK p m):=by
 induction m with
 | nil=>exact List.pairwise_singleton _ _
 | cons y r ih=>
  obtain ⟨h1,h2⟩:=LM.1 h;have hy: ¬ y.1=p.1:=by
   intro e;simp [cz,e] at hn
  have hn':cz r p.1=none:=by
   unfold cz at hn ⊢;rw [LL] at hn
   have:(y.1 == p.1)=false:=by simp [hy]
   rw [this] at hn;exact hn
  unfold oK
  split
  ·rename_i hlt
   refine LM.2 ⟨fun q hq=> ?_,h⟩;rcases Kt.1 hq with rfl | hq
   ·exact hlt
   ·exact Int.lt_trans hlt (h1 q hq)
  ·rename_i hge
   refine LM.2 ⟨fun q hq=> ?_,ih h2 hn'⟩;rcases Gw.1 hq with rfl | hq
   ·omega
   ·exact h1 q hq
theorem It {m:df} {k:Int} {g:Nat} (hn:cz m k=none):(gA m).put (.int .i64 k) (.lit (.int .i64 g))=gA (oK (k,g) m):=by
 have hf:(m.map nM).filter (fun p=> !p.1.sameKey (.int .i64 k))=m.map nM:=by
  refine List.filter_eq_self.2 (fun p hp=> ?_);obtain ⟨q,hq,rfl⟩:=Lr.1 hp;have e:(nM q).1.sameKey (.int .i64 k)=(q.1 == k):=kH _ _;rw [e]
  have:m.find? (fun p=>p.1 == k)=none:=by simpa [cz] using hn
  have:=List.find?_eq_none.1 this q hq
  simpa using this
 show DataW.map (DataW.insert _ ((m.map nM).filter _))=_
 rw [hf]
 show DataW.map (DataW.insert (nM (k,g)) (m.map nM))= .map ((oK (k,g) m).map nM)
 congr 1
 induction m with
 | nil=>rfl
 | cons y r ih=>
  unfold oK;simp only [Lt,DataW.insert];have e:(nM (k,g)).1.before (nM y).1=decide (k < y.1):=rfl;rw [e];by_cases hlt:k < y.1
  ·simp [hlt]
  ·have hn':cz r k=none:=by
    unfold cz at hn ⊢;rw [LL] at hn
    split at hn
    ·cases hn
    ·exact hn
   have hf':(r.map nM).filter (fun p=> !p.1.sameKey (.int .i64 k))=r.map nM:=by
    simp only [Lt,List.filter_cons] at hf
    split at hf
    ·exact (List.cons.inj hf).2
    ·have:=congrArg List.length hf
     have h2:=List.length_filter_le (fun p:Lit × DataW Unit=> !p.1.sameKey (.int .i64 k)) (r.map nM);simp only [List.length_cons] at this;omega
   simp only [hlt,decide_false,Bool.false_eq_true,if_false];rw [ih hn' hf'];simp
theorem cF.put (h:cF w b m) {t e:TypeId} (ht:Tryz.prog.underlying t=some (.map 2 e)) {k:Int} (hk:(Lit.int .i64 k).wf=true) (g:Nat) (hn:cz m k=none) (hm:m.length≤1048576):
  ∃ w',(Instr.mapUpdate t (.map (some b)) (.int .i64 k) (dt g)).run J3 w= .ok () w'∧cF w' b (oK (k,g) m)∧w.mapTurned w' b:=by
 obtain ⟨w',hrun,ho,ht'⟩:=h.1.store jb ht (Nat.lt_of_le_of_lt hm (by decide)) (vX hk) (Ie g);refine ⟨w',hrun,⟨?_,DD h.2 hn⟩,ht'⟩;rw [It hn] at ho
 rwa [Bo]
end
theorem qA {m:df} {k:Int} :cz m k=none↔k∉m.map (·.1):=by
 unfold cz;rw [Option.map_eq_none_iff,List.find?_eq_none];constructor
 ·intro h hm
  obtain ⟨p,hp,e⟩:=Lr.1 hm;exact h p hp (by simp [e])
 ·intro h p hp e
  exact h (Lr.2 ⟨p,hp,by simpa using e⟩)
theorem ry (m:df) (k:Int):(cz m k).isSome=decide (k∈m.map (·.1)):=by
 by_cases h:k∈m.map (·.1)
 ·rw [decide_eq_true h]
  cases hl:cz m k with
  | none=>exact absurd h (qA.1 hl)
  | some g=>rfl
 ·rw [decide_eq_false h,qA.2 h]
  rfl
theorem jI {m:df} (hr:zP m) {p:Int × Nat} (hp:p∈m):cz m p.1=some p.2:=by
 induction m with
 | nil=>cases hp
 | cons y r ih=>
  obtain ⟨h1,h2⟩:=LM.1 hr;rcases Kt.1 hp with rfl | hp
  ·simp [cz]
  ·have:=h1 p hp
   have hne:(y.1 == p.1)=false:=by
    have: ¬ y.1=p.1:=by omega
    simp [this]
   have:=ih h2 hp
   unfold cz at this ⊢;rw [LL,hne];exact this
theorem yu {m:df} {k:Int} {g:Nat} (h:cz m k=some g):(k,g)∈m:=by
 unfold cz at h;obtain ⟨p,hp,e⟩:=Option.map_eq_some_iff.1 h;have h1:=List.mem_of_find?_eq_some hp;have h2:=List.find?_some hp;simp at h2;rw [← h2,← e];exact h1
end
section
open Go.RowKit
attribute [local go_sem ↓] Go.wp_at_zero Go.wp_at_succ
theorem cQ {w w1:World} {cs:Array Value} {t:TypeId} (h:Below (w.alloc (.cells cs t)).heap.size (w.alloc (.cells cs t)) w1) (i:Nat):w1.cell? ⟨w.heap.size,i,none⟩=cs[i]? :=
  (h.cell (p:=⟨w.heap.size,i,none⟩) (by simp)).trans (by simp)
theorem ev {B:Nat} {w w':World} (h:Below B w.drew w'):Below B w w':=⟨h.os,h.tape,h.output,h.size,h.block⟩
theorem bd {B:Nat} {w w':World} (h:Below B w w') (n:Nat):Below B w (w'.drewN n):=⟨h.os,h.tape,h.output,h.size,h.block⟩
theorem dQ {w w1 w2:World} {k n m:Int} {s:ByteArray} (HB:Hid (Below w.heap.size w w1)) (HS:Hid (w.heap.size < w1.heap.size)) (c0:w1.cell? ⟨w.heap.size,0,none⟩=some (.int .i64 k)) (c1:w1.cell? ⟨w.heap.size,1,none⟩=some (.int .i64 n)) (c2:w1.cell? ⟨w.heap.size,2,none⟩=some (.int .i64 m)) (c3:w1.cell? ⟨w.heap.size,3,none⟩=some (.string s)) (hb:Below w1.heap.size w1 w2):
    Hid (Below w.heap.size w w2)∧Hid (w.heap.size < w2.heap.size)∧w2.cell? ⟨w.heap.size,0,none⟩=some (.int .i64 k)∧w2.cell? ⟨w.heap.size,1,none⟩=some (.int .i64 n)∧w2.cell? ⟨w.heap.size,2,none⟩=some (.int .i64 m)∧w2.cell? ⟨w.heap.size,3,none⟩=some (.string s):=
  ⟨HB.I.trans (hb.mono (Nat.le_of_lt HS.I)),Nat.lt_of_lt_of_le HS.I hb.size,(hb.cell (p:=⟨w.heap.size,0,none⟩) HS.I).trans c0,(hb.cell (p:=⟨w.heap.size,1,none⟩) HS.I).trans c1,(hb.cell (p:=⟨w.heap.size,2,none⟩) HS.I).trans c2,(hb.cell (p:=⟨w.heap.size,3,none⟩) HS.I).trans c3⟩
theorem IF {k n m:Int} {s:ByteArray} (h:pJ k):mQ k n m s=(cv n 1 1000 && decide (m=0) && bI s):=by
  unfold pJ at h;unfold mQ;rw [if_pos h]
theorem Gv {k n m:Int} {s:ByteArray} (h:mF k):mQ k n m s=(cv n 1 1000 && cv m (-1) 1000 && bI s):=by
  unfold mF at h;unfold mQ;rw [if_neg (by omega),if_pos h]
theorem He {k n m:Int} {s:ByteArray} (h:k=8):mQ k n m s=(cv n 1 1000 && cv m (-1) 1000 && bw s):=by
  unfold mQ;rw [if_neg (by omega),if_neg (by omega),if_pos h]
theorem F1 {k n m:Int} {s:ByteArray} (h:isText k):mQ k n m s=(cv n 1 1000 && decide (m=0) && bw s):=by
  unfold isText at h;unfold mQ;rw [if_neg (by omega),if_neg (by omega),if_neg (by omega),if_pos h]
theorem Gm {k n m:Int} {s:ByteArray} (h:k=17):mQ k n m s=(decide (n=0) && decide (m=0) && bI s):=by
  unfold mQ;rw [if_neg (by omega),if_neg (by omega),if_neg (by omega),if_neg (by omega),if_pos h]
theorem Du (k n m:Int) (s:ByteArray) (w:World) (hk:pJ k):
    Calls J3 287 #[.agg #[.int .i64 k,.int .i64 n,.int .i64 m,.string s]] w fun e w'=>e= .returned (.bool (mQ k n m s))∧Below w.heap.size w w':=by
  have HO:Hid (mQ k n m s=(cv n 1 1000 && decide (m=0) && bI s)):=IF hk;have HK:Hid (pJ k):=hk;clear hk
  go_enter RP,RQ
  go_wp2_with fail;refine (DB k n m s _ HK.I).mono ?_;rintro e w1 ⟨rfl,hb1⟩;have c0:w1.cell? ⟨w.heap.size,0,none⟩=some (.int .i64 k):=cQ hb1 0;have c1:w1.cell? ⟨w.heap.size,1,none⟩=some (.int .i64 n):=cQ hb1 1;have c2:w1.cell? ⟨w.heap.size,2,none⟩=some (.int .i64 m):=cQ hb1 2;have c3:w1.cell? ⟨w.heap.size,3,none⟩=some (.string s):=cQ hb1 3;have fQ:Hid (Below w.heap.size w w1):=((Kp _ _).alloc (Ki _) _).trans (hb1.mono (by simp));have mH:Hid (w.heap.size < w1.heap.size):=by have:=hb1.size; simp only [RR] at this; exact this
  clear hb1;by_cases hm:m=0;rotate_left
  · have hm': ¬ 0=m:=fun h=>hm h.symm
    go_wp2_with fail
    first
      | (go_region_with
      ((first
        | (go_at_call 316
           refine (oJ _ _ _).mono ?_;rintro e w2 ⟨rfl,hb2⟩;obtain ⟨cy,mO,d0,d1,d2,d3⟩:=dQ fQ mH c0 c1 c2 c3 (ev hb2);clear hb2)
        | (go_at_call 291
           refine (mC _ _ _).mono ?_;rintro e w3 ⟨rfl,hb3⟩;obtain ⟨oh,-,f0,f1,f2,f3⟩:=dQ cy mO d0 d1 d2 d3 hb3;clear hb3))))
      | (exact absurd rfl (by assumption))
    all_goals go_wp2
    all_goals go_ret
    all_goals exact ⟨al (by rw [HO.I]; simp [hm]),cy.I⟩
  subst hm;by_cases hes:s.toList= []
  rotate_left
  · have hes': ¬ [] =s.toList:=fun h=>hes h.symm
    have hem:bI s=false:=by simp [bI,hes]
    go_wp2_with fail
    first
      | (go_region_with
      ((first
        | (go_at_call 316
           refine (oJ _ _ _).mono ?_;rintro e w2 ⟨rfl,hb2⟩;obtain ⟨cy,mO,d0,d1,d2,d3⟩:=dQ fQ mH c0 c1 c2 c3 (ev hb2);clear hb2)
        | (go_at_call 291
           refine (mC _ _ _).mono ?_;rintro e w3 ⟨rfl,hb3⟩;obtain ⟨oh,-,f0,f1,f2,f3⟩:=dQ cy mO d0 d1 d2 d3 hb3;clear hb3))))
      | (exact absurd rfl (by assumption))
    all_goals go_wp2
    all_goals go_ret
    all_goals exact ⟨al (by rw [HO.I]; simp [hem]),cy.I⟩
  have hem:bI s=true:=by simp [bI,hes]
  go_wp2_with fail
  first
    | (go_region_with
    ((first
      | (go_at_call 316
         refine (oJ _ _ _).mono ?_;rintro e w2 ⟨rfl,hb2⟩;obtain ⟨cy,mO,d0,d1,d2,d3⟩:=dQ fQ mH c0 c1 c2 c3 (ev hb2);clear hb2)
      | (go_at_call 291
         refine (mC _ _ _).mono ?_;rintro e w3 ⟨rfl,hb3⟩;obtain ⟨oh,-,f0,f1,f2,f3⟩:=dQ cy mO d0 d1 d2 d3 hb3;clear hb3))))
    | (exact absurd rfl (by assumption))
  all_goals go_wp2
  all_goals go_ret
  all_goals exact ⟨al (by rw [HO.I]; simp_all),oh.I⟩
theorem AB (k n m:Int) (s:ByteArray) (w:World) (hk:mF k):
    Calls J3 287 #[.agg #[.int .i64 k,.int .i64 n,.int .i64 m,.string s]] w fun e w'=>e= .returned (.bool (mQ k n m s))∧Below w.heap.size w w':=by
  have HO:Hid (mQ k n m s=(cv n 1 1000 && cv m (-1) 1000 && bI s)):=Gv hk;have HK:Hid (mF k):=hk;clear hk
  go_enter RP,RQ
  go_wp2_with fail;refine (AC k n m s _ HK.I).mono ?_;rintro e w1 ⟨rfl,hb1⟩;have c0:w1.cell? ⟨w.heap.size,0,none⟩=some (.int .i64 k):=cQ hb1 0;have c1:w1.cell? ⟨w.heap.size,1,none⟩=some (.int .i64 n):=cQ hb1 1;have c2:w1.cell? ⟨w.heap.size,2,none⟩=some (.int .i64 m):=cQ hb1 2;have c3:w1.cell? ⟨w.heap.size,3,none⟩=some (.string s):=cQ hb1 3;have fQ:Hid (Below w.heap.size w w1):=((Kp _ _).alloc (Ki _) _).trans (hb1.mono (by simp));have mH:Hid (w.heap.size < w1.heap.size):=by have:=hb1.size; simp only [RR] at this; exact this
  clear hb1;by_cases hes:s.toList= []
  rotate_left
  · have hes': ¬ [] =s.toList:=fun h=>hes h.symm
    have hem:bI s=false:=by simp [bI,hes]
    go_wp2_with fail
    first
      | (go_region_with
      ((first
        | (go_at_call 317
           refine (xk _ _ _ _).mono ?_;rintro e w2 ⟨rfl,hb2⟩;obtain ⟨cy,mO,d0,d1,d2,d3⟩:=dQ fQ mH c0 c1 c2 c3 (ev hb2);clear hb2)
        | (go_at_call 291
           refine (sH _ _ _ _).mono ?_;rintro e w3 ⟨rfl,hb3⟩;obtain ⟨oh,-,f0,f1,f2,f3⟩:=dQ cy mO d0 d1 d2 d3 hb3;clear hb3))))
      | (exact absurd rfl (by assumption))
    all_goals go_wp2
    all_goals go_ret
    all_goals exact ⟨al (by rw [HO.I]; simp [hem]),cy.I⟩
  have hem:bI s=true:=by simp [bI,hes]
  go_wp2_with fail
  first
    | (go_region_with
    ((first
      | (go_at_call 317
         refine (xk _ _ _ _).mono ?_;rintro e w2 ⟨rfl,hb2⟩;obtain ⟨cy,mO,d0,d1,d2,d3⟩:=dQ fQ mH c0 c1 c2 c3 (ev hb2);clear hb2)
      | (go_at_call 291
         refine (sH _ _ _ _).mono ?_;rintro e w3 ⟨rfl,hb3⟩;obtain ⟨oh,-,f0,f1,f2,f3⟩:=dQ cy mO d0 d1 d2 d3 hb3;clear hb3))))
    | (exact absurd rfl (by assumption))
  all_goals go_wp2
  all_goals go_ret
  all_goals exact ⟨al (by rw [HO.I]; simp_all),oh.I⟩
theorem BY (k n m:Int) (s:ByteArray) (w:World) (hs:s.size≤1048576) (hk:k=8):
    Calls J3 287 #[.agg #[.int .i64 k,.int .i64 n,.int .i64 m,.string s]] w fun e w'=>e= .returned (.bool (mQ k n m s))∧Below w.heap.size w w':=by
  have HO:Hid (mQ k n m s=(cv n 1 1000 && cv m (-1) 1000 && bw s)):=He hk;have HK:Hid (k=8):=hk;clear hk
  go_enter RP,RQ
  go_wp2_with fail;refine (AE k n m s _ HK.I).mono ?_;rintro e w1 ⟨rfl,hb1⟩;have c0:w1.cell? ⟨w.heap.size,0,none⟩=some (.int .i64 k):=cQ hb1 0;have c1:w1.cell? ⟨w.heap.size,1,none⟩=some (.int .i64 n):=cQ hb1 1;have c2:w1.cell? ⟨w.heap.size,2,none⟩=some (.int .i64 m):=cQ hb1 2;have c3:w1.cell? ⟨w.heap.size,3,none⟩=some (.string s):=cQ hb1 3;have fQ:Hid (Below w.heap.size w w1):=((Kp _ _).alloc (Ki _) _).trans (hb1.mono (by simp));have mH:Hid (w.heap.size < w1.heap.size):=by have:=hb1.size; simp only [RR] at this; exact this
  clear hb1;go_wp2_with fail
  first
    | (go_region_with
    ((first
      | (go_at_call 318
         refine (Fc _ _ _ _ _).mono ?_;rintro e w2 ⟨rfl,hb2⟩;obtain ⟨cy,mO,d0,d1,d2,d3⟩:=dQ fQ mH c0 c1 c2 c3 (ev hb2);clear hb2)
      | (go_at_call 291
         refine (Bc _ _ _ _ _ hs).mono ?_;rintro e w3 ⟨rfl,hb3⟩;obtain ⟨oh,-,f0,f1,f2,f3⟩:=dQ cy mO d0 d1 d2 d3 hb3;clear hb3))))
    | (exact absurd rfl (by assumption))
  all_goals go_wp2
  all_goals go_ret
  all_goals exact ⟨al (by rw [HO.I]),oh.I⟩
theorem BN (k n m:Int) (s:ByteArray) (w:World) (hs:s.size≤1048576) (hk:isText k):
    Calls J3 287 #[.agg #[.int .i64 k,.int .i64 n,.int .i64 m,.string s]] w fun e w'=>e= .returned (.bool (mQ k n m s))∧Below w.heap.size w w':=by
  have HO:Hid (mQ k n m s=(cv n 1 1000 && decide (m=0) && bw s)):=F1 hk;have HK:Hid (isText k):=hk;clear hk
  go_enter RP,RQ
  go_wp2_with fail;refine (BJ k n m s _ HK.I).mono ?_;rintro e w1 ⟨rfl,hb1⟩;have c0:w1.cell? ⟨w.heap.size,0,none⟩=some (.int .i64 k):=cQ hb1 0;have c1:w1.cell? ⟨w.heap.size,1,none⟩=some (.int .i64 n):=cQ hb1 1;have c2:w1.cell? ⟨w.heap.size,2,none⟩=some (.int .i64 m):=cQ hb1 2;have c3:w1.cell? ⟨w.heap.size,3,none⟩=some (.string s):=cQ hb1 3;have fQ:Hid (Below w.heap.size w w1):=((Kp _ _).alloc (Ki _) _).trans (hb1.mono (by simp));have mH:Hid (w.heap.size < w1.heap.size):=by have:=hb1.size; simp only [RR] at this; exact this
  clear hb1;by_cases hm:m=0;rotate_left
  · have hm': ¬ 0=m:=fun h=>hm h.symm
    go_wp2_with fail
    first
      | (go_region_with
      ((first
        | (go_at_call 319
           refine (xS _ _ _ _).mono ?_;rintro e w2 ⟨rfl,hb2⟩;obtain ⟨cy,mO,d0,d1,d2,d3⟩:=dQ fQ mH c0 c1 c2 c3 (ev hb2);clear hb2)
        | (go_at_call 291
           refine (sL _ _ _ _ hs).mono ?_;rintro e w3 ⟨rfl,hb3⟩;obtain ⟨oh,-,f0,f1,f2,f3⟩:=dQ cy mO d0 d1 d2 d3 hb3;clear hb3))))
      | (exact absurd rfl (by assumption))
    all_goals go_wp2
    all_goals go_ret
    all_goals exact ⟨al (by rw [HO.I]; simp [hm]),cy.I⟩
  subst hm;go_wp2_with fail
  first
    | (go_region_with
    ((first
      | (go_at_call 319
         refine (xS _ _ _ _).mono ?_;rintro e w2 ⟨rfl,hb2⟩;obtain ⟨cy,mO,d0,d1,d2,d3⟩:=dQ fQ mH c0 c1 c2 c3 (ev hb2);clear hb2)
      | (go_at_call 291
         refine (sL _ _ _ _ hs).mono ?_;rintro e w3 ⟨rfl,hb3⟩;obtain ⟨oh,-,f0,f1,f2,f3⟩:=dQ cy mO d0 d1 d2 d3 hb3;clear hb3))))
    | (exact absurd rfl (by assumption))
  all_goals go_wp2
  all_goals go_ret
  all_goals exact ⟨al (by rw [HO.I]; simp_all),oh.I⟩
theorem zY (k n m:Int) (s:ByteArray) (w:World) (hk:k=17):
    Calls J3 287 #[.agg #[.int .i64 k,.int .i64 n,.int .i64 m,.string s]] w fun e w'=>e= .returned (.bool (mQ k n m s))∧Below w.heap.size w w':=by
  have HO:Hid (mQ k n m s=(decide (n=0) && decide (m=0) && bI s)):=Gm hk;have HK:Hid (k=17):=hk;clear hk
  go_enter RP,RQ
  go_wp2_with fail;refine (Ag k n m s _ HK.I).mono ?_;rintro e w1 ⟨rfl,hb1⟩;have c0:w1.cell? ⟨w.heap.size,0,none⟩=some (.int .i64 k):=cQ hb1 0;have c1:w1.cell? ⟨w.heap.size,1,none⟩=some (.int .i64 n):=cQ hb1 1;have c2:w1.cell? ⟨w.heap.size,2,none⟩=some (.int .i64 m):=cQ hb1 2;have c3:w1.cell? ⟨w.heap.size,3,none⟩=some (.string s):=cQ hb1 3;have fQ:Hid (Below w.heap.size w w1):=((Kp _ _).alloc (Ki _) _).trans (hb1.mono (by simp));have mH:Hid (w.heap.size < w1.heap.size):=by have:=hb1.size; simp only [RR] at this; exact this
  clear hb1;by_cases hn:n=0;rotate_left
  · have hn': ¬ 0=n:=fun h=>hn h.symm
    go_wp2_with fail
    first
      | (go_region_with
      ((first
        | (go_at_call 320
           refine (pu _ _).mono ?_;rintro e w2 ⟨rfl,hb2⟩;obtain ⟨cy,mO,d0,d1,d2,d3⟩:=dQ fQ mH c0 c1 c2 c3 (ev hb2);clear hb2)
        | (go_at_call 291
           refine (my _ _).mono ?_;rintro e w3 ⟨rfl,hb3⟩;obtain ⟨oh,-,f0,f1,f2,f3⟩:=dQ cy mO d0 d1 d2 d3 hb3;clear hb3))))
      | (exact absurd rfl (by assumption))
    all_goals go_wp2
    all_goals go_ret
    all_goals exact ⟨al (by rw [HO.I]; simp [hn]),cy.I⟩
  subst hn;by_cases hm:m=0;rotate_left
  · have hm': ¬ 0=m:=fun h=>hm h.symm
    go_wp2_with fail
    first
      | (go_region_with
      ((first
        | (go_at_call 320
           refine (pu _ _).mono ?_;rintro e w2 ⟨rfl,hb2⟩;obtain ⟨cy,mO,d0,d1,d2,d3⟩:=dQ fQ mH c0 c1 c2 c3 (ev hb2);clear hb2)
        | (go_at_call 291
           refine (my _ _).mono ?_;rintro e w3 ⟨rfl,hb3⟩;obtain ⟨oh,-,f0,f1,f2,f3⟩:=dQ cy mO d0 d1 d2 d3 hb3;clear hb3))))
      | (exact absurd rfl (by assumption))
    all_goals go_wp2
    all_goals go_ret
    all_goals exact ⟨al (by rw [HO.I]; simp [hm]),cy.I⟩
  subst hm;by_cases hes:s.toList= []
  rotate_left
  · have hes': ¬ [] =s.toList:=fun h=>hes h.symm
    have hem:bI s=false:=by simp [bI,hes]
    go_wp2_with fail
    first
      | (go_region_with
      ((first
        | (go_at_call 320
           refine (pu _ _).mono ?_;rintro e w2 ⟨rfl,hb2⟩;obtain ⟨cy,mO,d0,d1,d2,d3⟩:=dQ fQ mH c0 c1 c2 c3 (ev hb2);clear hb2)
        | (go_at_call 291
           refine (my _ _).mono ?_;rintro e w3 ⟨rfl,hb3⟩;obtain ⟨oh,-,f0,f1,f2,f3⟩:=dQ cy mO d0 d1 d2 d3 hb3;clear hb3))))
      | (exact absurd rfl (by assumption))
    all_goals go_wp2
    all_goals go_ret
    all_goals exact ⟨al (by rw [HO.I]; simp [hem]),cy.I⟩
  have hem:bI s=true:=by simp [bI,hes]
  go_wp2_with fail
  first
    | (go_region_with
    ((first
      | (go_at_call 320
         refine (pu _ _).mono ?_;rintro e w2 ⟨rfl,hb2⟩;obtain ⟨cy,mO,d0,d1,d2,d3⟩:=dQ fQ mH c0 c1 c2 c3 (ev hb2);clear hb2)
      | (go_at_call 291
         refine (my _ _).mono ?_;rintro e w3 ⟨rfl,hb3⟩;obtain ⟨oh,-,f0,f1,f2,f3⟩:=dQ cy mO d0 d1 d2 d3 hb3;clear hb3))))
    | (exact absurd rfl (by assumption))
  all_goals go_wp2
  all_goals go_ret
  all_goals exact ⟨al (by rw [HO.I]; simp_all),oh.I⟩
theorem AY (k n m:Int) (s:ByteArray) (w:World) (hk: ¬ (1≤k∧k≤17)):
    Calls J3 287 #[.agg #[.int .i64 k,.int .i64 n,.int .i64 m,.string s]] w fun e w'=>e= .returned (.bool (mQ k n m s))∧Below w.heap.size w w':=by
  rw [Bd hk]
  go_enter RP,RQ
  go_wp2_with fail;refine (BR k n m s _ hk).mono ?_;rintro e w1 ⟨rfl,hb1⟩;have fQ:Hid (Below w.heap.size w w1):=((Kp _ _).alloc (Ki _) _).trans (hb1.mono (by simp));clear hb1;go_wp2_with fail
  go_quiet (fail)
  go_wp2;go_ret;exact ⟨rfl,bd fQ.I _⟩
theorem yx (k n m:Int) (s:ByteArray) (w:World) (hs:s.size≤1048576):
    Calls J3 287 #[.agg #[.int .i64 k,.int .i64 n,.int .i64 m,.string s]] w fun e w'=>e= .returned (.bool (mQ k n m s))∧Below w.heap.size w w':=by
  by_cases h0:1≤k∧k≤17
  · by_cases h1:pJ k
    · exact Du k n m s w h1
    by_cases h2:mF k
    · exact AB k n m s w h2
    by_cases h3:isText k
    · exact BN k n m s w hs h3
    by_cases h4:k=8
    · exact BY k n m s w hs h4
    exact zY k n m s w (by unfold pJ at h1; unfold mF at h2; unfold isText at h3; omega)
  · exact AY k n m s w h0
end
end Go.Proofs.YtkbcplnlehdjfaaGreat
