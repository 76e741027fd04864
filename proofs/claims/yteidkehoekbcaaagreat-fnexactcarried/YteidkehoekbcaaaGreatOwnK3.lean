/- What the proof leans on, part 3. -/
import Derived.Test.YteidkehoekbcaaaGreatOwnK2
import Derived.Maps.RangeWalk
set_option maxRecDepth 100000
set_option maxHeartbeats 8000000
open Go.DataW.lit renaming injEq->QZ
open Go.Proofs.Tryz renaming prog->J3,underlying2->KN
open Go.RowKit.Below renaming refl->Kp
open Go.World renaming size_alloc->RR
open List renaming find?_cons->LL,length_cons->Lg,map_cons->Lt,mem_cons->Kt,mem_map->Lr,pairwise_cons->LM
open Nat renaming le_refl->Ki,zero_le->Ky

namespace Go.Proofs.YteidkehoekbcaaaGreat
section
open Go.RowKit Go.Maps
def od (v:Value):Option (DataW Unit × List MemPlace):=match v with
 | .pointer (some ⟨g,0,none⟩)=>some (.lit (.int .i64 g),[])
 | _=>none
def dt (g:Nat):Value:= .pointer (some ⟨g,0,none⟩)
def qz:Option Nat→Value
 | none=> .pointer none
 | some g=>dt g
theorem Ie (g:Nat):od (dt g)=some (.lit (.int .i64 g),[]):=rfl
theorem oI {v:Value} {z:DataW Unit × List MemPlace} (h:od v=some z): ∃ g:Nat,v=dt g∧z=(.lit (.int .i64 g),[]):=by
 unfold od at h
 split at h
 ·rename_i g
  cases h;exact ⟨g,rfl,rfl⟩
 ·cases h
abbrev df:=List (Int × Nat)
def nM (p:Int × Nat):Lit × DataW Unit:=(.int .i64 p.1,.lit (.int .i64 p.2))
def gA (m:df):DataW Unit:= .map (m.map nM)
def zP (m:df):Prop:=m.Pairwise (fun p q=>p.1 < q.1)
def cz (m:df) (k:Int):Option Nat:=(m.find? (fun p=>p.1 == k)).map (·.2)
def oK (p:Int × Nat):df→df
 | [] => [p]
 | y :: r=>if p.1 < y.1 then p :: y :: r else y :: oK p r
def cF (w:World) (b:Nat) (m:df):Prop:=w.ownsMap J3 2 od b m.length (gA m)∧zP m
theorem jb:Keyed J3 2:=int_keyed KN
theorem vX {k:Int} (hk:(Lit.int .i64 k).wf=true):keyOf J3 2 (.int .i64 k)=some (.int .i64 k):=keyOf_int_mk KN hk
theorem kH (a b:Int):(Lit.int .i64 a).sameKey (.int .i64 b)=(a == b):=by
 simp [Lit.sameKey];by_cases h:a=b <;> simp [h]
theorem GF (m:df) (k:Int):(m.map nM).find? (fun p=>p.1.sameKey (.int .i64 k))=(m.find? (fun p=>p.1 == k)).map nM:=by
 induction m with
 | nil=>rfl
 | cons p r ih=>
  simp only [Lt,LL];have e:(nM p).1.sameKey (.int .i64 k)=(p.1 == k):=kH _ _;rw [e];cases (p.1 == k)
  ·exact ih
  ·rfl
theorem pk (m:df) (k:Int) (z:DataW Unit):(gA m).atKey (.int .i64 k) z=match cz m k with | some g=> .lit (.int .i64 g) | none=>z:=by
 simp only [gA,DataW.atKey,GF];unfold cz;cases m.find? (fun p=>p.1 == k) <;> rfl
theorem size_map (m:df):Maps.size (gA m)=m.length:=by simp [Maps.size,gA]
section
variable {w w':World} {b:Nat} {m:df}
theorem cF.lt (h:cF w b m):b < w.heap.size:=h.1.lt
theorem cF.same (h:cF w b m) (hs:w'.heap[b]? =w.heap[b]?):cF w' b m:=by
 obtain ⟨⟨es,clock,hb,r⟩,h2⟩:=h;exact ⟨⟨es,clock,hs.trans hb,r⟩,h2⟩
theorem cF.below (h:cF w b m) (hb:Below w.heap.size w w'):cF w' b m:=h.same (hb.block b h.lt)
theorem cF.made (w:World):cF (w.alloc (.map #[] 0)) w.heap.size [] :=⟨World.ownsMap_made w J3 2 od,List.Pairwise.nil⟩
theorem cF.Hh (hb:w.heap[b]? =some (.map #[] 0)):cF w b [] :=⟨⟨#[],0,hb,⟨by simp,MapKept.stamped_empty 0,by simp⟩,by simp,rfl⟩,List.Pairwise.nil⟩
theorem cF.look (h:cF w b m) {t e:TypeId} (ht:Tryz.prog.underlying t=some (.map 2 e)) (hz:(zeroValue e).run J3 w= .ok (.pointer none) w) {k:Int} (hk:(Lit.int .i64 k).wf=true) (c:Bool):
  (Instr.lookup t (.map (some b)) (.int .i64 k) c).run J3 w= .ok (if c then .tuple #[qz (cz m k),.bool (cz m k).isSome] else qz (cz m k)) w:=by
 obtain ⟨⟨es,clock,hb,F,_,hD⟩,_⟩:=h;rcases Maps.fit_look c jb ht hz hb F (vX hk) with ⟨hrun,_,hat⟩ | ⟨e0,y,_,_,hrun,hRv,hat,_⟩
 ·have h1:=hat .nil
  rw [← hD,pk] at h1;have h2:=hat (.lit (.bool true));rw [← hD,pk] at h2;cases hl:cz m k with
  | none=>exact hrun
  | some g=>rw [hl] at h1; cases h1
 ·obtain ⟨g,hv,rfl⟩:=oI hRv
  have h1:=hat .nil;rw [← hD,pk] at h1;cases hl:cz m k with
  | none=>rw [hl] at h1; cases h1
  | some g'=>
   rw [hl] at h1;simp only [QZ,Lit.int.injEq,Int.natCast_inj,true_and] at h1;rw [hrun,hv,h1];cases c <;> rfl
theorem cF.len (h:cF w b m) {t e:TypeId} (ht:Tryz.prog.underlying t=some (.map 2 e)) (ty:TypeId):(Builtin.len_ #[t] ty #[.map (some b)]).run J3 w= .ok (.int .i64 (m.length:Int)) w:=by
 have:=h.1.len ht ty
 rwa [size_map] at this
theorem Bo (p:Int × Nat) (m:df):(oK p m).length=m.length+1:=by
 induction m with
 | nil=>rfl
 | cons y r ih=>
  unfold oK
  split
  ·rfl
  ·simp [ih]
theorem Gw {p q:Int × Nat} {m:df} :q∈oK p m↔q=p∨q∈m:=by
 induction m with
 | nil=>simp [oK]
 | cons y r ih=>
  unfold oK
  split
  ·simp
  ·simp only [Kt,ih]
   constructor
   ·rintro (h | h | h)
    ·exact .inr (.inl h)
    ·exact .inl h
    ·exact .inr (.inr h)
   ·rintro (h | h | h)
    ·exact .inr (.inl h)
    ·exact .inl h
    ·exact .inr (.inr h)
theorem Uz {p:Int × Nat} {m:df} (h: ∀ q∈m,q.1 < p.1):oK p m=m ++ [p] :=by
 induction m with
 | nil=>rfl
 | cons y r ih=>
  have:=h y (by simp)
  unfold oK;rw [if_neg (by omega),ih (fun q hq=>h q (by simp [hq]))];rfl
theorem DD {p:Int × Nat} {m:df} (h:zP m) (hn:cz m p.1=none):zP (oK p m):=by
 induction m with
 | nil=>exact List.pairwise_singleton _ _
 | cons y r ih=>
  obtain ⟨h1,h2⟩:=LM.1 h;have hy: ¬ y.1=p.1:=by
   intro e;simp [cz,e] at hn
  have hn':cz r p.1=none:=by
   unfold cz at hn ⊢;rw [LL] at hn
   have:(y.1 == p.1)=false:=by simp [hy]
   rw [this] at hn;exact hn
  unfold oK
  split
  ·rename_i hlt
   refine LM.2 ⟨fun q hq=> ?_,h⟩;rcases Kt.1 hq with rfl | hq
   ·exact hlt
   ·exact Int.lt_trans hlt (h1 q hq)
  ·rename_i hge
   refine LM.2 ⟨fun q hq=> ?_,ih h2 hn'⟩;rcases Gw.1 hq with rfl | hq
   ·omega
   ·exact h1 q hq
theorem It {m:df} {k:Int} {g:Nat} (hn:cz m k=none):(gA m).put (.int .i64 k) (.lit (.int .i64 g))=gA (oK (k,g) m):=by
 have hf:(m.map nM).filter (fun p=> !p.1.sameKey (.int .i64 k))=m.map nM:=by
  refine List.filter_eq_self.2 (fun p hp=> ?_);obtain ⟨q,hq,rfl⟩:=Lr.1 hp;have e:(nM q).1.sameKey (.int .i64 k)=(q.1 == k):=kH _ _;rw [e]
  have:m.find? (fun p=>p.1 == k)=none:=by simpa [cz] using hn
  have:=List.find?_eq_none.1 this q hq
  simpa using this
 show DataW.map (DataW.insert _ ((m.map nM).filter _))=_
 rw [hf]
 show DataW.map (DataW.insert (nM (k,g)) (m.map nM))= .map ((oK (k,g) m).map nM)
 congr 1
 induction m with
 | nil=>rfl
 | cons y r ih=>
  unfold oK;simp only [Lt,DataW.insert];have e:(nM (k,g)).1.before (nM y).1=decide (k < y.1):=rfl;rw [e];by_cases hlt:k < y.1
  ·simp [hlt]
  ·have hn':cz r k=none:=by
    unfold cz at hn ⊢;rw [LL] at hn
    split at hn
    ·cases hn
    ·exact hn
   have hf':(r.map nM).filter (fun p=> !p.1.sameKey (.int .i64 k))=r.map nM:=by
    simp only [Lt,List.filter_cons] at hf
    split at hf
    ·exact (List.cons.inj hf).2
    ·have:=congrArg List.length hf
     have h2:=List.length_filter_le (fun p:Lit × DataW Unit=> !p.1.sameKey (.int .i64 k)) (r.map nM);simp only [Lg] at this;omega
   simp only [hlt,decide_false,Bool.false_eq_true,if_false];rw [ih hn' hf'];simp
theorem cF.put (h:cF w b m) {t e:TypeId} (ht:Tryz.prog.underlying t=some (.map 2 e)) {k:Int} (hk:(Lit.int .i64 k).wf=true) (g:Nat) (hn:cz m k=none) (hm:m.length≤1048576):
  ∃ w',(Instr.mapUpdate t (.map (some b)) (.int .i64 k) (dt g)).run J3 w= .ok () w'∧cF w' b (oK (k,g) m)∧w.mapTurned w' b:=by
 obtain ⟨w',hrun,ho,ht'⟩:=h.1.store jb ht (Nat.lt_of_le_of_lt hm (by decide)) (vX hk) (Ie g);refine ⟨w',hrun,⟨?_,DD h.2 hn⟩,ht'⟩;rw [It hn] at ho
 rwa [Bo]
end
theorem qA {m:df} {k:Int} :cz m k=none↔k∉m.map (·.1):=by
 unfold cz;rw [Option.map_eq_none_iff,List.find?_eq_none];constructor
 ·intro h hm
  obtain ⟨p,hp,e⟩:=Lr.1 hm;exact h p hp (by simp [e])
 ·intro h p hp e
  exact h (Lr.2 ⟨p,hp,by simpa using e⟩)
theorem ry (m:df) (k:Int):(cz m k).isSome=decide (k∈m.map (·.1)):=by
 by_cases h:k∈m.map (·.1)
 ·rw [decide_eq_true h]
  cases hl:cz m k with
  | none=>exact absurd h (qA.1 hl)
  | some g=>rfl
 ·rw [decide_eq_false h,qA.2 h]
  rfl
theorem jI {m:df} (hr:zP m) {p:Int × Nat} (hp:p∈m):cz m p.1=some p.2:=by
 induction m with
 | nil=>cases hp
 | cons y r ih=>
  obtain ⟨h1,h2⟩:=LM.1 hr;rcases Kt.1 hp with rfl | hp
  ·simp [cz]
  ·have:=h1 p hp
   have hne:(y.1 == p.1)=false:=by
    have: ¬ y.1=p.1:=by omega
    simp [this]
   have:=ih h2 hp
   unfold cz at this ⊢;rw [LL,hne];exact this
theorem yu {m:df} {k:Int} {g:Nat} (h:cz m k=some g):(k,g)∈m:=by
 unfold cz at h;obtain ⟨p,hp,e⟩:=Option.map_eq_some_iff.1 h;have h1:=List.mem_of_find?_eq_some hp;have h2:=List.find?_some hp;simp at h2;rw [← h2,← e];exact h1
end
section
open Go.RowKit
def Cd (os:List dN) (i:Nat):Int:=(os[i]?.getD (0,0,0,⟨#[]⟩)).1
def Cg (os:List dN) (i:Nat):Int:=(os[i]?.getD (0,0,0,⟨#[]⟩)).2.1
def Ea (os:List dN) (i:Nat):Int:=(os[i]?.getD (0,0,0,⟨#[]⟩)).2.2.1
def Ce (os:List dN) (i:Nat):ByteArray:=(os[i]?.getD (0,0,0,⟨#[]⟩)).2.2.2
def y9 (w:World) (g:Nat) (os:List dN):Prop:=iG w g os.length (Cd os) (Cg os) (Ea os) (Ce os)
def xu (w:World) (a:Option Addr) (os:List dN):Prop:=0 < os.length→ ∃ g,a=some ⟨g,0,none⟩∧y9 w g os
theorem xu.below {w w':World} {a:Option Addr} {os:List dN} (h:xu w a os) (hb:Below w.heap.size w w'):xu w' a os:=fun hl=>by
 obtain ⟨g,rfl,hw⟩:=h hl;exact ⟨g,rfl,iG.below hw hb⟩
theorem xu.low {w w':World} {a:Option Addr} {base:Nat} {os:List dN} (h:xu w a os) (ha: ∀ q,a=some q→q.block < base) (hb:Below base w w'):xu w' a os:=fun hl=>by
 obtain ⟨g,rfl,hw⟩:=h hl;exact ⟨g,rfl,iG.of_block hw (hb.block g (ha _ rfl))⟩
end
section
open Go.RowKit
attribute [local go_sem ↓] Go.wp_at_zero Go.wp_at_succ
theorem cQ {w w1:World} {cs:Array Value} {t:TypeId} (h:Below (w.alloc (.cells cs t)).heap.size (w.alloc (.cells cs t)) w1) (i:Nat):w1.cell? ⟨w.heap.size,i,none⟩=cs[i]? :=
  (h.cell (p:=⟨w.heap.size,i,none⟩) (by simp)).trans (by simp)
theorem ev {B:Nat} {w w':World} (h:Below B w.drew w'):Below B w w':=⟨h.os,h.tape,h.output,h.size,h.block⟩
theorem bd {B:Nat} {w w':World} (h:Below B w w') (n:Nat):Below B w (w'.drewN n):=⟨h.os,h.tape,h.output,h.size,h.block⟩
theorem dQ {w w1 w2:World} {k n m:Int} {s:ByteArray} (HB:Hid (Below w.heap.size w w1)) (HS:Hid (w.heap.size < w1.heap.size)) (c0:w1.cell? ⟨w.heap.size,0,none⟩=some (.int .i64 k)) (c1:w1.cell? ⟨w.heap.size,1,none⟩=some (.int .i64 n)) (c2:w1.cell? ⟨w.heap.size,2,none⟩=some (.int .i64 m)) (c3:w1.cell? ⟨w.heap.size,3,none⟩=some (.string s)) (hb:Below w1.heap.size w1 w2):
    Hid (Below w.heap.size w w2)∧Hid (w.heap.size < w2.heap.size)∧w2.cell? ⟨w.heap.size,0,none⟩=some (.int .i64 k)∧w2.cell? ⟨w.heap.size,1,none⟩=some (.int .i64 n)∧w2.cell? ⟨w.heap.size,2,none⟩=some (.int .i64 m)∧w2.cell? ⟨w.heap.size,3,none⟩=some (.string s):=
  ⟨HB.I.trans (hb.mono (Nat.le_of_lt HS.I)),Nat.lt_of_lt_of_le HS.I hb.size,(hb.cell (p:=⟨w.heap.size,0,none⟩) HS.I).trans c0,(hb.cell (p:=⟨w.heap.size,1,none⟩) HS.I).trans c1,(hb.cell (p:=⟨w.heap.size,2,none⟩) HS.I).trans c2,(hb.cell (p:=⟨w.heap.size,3,none⟩) HS.I).trans c3⟩
theorem IF {k n m:Int} {s:ByteArray} (h:pJ k):mQ k n m s=(cv n 1 1000 && decide (m=0) && bI s):=by
  unfold pJ at h;unfold mQ;rw [if_pos h]
theorem Gv {k n m:Int} {s:ByteArray} (h:mF k):mQ k n m s=(cv n 1 1000 && cv m (-1) 1000 && bI s):=by
  unfold mF at h;unfold mQ;rw [if_neg (by omega),if_pos h]
theorem He {k n m:Int} {s:ByteArray} (h:k=8):mQ k n m s=(cv n 1 1000 && cv m (-1) 1000 && bw s):=by
  unfold mQ;rw [if_neg (by omega),if_neg (by omega),if_pos h]
theorem F1 {k n m:Int} {s:ByteArray} (h:isText k):mQ k n m s=(cv n 1 1000 && decide (m=0) && bw s):=by
  unfold isText at h;unfold mQ;rw [if_neg (by omega),if_neg (by omega),if_neg (by omega),if_pos h]
theorem Gm {k n m:Int} {s:ByteArray} (h:k=17):mQ k n m s=(decide (n=0) && decide (m=0) && bI s):=by
  unfold mQ;rw [if_neg (by omega),if_neg (by omega),if_neg (by omega),if_neg (by omega),if_pos h]
theorem Du (k n m:Int) (s:ByteArray) (w:World) (hk:pJ k):
    Calls J3 264 #[.agg #[.int .i64 k,.int .i64 n,.int .i64 m,.string s]] w fun e w'=>e= .returned (.bool (mQ k n m s))∧Below w.heap.size w w':=by
  have HO:Hid (mQ k n m s=(cv n 1 1000 && decide (m=0) && bI s)):=IF hk;have HK:Hid (pJ k):=hk;clear hk
  go_enter Tryz.func264,Tryz.ntmps264
  go_wp2_with fail;refine (DB k n m s _ HK.I).mono ?_;rintro e w1 ⟨rfl,hb1⟩;have c0:w1.cell? ⟨w.heap.size,0,none⟩=some (.int .i64 k):=cQ hb1 0;have c1:w1.cell? ⟨w.heap.size,1,none⟩=some (.int .i64 n):=cQ hb1 1;have c2:w1.cell? ⟨w.heap.size,2,none⟩=some (.int .i64 m):=cQ hb1 2;have c3:w1.cell? ⟨w.heap.size,3,none⟩=some (.string s):=cQ hb1 3;have fQ:Hid (Below w.heap.size w w1):=((Kp _ _).alloc (Ki _) _).trans (hb1.mono (by simp));have mH:Hid (w.heap.size < w1.heap.size):=by have:=hb1.size; simp only [RR] at this; exact this
  clear hb1;by_cases hm:m=0;rotate_left
  · have hm': ¬ 0=m:=fun h=>hm h.symm
    go_wp2_with fail
    first
      | (go_region_with
      ((first
        | (go_at_call 290
           refine (oJ _ _ _).mono ?_;rintro e w2 ⟨rfl,hb2⟩;obtain ⟨cy,mO,d0,d1,d2,d3⟩:=dQ fQ mH c0 c1 c2 c3 (ev hb2);clear hb2)
        | (go_at_call 268
           refine (mC _ _ _).mono ?_;rintro e w3 ⟨rfl,hb3⟩;obtain ⟨oh,-,f0,f1,f2,f3⟩:=dQ cy mO d0 d1 d2 d3 hb3;clear hb3))))
      | (exact absurd rfl (by assumption))
    all_goals go_wp2
    all_goals go_ret
    all_goals exact ⟨al (by rw [HO.I]; simp [hm]),cy.I⟩
  subst hm;by_cases hes:s.toList= []
  rotate_left
  · have hes': ¬ [] =s.toList:=fun h=>hes h.symm
    have hem:bI s=false:=by simp [bI,hes]
    go_wp2_with fail
    first
      | (go_region_with
      ((first
        | (go_at_call 290
           refine (oJ _ _ _).mono ?_;rintro e w2 ⟨rfl,hb2⟩;obtain ⟨cy,mO,d0,d1,d2,d3⟩:=dQ fQ mH c0 c1 c2 c3 (ev hb2);clear hb2)
        | (go_at_call 268
           refine (mC _ _ _).mono ?_;rintro e w3 ⟨rfl,hb3⟩;obtain ⟨oh,-,f0,f1,f2,f3⟩:=dQ cy mO d0 d1 d2 d3 hb3;clear hb3))))
      | (exact absurd rfl (by assumption))
    all_goals go_wp2
    all_goals go_ret
    all_goals exact ⟨al (by rw [HO.I]; simp [hem]),cy.I⟩
  have hem:bI s=true:=by simp [bI,hes]
  go_wp2_with fail
  first
    | (go_region_with
    ((first
      | (go_at_call 290
         refine (oJ _ _ _).mono ?_;rintro e w2 ⟨rfl,hb2⟩;obtain ⟨cy,mO,d0,d1,d2,d3⟩:=dQ fQ mH c0 c1 c2 c3 (ev hb2);clear hb2)
      | (go_at_call 268
         refine (mC _ _ _).mono ?_;rintro e w3 ⟨rfl,hb3⟩;obtain ⟨oh,-,f0,f1,f2,f3⟩:=dQ cy mO d0 d1 d2 d3 hb3;clear hb3))))
    | (exact absurd rfl (by assumption))
  all_goals go_wp2
  all_goals go_ret
  all_goals exact ⟨al (by rw [HO.I]; simp_all),oh.I⟩
theorem AB (k n m:Int) (s:ByteArray) (w:World) (hk:mF k):
    Calls J3 264 #[.agg #[.int .i64 k,.int .i64 n,.int .i64 m,.string s]] w fun e w'=>e= .returned (.bool (mQ k n m s))∧Below w.heap.size w w':=by
  have HO:Hid (mQ k n m s=(cv n 1 1000 && cv m (-1) 1000 && bI s)):=Gv hk;have HK:Hid (mF k):=hk;clear hk
  go_enter Tryz.func264,Tryz.ntmps264
  go_wp2_with fail;refine (AC k n m s _ HK.I).mono ?_;rintro e w1 ⟨rfl,hb1⟩;have c0:w1.cell? ⟨w.heap.size,0,none⟩=some (.int .i64 k):=cQ hb1 0;have c1:w1.cell? ⟨w.heap.size,1,none⟩=some (.int .i64 n):=cQ hb1 1;have c2:w1.cell? ⟨w.heap.size,2,none⟩=some (.int .i64 m):=cQ hb1 2;have c3:w1.cell? ⟨w.heap.size,3,none⟩=some (.string s):=cQ hb1 3;have fQ:Hid (Below w.heap.size w w1):=((Kp _ _).alloc (Ki _) _).trans (hb1.mono (by simp));have mH:Hid (w.heap.size < w1.heap.size):=by have:=hb1.size; simp only [RR] at this; exact this
  clear hb1;by_cases hes:s.toList= []
  rotate_left
  · have hes': ¬ [] =s.toList:=fun h=>hes h.symm
    have hem:bI s=false:=by simp [bI,hes]
    go_wp2_with fail
    first
      | (go_region_with
      ((first
        | (go_at_call 291
           refine (xk _ _ _ _).mono ?_;rintro e w2 ⟨rfl,hb2⟩;obtain ⟨cy,mO,d0,d1,d2,d3⟩:=dQ fQ mH c0 c1 c2 c3 (ev hb2);clear hb2)
        | (go_at_call 268
           refine (sH _ _ _ _).mono ?_;rintro e w3 ⟨rfl,hb3⟩;obtain ⟨oh,-,f0,f1,f2,f3⟩:=dQ cy mO d0 d1 d2 d3 hb3;clear hb3))))
      | (exact absurd rfl (by assumption))
    all_goals go_wp2
    all_goals go_ret
    all_goals exact ⟨al (by rw [HO.I]; simp [hem]),cy.I⟩
  have hem:bI s=true:=by simp [bI,hes]
  go_wp2_with fail
  first
    | (go_region_with
    ((first
      | (go_at_call 291
         refine (xk _ _ _ _).mono ?_;rintro e w2 ⟨rfl,hb2⟩;obtain ⟨cy,mO,d0,d1,d2,d3⟩:=dQ fQ mH c0 c1 c2 c3 (ev hb2);clear hb2)
      | (go_at_call 268
         refine (sH _ _ _ _).mono ?_;rintro e w3 ⟨rfl,hb3⟩;obtain ⟨oh,-,f0,f1,f2,f3⟩:=dQ cy mO d0 d1 d2 d3 hb3;clear hb3))))
    | (exact absurd rfl (by assumption))
  all_goals go_wp2
  all_goals go_ret
  all_goals exact ⟨al (by rw [HO.I]; simp_all),oh.I⟩
theorem BY (k n m:Int) (s:ByteArray) (w:World) (hs:s.size≤1048576) (hk:k=8):
    Calls J3 264 #[.agg #[.int .i64 k,.int .i64 n,.int .i64 m,.string s]] w fun e w'=>e= .returned (.bool (mQ k n m s))∧Below w.heap.size w w':=by
  have HO:Hid (mQ k n m s=(cv n 1 1000 && cv m (-1) 1000 && bw s)):=He hk;have HK:Hid (k=8):=hk;clear hk
  go_enter Tryz.func264,Tryz.ntmps264
  go_wp2_with fail;refine (AE k n m s _ HK.I).mono ?_;rintro e w1 ⟨rfl,hb1⟩;have c0:w1.cell? ⟨w.heap.size,0,none⟩=some (.int .i64 k):=cQ hb1 0;have c1:w1.cell? ⟨w.heap.size,1,none⟩=some (.int .i64 n):=cQ hb1 1;have c2:w1.cell? ⟨w.heap.size,2,none⟩=some (.int .i64 m):=cQ hb1 2;have c3:w1.cell? ⟨w.heap.size,3,none⟩=some (.string s):=cQ hb1 3;have fQ:Hid (Below w.heap.size w w1):=((Kp _ _).alloc (Ki _) _).trans (hb1.mono (by simp));have mH:Hid (w.heap.size < w1.heap.size):=by have:=hb1.size; simp only [RR] at this; exact this
  clear hb1;go_wp2_with fail
  first
    | (go_region_with
    ((first
      | (go_at_call 292
         refine (Fc _ _ _ _ _).mono ?_;rintro e w2 ⟨rfl,hb2⟩;obtain ⟨cy,mO,d0,d1,d2,d3⟩:=dQ fQ mH c0 c1 c2 c3 (ev hb2);clear hb2)
      | (go_at_call 268
         refine (Bc _ _ _ _ _ hs).mono ?_;rintro e w3 ⟨rfl,hb3⟩;obtain ⟨oh,-,f0,f1,f2,f3⟩:=dQ cy mO d0 d1 d2 d3 hb3;clear hb3))))
    | (exact absurd rfl (by assumption))
  all_goals go_wp2
  all_goals go_ret
  all_goals exact ⟨al (by rw [HO.I]),oh.I⟩
theorem BN (k n m:Int) (s:ByteArray) (w:World) (hs:s.size≤1048576) (hk:isText k):
    Calls J3 264 #[.agg #[.int .i64 k,.int .i64 n,.int .i64 m,.string s]] w fun e w'=>e= .returned (.bool (mQ k n m s))∧Below w.heap.size w w':=by
  have HO:Hid (mQ k n m s=(cv n 1 1000 && decide (m=0) && bw s)):=F1 hk;have HK:Hid (isText k):=hk;clear hk
  go_enter Tryz.func264,Tryz.ntmps264
  go_wp2_with fail;refine (BJ k n m s _ HK.I).mono ?_;rintro e w1 ⟨rfl,hb1⟩;have c0:w1.cell? ⟨w.heap.size,0,none⟩=some (.int .i64 k):=cQ hb1 0;have c1:w1.cell? ⟨w.heap.size,1,none⟩=some (.int .i64 n):=cQ hb1 1;have c2:w1.cell? ⟨w.heap.size,2,none⟩=some (.int .i64 m):=cQ hb1 2;have c3:w1.cell? ⟨w.heap.size,3,none⟩=some (.string s):=cQ hb1 3;have fQ:Hid (Below w.heap.size w w1):=((Kp _ _).alloc (Ki _) _).trans (hb1.mono (by simp));have mH:Hid (w.heap.size < w1.heap.size):=by have:=hb1.size; simp only [RR] at this; exact this
  clear hb1;by_cases hm:m=0;rotate_left
  · have hm': ¬ 0=m:=fun h=>hm h.symm
    go_wp2_with fail
    first
      | (go_region_with
      ((first
        | (go_at_call 293
           refine (xS _ _ _ _).mono ?_;rintro e w2 ⟨rfl,hb2⟩;obtain ⟨cy,mO,d0,d1,d2,d3⟩:=dQ fQ mH c0 c1 c2 c3 (ev hb2);clear hb2)
        | (go_at_call 268
           refine (sL _ _ _ _ hs).mono ?_;rintro e w3 ⟨rfl,hb3⟩;obtain ⟨oh,-,f0,f1,f2,f3⟩:=dQ cy mO d0 d1 d2 d3 hb3;clear hb3))))
      | (exact absurd rfl (by assumption))
    all_goals go_wp2
    all_goals go_ret
    all_goals exact ⟨al (by rw [HO.I]; simp [hm]),cy.I⟩
  subst hm;go_wp2_with fail
  first
    | (go_region_with
    ((first
      | (go_at_call 293
         refine (xS _ _ _ _).mono ?_;rintro e w2 ⟨rfl,hb2⟩;obtain ⟨cy,mO,d0,d1,d2,d3⟩:=dQ fQ mH c0 c1 c2 c3 (ev hb2);clear hb2)
      | (go_at_call 268
         refine (sL _ _ _ _ hs).mono ?_;rintro e w3 ⟨rfl,hb3⟩;obtain ⟨oh,-,f0,f1,f2,f3⟩:=dQ cy mO d0 d1 d2 d3 hb3;clear hb3))))
    | (exact absurd rfl (by assumption))
  all_goals go_wp2
  all_goals go_ret
  all_goals exact ⟨al (by rw [HO.I]; simp_all),oh.I⟩
theorem zY (k n m:Int) (s:ByteArray) (w:World) (hk:k=17):
    Calls J3 264 #[.agg #[.int .i64 k,.int .i64 n,.int .i64 m,.string s]] w fun e w'=>e= .returned (.bool (mQ k n m s))∧Below w.heap.size w w':=by
  have HO:Hid (mQ k n m s=(decide (n=0) && decide (m=0) && bI s)):=Gm hk;have HK:Hid (k=17):=hk;clear hk
  go_enter Tryz.func264,Tryz.ntmps264
  go_wp2_with fail;refine (Ag k n m s _ HK.I).mono ?_;rintro e w1 ⟨rfl,hb1⟩;have c0:w1.cell? ⟨w.heap.size,0,none⟩=some (.int .i64 k):=cQ hb1 0;have c1:w1.cell? ⟨w.heap.size,1,none⟩=some (.int .i64 n):=cQ hb1 1;have c2:w1.cell? ⟨w.heap.size,2,none⟩=some (.int .i64 m):=cQ hb1 2;have c3:w1.cell? ⟨w.heap.size,3,none⟩=some (.string s):=cQ hb1 3;have fQ:Hid (Below w.heap.size w w1):=((Kp _ _).alloc (Ki _) _).trans (hb1.mono (by simp));have mH:Hid (w.heap.size < w1.heap.size):=by have:=hb1.size; simp only [RR] at this; exact this
  clear hb1;by_cases hn:n=0;rotate_left
  · have hn': ¬ 0=n:=fun h=>hn h.symm
    go_wp2_with fail
    first
      | (go_region_with
      ((first
        | (go_at_call 294
           refine (pu _ _).mono ?_;rintro e w2 ⟨rfl,hb2⟩;obtain ⟨cy,mO,d0,d1,d2,d3⟩:=dQ fQ mH c0 c1 c2 c3 (ev hb2);clear hb2)
        | (go_at_call 268
           refine (my _ _).mono ?_;rintro e w3 ⟨rfl,hb3⟩;obtain ⟨oh,-,f0,f1,f2,f3⟩:=dQ cy mO d0 d1 d2 d3 hb3;clear hb3))))
      | (exact absurd rfl (by assumption))
    all_goals go_wp2
    all_goals go_ret
    all_goals exact ⟨al (by rw [HO.I]; simp [hn]),cy.I⟩
  subst hn;by_cases hm:m=0;rotate_left
  · have hm': ¬ 0=m:=fun h=>hm h.symm
    go_wp2_with fail
    first
      | (go_region_with
      ((first
        | (go_at_call 294
           refine (pu _ _).mono ?_;rintro e w2 ⟨rfl,hb2⟩;obtain ⟨cy,mO,d0,d1,d2,d3⟩:=dQ fQ mH c0 c1 c2 c3 (ev hb2);clear hb2)
        | (go_at_call 268
           refine (my _ _).mono ?_;rintro e w3 ⟨rfl,hb3⟩;obtain ⟨oh,-,f0,f1,f2,f3⟩:=dQ cy mO d0 d1 d2 d3 hb3;clear hb3))))
      | (exact absurd rfl (by assumption))
    all_goals go_wp2
    all_goals go_ret
    all_goals exact ⟨al (by rw [HO.I]; simp [hm]),cy.I⟩
  subst hm;by_cases hes:s.toList= []
  rotate_left
  · have hes': ¬ [] =s.toList:=fun h=>hes h.symm
    have hem:bI s=false:=by simp [bI,hes]
    go_wp2_with fail
    first
      | (go_region_with
      ((first
        | (go_at_call 294
           refine (pu _ _).mono ?_;rintro e w2 ⟨rfl,hb2⟩;obtain ⟨cy,mO,d0,d1,d2,d3⟩:=dQ fQ mH c0 c1 c2 c3 (ev hb2);clear hb2)
        | (go_at_call 268
           refine (my _ _).mono ?_;rintro e w3 ⟨rfl,hb3⟩;obtain ⟨oh,-,f0,f1,f2,f3⟩:=dQ cy mO d0 d1 d2 d3 hb3;clear hb3))))
      | (exact absurd rfl (by assumption))
    all_goals go_wp2
    all_goals go_ret
    all_goals exact ⟨al (by rw [HO.I]; simp [hem]),cy.I⟩
  have hem:bI s=true:=by simp [bI,hes]
  go_wp2_with fail
  first
    | (go_region_with
    ((first
      | (go_at_call 294
         refine (pu _ _).mono ?_;rintro e w2 ⟨rfl,hb2⟩;obtain ⟨cy,mO,d0,d1,d2,d3⟩:=dQ fQ mH c0 c1 c2 c3 (ev hb2);clear hb2)
      | (go_at_call 268
         refine (my _ _).mono ?_;rintro e w3 ⟨rfl,hb3⟩;obtain ⟨oh,-,f0,f1,f2,f3⟩:=dQ cy mO d0 d1 d2 d3 hb3;clear hb3))))
    | (exact absurd rfl (by assumption))
  all_goals go_wp2
  all_goals go_ret
  all_goals exact ⟨al (by rw [HO.I]; simp_all),oh.I⟩
theorem AY (k n m:Int) (s:ByteArray) (w:World) (hk: ¬ (1≤k∧k≤17)):
    Calls J3 264 #[.agg #[.int .i64 k,.int .i64 n,.int .i64 m,.string s]] w fun e w'=>e= .returned (.bool (mQ k n m s))∧Below w.heap.size w w':=by
  rw [Bd hk]
  go_enter Tryz.func264,Tryz.ntmps264
  go_wp2_with fail;refine (BR k n m s _ hk).mono ?_;rintro e w1 ⟨rfl,hb1⟩;have fQ:Hid (Below w.heap.size w w1):=((Kp _ _).alloc (Ki _) _).trans (hb1.mono (by simp));clear hb1;go_wp2_with fail
  go_quiet (fail)
  go_wp2;go_ret;exact ⟨rfl,bd fQ.I _⟩
theorem yx (k n m:Int) (s:ByteArray) (w:World) (hs:s.size≤1048576):
    Calls J3 264 #[.agg #[.int .i64 k,.int .i64 n,.int .i64 m,.string s]] w fun e w'=>e= .returned (.bool (mQ k n m s))∧Below w.heap.size w w':=by
  by_cases h0:1≤k∧k≤17
  · by_cases h1:pJ k
    · exact Du k n m s w h1
    by_cases h2:mF k
    · exact AB k n m s w h2
    by_cases h3:isText k
    · exact BN k n m s w hs h3
    by_cases h4:k=8
    · exact BY k n m s w hs h4
    exact zY k n m s w (by unfold pJ at h1; unfold mF at h2; unfold isText at h3; omega)
  · exact AY k n m s w h0
end
section
open Go.RowKit
structure bD where
 id:Int
 n:Int
 max:Int
def yz (x:bD):List Value:= [.int .i64 x.id,.int .i64 x.n,.int .i64 x.max]
def dm:Kind bD:=⟨3,yz,fun _=> [],by decide,fun _=>rfl⟩
def bD.At (w:World) (g i:Nat) (x:bD):Prop:=w.cell? ⟨g,i * 3,none⟩=some (.int .i64 x.id)∧w.cell? ⟨g,i * 3+1,none⟩=some (.int .i64 x.n)∧w.cell? ⟨g,i * 3+2,none⟩=some (.int .i64 x.max)
theorem lQ {w:World} {a:Option Addr} {l:List bD} (h:dm.bU w a l) {i:Nat} {x:bD} (hx:l[i]? =some x): ∃ g,a=some ⟨g,0,none⟩∧bD.At w g i x:=by
 obtain ⟨g,e,hc⟩:=h.at hx;exact ⟨g,e,hc 0 _ rfl,hc 1 _ rfl,hc 2 _ rfl⟩
structure aB where
 id:Int
 up:Bool
def rY (x:aB):List Value:= [.int .i64 x.id,.bool x.up]
def bJ:Kind aB:=⟨2,rY,fun _=> [],by decide,fun _=>rfl⟩
def aB.At (w:World) (g i:Nat) (x:aB):Prop:=w.cell? ⟨g,i * 2,none⟩=some (.int .i64 x.id)∧w.cell? ⟨g,i * 2+1,none⟩=some (.bool x.up)
theorem j4 {w:World} {a:Option Addr} {l:List aB} (h:bJ.bU w a l) {i:Nat} {x:aB} (hx:l[i]? =some x): ∃ g,a=some ⟨g,0,none⟩∧aB.At w g i x:=by
 obtain ⟨g,e,hc⟩:=h.at hx;exact ⟨g,e,hc 0 _ rfl,hc 1 _ rfl⟩
structure az where
 id:Int
 shown:Bool
 text:ByteArray
def sn (x:az):List Value:= [.int .i64 x.id,.bool x.shown,.string x.text]
def bG:Kind az:=⟨3,sn,fun _=> [],by decide,fun _=>rfl⟩
def az.At (w:World) (g i:Nat) (x:az):Prop:=w.cell? ⟨g,i * 3,none⟩=some (.int .i64 x.id)∧w.cell? ⟨g,i * 3+1,none⟩=some (.bool x.shown)∧w.cell? ⟨g,i * 3+2,none⟩=some (.string x.text)
theorem jr {w:World} {a:Option Addr} {l:List az} (h:bG.bU w a l) {i:Nat} {x:az} (hx:l[i]? =some x): ∃ g,a=some ⟨g,0,none⟩∧az.At w g i x:=by
 obtain ⟨g,e,hc⟩:=h.at hx;exact ⟨g,e,hc 0 _ rfl,hc 1 _ rfl,hc 2 _ rfl⟩
structure ci where
 id:Int
 max:Int
 Ma:List ByteArray
structure au extends ci where
 ak:Option Addr
 aq:Nat
def nD (x:au):List Value:= [.int .i64 x.id,.int .i64 x.max,.slice x.ak x.Ma.length x.aq]
def bm:Kind au:=⟨3,nD,fun x=> [(x.ak,bT.flat x.Ma)],by decide,fun _=>rfl⟩
def au.At (w:World) (g i:Nat) (x:au):Prop:=w.cell? ⟨g,i * 3,none⟩=some (.int .i64 x.id)∧w.cell? ⟨g,i * 3+1,none⟩=some (.int .i64 x.max)∧w.cell? ⟨g,i * 3+2,none⟩=some (.slice x.ak x.Ma.length x.aq)
theorem iA {w:World} {a:Option Addr} {l:List au} (h:bm.bU w a l) {i:Nat} {x:au} (hx:l[i]? =some x): ∃ g,a=some ⟨g,0,none⟩∧au.At w g i x:=by
 obtain ⟨g,e,hc⟩:=h.at hx;exact ⟨g,e,hc 0 _ rfl,hc 1 _ rfl,hc 2 _ rfl⟩
theorem lj {w:World} {a:Option Addr} {l:List au} (h:bm.bU w a l) {i:Nat} {x:au} (hx:l[i]? =some x):Row w x.ak (bT.flat x.Ma):=h.bt hx (r:=(x.ak,bT.flat x.Ma)) (by simp [bm])
structure dS where
 id:Int
 I:Bool
 Mf:Bool
 max:Int
 Ma:List ByteArray
structure aM extends dS where
 ak:Option Addr
 aq:Nat
def qT (x:aM):List Value:= [.int .i64 x.id,.bool x.I,.bool x.Mf,.int .i64 x.max,.slice x.ak x.Ma.length x.aq]
def bX:Kind aM:=⟨5,qT,fun x=> [(x.ak,bT.flat x.Ma)],by decide,fun _=>rfl⟩
def aM.At (w:World) (g i:Nat) (x:aM):Prop:=w.cell? ⟨g,i * 5,none⟩=some (.int .i64 x.id)∧w.cell? ⟨g,i * 5+1,none⟩=some (.bool x.I)∧w.cell? ⟨g,i * 5+2,none⟩=some (.bool x.Mf)∧w.cell? ⟨g,i * 5+3,none⟩=some (.int .i64 x.max)∧w.cell? ⟨g,i * 5+4,none⟩=some (.slice x.ak x.Ma.length x.aq)
theorem lm {w:World} {a:Option Addr} {l:List aM} (h:bX.bU w a l) {i:Nat} {x:aM} (hx:l[i]? =some x): ∃ g,a=some ⟨g,0,none⟩∧aM.At w g i x:=by
 obtain ⟨g,e,hc⟩:=h.at hx;exact ⟨g,e,hc 0 _ rfl,hc 1 _ rfl,hc 2 _ rfl,hc 3 _ rfl,hc 4 _ rfl⟩
theorem nJ {w:World} {a:Option Addr} {l:List aM} (h:bX.bU w a l) {i:Nat} {x:aM} (hx:l[i]? =some x):Row w x.ak (bT.flat x.Ma):=h.bt hx (r:=(x.ak,bT.flat x.Ma)) (by simp [bX])
structure aD where
 id:Int
 RX:Int
 prog:List dN
 Md:Int
 pc:Int
 left:Int
 Mg:Int
 on:Int
 held:ByteArray
 got:ByteArray
 code:Int
 RU:Int
structure ao extends aD where
 aY:Option Addr
 bH:Nat
def qN (x:ao):List Value:= [.int .i64 x.id,.int .i64 x.RX,.slice x.aY x.prog.length x.bH,.int .i64 x.Md,.int .i64 x.pc,.int .i64 x.left,.int .i64 x.Mg,.int .i64 x.on,.string x.held,.string x.got,.int .i64 x.code,.int .i64 x.RU]
def bg:Kind ao:=⟨12,qN,fun x=> [(x.aY,fk.flat x.prog)],by decide,fun _=>rfl⟩
def ao.At (w:World) (g i:Nat) (x:ao):Prop:=w.cell? ⟨g,i * 12,none⟩=some (.int .i64 x.id)∧w.cell? ⟨g,i * 12+1,none⟩=some (.int .i64 x.RX)∧w.cell? ⟨g,i * 12+2,none⟩=some (.slice x.aY x.prog.length x.bH)∧w.cell? ⟨g,i * 12+3,none⟩=some (.int .i64 x.Md)∧w.cell? ⟨g,i * 12+4,none⟩=some (.int .i64 x.pc)∧w.cell? ⟨g,i * 12+5,none⟩=some (.int .i64 x.left)∧w.cell? ⟨g,i * 12+6,none⟩=some (.int .i64 x.Mg)∧w.cell? ⟨g,i * 12+7,none⟩=some (.int .i64 x.on)∧w.cell? ⟨g,i * 12+8,none⟩=some (.string x.held)∧w.cell? ⟨g,i * 12+9,none⟩=some (.string x.got)∧w.cell? ⟨g,i * 12+10,none⟩=some (.int .i64 x.code)∧w.cell? ⟨g,i * 12+11,none⟩=some (.int .i64 x.RU)
theorem cn {w:World} {a:Option Addr} {l:List ao} (h:bg.bU w a l) {i:Nat} {x:ao} (hx:l[i]? =some x): ∃ g,a=some ⟨g,0,none⟩∧ao.At w g i x:=by
 obtain ⟨g,e,hc⟩:=h.at hx;exact ⟨g,e,hc 0 _ rfl,hc 1 _ rfl,hc 2 _ rfl,hc 3 _ rfl,hc 4 _ rfl,hc 5 _ rfl,hc 6 _ rfl,hc 7 _ rfl,hc 8 _ rfl,hc 9 _ rfl,hc 10 _ rfl,hc 11 _ rfl⟩
theorem lA {w:World} {a:Option Addr} {l:List ao} (h:bg.bU w a l) {i:Nat} {x:ao} (hx:l[i]? =some x):Row w x.aY (fk.flat x.prog):=h.bt hx (r:=(x.aY,fk.flat x.prog)) (by simp [bg])
structure af where
 id:Int
 next:Int
 L8:List ao
 aN:Option Addr
 aW:Nat
 aj:List bD
 bc:Option Addr
 bF:Nat
 L9:List aB
 ay:Option Addr
 aO:Nat
 ag:List az
 ax:Option Addr
 aP:Nat
 ae:List au
 am:Option Addr
 aG:Nat
 ai:List aM
 aK:Option Addr
 aV:Nat
def af.cells (p:af):Array Value:= #[.int .i64 p.id,.int .i64 p.next,.slice p.aN p.L8.length p.aW,.slice p.bc p.aj.length p.bF,.slice p.ay p.L9.length p.aO,.slice p.ax p.ag.length p.aP,.slice p.am p.ae.length p.aG,.slice p.aK p.ai.length p.aV]
def af.At (w:World) (p:af):Prop:=bg.bU w p.aN p.L8∧dm.bU w p.bc p.aj∧bJ.bU w p.ay p.L9∧bG.bU w p.ax p.ag∧bm.bU w p.am p.ae∧bX.bU w p.aK p.ai
theorem af.At.below {w w':World} {p:af} (h:af.At w p) (hb:Below w.heap.size w w'):af.At w' p:=⟨h.1.below hb,h.2.1.below hb,h.2.2.1.below hb,h.2.2.2.1.below hb,h.2.2.2.2.1.below hb,h.2.2.2.2.2.below hb⟩
structure aE where
 id:Int
 next:Int
 L8:List aD
 aj:List bD
 L9:List aB
 ag:List az
 ae:List ci
 ai:List dS
def af.pure (p:af):aE:=⟨p.id,p.next,p.L8.map (·.toaD),p.aj,p.L9,p.ag,p.ae.map (·.toci),p.ai.map (·.todS)⟩
def place (l:List Int) (id:Int) (i:Nat):Int:=match l with
 | [] => -1
 | x :: r=>if x=id then i else place r id (i+1)
theorem z8: ∀ (l:List Int) (id:Int) (i:Nat),place l id i= -1∨(i:Int)≤place l id i
 | [],_,_=> .inl rfl
 | y :: r,id,i=>by
  simp only [place]
  split
  ·exact .inr (by omega)
  ·rcases z8 r id (i+1) with h | h
   ·exact .inl h
   ·exact .inr (by omega)
theorem nN: ∀ {l:List Int} {id:Int} {i:Nat},place l id i= -1↔id∉l
 | [],id,i=>by simp [place]
 | y :: r,id,i=>by
  simp only [place,Kt,not_or]
  split
  ·rename_i h
   constructor
   ·intro h2; omega
   ·intro h2; exact absurd h.symm h2.1
  ·rename_i h
   rw [nN (l:=r)];exact ⟨fun h2=>⟨fun e=>h e.symm,h2⟩,fun h2=>h2.2⟩
theorem ku {l:List Int} {id:Int} {k:Nat} (h:id∉l.take k) {x:Int} (hx:l[k]? =some x) (e:x=id):place l id 0=k:=by
 have hk:k < l.length:=(List.getElem?_eq_some_iff.1 hx).1;have e1:l=l.take k ++ x :: l.drop (k+1):=by
  have:=List.take_append_drop k l
  rw [List.drop_eq_getElem_cons hk] at this;rw [← this];rw [List.getElem?_eq_getElem hk] at hx;cases hx;simp
 have key: ∀ (t:List Int) (i:Nat),id∉t→place (t ++ x :: l.drop (k+1)) id i=((i+t.length:Nat):Int):=by
  intro t
  induction t with
  | nil=>intro i _; simp [place,e]
  | cons y r ih=>
   intro i hn;simp only [Kt,not_or] at hn;simp only [List.cons_append,place];rw [if_neg (fun h=>hn.1 h.symm),ih (i+1) hn.2];simp only [Lg];rw [show i+1+r.length=i+(r.length+1) by omega]
 have:=key (l.take k) 0 h
 rw [← e1] at this;rw [this,List.length_take]
 congr 1
 omega
abbrev af.row (p:af):Array Value:= #[.int .i64 p.id,.int .i64 p.next,.slice p.aN p.L8.length p.aW,.slice p.bc p.aj.length p.bF,.slice p.ay p.L9.length p.aO,.slice p.ax p.ag.length p.aP,.slice p.am p.ae.length p.aG,.slice p.aK p.ai.length p.aV]
abbrev af.L6 (p:af) (g:Nat):Array Value:= #[.int .i64 p.id,.int .i64 p.next,.slice (some ⟨g,0,none⟩) p.L8.length p.aW,.slice p.bc p.aj.length p.bF,.slice p.ay p.L9.length p.aO,.slice p.ax p.ag.length p.aP,.slice p.am p.ae.length p.aG,.slice p.aK p.ai.length p.aV]
abbrev ao.row (x:ao):Array Value:= #[.int .i64 x.id,.int .i64 x.RX,.slice x.aY x.prog.length x.bH,.int .i64 x.Md,.int .i64 x.pc,.int .i64 x.left,.int .i64 x.Mg,.int .i64 x.on,.string x.held,.string x.got,.int .i64 x.code,.int .i64 x.RU]
abbrev ar:Array Value:= #[.int .i64 0,.int .i64 0,.slice none 0 0,.slice none 0 0,.slice none 0 0,.slice none 0 0,.slice none 0 0,.slice none 0 0]
abbrev cE:Array Value:= #[.int .i64 0,.int .i64 0,.slice none 0 0,.int .i64 0,.int .i64 0,.int .i64 0,.int .i64 0,.int .i64 0,.string ⟨#[]⟩,.string ⟨#[]⟩,.int .i64 0,.int .i64 0]
theorem vv (g len cap:Nat) (K N M:Nat→Int) (S:Nat→ByteArray) (w:World) (hl:len≤1048576) (hs: ∀ i,i < len→(S i).size≤1048576) (hr:iG w g len K N M S):
  Calls J3 142 #[.slice (some ⟨g,0,none⟩) len cap] w fun e w'=>e= .returned (.bool (nq len K N M S))∧Below w.heap.size w w':=by
 have HR:Hid (iG w g len K N M S):=hr;have HS:Hid (∀ i,i < len→(S i).size≤1048576):=hs;clear hr hs
 go_enter Tryz.func142,Tryz.ntmps142
 go_wp2
 go_loopw [3] (fun i wr=> ∃ k:Nat,k≤len∧i= .int .i64 k∧(∀ j,j < k→j8 K N M S j=true)∧Below w.heap.size w wr) (fun i _=>len - (intOf i).toNat)
 case atStart=>exact ⟨0,Ky _,rfl,fun j hj=>absurd hj (by omega),Kp _ _⟩
 case round=>
  obtain ⟨k,hk,rfl,hall,kj⟩:=hrel;have HA:Hid (∀ j,j < k→j8 K N M S j=true):=hall;have HB:Hid (Below w.heap.size w wr):=kj;have HW:Hid (iG wr g len K N M S):=HR.I.below kj;clear hall kj;by_cases hlt:k < len
  ·have c0:=HW.I.c0 hlt
   have c1:=HW.I.c1 hlt;have c2:=HW.I.c2 hlt;have c3:=HW.I.c3 hlt;have i0:(0:Int)≤(k:Int):=by omega
   have i1:(k:Int) < (len:Int):=by omega
   go_wp2_with fail;refine (xZ (K k) (N k) (M k) (S k) wr (HS.I k hlt)).mono ?_;rintro e w1 ⟨rfl,hb1⟩;have fQ:Hid (Below w.heap.size w w1):=HB.I.trans (hb1.mono HB.I.size);have HO:Hid (mQ (K k) (N k) (M k) (S k)=j8 K N M S k):=rfl;rw [HO.I];clear hb1 c0 c1 c2 c3;cases hop:j8 K N M S k with
   | true=>
    have HP:Hid (j8 K N M S k=true):=hop;clear hop;go_wp2;go_roundw
    case rel=>exact ⟨k+1,by omega,by go_num,fun j hj=>by
     by_cases e:j=k
     ·subst e; exact HP.I
     ·exact HA.I j (by omega),fQ.I⟩
    case measure=>simp [intOf]; omega
   | false=>
    have HP:Hid (j8 K N M S k=false):=hop;clear hop;go_wp2;go_ret;exact ⟨al (iS (fun h=>by have:=h.2.2 k hlt; rw [HP.I] at this; cases this)).symm,fQ.I⟩
  ·have e:k=len:=by omega
   subst e;by_cases h1:1≤k
   ·have h1':(1:Int)≤(k:Int):=by omega
    by_cases h2:k≤20
    ·have h2':(k:Int)≤20:=by omega
     go_wp2;go_ret;exact ⟨al (by rw [vM ⟨h1,h2,HA.I⟩]),HB.I⟩
    ·have h2': ¬ (k:Int)≤20:=by omega
     go_wp2;go_ret;exact ⟨al (by rw [iS (fun h=>h2 h.2.1)]),HB.I⟩
   ·have h1': ¬ (1:Int)≤(k:Int):=by omega
    go_wp2;go_ret;exact ⟨al (by rw [iS (fun h=>h1 h.1)]),HB.I⟩
theorem tV (g len cap:Nat) (K N M:Nat→Int) (S:Nat→ByteArray) (w:World) (hl:len≤1048576) (hs: ∀ i,i < len→(S i).size≤1048576) (hr:iG w g len K N M S):
  Calls J3 262 #[.slice (some ⟨g,0,none⟩) len cap] w fun e w'=>e= .returned (.bool (nq len K N M S))∧Below w.heap.size w w':=by
 have HR:Hid (iG w g len K N M S):=hr;have HS:Hid (∀ i,i < len→(S i).size≤1048576):=hs;clear hr hs;by_cases h1: ¬ 1≤len
 ·have h1':(len:Int) < 1:=by omega
  go_enter Tryz.func262,Tryz.ntmps262
  go_wp2;go_ret;exact ⟨al (iS (fun h=>h1 h.1)).symm,Kp _ _⟩
 have h1': ¬ (len:Int) < 1:=by omega
 by_cases h2:20 < len
 ·have h2':(20:Int) < (len:Int):=by omega
  go_enter Tryz.func262,Tryz.ntmps262
  go_wp2;go_ret;exact ⟨al (iS (fun h=>by omega)).symm,Kp _ _⟩
 have h2': ¬ (20:Int) < (len:Int):=by omega
 go_enter Tryz.func262,Tryz.ntmps262
 go_wp2_with fail
 go_loopw [15] (fun i wr=> ∃ k:Nat,k≤len∧i= .int .i64 k∧(∀ j,j < k→j8 K N M S j=true)∧Below w.heap.size w wr) (fun i _=>len - (intOf i).toNat)
 case atStart=>exact ⟨0,Ky _,rfl,fun j hj=>absurd hj (by omega),Kp _ _⟩
 case round=>
  obtain ⟨k,hk,rfl,hall,kj⟩:=hrel;have HA:Hid (∀ j,j < k→j8 K N M S j=true):=hall;have HB:Hid (Below w.heap.size w wr):=kj;have HW:Hid (iG wr g len K N M S):=HR.I.below kj;clear hall kj;by_cases hlt:k < len
  ·have c0:=HW.I.c0 hlt
   have c1:=HW.I.c1 hlt;have c2:=HW.I.c2 hlt;have c3:=HW.I.c3 hlt;have i0:(0:Int)≤(k:Int):=by omega
   have i1:(k:Int) < (len:Int):=by omega
   have hgl:=HW.I.1;go_wp2_with fail;refine (yx (K k) (N k) (M k) (S k) _ (HS.I k hlt)).mono ?_;rintro e w1 ⟨rfl,hb1⟩;have fQ:Hid (Below w.heap.size w w1):=(HB.I.alloc HB.I.size _).trans (hb1.mono (by have:=HB.I.size; simp; omega));have HO:Hid (mQ (K k) (N k) (M k) (S k)=j8 K N M S k):=rfl;rw [HO.I];clear hb1 c0 c1 c2 c3;cases hop:j8 K N M S k with
   | true=>
    have HP:Hid (j8 K N M S k=true):=hop;clear hop;go_wp2;go_roundw
    case rel=>exact ⟨k+1,by omega,by go_num,fun j hj=>by
     by_cases e:j=k
     ·subst e; exact HP.I
     ·exact HA.I j (by omega),fQ.I⟩
    case measure=>simp [intOf]; omega
   | false=>
    have HP:Hid (j8 K N M S k=false):=hop;clear hop;go_wp2;go_ret;exact ⟨al (iS (fun h=>by have:=h.2.2 k hlt; rw [HP.I] at this; cases this)).symm,fQ.I⟩
  ·have e:k=len:=by omega
   subst e;go_wp2;go_ret;exact ⟨al (vM ⟨by omega,by omega,HA.I⟩).symm,HB.I⟩
end
end Go.Proofs.YteidkehoekbcaaaGreat
