/- What the proof leans on, part 2. -/
import Derived.Test.YtgdmbemagdbmaaaGreatDoorOwnR1
import Derived.Maps.RangeWalk
import Derived.Lib.Join
set_option linter.unusedVariables false
set_option maxRecDepth 100000
set_option maxHeartbeats 8000000
open Go.Proofs.Tryz
open Go renaming World->w_,Value->v_,Calls->k_,Addr->d_,TypeId->T_
open Go.Ending renaming returned->r_
open Go.IntKind renaming i64->j_
open Go.Obj renaming cells->c_
open Go.RowKit renaming Below->B_
open Go.Value renaming int->i_,slice->s_,bool->b_,string->t_,agg->a_,pointer->p_,tuple->u_
open Option renaming some->o_,none->n_
open Array renaming getElem?_eq_some_iff->J2
open Bool renaming and_eq_true->J7,and_false->PP,false_eq_true->J5,false_or->Qg
open ByteArray renaming size_append->QH
open Go renaming cell_of_row->K5,frozen_of_row->Ko,heap_alloc2_new->Kq,heap_alloc_new->Kj,wp_at_succ->Kd,wp_at_zero->Kc
open Go.DataW.lit renaming injEq->QZ
open Go.Proofs.Tryz renaming prog->J3,underlying2->KN
open Go.RowKit.Below renaming heap_setCell->K6,refl->Kp
open Go.World renaming size_alloc->RR
open List renaming all_eq_true->PZ,cons_append->Qw,drop_eq_getElem_cons->adH,filter_cons->LN,find?_cons->LL,getElem?_eq_getElem->Kz,getElem?_eq_some_iff->Lj,getElem?_map->Kk,length_cons->Lg,length_map->KG,length_take->Lk,map_cons->Lt,mem_append->Kg,mem_cons->Kt,mem_cons_of_mem->LB,mem_filter->L2,mem_map->Lr,mem_of_getElem?->KA,mem_singleton->KB,nodup_cons->Lp,pairwise_cons->LM,take_append_drop->Qn,take_of_length_le->KF,take_succ_eq_append_getElem->QE
open List.Perm renaming refl->RA
open Nat renaming le_refl->Ki,le_trans->LG,lt_of_lt_of_le->Kn,zero_le->Ky
open Option.some renaming inj->KC

namespace Go.Proofs.YtgdmbemagdbmaaaGreatDoor
section
open Go.RowKit Go.Maps
def od (v:Value):Option (DataW Unit × List MemPlace):=match v with
 | .pointer (some ⟨g,0,none⟩)=>some (.lit (.int .i64 g),[])
 | _=>none
def dt (g:Nat):Value:= .pointer (some ⟨g,0,none⟩)
def qz:Option Nat→Value
 | none=> .pointer none
 | some g=>dt g
theorem Ie (g:Nat):od (dt g)=some (.lit (.int .i64 g),[]):=rfl
theorem oI {v:Value} {z:DataW Unit × List MemPlace} (h:od v=some z): ∃ g:Nat,v=dt g∧z=(.lit (.int .i64 g),[]):=by
 unfold od at h
 split at h
 ·rename_i g
  cases h;exact ⟨g,rfl,rfl⟩
 ·cases h
abbrev df:=List (Int × Nat)
def nM (p:Int × Nat):Lit × DataW Unit:=(.int .i64 p.1,.lit (.int .i64 p.2))
def gA (m:df):DataW Unit:= .map (m.map nM)
def zP (m:df):Prop:=m.Pairwise (fun p q=>p.1 < q.1)
def cz (m:df) (k:Int):Option Nat:=(m.find? (fun p=>p.1 == k)).map (·.2)
def oK (p:Int × Nat):df→df
 | [] => [p]
 | y :: r=>if p.1 < y.1 then p :: y :: r else y :: oK p r
def cF (w:World) (b:Nat) (m:df):Prop:=w.ownsMap J3 2 od b m.length (gA m)∧zP m
theorem jb:Keyed J3 2:=int_keyed KN
theorem vX {k:Int} (hk:(Lit.int .i64 k).wf=true):keyOf J3 2 (.int .i64 k)=some (.int .i64 k):=keyOf_int_mk KN hk
theorem kH (a b:Int):(Lit.int .i64 a).sameKey (.int .i64 b)=(a == b):=by
 simp [Lit.sameKey];by_cases h:a=b <;> simp [h]
theorem GF (m:df) (k:Int):(m.map nM).find? (fun p=>p.1.sameKey (.int .i64 k))=(m.find? (fun p=>p.1 == k)).map nM:=by
 induction m with
 | nil=>rfl
 | cons p r ih=>
  simp only [Lt,LL];have e:(nM p).1.sameKey (.int .i64 k)=(p.1 == k):=kH _ _;rw [e];cases (p.1 == k)
  ·exact ih
  ·rfl
theorem pk (m:df) (k:Int) (z:DataW Unit):(gA m).atKey (.int .i64 k) z=match cz m k with | some g=> .lit (.int .i64 g) | none=>z:=by
 simp only [gA,DataW.atKey,GF];unfold cz;cases m.find? (fun p=>p.1 == k) <;> rfl
theorem size_map (m:df):Maps.size (gA m)=m.length:=by simp [Maps.size,gA]
section
variable {w w':World} {b:Nat} {m:df}
theorem cF.lt (h:cF w b m):b < w.heap.size:=h.1.lt
theorem cF.same (h:cF w b m) (hs:w'.heap[b]? =w.heap[b]?):cF w' b m:=by
 obtain ⟨⟨es,clock,hb,r⟩,h2⟩:=h;exact ⟨⟨es,clock,hs.trans hb,r⟩,h2⟩
theorem cF.below (h:cF w b m) (hb:Below w.heap.size w w'):cF w' b m:=h.same (hb.block b h.lt)
theorem cF.made (w:World):cF (w.alloc (.map #[] 0)) w.heap.size [] :=⟨World.ownsMap_made w J3 2 od,List.Pairwise.nil⟩
theorem cF.Hh (hb:w.heap[b]? =some (.map #[] 0)):cF w b [] :=⟨⟨#[],0,hb,⟨by simp,MapKept.stamped_empty 0,by simp⟩,by simp,rfl⟩,List.Pairwise.nil⟩
theorem cF.look (h:cF w b m) {t e:TypeId} (ht:Tryz.prog.underlying t=some (.map 2 e)) (hz:(zeroValue e).run J3 w= .ok (.pointer none) w) {k:Int} (hk:(Lit.int .i64 k).wf=true) (c:Bool):
  (Instr.lookup t (.map (some b)) (.int .i64 k) c).run J3 w= .ok (if c then .tuple #[qz (cz m k),.bool (cz m k).isSome] else qz (cz m k)) w:=by
 obtain ⟨⟨es,clock,hb,F,_,hD⟩,_⟩:=h;rcases Maps.fit_look c jb ht hz hb F (vX hk) with ⟨hrun,_,hat⟩ | ⟨e0,y,_,_,hrun,hRv,hat,_⟩
 ·have h1:=hat .nil
  rw [← hD,pk] at h1;have h2:=hat (.lit (.bool true));rw [← hD,pk] at h2;cases hl:cz m k with
  | none=>exact hrun
  | some g=>rw [hl] at h1; cases h1
 ·obtain ⟨g,hv,rfl⟩:=oI hRv
  have h1:=hat .nil;rw [← hD,pk] at h1;cases hl:cz m k with
  | none=>rw [hl] at h1; cases h1
  | some g'=>
   rw [hl] at h1;simp only [QZ,Lit.int.injEq,Int.natCast_inj,true_and] at h1;rw [hrun,hv,h1];cases c <;> rfl
theorem cF.len (h:cF w b m) {t e:TypeId} (ht:Tryz.prog.underlying t=some (.map 2 e)) (ty:TypeId):(Builtin.len_ #[t] ty #[.map (some b)]).run J3 w= .ok (.int .i64 (m.length:Int)) w:=by
 have:=h.1.len ht ty
 rwa [size_map] at this
theorem Bo (p:Int × Nat) (m:df):(oK p m).length=m.length+1:=by
 induction m with
 | nil=>rfl
 | cons y r ih=>
  unfold oK
  split
  ·rfl
  ·simp [ih]
theorem Gw {p q:Int × Nat} {m:df} :q∈oK p m↔q=p∨q∈m:=by
 induction m with
 | nil=>simp [oK]
 | cons y r ih=>
  unfold oK
  split
  ·simp
  ·simp only [Kt,ih]
   constructor
   ·exact Q1
   ·exact Q1
theorem DD {p:Int × Nat} {m:df} (h:zP m) (hn:cz m p.1=none):zP (oK p m):=by
 induction m with
 | nil=>exact List.pairwise_singleton _ _
 | cons y r ih=>
  obtain ⟨h1,h2⟩:=LM.1 h;have hy: ¬ y.1=p.1:=by
   intro e;simp [cz,e] at hn
  have hn':cz r p.1=none:=by
   unfold cz at hn ⊢;rw [LL] at hn
   have:(y.1 == p.1)=false:=by simp [hy]
   rw [this] at hn;exact hn
  unfold oK
  split
  ·rename_i hlt
   refine LM.2 ⟨fun q hq=> ?_,h⟩;rcases Kt.1 hq with rfl | hq
   ·exact hlt
   ·exact Int.lt_trans hlt (h1 q hq)
  ·rename_i hge
   refine LM.2 ⟨fun q hq=> ?_,ih h2 hn'⟩;rcases Gw.1 hq with rfl | hq
   ·omega
   ·exact h1 q hq
theorem It {m:df} {k:Int} {g:Nat} (hn:cz m k=none):(gA m).put (.int .i64 k) (.lit (.int .i64 g))=gA (oK (k,g) m):=by
 have hf:(m.map nM).filter (fun p=> !p.1.sameKey (.int .i64 k))=m.map nM:=by
  refine List.filter_eq_self.2 (fun p hp=> ?_);obtain ⟨q,hq,rfl⟩:=Lr.1 hp;have e:(nM q).1.sameKey (.int .i64 k)=(q.1 == k):=kH _ _;rw [e]
  have:m.find? (fun p=>p.1 == k)=none:=by simpa [cz] using hn
  have:=List.find?_eq_none.1 this q hq
  simpa using this
 show DataW.map (DataW.insert _ ((m.map nM).filter _))=_
 rw [hf]
 show DataW.map (DataW.insert (nM (k,g)) (m.map nM))= .map ((oK (k,g) m).map nM)
 congr 1
 induction m with
 | nil=>rfl
 | cons y r ih=>
  unfold oK;simp only [Lt,DataW.insert];have e:(nM (k,g)).1.before (nM y).1=decide (k < y.1):=rfl;rw [e];by_cases hlt:k < y.1
  ·simp [hlt]
  ·have hn':cz r k=none:=by
    unfold cz at hn ⊢;rw [LL] at hn
    split at hn
    ·cases hn
    ·exact hn
   have hf':(r.map nM).filter (fun p=> !p.1.sameKey (.int .i64 k))=r.map nM:=by
    simp only [Lt,LN] at hf
    split at hf
    ·exact (List.cons.inj hf).2
    ·have:=congrArg List.length hf
     have h2:=List.length_filter_le (fun p:Lit × DataW Unit=> !p.1.sameKey (.int .i64 k)) (r.map nM);simp only [Lg] at this;omega
   simp only [hlt,decide_false,J5,if_false];rw [ih hn' hf'];simp
theorem cF.put (h:cF w b m) {t e:TypeId} (ht:Tryz.prog.underlying t=some (.map 2 e)) {k:Int} (hk:(Lit.int .i64 k).wf=true) (g:Nat) (hn:cz m k=none) (hm:m.length≤1048576):
  ∃ w',(Instr.mapUpdate t (.map (some b)) (.int .i64 k) (dt g)).run J3 w= .ok () w'∧cF w' b (oK (k,g) m)∧w.mapTurned w' b:=by
 obtain ⟨w',hrun,ho,ht'⟩:=h.1.store jb ht (Nat.lt_of_le_of_lt hm (by decide)) (vX hk) (Ie g);refine ⟨w',hrun,⟨?_,DD h.2 hn⟩,ht'⟩;rw [It hn] at ho
 rwa [Bo]
end
theorem qA {m:df} {k:Int} :cz m k=none↔k∉m.map (·.1):=by
 unfold cz;rw [Option.map_eq_none_iff,List.find?_eq_none];constructor
 ·intro h hm
  obtain ⟨p,hp,e⟩:=Lr.1 hm;exact h p hp (by simp [e])
 ·intro h p hp e
  exact h (Lr.2 ⟨p,hp,by simpa using e⟩)
theorem ry (m:df) (k:Int):(cz m k).isSome=decide (k∈m.map (·.1)):=by
 by_cases h:k∈m.map (·.1)
 ·rw [decide_eq_true h]
  cases hl:cz m k with
  | none=>exact absurd h (qA.1 hl)
  | some g=>rfl
 ·rw [decide_eq_false h,qA.2 h]
  rfl
theorem jI {m:df} (hr:zP m) {p:Int × Nat} (hp:p∈m):cz m p.1=some p.2:=by
 induction m with
 | nil=>cases hp
 | cons y r ih=>
  obtain ⟨h1,h2⟩:=LM.1 hr;rcases Kt.1 hp with rfl | hp
  ·simp [cz]
  ·have:=h1 p hp
   have hne:(y.1 == p.1)=false:=by
    have: ¬ y.1=p.1:=by omega
    simp [this]
   have:=ih h2 hp
   unfold cz at this ⊢;rw [LL,hne];exact this
theorem yu {m:df} {k:Int} {g:Nat} (h:cz m k=some g):(k,g)∈m:=by
 unfold cz at h;obtain ⟨p,hp,e⟩:=Option.map_eq_some_iff.1 h;have h1:=List.mem_of_find?_eq_some hp;have h2:=List.find?_some hp;simp at h2;rw [← h2,← e];exact h1
end
section
open Go.RowKit
def Cd (os:List dN) (i:Nat):Int:=(os[i]?.getD (0,0,0,⟨#[]⟩)).1
def Cg (os:List dN) (i:Nat):Int:=(os[i]?.getD (0,0,0,⟨#[]⟩)).2.1
def Ea (os:List dN) (i:Nat):Int:=(os[i]?.getD (0,0,0,⟨#[]⟩)).2.2.1
def Ce (os:List dN) (i:Nat):ByteArray:=(os[i]?.getD (0,0,0,⟨#[]⟩)).2.2.2
def y9 (w:w_) (g:Nat) (os:List dN):Prop:=iG w g os.length (Cd os) (Cg os) (Ea os) (Ce os)
def xu (w:w_) (a:Option d_) (os:List dN):Prop:=0 < os.length→ ∃ g,a=o_ ⟨g,0,n_⟩∧y9 w g os
theorem xu.below {w w':w_} {a:Option d_} {os:List dN} (h:xu w a os) (hb:B_ w.heap.size w w'):xu w' a os:=fun hl=>by
 obtain ⟨g,rfl,hw⟩:=h hl;exact ⟨g,rfl,iG.below hw hb⟩
theorem xu.low {w w':w_} {a:Option d_} {base:Nat} {os:List dN} (h:xu w a os) (ha: ∀ q,a=o_ q→q.block < base) (hb:B_ base w w'):xu w' a os:=fun hl=>by
 obtain ⟨g,rfl,hw⟩:=h hl;exact ⟨g,rfl,iG.of_block hw (hb.block g (ha _ rfl))⟩
end
section
open Go.RowKit
attribute [local go_sem ↓] Kc Kd
theorem cQ {w w1:w_} {cs:Array v_} {t:T_} (h:B_ (w.alloc (c_ cs t)).heap.size (w.alloc (c_ cs t)) w1) (i:Nat):w1.cell? ⟨w.heap.size,i,n_⟩=cs[i]? :=
  (h.cell (p:=⟨w.heap.size,i,n_⟩) (by simp)).trans (by simp)
theorem ev {B:Nat} {w w':w_} (h:B_ B w.drew w'):B_ B w w':=⟨h.os,h.tape,h.output,h.size,h.block⟩
theorem bd {B:Nat} {w w':w_} (h:B_ B w w') (n:Nat):B_ B w (w'.drewN n):=⟨h.os,h.tape,h.output,h.size,h.block⟩
theorem dQ {w w1 w2:w_} {k n m:Int} {s:ByteArray} (HB:Hid (B_ w.heap.size w w1)) (HS:Hid (w.heap.size < w1.heap.size)) (c0:w1.cell? ⟨w.heap.size,0,n_⟩=o_ (i_ j_ k)) (c1:w1.cell? ⟨w.heap.size,1,n_⟩=o_ (i_ j_ n)) (c2:w1.cell? ⟨w.heap.size,2,n_⟩=o_ (i_ j_ m)) (c3:w1.cell? ⟨w.heap.size,3,n_⟩=o_ (t_ s)) (hb:B_ w1.heap.size w1 w2):
    Hid (B_ w.heap.size w w2)∧Hid (w.heap.size < w2.heap.size)∧w2.cell? ⟨w.heap.size,0,n_⟩=o_ (i_ j_ k)∧w2.cell? ⟨w.heap.size,1,n_⟩=o_ (i_ j_ n)∧w2.cell? ⟨w.heap.size,2,n_⟩=o_ (i_ j_ m)∧w2.cell? ⟨w.heap.size,3,n_⟩=o_ (t_ s):=
  ⟨HB.I.trans (hb.mono (Nat.le_of_lt HS.I)),Kn HS.I hb.size,(hb.cell (p:=⟨w.heap.size,0,n_⟩) HS.I).trans c0,(hb.cell (p:=⟨w.heap.size,1,n_⟩) HS.I).trans c1,(hb.cell (p:=⟨w.heap.size,2,n_⟩) HS.I).trans c2,(hb.cell (p:=⟨w.heap.size,3,n_⟩) HS.I).trans c3⟩
theorem IF {k n m:Int} {s:ByteArray} (h:pJ k):mQ k n m s=(cv n 1 1000 && decide (m=0) && bI s):=by
  unfold pJ at h;unfold mQ;rw [if_pos h]
theorem Gv {k n m:Int} {s:ByteArray} (h:mF k):mQ k n m s=(cv n 1 1000 && cv m (-1) 1000 && bI s):=by
  unfold mF at h;unfold mQ;rw [if_neg (by omega),if_pos h]
theorem He {k n m:Int} {s:ByteArray} (h:k=8):mQ k n m s=(cv n 1 1000 && cv m (-1) 1000 && bw s):=by
  unfold mQ;rw [if_neg (by omega),if_neg (by omega),if_pos h]
theorem F1 {k n m:Int} {s:ByteArray} (h:isText k):mQ k n m s=(cv n 1 1000 && decide (m=0) && bw s):=by
  unfold isText at h;unfold mQ;rw [if_neg (by omega),if_neg (by omega),if_neg (by omega),if_pos h]
theorem Gm {k n m:Int} {s:ByteArray} (h:k=17):mQ k n m s=(decide (n=0) && decide (m=0) && bI s):=by
  unfold mQ;rw [if_neg (by omega),if_neg (by omega),if_neg (by omega),if_neg (by omega),if_pos h]
theorem Du (k n m:Int) (s:ByteArray) (w:w_) (hk:pJ k):
    k_ J3 17 #[a_ #[i_ j_ k,i_ j_ n,i_ j_ m,t_ s]] w fun e w'=>e=r_ (b_ (mQ k n m s))∧B_ w.heap.size w w':=by
  have HO:Hid (mQ k n m s=(cv n 1 1000 && decide (m=0) && bI s)):=IF hk;have HK:Hid (pJ k):=hk;clear hk
  go_enter func17,ntmps17
  go_wp2_with fail;refine (DB k n m s _ HK.I).mono ?_;rintro e w1 ⟨rfl,hb1⟩;have c0:w1.cell? ⟨w.heap.size,0,n_⟩=o_ (i_ j_ k):=cQ hb1 0;have c1:w1.cell? ⟨w.heap.size,1,n_⟩=o_ (i_ j_ n):=cQ hb1 1;have c2:w1.cell? ⟨w.heap.size,2,n_⟩=o_ (i_ j_ m):=cQ hb1 2;have c3:w1.cell? ⟨w.heap.size,3,n_⟩=o_ (t_ s):=cQ hb1 3;have fQ:Hid (B_ w.heap.size w w1):=((Kp _ _).alloc (Ki _) _).trans (hb1.mono (by simp));have mH:Hid (w.heap.size < w1.heap.size):=by have:=hb1.size; simp only [RR] at this; exact this
  clear hb1;by_cases hm:m=0;rotate_left
  · have hm': ¬ 0=m:=fun h=>hm h.symm
    go_wp2_with fail
    first
      | (go_region_with
      ((first
        | (go_at_call 260
           refine (oJ _ _ _).mono ?_;rintro e w2 ⟨rfl,hb2⟩;obtain ⟨cy,mO,d0,d1,d2,d3⟩:=dQ fQ mH c0 c1 c2 c3 (ev hb2);clear hb2)
        | (go_at_call 36
           refine (mC _ _ _).mono ?_;rintro e w3 ⟨rfl,hb3⟩;obtain ⟨oh,-,f0,f1,f2,f3⟩:=dQ cy mO d0 d1 d2 d3 hb3;clear hb3))))
      | (exact absurd rfl Zc1)
    all_goals go_wp2
    all_goals go_ret
    all_goals exact ⟨al (by rw [HO.I]; simp [hm]),cy.I⟩
  subst hm;by_cases hes:s.toList= []
  rotate_left
  · have hes': ¬ [] =s.toList:=fun h=>hes h.symm
    have hem:bI s=false:=by simp [bI,hes]
    go_wp2_with fail
    first
      | (go_region_with
      ((first
        | (go_at_call 260
           refine (oJ _ _ _).mono ?_;rintro e w2 ⟨rfl,hb2⟩;obtain ⟨cy,mO,d0,d1,d2,d3⟩:=dQ fQ mH c0 c1 c2 c3 (ev hb2);clear hb2)
        | (go_at_call 36
           refine (mC _ _ _).mono ?_;rintro e w3 ⟨rfl,hb3⟩;obtain ⟨oh,-,f0,f1,f2,f3⟩:=dQ cy mO d0 d1 d2 d3 hb3;clear hb3))))
      | (exact absurd rfl Zc1)
    all_goals go_wp2
    all_goals go_ret
    all_goals exact ⟨al (by rw [HO.I]; simp [hem]),cy.I⟩
  have hem:bI s=true:=by simp [bI,hes]
  go_wp2_with fail
  first
    | (go_region_with
    ((first
      | (go_at_call 260
         refine (oJ _ _ _).mono ?_;rintro e w2 ⟨rfl,hb2⟩;obtain ⟨cy,mO,d0,d1,d2,d3⟩:=dQ fQ mH c0 c1 c2 c3 (ev hb2);clear hb2)
      | (go_at_call 36
         refine (mC _ _ _).mono ?_;rintro e w3 ⟨rfl,hb3⟩;obtain ⟨oh,-,f0,f1,f2,f3⟩:=dQ cy mO d0 d1 d2 d3 hb3;clear hb3))))
    | (exact absurd rfl Zc1)
  all_goals go_wp2
  all_goals go_ret
  all_goals exact ⟨al Zdz,oh.I⟩
theorem AB (k n m:Int) (s:ByteArray) (w:w_) (hk:mF k):
    k_ J3 17 #[a_ #[i_ j_ k,i_ j_ n,i_ j_ m,t_ s]] w fun e w'=>e=r_ (b_ (mQ k n m s))∧B_ w.heap.size w w':=by
  have HO:Hid (mQ k n m s=(cv n 1 1000 && cv m (-1) 1000 && bI s)):=Gv hk;have HK:Hid (mF k):=hk;clear hk
  go_enter func17,ntmps17
  go_wp2_with fail;refine (AC k n m s _ HK.I).mono ?_;rintro e w1 ⟨rfl,hb1⟩;have c0:w1.cell? ⟨w.heap.size,0,n_⟩=o_ (i_ j_ k):=cQ hb1 0;have c1:w1.cell? ⟨w.heap.size,1,n_⟩=o_ (i_ j_ n):=cQ hb1 1;have c2:w1.cell? ⟨w.heap.size,2,n_⟩=o_ (i_ j_ m):=cQ hb1 2;have c3:w1.cell? ⟨w.heap.size,3,n_⟩=o_ (t_ s):=cQ hb1 3;have fQ:Hid (B_ w.heap.size w w1):=((Kp _ _).alloc (Ki _) _).trans (hb1.mono (by simp));have mH:Hid (w.heap.size < w1.heap.size):=by have:=hb1.size; simp only [RR] at this; exact this
  clear hb1;by_cases hes:s.toList= []
  rotate_left
  · have hes': ¬ [] =s.toList:=fun h=>hes h.symm
    have hem:bI s=false:=by simp [bI,hes]
    go_wp2_with fail
    first
      | (go_region_with
      ((first
        | (go_at_call 261
           refine (xk _ _ _ _).mono ?_;rintro e w2 ⟨rfl,hb2⟩;obtain ⟨cy,mO,d0,d1,d2,d3⟩:=dQ fQ mH c0 c1 c2 c3 (ev hb2);clear hb2)
        | (go_at_call 36
           refine (sH _ _ _ _).mono ?_;rintro e w3 ⟨rfl,hb3⟩;obtain ⟨oh,-,f0,f1,f2,f3⟩:=dQ cy mO d0 d1 d2 d3 hb3;clear hb3))))
      | (exact absurd rfl Zc1)
    all_goals go_wp2
    all_goals go_ret
    all_goals exact ⟨al (by rw [HO.I]; simp [hem]),cy.I⟩
  have hem:bI s=true:=by simp [bI,hes]
  go_wp2_with fail
  first
    | (go_region_with
    ((first
      | (go_at_call 261
         refine (xk _ _ _ _).mono ?_;rintro e w2 ⟨rfl,hb2⟩;obtain ⟨cy,mO,d0,d1,d2,d3⟩:=dQ fQ mH c0 c1 c2 c3 (ev hb2);clear hb2)
      | (go_at_call 36
         refine (sH _ _ _ _).mono ?_;rintro e w3 ⟨rfl,hb3⟩;obtain ⟨oh,-,f0,f1,f2,f3⟩:=dQ cy mO d0 d1 d2 d3 hb3;clear hb3))))
    | (exact absurd rfl Zc1)
  all_goals go_wp2
  all_goals go_ret
  all_goals exact ⟨al Zdz,oh.I⟩
theorem BY (k n m:Int) (s:ByteArray) (w:w_) (hs:s.size≤1048576) (hk:k=8):
    k_ J3 17 #[a_ #[i_ j_ k,i_ j_ n,i_ j_ m,t_ s]] w fun e w'=>e=r_ (b_ (mQ k n m s))∧B_ w.heap.size w w':=by
  have HO:Hid (mQ k n m s=(cv n 1 1000 && cv m (-1) 1000 && bw s)):=He hk;have HK:Hid (k=8):=hk;clear hk
  go_enter func17,ntmps17
  go_wp2_with fail;refine (AE k n m s _ HK.I).mono ?_;rintro e w1 ⟨rfl,hb1⟩;have c0:w1.cell? ⟨w.heap.size,0,n_⟩=o_ (i_ j_ k):=cQ hb1 0;have c1:w1.cell? ⟨w.heap.size,1,n_⟩=o_ (i_ j_ n):=cQ hb1 1;have c2:w1.cell? ⟨w.heap.size,2,n_⟩=o_ (i_ j_ m):=cQ hb1 2;have c3:w1.cell? ⟨w.heap.size,3,n_⟩=o_ (t_ s):=cQ hb1 3;have fQ:Hid (B_ w.heap.size w w1):=((Kp _ _).alloc (Ki _) _).trans (hb1.mono (by simp));have mH:Hid (w.heap.size < w1.heap.size):=by have:=hb1.size; simp only [RR] at this; exact this
  clear hb1;go_wp2_with fail
  first
    | (go_region_with
    ((first
      | (go_at_call 262
         refine (Fc _ _ _ _ _).mono ?_;rintro e w2 ⟨rfl,hb2⟩;obtain ⟨cy,mO,d0,d1,d2,d3⟩:=dQ fQ mH c0 c1 c2 c3 (ev hb2);clear hb2)
      | (go_at_call 36
         refine (Bc _ _ _ _ _ hs).mono ?_;rintro e w3 ⟨rfl,hb3⟩;obtain ⟨oh,-,f0,f1,f2,f3⟩:=dQ cy mO d0 d1 d2 d3 hb3;clear hb3))))
    | (exact absurd rfl Zc1)
  all_goals go_wp2
  all_goals go_ret
  all_goals exact ⟨al (by rw [HO.I]),oh.I⟩
theorem BN (k n m:Int) (s:ByteArray) (w:w_) (hs:s.size≤1048576) (hk:isText k):
    k_ J3 17 #[a_ #[i_ j_ k,i_ j_ n,i_ j_ m,t_ s]] w fun e w'=>e=r_ (b_ (mQ k n m s))∧B_ w.heap.size w w':=by
  have HO:Hid (mQ k n m s=(cv n 1 1000 && decide (m=0) && bw s)):=F1 hk;have HK:Hid (isText k):=hk;clear hk
  go_enter func17,ntmps17
  go_wp2_with fail;refine (BJ k n m s _ HK.I).mono ?_;rintro e w1 ⟨rfl,hb1⟩;have c0:w1.cell? ⟨w.heap.size,0,n_⟩=o_ (i_ j_ k):=cQ hb1 0;have c1:w1.cell? ⟨w.heap.size,1,n_⟩=o_ (i_ j_ n):=cQ hb1 1;have c2:w1.cell? ⟨w.heap.size,2,n_⟩=o_ (i_ j_ m):=cQ hb1 2;have c3:w1.cell? ⟨w.heap.size,3,n_⟩=o_ (t_ s):=cQ hb1 3;have fQ:Hid (B_ w.heap.size w w1):=((Kp _ _).alloc (Ki _) _).trans (hb1.mono (by simp));have mH:Hid (w.heap.size < w1.heap.size):=by have:=hb1.size; simp only [RR] at this; exact this
  clear hb1;by_cases hm:m=0;rotate_left
  · have hm': ¬ 0=m:=fun h=>hm h.symm
    go_wp2_with fail
    first
      | (go_region_with
      ((first
        | (go_at_call 263
           refine (xS _ _ _ _).mono ?_;rintro e w2 ⟨rfl,hb2⟩;obtain ⟨cy,mO,d0,d1,d2,d3⟩:=dQ fQ mH c0 c1 c2 c3 (ev hb2);clear hb2)
        | (go_at_call 36
           refine (sL _ _ _ _ hs).mono ?_;rintro e w3 ⟨rfl,hb3⟩;obtain ⟨oh,-,f0,f1,f2,f3⟩:=dQ cy mO d0 d1 d2 d3 hb3;clear hb3))))
      | (exact absurd rfl Zc1)
    all_goals go_wp2
    all_goals go_ret
    all_goals exact ⟨al (by rw [HO.I]; simp [hm]),cy.I⟩
  subst hm;go_wp2_with fail
  first
    | (go_region_with
    ((first
      | (go_at_call 263
         refine (xS _ _ _ _).mono ?_;rintro e w2 ⟨rfl,hb2⟩;obtain ⟨cy,mO,d0,d1,d2,d3⟩:=dQ fQ mH c0 c1 c2 c3 (ev hb2);clear hb2)
      | (go_at_call 36
         refine (sL _ _ _ _ hs).mono ?_;rintro e w3 ⟨rfl,hb3⟩;obtain ⟨oh,-,f0,f1,f2,f3⟩:=dQ cy mO d0 d1 d2 d3 hb3;clear hb3))))
    | (exact absurd rfl Zc1)
  all_goals go_wp2
  all_goals go_ret
  all_goals exact ⟨al Zdz,oh.I⟩
theorem zY (k n m:Int) (s:ByteArray) (w:w_) (hk:k=17):
    k_ J3 17 #[a_ #[i_ j_ k,i_ j_ n,i_ j_ m,t_ s]] w fun e w'=>e=r_ (b_ (mQ k n m s))∧B_ w.heap.size w w':=by
  have HO:Hid (mQ k n m s=(decide (n=0) && decide (m=0) && bI s)):=Gm hk;have HK:Hid (k=17):=hk;clear hk
  go_enter func17,ntmps17
  go_wp2_with fail;refine (Ag k n m s _ HK.I).mono ?_;rintro e w1 ⟨rfl,hb1⟩;have c0:w1.cell? ⟨w.heap.size,0,n_⟩=o_ (i_ j_ k):=cQ hb1 0;have c1:w1.cell? ⟨w.heap.size,1,n_⟩=o_ (i_ j_ n):=cQ hb1 1;have c2:w1.cell? ⟨w.heap.size,2,n_⟩=o_ (i_ j_ m):=cQ hb1 2;have c3:w1.cell? ⟨w.heap.size,3,n_⟩=o_ (t_ s):=cQ hb1 3;have fQ:Hid (B_ w.heap.size w w1):=((Kp _ _).alloc (Ki _) _).trans (hb1.mono (by simp));have mH:Hid (w.heap.size < w1.heap.size):=by have:=hb1.size; simp only [RR] at this; exact this
  clear hb1;by_cases hn:n=0;rotate_left
  · have hn': ¬ 0=n:=fun h=>hn h.symm
    go_wp2_with fail
    first
      | (go_region_with
      ((first
        | (go_at_call 264
           refine (pu _ _).mono ?_;rintro e w2 ⟨rfl,hb2⟩;obtain ⟨cy,mO,d0,d1,d2,d3⟩:=dQ fQ mH c0 c1 c2 c3 (ev hb2);clear hb2)
        | (go_at_call 36
           refine (my _ _).mono ?_;rintro e w3 ⟨rfl,hb3⟩;obtain ⟨oh,-,f0,f1,f2,f3⟩:=dQ cy mO d0 d1 d2 d3 hb3;clear hb3))))
      | (exact absurd rfl Zc1)
    all_goals go_wp2
    all_goals go_ret
    all_goals exact ⟨al (by rw [HO.I]; simp [hn]),cy.I⟩
  subst hn;by_cases hm:m=0;rotate_left
  · have hm': ¬ 0=m:=fun h=>hm h.symm
    go_wp2_with fail
    first
      | (go_region_with
      ((first
        | (go_at_call 264
           refine (pu _ _).mono ?_;rintro e w2 ⟨rfl,hb2⟩;obtain ⟨cy,mO,d0,d1,d2,d3⟩:=dQ fQ mH c0 c1 c2 c3 (ev hb2);clear hb2)
        | (go_at_call 36
           refine (my _ _).mono ?_;rintro e w3 ⟨rfl,hb3⟩;obtain ⟨oh,-,f0,f1,f2,f3⟩:=dQ cy mO d0 d1 d2 d3 hb3;clear hb3))))
      | (exact absurd rfl Zc1)
    all_goals go_wp2
    all_goals go_ret
    all_goals exact ⟨al (by rw [HO.I]; simp [hm]),cy.I⟩
  subst hm;by_cases hes:s.toList= []
  rotate_left
  · have hes': ¬ [] =s.toList:=fun h=>hes h.symm
    have hem:bI s=false:=by simp [bI,hes]
    go_wp2_with fail
    first
      | (go_region_with
      ((first
        | (go_at_call 264
           refine (pu _ _).mono ?_;rintro e w2 ⟨rfl,hb2⟩;obtain ⟨cy,mO,d0,d1,d2,d3⟩:=dQ fQ mH c0 c1 c2 c3 (ev hb2);clear hb2)
        | (go_at_call 36
           refine (my _ _).mono ?_;rintro e w3 ⟨rfl,hb3⟩;obtain ⟨oh,-,f0,f1,f2,f3⟩:=dQ cy mO d0 d1 d2 d3 hb3;clear hb3))))
      | (exact absurd rfl Zc1)
    all_goals go_wp2
    all_goals go_ret
    all_goals exact ⟨al (by rw [HO.I]; simp [hem]),cy.I⟩
  have hem:bI s=true:=by simp [bI,hes]
  go_wp2_with fail
  first
    | (go_region_with
    ((first
      | (go_at_call 264
         refine (pu _ _).mono ?_;rintro e w2 ⟨rfl,hb2⟩;obtain ⟨cy,mO,d0,d1,d2,d3⟩:=dQ fQ mH c0 c1 c2 c3 (ev hb2);clear hb2)
      | (go_at_call 36
         refine (my _ _).mono ?_;rintro e w3 ⟨rfl,hb3⟩;obtain ⟨oh,-,f0,f1,f2,f3⟩:=dQ cy mO d0 d1 d2 d3 hb3;clear hb3))))
    | (exact absurd rfl Zc1)
  all_goals go_wp2
  all_goals go_ret
  all_goals exact ⟨al Zdz,oh.I⟩
theorem AY (k n m:Int) (s:ByteArray) (w:w_) (hk: ¬ (1≤k∧k≤17)):
    k_ J3 17 #[a_ #[i_ j_ k,i_ j_ n,i_ j_ m,t_ s]] w fun e w'=>e=r_ (b_ (mQ k n m s))∧B_ w.heap.size w w':=by
  rw [Bd hk]
  go_enter func17,ntmps17
  go_wp2_with fail;refine (BR k n m s _ hk).mono ?_;rintro e w1 ⟨rfl,hb1⟩;have fQ:Hid (B_ w.heap.size w w1):=((Kp _ _).alloc (Ki _) _).trans (hb1.mono (by simp));clear hb1;go_wp2_with fail
  go_quiet (fail)
  go_wp2;go_ret;exact ⟨rfl,bd fQ.I _⟩
theorem yx (k n m:Int) (s:ByteArray) (w:w_) (hs:s.size≤1048576):
    k_ J3 17 #[a_ #[i_ j_ k,i_ j_ n,i_ j_ m,t_ s]] w fun e w'=>e=r_ (b_ (mQ k n m s))∧B_ w.heap.size w w':=by
  by_cases h0:1≤k∧k≤17
  · by_cases h1:pJ k
    · exact Du k n m s w h1
    by_cases h2:mF k
    · exact AB k n m s w h2
    by_cases h3:isText k
    · exact BN k n m s w hs h3
    by_cases h4:k=8
    · exact BY k n m s w hs h4
    exact zY k n m s w ZdA
  · exact AY k n m s w h0
end
section
open Go.RowKit
structure bD where
 id:Int
 n:Int
 max:Int
def yz (x:bD):List v_:= [i_ j_ x.id,i_ j_ x.n,i_ j_ x.max]
def dm:Kind bD:=⟨3,yz,fun _=> [],by decide,fun _=>rfl⟩
def bD.At (w:w_) (g i:Nat) (x:bD):Prop:=w.cell? ⟨g,i * 3,n_⟩=o_ (i_ j_ x.id)∧w.cell? ⟨g,i * 3+1,n_⟩=o_ (i_ j_ x.n)∧w.cell? ⟨g,i * 3+2,n_⟩=o_ (i_ j_ x.max)
theorem lQ {w:w_} {a:Option d_} {l:List bD} (h:dm.bU w a l) {i:Nat} {x:bD} (hx:l[i]? =o_ x): ∃ g,a=o_ ⟨g,0,n_⟩∧bD.At w g i x:=by
 exact Za2
structure aB where
 id:Int
 up:Bool
def rY (x:aB):List v_:= [i_ j_ x.id,b_ x.up]
def bJ:Kind aB:=⟨2,rY,fun _=> [],by decide,fun _=>rfl⟩
def aB.At (w:w_) (g i:Nat) (x:aB):Prop:=w.cell? ⟨g,i * 2,n_⟩=o_ (i_ j_ x.id)∧w.cell? ⟨g,i * 2+1,n_⟩=o_ (b_ x.up)
theorem j4 {w:w_} {a:Option d_} {l:List aB} (h:bJ.bU w a l) {i:Nat} {x:aB} (hx:l[i]? =o_ x): ∃ g,a=o_ ⟨g,0,n_⟩∧aB.At w g i x:=by
 obtain ⟨g,e,hc⟩:=h.at hx;exact ⟨g,e,hc 0 _ rfl,hc 1 _ rfl⟩
structure az where
 id:Int
 shown:Bool
 text:ByteArray
def sn (x:az):List v_:= [i_ j_ x.id,b_ x.shown,t_ x.text]
def bG:Kind az:=⟨3,sn,fun _=> [],by decide,fun _=>rfl⟩
def az.At (w:w_) (g i:Nat) (x:az):Prop:=w.cell? ⟨g,i * 3,n_⟩=o_ (i_ j_ x.id)∧w.cell? ⟨g,i * 3+1,n_⟩=o_ (b_ x.shown)∧w.cell? ⟨g,i * 3+2,n_⟩=o_ (t_ x.text)
theorem jr {w:w_} {a:Option d_} {l:List az} (h:bG.bU w a l) {i:Nat} {x:az} (hx:l[i]? =o_ x): ∃ g,a=o_ ⟨g,0,n_⟩∧az.At w g i x:=by
 exact Za2
structure ci where
 id:Int
 max:Int
 Ma:List ByteArray
structure au extends ci where
 ak:Option d_
 aq:Nat
def nD (x:au):List v_:= [i_ j_ x.id,i_ j_ x.max,s_ x.ak x.Ma.length x.aq]
def bm:Kind au:=⟨3,nD,fun x=> [(x.ak,bT.flat x.Ma)],by decide,fun _=>rfl⟩
def au.At (w:w_) (g i:Nat) (x:au):Prop:=w.cell? ⟨g,i * 3,n_⟩=o_ (i_ j_ x.id)∧w.cell? ⟨g,i * 3+1,n_⟩=o_ (i_ j_ x.max)∧w.cell? ⟨g,i * 3+2,n_⟩=o_ (s_ x.ak x.Ma.length x.aq)
theorem iA {w:w_} {a:Option d_} {l:List au} (h:bm.bU w a l) {i:Nat} {x:au} (hx:l[i]? =o_ x): ∃ g,a=o_ ⟨g,0,n_⟩∧au.At w g i x:=by
 exact Za2
theorem lj {w:w_} {a:Option d_} {l:List au} (h:bm.bU w a l) {i:Nat} {x:au} (hx:l[i]? =o_ x):Row w x.ak (bT.flat x.Ma):=h.bt hx (r:=(x.ak,bT.flat x.Ma)) (by simp [bm])
structure dS where
 id:Int
 I:Bool
 Mf:Bool
 max:Int
 Ma:List ByteArray
structure aM extends dS where
 ak:Option d_
 aq:Nat
def qT (x:aM):List v_:= [i_ j_ x.id,b_ x.I,b_ x.Mf,i_ j_ x.max,s_ x.ak x.Ma.length x.aq]
def bX:Kind aM:=⟨5,qT,fun x=> [(x.ak,bT.flat x.Ma)],by decide,fun _=>rfl⟩
def aM.At (w:w_) (g i:Nat) (x:aM):Prop:=w.cell? ⟨g,i * 5,n_⟩=o_ (i_ j_ x.id)∧w.cell? ⟨g,i * 5+1,n_⟩=o_ (b_ x.I)∧w.cell? ⟨g,i * 5+2,n_⟩=o_ (b_ x.Mf)∧w.cell? ⟨g,i * 5+3,n_⟩=o_ (i_ j_ x.max)∧w.cell? ⟨g,i * 5+4,n_⟩=o_ (s_ x.ak x.Ma.length x.aq)
theorem lm {w:w_} {a:Option d_} {l:List aM} (h:bX.bU w a l) {i:Nat} {x:aM} (hx:l[i]? =o_ x): ∃ g,a=o_ ⟨g,0,n_⟩∧aM.At w g i x:=by
 obtain ⟨g,e,hc⟩:=h.at hx;exact ⟨g,e,hc 0 _ rfl,hc 1 _ rfl,hc 2 _ rfl,hc 3 _ rfl,hc 4 _ rfl⟩
theorem nJ {w:w_} {a:Option d_} {l:List aM} (h:bX.bU w a l) {i:Nat} {x:aM} (hx:l[i]? =o_ x):Row w x.ak (bT.flat x.Ma):=h.bt hx (r:=(x.ak,bT.flat x.Ma)) (by simp [bX])
structure aD where
 id:Int
 RX:Int
 prog:List dN
 Md:Int
 pc:Int
 left:Int
 Mg:Int
 on:Int
 held:ByteArray
 got:ByteArray
 code:Int
 RU:Int
structure ao extends aD where
 aY:Option d_
 bH:Nat
def qN (x:ao):List v_:= [i_ j_ x.id,i_ j_ x.RX,s_ x.aY x.prog.length x.bH,i_ j_ x.Md,i_ j_ x.pc,i_ j_ x.left,i_ j_ x.Mg,i_ j_ x.on,t_ x.held,t_ x.got,i_ j_ x.code,i_ j_ x.RU]
def bg:Kind ao:=⟨12,qN,fun x=> [(x.aY,fk.flat x.prog)],by decide,fun _=>rfl⟩
def ao.At (w:w_) (g i:Nat) (x:ao):Prop:=w.cell? ⟨g,i * 12,n_⟩=o_ (i_ j_ x.id)∧w.cell? ⟨g,i * 12+1,n_⟩=o_ (i_ j_ x.RX)∧w.cell? ⟨g,i * 12+2,n_⟩=o_ (s_ x.aY x.prog.length x.bH)∧w.cell? ⟨g,i * 12+3,n_⟩=o_ (i_ j_ x.Md)∧w.cell? ⟨g,i * 12+4,n_⟩=o_ (i_ j_ x.pc)∧w.cell? ⟨g,i * 12+5,n_⟩=o_ (i_ j_ x.left)∧w.cell? ⟨g,i * 12+6,n_⟩=o_ (i_ j_ x.Mg)∧w.cell? ⟨g,i * 12+7,n_⟩=o_ (i_ j_ x.on)∧w.cell? ⟨g,i * 12+8,n_⟩=o_ (t_ x.held)∧w.cell? ⟨g,i * 12+9,n_⟩=o_ (t_ x.got)∧w.cell? ⟨g,i * 12+10,n_⟩=o_ (i_ j_ x.code)∧w.cell? ⟨g,i * 12+11,n_⟩=o_ (i_ j_ x.RU)
theorem cn {w:w_} {a:Option d_} {l:List ao} (h:bg.bU w a l) {i:Nat} {x:ao} (hx:l[i]? =o_ x): ∃ g,a=o_ ⟨g,0,n_⟩∧ao.At w g i x:=by
 obtain ⟨g,e,hc⟩:=h.at hx;exact ⟨g,e,hc 0 _ rfl,hc 1 _ rfl,hc 2 _ rfl,hc 3 _ rfl,hc 4 _ rfl,hc 5 _ rfl,hc 6 _ rfl,hc 7 _ rfl,hc 8 _ rfl,hc 9 _ rfl,hc 10 _ rfl,hc 11 _ rfl⟩
theorem lA {w:w_} {a:Option d_} {l:List ao} (h:bg.bU w a l) {i:Nat} {x:ao} (hx:l[i]? =o_ x):Row w x.aY (fk.flat x.prog):=h.bt hx (r:=(x.aY,fk.flat x.prog)) (by simp [bg])
structure af where
 id:Int
 next:Int
 L8:List ao
 aN:Option d_
 aW:Nat
 aj:List bD
 bc:Option d_
 bF:Nat
 L9:List aB
 ay:Option d_
 aO:Nat
 ag:List az
 ax:Option d_
 aP:Nat
 ae:List au
 am:Option d_
 aG:Nat
 ai:List aM
 aK:Option d_
 aV:Nat
def af.cells (p:af):Array v_:= #[i_ j_ p.id,i_ j_ p.next,s_ p.aN p.L8.length p.aW,s_ p.bc p.aj.length p.bF,s_ p.ay p.L9.length p.aO,s_ p.ax p.ag.length p.aP,s_ p.am p.ae.length p.aG,s_ p.aK p.ai.length p.aV]
def af.At (w:w_) (p:af):Prop:=bg.bU w p.aN p.L8∧dm.bU w p.bc p.aj∧bJ.bU w p.ay p.L9∧bG.bU w p.ax p.ag∧bm.bU w p.am p.ae∧bX.bU w p.aK p.ai
theorem af.At.below {w w':w_} {p:af} (h:af.At w p) (hb:B_ w.heap.size w w'):af.At w' p:=⟨h.1.below hb,h.2.1.below hb,h.2.2.1.below hb,h.2.2.2.1.below hb,h.2.2.2.2.1.below hb,h.2.2.2.2.2.below hb⟩
structure aE where
 id:Int
 next:Int
 L8:List aD
 aj:List bD
 L9:List aB
 ag:List az
 ae:List ci
 ai:List dS
def af.pure (p:af):aE:=⟨p.id,p.next,p.L8.map (·.toaD),p.aj,p.L9,p.ag,p.ae.map (·.toci),p.ai.map (·.todS)⟩
def place (l:List Int) (id:Int) (i:Nat):Int:=match l with
 | [] => -1
 | x :: r=>if x=id then i else place r id (i+1)
theorem z8: ∀ (l:List Int) (id:Int) (i:Nat),place l id i= -1∨(i:Int)≤place l id i
 | [],_,_=> .inl rfl
 | y :: r,id,i=>by
  simp only [place]
  split
  ·exact .inr (by omega)
  ·rcases z8 r id (i+1) with h | h
   ·exact .inl h
   ·exact .inr (by omega)
theorem nN: ∀ {l:List Int} {id:Int} {i:Nat},place l id i= -1↔id∉l
 | [],id,i=>by simp [place]
 | y :: r,id,i=>by
  simp only [place,Kt,not_or]
  split
  ·rename_i h
   constructor
   ·intro h2; omega
   ·intro h2; exact absurd h.symm h2.1
  ·rename_i h
   rw [nN (l:=r)];exact ⟨fun h2=>⟨fun e=>h e.symm,h2⟩,fun h2=>h2.2⟩
theorem ku {l:List Int} {id:Int} {k:Nat} (h:id∉l.take k) {x:Int} (hx:l[k]? =o_ x) (e:x=id):place l id 0=k:=by
 have hk:k < l.length:=(Lj.1 hx).1;have e1:l=l.take k ++ x :: l.drop (k+1):=by
  have:=Qn k l
  rw [adH hk] at this;rw [← this];rw [Kz hk] at hx;cases hx;simp
 have key: ∀ (t:List Int) (i:Nat),id∉t→place (t ++ x :: l.drop (k+1)) id i=((i+t.length:Nat):Int):=by
  intro t
  induction t with
  | nil=>intro i _; simp [place,e]
  | cons y r ih=>
   intro i hn;simp only [Kt,not_or] at hn;simp only [Qw,place];rw [if_neg (fun h=>hn.1 h.symm),ih (i+1) hn.2];simp only [Lg];rw [show i+1+r.length=i+(r.length+1) by omega]
 have:=key (l.take k) 0 h
 rw [← e1] at this;rw [this,Lk]
 congr 1
 omega
abbrev af.row (p:af):Array v_:= #[i_ j_ p.id,i_ j_ p.next,s_ p.aN p.L8.length p.aW,s_ p.bc p.aj.length p.bF,s_ p.ay p.L9.length p.aO,s_ p.ax p.ag.length p.aP,s_ p.am p.ae.length p.aG,s_ p.aK p.ai.length p.aV]
abbrev af.L6 (p:af) (g:Nat):Array v_:= #[i_ j_ p.id,i_ j_ p.next,s_ (o_ ⟨g,0,n_⟩) p.L8.length p.aW,s_ p.bc p.aj.length p.bF,s_ p.ay p.L9.length p.aO,s_ p.ax p.ag.length p.aP,s_ p.am p.ae.length p.aG,s_ p.aK p.ai.length p.aV]
abbrev ao.row (x:ao):Array v_:= #[i_ j_ x.id,i_ j_ x.RX,s_ x.aY x.prog.length x.bH,i_ j_ x.Md,i_ j_ x.pc,i_ j_ x.left,i_ j_ x.Mg,i_ j_ x.on,t_ x.held,t_ x.got,i_ j_ x.code,i_ j_ x.RU]
abbrev ar:Array v_:= #[i_ j_ 0,i_ j_ 0,s_ n_ 0 0,s_ n_ 0 0,s_ n_ 0 0,s_ n_ 0 0,s_ n_ 0 0,s_ n_ 0 0]
abbrev cE:Array v_:= #[i_ j_ 0,i_ j_ 0,s_ n_ 0 0,i_ j_ 0,i_ j_ 0,i_ j_ 0,i_ j_ 0,i_ j_ 0,t_ ⟨#[]⟩,t_ ⟨#[]⟩,i_ j_ 0,i_ j_ 0]
theorem vv (g len cap:Nat) (K N M:Nat→Int) (S:Nat→ByteArray) (w:w_) (hl:len≤1048576) (hs: ∀ i,i < len→(S i).size≤1048576) (hr:iG w g len K N M S):
  k_ J3 103 #[s_ (o_ ⟨g,0,n_⟩) len cap] w fun e w'=>e=r_ (b_ (nq len K N M S))∧B_ w.heap.size w w':=by
 have HR:Hid (iG w g len K N M S):=hr;have HS:Hid (∀ i,i < len→(S i).size≤1048576):=hs;clear hr hs
 go_enter func103,ntmps103
 go_wp2
 go_loopw [3] (fun i wr=> ∃ k:Nat,k≤len∧i=i_ j_ k∧(∀ j,j < k→j8 K N M S j=true)∧B_ w.heap.size w wr) (fun i _=>len - (intOf i).toNat)
 case atStart=>exact ⟨0,Ky _,rfl,fun j hj=>absurd hj (by omega),Kp _ _⟩
 case round=>
  obtain ⟨k,hk,rfl,hall,kj⟩:=hrel;have HA:Hid (∀ j,j < k→j8 K N M S j=true):=hall;have HB:Hid (B_ w.heap.size w wr):=kj;have HW:Hid (iG wr g len K N M S):=HR.I.below kj;clear hall kj;by_cases hlt:k < len
  ·have c0:=HW.I.c0 hlt
   have c1:=HW.I.c1 hlt;have c2:=HW.I.c2 hlt;have c3:=HW.I.c3 hlt;have i0:(0:Int)≤(k:Int):=by omega
   have i1:(k:Int) < (len:Int):=by omega
   go_wp2_with fail;refine (xZ (K k) (N k) (M k) (S k) wr (HS.I k hlt)).mono ?_;rintro e w1 ⟨rfl,hb1⟩;have fQ:Hid (B_ w.heap.size w w1):=HB.I.trans (hb1.mono HB.I.size);exact y_
  ·have e:k=len:=by omega
   subst e;by_cases h1:1≤k
   ·have h1':(1:Int)≤(k:Int):=by omega
    by_cases h2:k≤20
    ·have h2':(k:Int)≤20:=by omega
     go_wp2;go_ret;exact ⟨al (by rw [vM ⟨h1,h2,HA.I⟩]),HB.I⟩
    ·have h2': ¬ (k:Int)≤20:=by omega
     go_wp2;go_ret;exact ⟨al (by rw [iS (fun h=>h2 h.2.1)]),HB.I⟩
   ·have h1': ¬ (1:Int)≤(k:Int):=by omega
    go_wp2;go_ret;exact ⟨al (by rw [iS (fun h=>h1 h.1)]),HB.I⟩
theorem tV (g len cap:Nat) (K N M:Nat→Int) (S:Nat→ByteArray) (w:w_) (hl:len≤1048576) (hs: ∀ i,i < len→(S i).size≤1048576) (hr:iG w g len K N M S):
  k_ J3 233 #[s_ (o_ ⟨g,0,n_⟩) len cap] w fun e w'=>e=r_ (b_ (nq len K N M S))∧B_ w.heap.size w w':=by
 have HR:Hid (iG w g len K N M S):=hr;have HS:Hid (∀ i,i < len→(S i).size≤1048576):=hs;clear hr hs;by_cases h1: ¬ 1≤len
 ·have h1':(len:Int) < 1:=by omega
  go_enter func233,ntmps233
  go_wp2;go_ret;exact ⟨al (iS (fun h=>h1 h.1)).symm,Kp _ _⟩
 have h1': ¬ (len:Int) < 1:=by omega
 by_cases h2:20 < len
 ·have h2':(20:Int) < (len:Int):=by omega
  go_enter func233,ntmps233
  go_wp2;go_ret;exact ⟨al (iS (fun h=>by omega)).symm,Kp _ _⟩
 have h2': ¬ (20:Int) < (len:Int):=by omega
 go_enter func233,ntmps233
 go_wp2_with fail
 go_loopw [15] (fun i wr=> ∃ k:Nat,k≤len∧i=i_ j_ k∧(∀ j,j < k→j8 K N M S j=true)∧B_ w.heap.size w wr) (fun i _=>len - (intOf i).toNat)
 case atStart=>exact ⟨0,Ky _,rfl,fun j hj=>absurd hj (by omega),Kp _ _⟩
 case round=>
  obtain ⟨k,hk,rfl,hall,kj⟩:=hrel;have HA:Hid (∀ j,j < k→j8 K N M S j=true):=hall;have HB:Hid (B_ w.heap.size w wr):=kj;have HW:Hid (iG wr g len K N M S):=HR.I.below kj;clear hall kj;by_cases hlt:k < len
  ·have c0:=HW.I.c0 hlt
   have c1:=HW.I.c1 hlt;have c2:=HW.I.c2 hlt;have c3:=HW.I.c3 hlt;have i0:(0:Int)≤(k:Int):=by omega
   have i1:(k:Int) < (len:Int):=by omega
   have hgl:=HW.I.1;go_wp2_with fail;refine (yx (K k) (N k) (M k) (S k) _ (HS.I k hlt)).mono ?_;rintro e w1 ⟨rfl,hb1⟩;have fQ:Hid (B_ w.heap.size w w1):=(HB.I.alloc HB.I.size _).trans (hb1.mono (by have:=HB.I.size; simp; omega));exact y_
  ·have e:k=len:=by omega
   subst e;go_wp2;go_ret;exact ⟨al (vM ⟨by omega,by omega,HA.I⟩).symm,HB.I⟩
def gO:List dN→List v_
 | [] => []
 | o :: os=> i_ j_ o.1 :: i_ j_ o.2.1 :: i_ j_ o.2.2.1 :: t_ o.2.2.2 :: gO os
theorem pK: ∀ (os os':List dN),gO (os ++ os')=gO os ++ gO os'
 | [],_=>rfl
 | o :: os,os'=>by simp [gO,pK os os']
theorem xU: ∀ (os:List dN) (j:Nat),j < os.length * 4→(gO os)[j]? =o_ (xe (Cd os) (Cg os) (Ea os) (Ce os) j)
 | [],j,h=>by simp at h
 | o :: os,j,h=>by
  have hk: ∀ i,Cd (o :: os) (i+1)=Cd os i∧Cg (o :: os) (i+1)=Cg os i∧Ea (o :: os) (i+1)=Ea os i∧Ce (o :: os) (i+1)=Ce os i:=fun i=>by simp [Cd,Cg,Ea,Ce]
  match j,h with
  | 0,_=>simp [gO,xe,Cd]
  | 1,_=>simp [gO,xe,Cg]
  | 2,_=>simp [gO,xe,Ea]
  | 3,_=>simp [gO,xe,Ce]
  | j+4,h=>
   have ih:=xU os j (by simp at h; omega);have e1:(j+4) / 4=j / 4+1:=by omega
   have e2:(j+4) % 4=j % 4:=by omega
   obtain ⟨h1,h2,h3,h4⟩:=hk (j / 4);simp only [gO,List.getElem?_cons_succ];rw [ih];simp only [xe,e1,e2,h1,h2,h3,h4]
theorem Fa {w:w_} {base n:Nat} {v:v_} {os:List dN} (h:w.ownsRow base 40 4 v n (gO os)) (hn:n=os.length):(v=s_ n_ 0 0∧os.length=0)∨ ∃ g c,v=s_ (o_ ⟨g,0,n_⟩) os.length c∧base≤g∧y9 w g os∧ ∃ cur:Array v_,w.heap[g]? =o_ (c_ cur 40)∧os.length * 4≤cur.size∧ ∀ j,j < os.length * 4→cur[j]? =o_ (xe (Cd os) (Cg os) (Ea os) (Ce os) j):=by
 subst hn;rcases h.2 with ⟨h1,h2⟩ | ⟨g,cap,cur,h1,h2,h3,h4,h5,h6,h7⟩
 ·exact .inl ⟨h1,h2⟩
 ·have key: ∀ j,j < os.length * 4→cur[j]? =o_ (xe (Cd os) (Cg os) (Ea os) (Ce os) j):=fun j hj=>by
   rw [← xU os j hj,← h7,List.getElem?_take_of_lt (by omega)];simp
  refine .inr ⟨g,cap,h1,h2,⟨(J2.1 h3).1,fun j hj=> ?_⟩,cur,h3,by omega,key⟩;rw [K5 _ _ _ _ _ _ h3];exact key j hj
theorem nt (os:List dN) (o:dN):(os ++ [o]).length=os.length+1:=by simp
structure mM (r:Nat) (a:Option d_) (len cap:Nat) (w x:w_) (g c:Nat) (os:List dN):Prop where
 own:x.ownsRow w.heap.size 40 4 (s_ (o_ ⟨g,0,n_⟩) os.length c) os.length (gO os)
 but:gG r w x
 rd:Rd r a len cap x
 st:Rd r a len cap w
 sz: ∀ o∈os,o.2.2.2.size≤3
theorem mM.form {r:Nat} {a:Option d_} {len cap:Nat} {w x:w_} {g c:Nat} {os:List dN} (h:mM r a len cap w x g c os):w.heap.size≤g∧y9 x g os:=by
 rcases Fa h.own rfl with ⟨h1,_⟩ | ⟨g',c',h1,h2,h3,_⟩
 ·cases h1
 ·cases h1
  exact ⟨h2,h3⟩
theorem mM.move {r:Nat} {a:Option d_} {len cap:Nat} {w x y:w_} {g c:Nat} {os:List dN} (h:mM r a len cap w x g c os) (hb:gG r x y) (hr:Rd r a len cap y):mM r a len cap w y g c os:=
 ⟨AJ h.own hb h.st.lt,h.but.trans hb,hr,h.st,h.sz⟩
theorem mM.alloc {r:Nat} {a:Option d_} {len cap:Nat} {w x:w_} {g c:Nat} {os:List dN} (h:mM r a len cap w x g c os) (o:Obj):mM r a len cap w (x.alloc o) g c os:=
 h.move ((gG.refl _ _).alloc _) (h.rd.below ((Kp _ _).alloc (Ki _) _))
theorem mM.next {r:Nat} {a:Option d_} {len cap:Nat} {w x w5:w_} {g c g' c':Nat} {os:List dN} {o:dN} (h:mM r a len cap w x g c os) (hz:o.2.2.2.size≤3) (hg:x.grownBy w5 (o_ g))
  (hown:w5.ownsRow w.heap.size 40 4 (s_ (o_ ⟨g',0,n_⟩) (os.length+1) c') (os.length+1) (gO os ++ [i_ j_ o.1,i_ j_ o.2.1,i_ j_ o.2.2.1,t_ o.2.2.2])):mM r a len cap w w5 g' c' (os ++ [o]):=by
 have hf:=h.form.1;have hb:gG r w w5:=h.but.grown hg (fun k hk=>by cases hk; exact hf);obtain ⟨p,hp,hrow⟩:=h.rd.1;have hrl:=h.st.lt;have hrow5:w5.heap[r]? =o_ (c_ #[s_ a len cap,i_ j_ p] 104):=(hg.block r (J2.1 hrow).1 (fun e=>by cases e; omega)).trans hrow;refine ⟨?_,hb,⟨⟨p,hp,hrow5⟩,h.st.2.but hb⟩,h.st,fun q hq=> ?_⟩
 ·rw [pK,nt]
  simpa [gO] using hown
 ·rcases Kg.1 hq with hq | hq
  ·exact h.sz q hq
  ·rw [KB] at hq; subst hq; exact hz
theorem nh {l:List Int} {k:Nat} {id x:Int} (h:id∉l.take k) (hx:l[k]? =o_ x) (hne: ¬ x=id):id∉l.take (k+1):=by
 have hk:k < l.length:=(Lj.1 hx).1;rw [QE hk,Kg,KB];rw [Kz hk] at hx;cases hx;rintro (h1 | h1)
 ·exact h h1
 ·exact hne h1.symm
theorem jg {l:List Int} {k:Nat} {id:Int} (h:id∉l.take k) (hk:l.length≤k):place l id 0= -1:=by
 rw [KF hk] at h;exact nN.2 h
theorem lS (p:af) (id:Int) (w:w_) (hl:p.L8.length≤1048576) (h:af.At w p):
  k_ J3 192 #[a_ p.cells,i_ j_ id] w fun e w'=>e=r_ (i_ j_ (place (p.L8.map (·.id)) id 0))∧B_ w.heap.size w w':=by
 have H:Hid (bg.bU (w.alloc (c_ p.cells 36)) p.aN p.L8∧B_ w.heap.size w (w.alloc (c_ p.cells 36))):=⟨h.1.below ((Kp _ _).alloc (Ki _) _),(Kp _ _).alloc (Ki _) _⟩
 have q:(w.alloc (c_ p.cells 36)).cell? ⟨w.heap.size,2,n_⟩=o_ (s_ p.aN p.L8.length p.aW):=by rw [K5 _ _ _ _ _ _ (Kj _ _)]; rfl
 clear h;unfold af.cells at *
 go_enter func192,ntmps192
 go_wp2_with fail;generalize w.alloc (c_ p.row 36)=W at *
 go_loop [5] (fun i=> ∃ k:Nat,k≤p.L8.length∧i=i_ j_ k∧Hid (id∉(p.L8.map (·.id)).take k)) (fun i=>p.L8.length - (intOf i).toNat)
 case atStart=>exact ⟨0,Ky _,rfl,(by simp:id∉(p.L8.map (·.id)).take 0)⟩
 case round=>
  obtain ⟨k,hk,rfl,HA⟩:=hrel;by_cases hlt:k < p.L8.length
  ·have i0:(0:Int)≤(k:Int):=by omega
   have i1:(k:Int) < (p.L8.length:Int):=by omega
   obtain ⟨x,hx⟩: ∃ x,p.L8[k]? =o_ x:=⟨_,Kz hlt⟩
   have HX:Hid ((p.L8.map (·.id))[k]? =o_ x.id):=by show _=_; rw [Kk,hx]; rfl
   obtain ⟨g,ha,hat⟩:=cn H.I.1 hx;exact ba
  ·have i1: ¬ (k:Int) < (p.L8.length:Int):=by omega
   exact S_
theorem lw (p:af) (id:Int) (w:w_) (hl:p.aj.length≤1048576) (h:af.At w p):
  k_ J3 154 #[a_ p.cells,i_ j_ id] w fun e w'=>e=r_ (i_ j_ (place (p.aj.map (·.id)) id 0))∧B_ w.heap.size w w':=by
 have H:Hid (dm.bU (w.alloc (c_ p.cells 36)) p.bc p.aj∧B_ w.heap.size w (w.alloc (c_ p.cells 36))):=⟨h.2.1.below ((Kp _ _).alloc (Ki _) _),(Kp _ _).alloc (Ki _) _⟩
 have q:(w.alloc (c_ p.cells 36)).cell? ⟨w.heap.size,3,n_⟩=o_ (s_ p.bc p.aj.length p.bF):=by rw [K5 _ _ _ _ _ _ (Kj _ _)]; rfl
 clear h;unfold af.cells at *
 go_enter func154,ntmps154
 go_wp2_with fail;generalize w.alloc (c_ p.row 36)=W at *
 go_loop [5] (fun i=> ∃ k:Nat,k≤p.aj.length∧i=i_ j_ k∧Hid (id∉(p.aj.map (·.id)).take k)) (fun i=>p.aj.length - (intOf i).toNat)
 case atStart=>exact ⟨0,Ky _,rfl,(by simp:id∉(p.aj.map (·.id)).take 0)⟩
 case round=>
  obtain ⟨k,hk,rfl,HA⟩:=hrel;by_cases hlt:k < p.aj.length
  ·have i0:(0:Int)≤(k:Int):=by omega
   have i1:(k:Int) < (p.aj.length:Int):=by omega
   obtain ⟨x,hx⟩: ∃ x,p.aj[k]? =o_ x:=⟨_,Kz hlt⟩
   have HX:Hid ((p.aj.map (·.id))[k]? =o_ x.id):=by show _=_; rw [Kk,hx]; rfl
   obtain ⟨g,ha,hat⟩:=lQ H.I.1 hx;exact ba
  ·have i1: ¬ (k:Int) < (p.aj.length:Int):=by omega
   exact S_
theorem ml (p:af) (id:Int) (w:w_) (hl:p.L9.length≤1048576) (h:af.At w p):
  k_ J3 155 #[a_ p.cells,i_ j_ id] w fun e w'=>e=r_ (i_ j_ (place (p.L9.map (·.id)) id 0))∧B_ w.heap.size w w':=by
 have H:Hid (bJ.bU (w.alloc (c_ p.cells 36)) p.ay p.L9∧B_ w.heap.size w (w.alloc (c_ p.cells 36))):=⟨h.2.2.1.below ((Kp _ _).alloc (Ki _) _),(Kp _ _).alloc (Ki _) _⟩
 have q:(w.alloc (c_ p.cells 36)).cell? ⟨w.heap.size,4,n_⟩=o_ (s_ p.ay p.L9.length p.aO):=by rw [K5 _ _ _ _ _ _ (Kj _ _)]; rfl
 clear h;unfold af.cells at *
 go_enter func155,ntmps155
 go_wp2_with fail;generalize w.alloc (c_ p.row 36)=W at *
 go_loop [5] (fun i=> ∃ k:Nat,k≤p.L9.length∧i=i_ j_ k∧Hid (id∉(p.L9.map (·.id)).take k)) (fun i=>p.L9.length - (intOf i).toNat)
 case atStart=>exact ⟨0,Ky _,rfl,(by simp:id∉(p.L9.map (·.id)).take 0)⟩
 case round=>
  obtain ⟨k,hk,rfl,HA⟩:=hrel;by_cases hlt:k < p.L9.length
  ·have i0:(0:Int)≤(k:Int):=by omega
   have i1:(k:Int) < (p.L9.length:Int):=by omega
   obtain ⟨x,hx⟩: ∃ x,p.L9[k]? =o_ x:=⟨_,Kz hlt⟩
   have HX:Hid ((p.L9.map (·.id))[k]? =o_ x.id):=by show _=_; rw [Kk,hx]; rfl
   obtain ⟨g,ha,hat⟩:=j4 H.I.1 hx;exact ba
  ·have i1: ¬ (k:Int) < (p.L9.length:Int):=by omega
   exact S_
theorem mg (p:af) (id:Int) (w:w_) (hl:p.ag.length≤1048576) (h:af.At w p):
  k_ J3 157 #[a_ p.cells,i_ j_ id] w fun e w'=>e=r_ (i_ j_ (place (p.ag.map (·.id)) id 0))∧B_ w.heap.size w w':=by
 have H:Hid (bG.bU (w.alloc (c_ p.cells 36)) p.ax p.ag∧B_ w.heap.size w (w.alloc (c_ p.cells 36))):=⟨h.2.2.2.1.below ((Kp _ _).alloc (Ki _) _),(Kp _ _).alloc (Ki _) _⟩
 have q:(w.alloc (c_ p.cells 36)).cell? ⟨w.heap.size,5,n_⟩=o_ (s_ p.ax p.ag.length p.aP):=by rw [K5 _ _ _ _ _ _ (Kj _ _)]; rfl
 clear h;unfold af.cells at *
 go_enter func157,ntmps157
 go_wp2_with fail;generalize w.alloc (c_ p.row 36)=W at *
 go_loop [5] (fun i=> ∃ k:Nat,k≤p.ag.length∧i=i_ j_ k∧Hid (id∉(p.ag.map (·.id)).take k)) (fun i=>p.ag.length - (intOf i).toNat)
 case atStart=>exact ⟨0,Ky _,rfl,(by simp:id∉(p.ag.map (·.id)).take 0)⟩
 case round=>
  obtain ⟨k,hk,rfl,HA⟩:=hrel;by_cases hlt:k < p.ag.length
  ·have i0:(0:Int)≤(k:Int):=by omega
   have i1:(k:Int) < (p.ag.length:Int):=by omega
   obtain ⟨x,hx⟩: ∃ x,p.ag[k]? =o_ x:=⟨_,Kz hlt⟩
   have HX:Hid ((p.ag.map (·.id))[k]? =o_ x.id):=by show _=_; rw [Kk,hx]; rfl
   obtain ⟨g,ha,hat⟩:=jr H.I.1 hx;exact ba
  ·have i1: ¬ (k:Int) < (p.ag.length:Int):=by omega
   exact S_
theorem lr (p:af) (id:Int) (w:w_) (hl:p.ae.length≤1048576) (h:af.At w p):
  k_ J3 156 #[a_ p.cells,i_ j_ id] w fun e w'=>e=r_ (i_ j_ (place (p.ae.map (·.id)) id 0))∧B_ w.heap.size w w':=by
 have H:Hid (bm.bU (w.alloc (c_ p.cells 36)) p.am p.ae∧B_ w.heap.size w (w.alloc (c_ p.cells 36))):=⟨h.2.2.2.2.1.below ((Kp _ _).alloc (Ki _) _),(Kp _ _).alloc (Ki _) _⟩
 have q:(w.alloc (c_ p.cells 36)).cell? ⟨w.heap.size,6,n_⟩=o_ (s_ p.am p.ae.length p.aG):=by rw [K5 _ _ _ _ _ _ (Kj _ _)]; rfl
 clear h;unfold af.cells at *
 go_enter func156,ntmps156
 go_wp2_with fail;generalize w.alloc (c_ p.row 36)=W at *
 go_loop [5] (fun i=> ∃ k:Nat,k≤p.ae.length∧i=i_ j_ k∧Hid (id∉(p.ae.map (·.id)).take k)) (fun i=>p.ae.length - (intOf i).toNat)
 case atStart=>exact ⟨0,Ky _,rfl,(by simp:id∉(p.ae.map (·.id)).take 0)⟩
 case round=>
  obtain ⟨k,hk,rfl,HA⟩:=hrel;by_cases hlt:k < p.ae.length
  ·have i0:(0:Int)≤(k:Int):=by omega
   have i1:(k:Int) < (p.ae.length:Int):=by omega
   obtain ⟨x,hx⟩: ∃ x,p.ae[k]? =o_ x:=⟨_,Kz hlt⟩
   have HX:Hid ((p.ae.map (·.id))[k]? =o_ x.id):=by show _=_; rw [Kk,hx]; rfl
   obtain ⟨g,ha,hat⟩:=iA H.I.1 hx;exact ba
  ·have i1: ¬ (k:Int) < (p.ae.length:Int):=by omega
   exact S_
theorem uV (p:af) (id:Int) (w:w_) (hl:p.ai.length≤1048576) (h:af.At w p):
  k_ J3 191 #[a_ p.cells,i_ j_ id] w fun e w'=>e=r_ (i_ j_ (place (p.ai.map (·.id)) id 0))∧B_ w.heap.size w w':=by
 have H:Hid (bX.bU (w.alloc (c_ p.cells 36)) p.aK p.ai∧B_ w.heap.size w (w.alloc (c_ p.cells 36))):=⟨h.2.2.2.2.2.below ((Kp _ _).alloc (Ki _) _),(Kp _ _).alloc (Ki _) _⟩
 have q:(w.alloc (c_ p.cells 36)).cell? ⟨w.heap.size,7,n_⟩=o_ (s_ p.aK p.ai.length p.aV):=by rw [K5 _ _ _ _ _ _ (Kj _ _)]; rfl
 clear h;unfold af.cells at *
 go_enter func191,ntmps191
 go_wp2_with fail;generalize w.alloc (c_ p.row 36)=W at *
 go_loop [5] (fun i=> ∃ k:Nat,k≤p.ai.length∧i=i_ j_ k∧Hid (id∉(p.ai.map (·.id)).take k)) (fun i=>p.ai.length - (intOf i).toNat)
 case atStart=>exact ⟨0,Ky _,rfl,(by simp:id∉(p.ai.map (·.id)).take 0)⟩
 case round=>
  obtain ⟨k,hk,rfl,HA⟩:=hrel;by_cases hlt:k < p.ai.length
  ·have i0:(0:Int)≤(k:Int):=by omega
   have i1:(k:Int) < (p.ai.length:Int):=by omega
   obtain ⟨x,hx⟩: ∃ x,p.ai[k]? =o_ x:=⟨_,Kz hlt⟩
   have HX:Hid ((p.ai.map (·.id))[k]? =o_ x.id):=by show _=_; rw [Kk,hx]; rfl
   obtain ⟨g,ha,hat⟩:=lm H.I.1 hx;exact ba
  ·have i1: ¬ (k:Int) < (p.ai.length:Int):=by omega
   exact S_
def dJ (l:List ByteArray) (Me:Int):Bool:=l.all bw && decide ((l.length:Int)≤Me)
theorem xL {l:List ByteArray} {Me:Int} {k:Nat} {x:ByteArray} (hx:l[k]? =o_ x) (h:bw x=false):dJ l Me=false:=by
 have:l.all bw=false:=by
  rw [List.all_eq_false];exact ⟨x,KA hx,by simp [h]⟩
 simp [dJ,this]
theorem pQ {l:List ByteArray} {k:Nat} {x:ByteArray} (h:(l.take k).all bw=true) (hx:l[k]? =o_ x) (hp:bw x=true):(l.take (k+1)).all bw=true:=by
 have hk:k < l.length:=(Lj.1 hx).1;rw [QE hk,List.all_append,h];rw [Kz hk] at hx;cases hx;simp [hp]
theorem zl {w:w_} {a:Option d_} {l:List ByteArray} (h:Row w a (bT.flat l)) {k:Nat} {x:ByteArray} (hx:l[k]? =o_ x): ∃ g,a=o_ ⟨g,0,n_⟩∧w.cell? ⟨g,k,n_⟩=o_ (t_ x):=by
 have h1:(bT.flat l)[k]? =o_ (t_ x):=by
  have:=bT.jw hx (j:=0) (by decide)
  simpa [bT] using this
 exact h k _ h1
theorem Aj (a:Option d_) (l:List ByteArray) (cap:Nat) (Me:Int) (w:w_) (hl:l.length≤1048576) (hs: ∀ x∈l,x.size≤1048576) (h:Row w a (bT.flat l)):
  k_ J3 102 #[s_ a l.length cap,i_ j_ Me] w fun e w'=>e=r_ (b_ (dJ l Me))∧w'=w:=by
 have H:Hid (Row w a (bT.flat l)∧ ∀ x∈l,x.size≤1048576):=⟨h,hs⟩
 clear h hs
 go_enter func102,ntmps102
 go_wp2_with fail
 go_loop [5] (fun i=> ∃ k:Nat,k≤l.length∧i=i_ j_ k∧Hid ((l.take k).all bw=true)) (fun i=>l.length - (intOf i).toNat)
 case atStart=>exact ⟨0,Ky _,rfl,(by simp:(l.take 0).all bw=true)⟩
 case round=>
  obtain ⟨k,hk,rfl,HA⟩:=hrel;by_cases hlt:k < l.length
  ·have i0:(0:Int)≤(k:Int):=by omega
   have i1:(k:Int) < (l.length:Int):=by omega
   obtain ⟨x,hx⟩: ∃ x,l[k]? =o_ x:=⟨_,Kz hlt⟩
   have HX:Hid (l[k]? =o_ x):=hx;obtain ⟨g,rfl,c0⟩:=zl H.I.1 hx;have hxs:=H.I.2 x (KA hx);clear hx;go_wp2_with fail;refine (jC x w hxs).mono ?_;rintro e w' ⟨rfl,rfl⟩;cases hp:bw x with
   | true=>
    exact Za0
   | false=>
    have HP:Hid (bw x=false):=hp;clear hp;go_wp2;go_ret;exact ⟨al (xL HX.I HP.I).symm,rfl⟩
  ·have i1: ¬ (k:Int) < (l.length:Int):=by omega
   have HT:Hid (l.all bw=true):=by have:=HA.I; rwa [KF (by omega)] at this
   have e1:wrap64 (l.length:Int)=l.length:=by unfold wrap64; omega
   go_wp2;go_ret;exact ⟨al (by rw [dJ,HT.I]; simp),rfl⟩
def hasB (p:aE) (Md id:Int):Bool:=
 if Md=3 then decide (id∈p.aj.map (·.id)) else if Md=4 then decide (id∈p.L9.map (·.id))
 else if Md=5∨Md=6 then decide (id∈p.ae.map (·.id)) else if Md=7 then decide (id∈p.ag.map (·.id)) else false
theorem mV (l:List Int) (id:Int):decide (0≤place l id 0)=decide (id∈l):=by
 by_cases h:id∈l
 ·rw [decide_eq_true h]
  rcases z8 l id 0 with h1 | h1
  ·exact absurd h (nN.1 h1)
  ·exact decide_eq_true (by simpa using h1)
 ·rw [decide_eq_false h,nN.2 h]
  rfl
structure af.dX (p:af):Prop where
 L8:p.L8.length≤1048576
 aj:p.aj.length≤1048576
 L9:p.L9.length≤1048576
 ag:p.ag.length≤1048576
 ae:p.ae.length≤1048576
 ai:p.ai.length≤1048576
theorem xT (p:af) (Md id:Int) (w:w_) (hl:p.dX) (h:af.At w p):
  k_ J3 104 #[a_ p.cells,i_ j_ Md,i_ j_ id] w fun e w'=>e=r_ (b_ (hasB p.pure Md id))∧B_ w.heap.size w w':=by
 have hp:p.cells=p.row:=rfl;have H:Hid ((af.At (w.alloc (c_ p.cells 36)) p∧B_ w.heap.size w (w.alloc (c_ p.cells 36)))∧p.dX):=⟨⟨h.below ((Kp _ _).alloc (Ki _) _),(Kp _ _).alloc (Ki _) _⟩,hl⟩
 rw [hp] at H;rw [hp];clear h hl hp;by_cases s3:Md=3
 ·subst s3
  go_enter func104,ntmps104
  go_wp2_with fail;refine (lw p id _ H.I.2.aj H.I.1.1).mono ?_;rintro e w1 ⟨rfl,hb1⟩;have HB:Hid (B_ w.heap.size w w1):=H.I.1.2.trans (hb1.mono (by simp));have HM:Hid (decide (0≤place (p.aj.map (·.id)) id 0)=decide (id∈p.aj.map (·.id))):=mV _ id;exact V_
 by_cases s4:Md=4
 ·subst s4
  go_enter func104,ntmps104
  go_wp2_with fail;refine (ml p id _ H.I.2.L9 H.I.1.1).mono ?_;rintro e w1 ⟨rfl,hb1⟩;have HB:Hid (B_ w.heap.size w w1):=H.I.1.2.trans (hb1.mono (by simp));have HM:Hid (decide (0≤place (p.L9.map (·.id)) id 0)=decide (id∈p.L9.map (·.id))):=mV _ id;exact V_
 by_cases s5:Md=5
 ·subst s5
  exact M_
 by_cases s6:Md=6
 ·subst s6
  exact M_
 by_cases s7:Md=7
 ·subst s7
  go_enter func104,ntmps104
  go_wp2_with fail;refine (mg p id _ H.I.2.ag H.I.1.1).mono ?_;rintro e w1 ⟨rfl,hb1⟩;have HB:Hid (B_ w.heap.size w w1):=H.I.1.2.trans (hb1.mono (by simp));have HM:Hid (decide (0≤place (p.ag.map (·.id)) id 0)=decide (id∈p.ag.map (·.id))):=mV _ id;exact V_
 have e3:(Md == 3)=false:=by simp [s3]
 have e4:(Md == 4)=false:=by simp [s4]
 have e5:(Md == 5)=false:=by simp [s5]
 have e6:(Md == 6)=false:=by simp [s6]
 have e7:(Md == 7)=false:=by simp [s7]
 have HN:Hid (hasB p.pure Md id=false):=by show hasB p.pure Md id=false; simp [hasB,s3,s4,s5,s6,s7]
 clear s3 s4 s5 s6 s7
 go_enter func104,ntmps104
 go_wp2;go_ret;exact ⟨al HN.I.symm,H.I.1.2⟩

def Nw (K N M:Nat→Int) (S:Nat→ByteArray) (i:Nat):ByteArray:=MF (K i) (N i) (M i) (S i)
def Mz (K N M:Nat→Int) (S:Nat→ByteArray):Nat→ByteArray
 | 0=>⟨#[]⟩
 | k+1=>(if k=0 then Mz K N M S k else Mz K N M S k ++ ⟨#[59]⟩) ++ Nw K N M S k
def M0 (len:Nat) (K N M:Nat→Int) (S:Nat→ByteArray):ByteArray:=if nq len K N M S=true then Mz K N M S len else ⟨#[]⟩
theorem MU {len:Nat} {K N M:Nat→Int} {S:Nat→ByteArray} (h:nq len K N M S=true):1≤len∧len≤20∧ ∀ j,j < len→j8 K N M S j=true:=by
 simp only [nq] at h;exact of_decide_eq_true h
theorem Nr {k n m:Int} {s:ByteArray} (h:mQ k n m s=true):(MF k n m s).size≤51:=by
 have e1:(⟨#[32]⟩:ByteArray).size=1:=rfl;have s0:=MH k;unfold MF
 split
 ·rename_i hk
  have:=ML hk h
  have s1:=MD (n:=n) (by omega) (by omega);simp only [QH]; omega
 split
 ·rename_i hk
  have:=MZ hk h
  exact Zbv
 split
 ·rename_i hk
  subst hk
  have:=N0 h
  exact Zbv
 split
 ·rename_i hk
  have:=NK hk h
  have s1:=MD (n:=n) (by omega) (by omega);simp only [QH]; omega
 ·omega
theorem NX {K N M:Nat→Int} {S:Nat→ByteArray} : ∀ k,(∀ j,j < k→j8 K N M S j=true)→(Mz K N M S k).size≤52 * k
 | 0,_=>Ki 0
 | k+1,h=>by
  have ih:=NX k (fun j hj=>h j (by omega));have ho:(Nw K N M S k).size≤51:=Nr (h k (by omega));have e1:(⟨#[59]⟩:ByteArray).size=1:=rfl;simp only [Mz]
  split
  ·simp only [QH]; omega
  ·simp only [QH]; omega
theorem No (g len cap:Nat) (K N M:Nat→Int) (S:Nat→ByteArray) (w:w_) (hl:len≤1048576) (hs: ∀ i,i < len→(S i).size≤1048576) (hr:iG w g len K N M S):
  k_ J3 66 #[s_ (o_ ⟨g,0,n_⟩) len cap] w fun e w'=>e=r_ (t_ (M0 len K N M S))∧B_ w.heap.size w w':=by
 have HR:Hid (iG w g len K N M S):=hr;have HS:Hid (∀ i,i < len→(S i).size≤1048576):=hs;clear hr hs
 go_enter func66,ntmps66
 go_wp2_with fail;refine (vv g len cap K N M S w hl HS.I HR.I).mono ?_;rintro e w1 ⟨rfl,hb1⟩;have pG:Hid (iG w1 g len K N M S∧B_ w.heap.size w w1):=⟨HR.I.below hb1,hb1⟩
 clear hb1 HR;cases hf:nq len K N M S with
 | false=>
  have HF:Hid (nq len K N M S=false):=hf;clear hf;go_wp2;go_ret;exact ⟨by rw [M0,HF.I]; rfl,pG.I.2⟩
 | true=>
  have HF:Hid (1≤len∧len≤20∧(∀ j,j < len→j8 K N M S j=true)∧nq len K N M S=true):=⟨(MU hf).1,(MU hf).2.1,(MU hf).2.2,hf⟩
  clear hf;go_wp2_with fail
  go_loopw [3,4] (fun t i wr=> ∃ k:Nat,k≤len∧i=i_ j_ k∧t=t_ (Mz K N M S k)∧Hid (B_ w.heap.size w wr∧iG wr g len K N M S)) (fun _ i _=>len - (intOf i).toNat)
  case atStart=>exact ⟨0,Ky _,rfl,rfl,⟨pG.I.2,pG.I.1⟩⟩
  case round=>
   obtain ⟨k,hk,rfl,rfl,HW⟩:=hrel;by_cases hlt:k < len
   ·have c0:=HW.I.2.c0 hlt
    have c1:=HW.I.2.c1 hlt;have c2:=HW.I.2.c2 hlt;have c3:=HW.I.2.c3 hlt;have i0:(0:Int)≤(k:Int):=by omega
    have i1:(k:Int) < (len:Int):=by omega
    have hgl:=HW.I.2.1;have HO:Hid (mQ (K k) (N k) (M k) (S k)=true):=HF.I.2.2.1 k hlt;have hts:=NX k (fun j hj=>HF.I.2.2.1 j (by omega));have hos:=Nr HO.I;have HX:Hid (Mz K N M S (k+1)=(if k=0 then Mz K N M S k else Mz K N M S k ++ ⟨#[59]⟩) ++ MF (K k) (N k) (M k) (S k)):=rfl;have hlen:=HF.I.2.1;have q0: ¬ 9223372036854775807 < (Mz K N M S k).size+1:=by omega
    have q1: ¬ 9223372036854775807 < (Mz K N M S k).size+1+(MF (K k) (N k) (M k) (S k)).size:=by omega
    have q2: ¬ 9223372036854775807 < (Mz K N M S k).size+(MF (K k) (N k) (M k) (S k)).size:=by omega
    clear hts hos;generalize Mz K N M S k=t at *;by_cases hk0:k=0
    ·have hk1: ¬ (0:Int) < (k:Int):=by omega
     have Pf:Hid (k=0):=hk0;clear hk0;go_wp2_with fail;refine (NL (K k) (N k) (M k) (S k) wr HO.I).mono ?_;rintro e w2 ⟨rfl,hb2⟩;have HW2:Hid (B_ w.heap.size w w2∧iG w2 g len K N M S):=⟨HW.I.1.trans (hb2.mono HW.I.1.size),HW.I.2.below hb2⟩
     clear hb2 c0 c1 c2 c3;go_wp2;go_roundw
     case rel=>exact ⟨k+1,by omega,by go_num,by rw [HX.I,if_pos Pf.I],HW2⟩
     case measure=>simp [intOf]; omega
    ·have hk1:(0:Int) < (k:Int):=by omega
     have Pf:Hid (¬ k=0):=hk0;clear hk0;go_wp2_with fail;refine (NL (K k) (N k) (M k) (S k) wr HO.I).mono ?_;rintro e w2 ⟨rfl,hb2⟩;have HW2:Hid (B_ w.heap.size w w2∧iG w2 g len K N M S):=⟨HW.I.1.trans (hb2.mono HW.I.1.size),HW.I.2.below hb2⟩
     clear hb2 c0 c1 c2 c3;go_wp2;go_roundw
     case rel=>exact ⟨k+1,by omega,by go_num,by rw [HX.I,if_neg Pf.I],HW2⟩
     case measure=>simp [intOf]; omega
   ·go_wp2
    go_ret;have e:k=len:=by omega
    subst e;exact ⟨by rw [M0,if_pos HF.I.2.2.2]; rfl,HW.I.1⟩
def rM:ByteArray:=⟨#[]⟩
def jm (l:List dN):Bool:=nq l.length (Cd l) (Cg l) (Ea l) (Ce l)
def gw (x:bD):Bool:=cv x.max 1 1000 && cv x.n 0 x.max
def ey (_:aB):Bool:=true
def cU (x:az):Bool:=bw x.text && (x.shown || bI x.text)
def ct (x:ci):Bool:=cv x.max 1 5 && dJ x.Ma x.max
def dj (x:dS):Bool:=cv x.max 1 5 && (x.Mf || decide (x.max=1)) && dJ x.Ma x.max
def aw {α:Type} (num:α→Int) (ok:α→Bool):Int→List α→Bool
 | _,[] =>true
 | last,x :: r=>cv (num x) 1 1000 && decide (last < num x) && ok x && aw num ok (num x) r
def bW {α:Type} (num:α→Int):Int→List α→Int
 | last,[] =>last
 | _,x :: r=>bW num (num x) r
section
variable {α:Type} {num:α→Int} {ok:α→Bool}
theorem lH: ∀ (l r:List α) (last:Int),aw num ok last (l ++ r)=(aw num ok last l && aw num ok (bW num last l) r)
 | [],r,last=>by simp [aw,bW]
 | x :: l,r,last=>by
  simp only [Qw,aw,bW,lH l r (num x),Bool.and_assoc]
theorem pL: ∀ (l:List α) (x:α) (last:Int),bW num last (l ++ [x])=num x
 | [],_,_=>rfl
 | y :: l,x,_=>pL l x (num y)
theorem kL {l:List α} {k:Nat} {x:α} (hx:l[k]? =o_ x):l=l.take k ++ x :: l.drop (k+1):=by
 have hk:k < l.length:=(Lj.1 hx).1;rw [Kz hk] at hx;cases hx
 have:=Qn k l
 rw [adH hk] at this;exact this.symm
theorem cj {l:List α} {k:Nat} {x:α} (hx:l[k]? =o_ x):l.take (k+1)=l.take k ++ [x] :=by
 have hk:k < l.length:=(Lj.1 hx).1;rw [Kz hk] at hx;cases hx;exact QE hk
theorem eG {l:List α} {k:Nat} {x:α} (hx:l[k]? =o_ x) (last:Int):bW num last (l.take (k+1))=num x:=by
 rw [cj hx,pL]
theorem ed {l:List α} {k:Nat} {x:α} {last:Int} (h:aw num ok last (l.take k)=true) (hx:l[k]? =o_ x) (h1:cv (num x) 1 1000=true) (h2:bW num last (l.take k) < num x) (h3:ok x=true):aw num ok last (l.take (k+1))=true:=by
 rw [cj hx,lH,h];simp [aw,h1,h2,h3]
theorem bS {l:List α} {k:Nat} {x:α} {last:Int} (hx:l[k]? =o_ x) (h: ¬ (cv (num x) 1 1000=true∧bW num last (l.take k) < num x∧ok x=true)):aw num ok last l=false:=by
 rw [kL hx,lH]
 have:aw num ok (bW num last (l.take k)) (x :: l.drop (k+1))=false:=by
  simp only [aw];cases h1:cv (num x) 1 1000 <;> simp
  by_cases h2:bW num last (l.take k) < num x
  ·cases h3:ok x
   ·simp
   ·exact absurd ⟨h1,h2,h3⟩ h
  ·simp [h2]
 rw [this,PP]
theorem cK {l:List α} {last:Int} (h:aw num ok last l=true): ∀ x∈l,cv (num x) 1 1000=true∧ok x=true:=by
 induction l generalizing last with
 | nil=>intro x hx; cases hx
 | cons y r ih=>
  simp only [aw,J7] at h;intro x hx;rcases Kt.1 hx with rfl | hx
  ·exact ⟨h.1.1.1,h.1.2⟩
  ·exact ih h.2 x hx
theorem nC {ok':α→Bool} {l:List α} {last:Int} :aw num (fun x=>ok x && ok' x) last l=(aw num ok last l && l.all ok'):=by
 induction l generalizing last with
 | nil=>rfl
 | cons y r ih=>
  simp only [aw,ih,List.all_cons];cases cv (num y) 1 1000 <;> cases decide (last < num y) <;> cases ok y <;> cases ok' y <;> simp
end
theorem jL {α β:Type} (f:α→β) (num:β→Int) (ok:β→Bool) (l:List α) (last:Int):aw num ok last (l.map f)=aw (fun x=>num (f x)) (fun x=>ok (f x)) last l:=by
 induction l generalizing last with
 | nil=>rfl
 | cons y r ih=>simp only [Lt,aw,ih]
def opAt (x:aD):dN:=x.prog[x.pc.toNat]?.getD (0,0,0,rM)
def dU (x:aD):Bool:=cv x.pc 0 ((x.prog.length:Int) - 1)
def jJ (x:aD):Bool:=if (opAt x).1=1 then decide (0≤x.left) && decide (x.left < (opAt x).2.1) else decide (x.left=0)
def lh (t:Int):Bool:=cv t 1 2000000000 || decide (t= -1)
def bO (x:aD):Bool:=
 if x.Md=0 then decide (x.pc=0) && decide (x.left=0) && decide (x.Mg=0) && decide (x.on=0) && decide (x.RU=0) && bI x.held
 else if x.Md=1 then dU x && jJ x && decide (x.Mg=0) && decide (x.on=0) && bI x.held
 else if x.Md=2 then dU x && decide (x.left=0) && cv x.Mg 1 2000000000 && decide (x.on=0) && bI x.held
 else if x.Md=5 then dU x && decide (x.left=0) && lh x.Mg
 else if x.Md=3∨x.Md=4∨x.Md=6∨x.Md=7 then dU x && decide (x.left=0) && lh x.Mg && bI x.held
 else false
def cH (x:aD):Bool:=cv x.RX 1 50 && jm x.prog && bw x.held && bw x.got && cv x.code 0 3 && bO x
def fF (next:Int) (x:aD):Bool:=decide (x.Md=0) || cv x.RU 1 (next - 1)
def dG (p:aE) (x:aD):Bool:=if 3≤x.Md then hasB p x.Md x.on else true
def rb (l:List aD):Prop:=(l.map (·.RU)).Pairwise (fun a b=> ¬ (a=b∧0 < b))
structure aQ (p:aE):Prop where
 id:cv p.id 1 6=true
 next:cv p.next 1 1000000000=true
 dl:p.L8.length≤6
 fx:p.aj.length≤5
 cD:p.L9.length≤5
 cC:p.ag.length≤5
 cb:p.ae.length≤5
 dH:p.ai.length≤5
 L8:aw (·.id) (fun x=>cH x && fF p.next x && dG p x) 0 p.L8=true
 aj:aw (·.id) gw 0 p.aj=true
 L9:aw (·.id) ey 0 p.L9=true
 ag:aw (·.id) cU 0 p.ag=true
 ae:aw (·.id) ct 0 p.ae=true
 ai:aw (·.id) dj 0 p.ai=true
 apart:rb p.L8
def bK (p:aE):Bool:=cv p.id 1 6 && cv p.next 1 1000000000 && decide (p.L8.length≤6) && decide (p.aj.length≤5) && decide (p.L9.length≤5) && decide (p.ag.length≤5) && decide (p.ae.length≤5) && decide (p.ai.length≤5) &&
 aw (·.id) (fun x=>cH x && fF p.next x && dG p x) 0 p.L8 && aw (·.id) gw 0 p.aj && aw (·.id) ey 0 p.L9 && aw (·.id) cU 0 p.ag && aw (·.id) ct 0 p.ae && aw (·.id) dj 0 p.ai && decide ((p.L8.map (·.RU)).Pairwise (fun a b=> ¬ (a=b∧0 < b)))
theorem ch (p:aE):bK p=true↔aQ p:=by
 simp only [bK,J7,decide_eq_true_eq];constructor
 ·rintro ⟨⟨⟨⟨⟨⟨⟨⟨⟨⟨⟨⟨⟨⟨h1,h2⟩,h3⟩,h4⟩,h5⟩,h6⟩,h7⟩,h8⟩,h9⟩,h10⟩,h11⟩,h12⟩,h13⟩,h14⟩,h15⟩
  exact ⟨h1,h2,h3,h4,h5,h6,h7,h8,h9,h10,h11,h12,h13,h14,h15⟩
 ·intro h
  exact ⟨⟨⟨⟨⟨⟨⟨⟨⟨⟨⟨⟨⟨⟨h.id,h.next⟩,h.dl⟩,h.fx⟩,h.cD⟩,h.cC⟩,h.cb⟩,h.dH⟩,h.L8⟩,h.aj⟩,h.L9⟩,h.ag⟩,h.ae⟩,h.ai⟩,h.apart⟩
theorem fP {p:aE} (h:aQ p):bK p=true:=(ch p).2 h
theorem dL {p:aE} (h: ¬ aQ p):bK p=false:=by
 cases hb:bK p with
 | false=>rfl
 | true=>exact absurd ((ch p).1 hb) h
def Hu (l:List aD):List Int:=(l.filter (fun x=> !decide (x.Md=0))).map (·.RU)
def nQ (next:Int) (l:List aD):Prop:=(∀ x∈l,¬ x.Md=0→1≤x.RU∧x.RU < next)∧(Hu l).Nodup
structure OpenR (p:aE):Prop where
 id:cv p.id 1 6=true
 next:cv p.next 1 1000000000=true
 dl:p.L8.length≤6
 fx:p.aj.length≤5
 cD:p.L9.length≤5
 cC:p.ag.length≤5
 cb:p.ae.length≤5
 dH:p.ai.length≤5
 L8:aw (·.id) cH 0 p.L8=true
 aj:aw (·.id) gw 0 p.aj=true
 L9:aw (·.id) ey 0 p.L9=true
 ag:aw (·.id) cU 0 p.ag=true
 ae:aw (·.id) ct 0 p.ae=true
 ai:aw (·.id) dj 0 p.ai=true
 turns:nQ p.next p.L8
 waits:p.L8.all (dG p)=true
theorem bz {n lo hi:Int} :cv n lo hi=true↔lo≤n∧n≤hi:=by simp [cv]
theorem kx {x:aD} (h:cH x=true) (h0:x.Md=0):x.RU=0:=by
 simp only [cH,J7] at h
 have:=h.2
 simp only [bO,h0,if_true,J7,decide_eq_true_eq] at this;exact this.1.2
theorem tW {next:Int} {l:List aD} (hb: ∀ x∈l,cH x=true) (h:nQ next l):rb l:=by
 induction l with
 | nil=>exact List.Pairwise.nil
 | cons x r ih=>
  have hr:nQ next r:=⟨fun y hy=>h.1 y Zdi,by
   have:=h.2
   unfold Hu at this ⊢;rw [LN] at this
   split at this
   ·exact (Lp.1 this).2
   ·exact this⟩
  refine LM.2 ⟨fun b wU hab=> ?_,ih (fun y hy=>hb y Zdi) hr⟩;obtain ⟨y,hy,rfl⟩:=Lr.1 wU;have e1:x.RU=y.RU:=hab.1;have e2:0 < y.RU:=hab.2;have hxs: ¬ x.Md=0:=fun e=>by
   have:=kx (hb x (by simp)) e
   omega
  have hys: ¬ y.Md=0:=fun e=>by
   have:=kx (hb y Zdi) e
   omega
  have:=h.2
  unfold Hu at this;rw [LN,if_pos (by simp [hxs]),Lt,Lp] at this;exact this.1 (Lr.2 ⟨y,L2.2 ⟨hy,by simp [hys]⟩,hab.1.symm⟩)
theorem uf {next:Int} {l:List aD} (ht: ∀ x∈l,fF next x=true) (h:rb l):nQ next l:=by
 have h1: ∀ x∈l,¬ x.Md=0→1≤x.RU∧x.RU < next:=fun x hx h0=>by
  have:=ht x hx
  simp only [fF,h0,decide_false,Qg] at this
  have:=bz.1 this
  omega
 refine ⟨h1,?_⟩
 induction l with
 | nil=>exact List.nodup_nil
 | cons x r ih=>
  obtain ⟨h2,h3⟩:=LM.1 h;have ih':=ih (fun y hy=>ht y Zdi) h3 (fun y hy=>h1 y Zdi);unfold Hu at ih' ⊢;rw [LN]
  split
  ·rename_i hx
   have hx0: ¬ x.Md=0:=by simpa using hx
   rw [Lt,Lp];refine ⟨fun hm=> ?_,ih'⟩;obtain ⟨y,hy,e⟩:=Lr.1 hm;have hy':=(L2.1 hy).1
   have:=h1 x (by simp) hx0
   exact h2 y.RU (Lr.2 ⟨y,hy',rfl⟩) ⟨e.symm,by omega⟩
  ·exact ih'
theorem i5 (p:aE):OpenR p↔aQ p:=by
 constructor
 ·intro h
  refine ⟨h.id,h.next,h.dl,h.fx,h.cD,h.cC,h.cb,h.dH,?_,h.aj,h.L9,h.ag,h.ae,h.ai,tW (fun x hx=>(cK h.L8 x hx).2) h.turns⟩;rw [nC,nC,h.L8,h.waits,Bool.true_and,Bool.and_true,PZ];intro x hx;by_cases h0:x.Md=0
  ·simp [fF,h0]
  ·have:=h.turns.1 x hx h0
   simp only [fF,h0,decide_false,Qg];exact bz.2 (by omega)
 ·intro h
  have hp:=h.L8;rw [nC,nC,J7,J7] at hp;exact ⟨h.id,h.next,h.dl,h.fx,h.cD,h.cC,h.cb,h.dH,hp.1.1,h.aj,h.L9,h.ag,h.ae,h.ai,uf (fun x hx=>PZ.1 hp.1.2 x hx) h.apart,hp.2⟩
theorem vz (l:List dN) {j:Nat} (hj:j < l.length * 4):(fk.flat l)[j]? =o_ (xe (Cd l) (Cg l) (Ea l) (Ce l) j):=by
 have hi:j / 4 < l.length:=by omega
 have hx:l[j / 4]? =o_ l[j / 4] :=Kz hi;have hr:j % 4 < 4:=by omega
 have:=fk.jw hx (j:=j % 4) hr
 have e:j / 4 * fk.n+j % 4=j:=by show j / 4 * 4+j % 4=j; omega
 rw [e] at this;rw [this];have h4:j % 4=0∨j % 4=1∨j % 4=2∨j % 4=3:=by omega
 rcases h4 with h | h | h | h <;> rw [h] <;> simp [fk,CC,xe,h,Cd,Cg,Ea,Ce,hx]
theorem wa {w:w_} {a:Option d_} {l:List dN} (h:Row w a (fk.flat l)) (hl:0 < l.length): ∃ g,a=o_ ⟨g,0,n_⟩∧y9 w g l:=by
 obtain ⟨g,e,hc⟩:=h 0 _ (vz l (j:=0) (by omega));refine ⟨g,e,block_lt_of_cell hc,fun j hj=> ?_⟩;obtain ⟨g',e',hc'⟩:=h j _ (vz l hj);rw [e] at e';cases e';exact hc'
theorem Jm {w:w_} {a:Option d_} {l:List dN} (h:Row w a (fk.flat l)) {i:Nat} {x:dN} (hx:l[i]? =o_ x): ∃ g,a=o_ ⟨g,0,n_⟩∧w.cell? ⟨g,i * 4,n_⟩=o_ (i_ j_ x.1)∧w.cell? ⟨g,i * 4+1,n_⟩=o_ (i_ j_ x.2.1)∧w.cell? ⟨g,i * 4+2,n_⟩=o_ (i_ j_ x.2.2.1)∧w.cell? ⟨g,i * 4+3,n_⟩=o_ (t_ x.2.2.2):=by
 have h':fk.bU w a l:=⟨h,fun _ _ r hr=>by cases hr⟩
 obtain ⟨g,e,hc⟩:=h'.at hx;exact ⟨g,e,hc 0 _ rfl,hc 1 _ rfl,hc 2 _ rfl,hc 3 _ rfl⟩
theorem xd {l:List dN} (hs: ∀ o∈l,o.2.2.2.size≤1048576): ∀ i,i < l.length→(Ce l i).size≤1048576:=fun i hi=>by
 simp only [Ce,Kz hi,Option.getD_some];exact hs _ (List.getElem_mem hi)
structure ao.dX (x:ao):Prop where
 prog:x.prog.length≤1048576
 ops: ∀ o∈x.prog,o.2.2.2.size≤1048576
 held:x.held.size≤1048576
 got:x.got.size≤1048576
theorem xf:jm [] =false:=iS (fun h=>by have:=h.1; simp at this)
theorem tz (a:Option d_) (cap:Nat) (w:w_):
  k_ J3 103 #[s_ a 0 cap] w fun e w'=>e=r_ (b_ false)∧B_ w.heap.size w w':=by
 go_enter func103,ntmps103
 go_wp2
 go_loop [3] (fun i=>i=i_ j_ 0) (fun _=>0)
 case atStart=>rfl
 case round=>
  subst hrel;go_wp2;go_ret;exact ⟨rfl,Kp _ _⟩
theorem wQ (a:Option d_) (l:List dN) (cap:Nat) (w:w_) (hl:l.length≤1048576) (hs: ∀ o∈l,o.2.2.2.size≤1048576) (h:Row w a (fk.flat l)):
  k_ J3 103 #[s_ a l.length cap] w fun e w'=>e=r_ (b_ (jm l))∧B_ w.heap.size w w':=by
 cases l with
 | nil=>rw [xf]; exact tz a cap w
 | cons x r=>
  obtain ⟨g,rfl,hr⟩:=wa h (by simp);exact vv g _ cap _ _ _ _ w hl (xd hs) hr
theorem tu (a:Option d_) (cap:Nat) (w:w_):
  k_ J3 233 #[s_ a 0 cap] w fun e w'=>e=r_ (b_ false)∧B_ w.heap.size w w':=by
 go_enter func233,ntmps233
 go_wp2;go_ret;exact ⟨rfl,Kp _ _⟩
theorem wI (a:Option d_) (l:List dN) (cap:Nat) (w:w_) (hl:l.length≤1048576) (hs: ∀ o∈l,o.2.2.2.size≤1048576) (h:Row w a (fk.flat l)):
  k_ J3 233 #[s_ a l.length cap] w fun e w'=>e=r_ (b_ (jm l))∧B_ w.heap.size w w':=by
 cases l with
 | nil=>rw [xf]; exact tu a cap w
 | cons x r=>
  obtain ⟨g,rfl,hr⟩:=wa h (by simp);exact tV g _ cap _ _ _ _ w hl (xd hs) hr
end
def dF (a b:aD):Bool:=if a.RX=b.RX then decide (a.RU < b.RU) else decide (b.RX < a.RX)
def iy (r:Option aD) (x:aD):Option aD:=match r with
 | none=>o_ x
 | some b=>if dF x b then o_ x else o_ b
def jo (l:List aD):Option aD:=l.foldl iy n_
theorem ny (l:List aD) (x:aD):jo (l ++ [x])=iy (jo l) x:=by simp [jo]
theorem zp {r:Option aD} {x y:aD} (h:iy r x=o_ y):y=x∨r=o_ y:=by
 unfold iy at h
 exact ZbH
theorem pN (r:Option aD) (x:aD): ∃ y,iy r x=o_ y:=by
 unfold iy
 split
 ·exact ⟨_,rfl⟩
 ·split <;> exact ⟨_,rfl⟩
def dO (f:aD→Bool) (l:List aD) (k:Nat) (i:Int):Prop:=match jo ((l.take k).filter f) with
 | none=>i= -1
 | some x=> ∃ n:Nat,i=n∧n < k∧l[n]? =o_ x
section
variable {f:aD→Bool} {l:List aD} {k:Nat} {i:Int} {x:aD}
theorem dO.start (f:aD→Bool) (l:List aD):dO f l 0 (-1):=by simp [dO,jo]
theorem rS (hx:l[k]? =o_ x):(l.take (k+1)).filter f=(l.take k).filter f ++ (if f x then [x] else []):=by
 rw [cj hx,List.filter_append];by_cases h:f x=true <;> simp [h]
theorem dO.skip (h:dO f l k i) (hx:l[k]? =o_ x) (hf:f x=false):dO f l (k+1) i:=by
 unfold dO at h ⊢;rw [rS hx,hf];simp only [J5,if_false,List.append_nil]
 exact ZbU
theorem dO.first (h:dO f l k i) (hi:i < 0) (hx:l[k]? =o_ x) (hf:f x=true):dO f l (k+1) k:=by
 unfold dO at h ⊢;rw [rS hx,hf];simp only [if_true];rw [ny]
 exact ZbE
theorem dO.got (h:dO f l k i) (hi: ¬ i < 0): ∃ (n:Nat) (y:aD),i=n∧n < k∧l[n]? =o_ y∧jo ((l.take k).filter f)=o_ y:=by
 unfold dO at h
 exact ZbL
theorem dO.next {n:Nat} {y:aD} (hn:n < k) (hy:l[n]? =o_ y) (he:jo ((l.take k).filter f)=o_ y) (hx:l[k]? =o_ x) (hf:f x=true):dO f l (k+1) (if dF x y then (k:Int) else (n:Int)):=by
 unfold dO;rw [rS hx,hf];simp only [if_true];rw [ny,he];simp only [iy];by_cases ha:dF x y=true
 ·simp only [ha,if_true]
  exact ⟨k,rfl,by omega,hx⟩
 ·simp only [ha,J5,if_false]
  exact ⟨n,rfl,by omega,hy⟩
end
def Na {α:Type} (f:α→ByteArray) (l:List α):ByteArray:=l.foldl (fun t x=>t ++ f x) ⟨#[]⟩
theorem OX {α:Type} {f:α→ByteArray} {l:List α} {k:Nat} {x:α} (h:l[k]? =o_ x):Na f (l.take (k+1))=Na f (l.take k) ++ f x:=by
 have hk:=(Lj.1 h).1;have hx:=(Lj.1 h).2;rw [QE hk,Na,List.foldl_append,hx];rfl
theorem NN {α:Type} {f:α→ByteArray} {m:Nat} : ∀ (l:List α) (t:ByteArray),(∀ x∈l,(f x).size≤m)→(l.foldl (fun t x=>t ++ f x) t).size≤t.size+m * l.length
 | [],t,_=>by simp
 | x :: r,t,h=>by
  have h1:=NN r (t ++ f x) fun y hy=>h y (LB _ hy)
  have h2:=h x List.mem_cons_self;rw [List.foldl_cons,Lg,Nat.mul_succ];rw [QH] at h1;omega
theorem Nf {α:Type} {f:α→ByteArray} {m:Nat} {l:List α} (h: ∀ x∈l,(f x).size≤m):(Na f l).size≤m * l.length:=by
 have h1:=NN l ⟨#[]⟩ h;have e:(⟨#[]⟩:ByteArray).size=0:=rfl;unfold Na;omega
def NS (s:ByteArray):ByteArray:=⟨#[59]⟩ ++ s
def MI (l:List ByteArray):ByteArray:=Na NS l
def MJ (b:Bool):Int:=if b then 1 else 0
theorem Oq (b:Bool):Ij (MJ b)=if b then ⟨#[49]⟩ else ⟨#[48]⟩:=by
 cases b
 ·rw [Ij,F7 (by decide),Lib.decDigits,dif_pos (by decide)]
  rfl
 ·rw [Ij,F7 (by decide),Lib.decDigits,dif_pos (by decide)]
  rfl
theorem Ny (s:ByteArray):(NS s).size=1+s.size:=by rw [NS,QH]; rfl
section
open Go.RowKit Go.Maps
structure fT (w:w_) (a:Option d_) (l:List ByteArray):Prop where
 len:l.length≤1048576
 short: ∀ s∈l,s.size≤1048576
 row:Row w a (bT.flat l)
theorem fT.below {w w':w_} {a:Option d_} {l:List ByteArray} (h:fT w a l) (hb:B_ w.heap.size w w'):fT w' a l:=⟨h.len,h.short,h.row.below hb⟩
theorem oy (a:Option d_) (l:List ByteArray) (cap:Nat) (Me:Int) (w:w_) (h:fT w a l):
  k_ J3 250 #[s_ a l.length cap,i_ j_ Me] w fun e w'=>e=r_ (b_ (cv Me 1 5 && dJ l Me))∧w'=w:=by
 have H:Hid (fT w a l):=h;have hl:=h.len;clear h;by_cases h1:Me < 1
 ·go_enter func250,ntmps250
  go_wp2;go_ret;exact ⟨al (by rw [mA h1]; rfl),rfl⟩
 by_cases h2:5 < Me
 ·go_enter func250,ntmps250
  go_wp2;go_ret;exact ⟨al (by rw [kR h2]; rfl),rfl⟩
 have HIn:Hid (cv Me 1 5=true):=eB (by omega) (by omega);by_cases h3:Me < (l.length:Int)
 ·have HT:Hid (dJ l Me=false):=by show dJ l Me=false; simp [dJ]; intro _; omega
  have e1:wrap64 (l.length:Int)=l.length:=by unfold wrap64; omega
  go_enter func250,ntmps250
  go_wp2;go_ret;exact ⟨al (by rw [HT.I,PP]),rfl⟩
 have HL:Hid (decide ((l.length:Int)≤Me)=true):=decide_eq_true (by omega);have e1:wrap64 (l.length:Int)=l.length:=by unfold wrap64; omega
 go_enter func250,ntmps250
 go_wp2_with fail
 go_loop [21] (fun i=> ∃ k:Nat,k≤l.length∧i=i_ j_ k∧Hid ((l.take k).all bw=true)) (fun i=>l.length - (intOf i).toNat)
 case atStart=>exact ⟨0,Ky _,rfl,(by simp:(l.take 0).all bw=true)⟩
 case round=>
  obtain ⟨k,hk,rfl,HA⟩:=hrel;by_cases hlt:k < l.length
  ·have i0:(0:Int)≤(k:Int):=by omega
   have i1:(k:Int) < (l.length:Int):=by omega
   obtain ⟨x,hx⟩: ∃ x,l[k]? =o_ x:=⟨_,Kz hlt⟩
   have HX:Hid (l[k]? =o_ x):=hx;obtain ⟨g,rfl,c0⟩:=zl H.I.row hx;have hxs:=H.I.short x (KA hx);clear hx;go_wp2_with fail;refine (iM x w hxs).mono ?_;rintro e w' ⟨rfl,rfl⟩;cases hp:bw x with
   | true=>
    exact Za0
   | false=>
    have HP:Hid (bw x=false):=hp;clear hp;go_wp2;go_ret;exact ⟨al (by rw [xL HX.I HP.I,PP]),rfl⟩
  ·have i1: ¬ (k:Int) < (l.length:Int):=by omega
   have HT:Hid (l.all bw=true):=by have:=HA.I; rwa [KF (by omega)] at this
   go_wp2;go_ret;exact ⟨al (by rw [HIn.I,dJ,HT.I,HL.I]; rfl),rfl⟩
theorem zS {id:Int} {I Mf:Bool} {max:Int} {Ma:List ByteArray} (h:(cv max 1 5 && dJ Ma max)=false):dj ⟨id,I,Mf,max,Ma⟩=false:=by
 simp only [dj];cases h1:cv max 1 5 <;> cases h2:dJ Ma max <;> simp_all
theorem Cu {id:Int} {I:Bool} {max:Int} {Ma:List ByteArray} (h:(cv max 1 5 && dJ Ma max)=true) (q:Bool):dj ⟨id,I,q,max,Ma⟩=(q || decide (max=1)):=by
 simp only [J7] at h;simp [dj,h.1,h.2]
def iI (Me:Int) (m:df) (id:Int) (ok:Bool):Bool:= !(cz m id).isSome && decide ((m.length:Int) < Me) && cv id 1 1000 && ok
def dD (w:w_) (b:Nat) (m:df) (ok:Bool) (id:Int) (cs:Array v_) (T:T_) (e:Ending) (w':w_):Prop:=
 e=r_ (b_ ok)∧(ok=false→B_ w.heap.size w w')∧(ok=true→ ∃ g,w.heap.size≤g∧w'.heap[g]? =o_ (c_ cs T)∧cF w' b (oK (id,g) m)∧w.grownBy w' (o_ b))
theorem ki {w w':w_} {b:Nat} {m:df} {ok:Bool} {id:Int} {cs:Array v_} {T:T_} (h:ok=false) (hb:B_ w.heap.size w w'):dD w b m ok id cs T (r_ (b_ false)) w':=by
 subst h;exact ⟨rfl,fun _=>hb,fun h=>by cases h⟩
structure fe (w W:w_) (S X b:Nat) (m:df) (Me:Int) (cs:Array v_) (T TS:T_):Prop where
 sh:W.heap[S]? =o_ (c_ #[i_ j_ Me,.map (o_ b)] TS)
 bx:W.heap[X]? =o_ (c_ cs T)
 mp:cF W b m
 cd:B_ w.heap.size w W
section
variable {w W W':w_} {S X b:Nat} {m:df} {Me:Int} {cs:Array v_} {T TS:T_}
theorem fe.below (h:fe w W S X b m Me cs T TS) (hb:B_ W.heap.size W W'):fe w W' S X b m Me cs T TS:=
 ⟨(hb.block _ (J2.1 h.sh).1).trans h.sh,(hb.block _ (J2.1 h.bx).1).trans h.bx,h.mp.below hb,h.cd.trans (hb.mono h.cd.size)⟩
theorem fe.start (w:w_) {b:Nat} {m:df} (h:cF w b m) (Me:Int) (cs:Array v_) (T TS:T_):fe w ((w.alloc (c_ #[i_ j_ Me,.map (o_ b)] TS)).alloc (c_ cs T)) w.heap.size (w.heap.size+1) b m Me cs T TS:=by
 have b1:B_ w.heap.size w (w.alloc (c_ #[i_ j_ Me,.map (o_ b)] TS)):=(Kp _ _).alloc (Ki _) _;have b2:B_ w.heap.size w ((w.alloc (c_ #[i_ j_ Me,.map (o_ b)] TS)).alloc (c_ cs T)):=b1.alloc b1.size _;exact ⟨(PU (by simp)).trans (Kj _ _),Kq _ _ _,h.below b2,b2⟩
theorem fe.drew (h:fe w W S X b m Me cs T TS):fe w W.drew S X b m Me cs T TS:=⟨h.sh,h.bx,h.mp.same rfl,h.cd.drew⟩
theorem fe.cells (h:fe w W S X b m Me cs T TS):W.cell? ⟨S,0,n_⟩=o_ (i_ j_ Me)∧W.cell? ⟨S,1,n_⟩=o_ (.map (o_ b)):=by
 have:=h.sh
 simp [World.cell?,this]
theorem fe.put (h:fe w W S X b m Me cs T TS) (hX:w.heap.size≤X) {t e:T_} (ht:Tryz.prog.underlying t=o_ (.map 2 e)) {id:Int} (hid:(Lit.int j_ id).wf=true) (hn:cz m id=n_) (hm:m.length≤1048576) (hXb: ¬ X=b):
  ∃ w',(Instr.mapUpdate t (.map (o_ b)) (i_ j_ id) (p_ (o_ ⟨X,0,n_⟩))).run J3 W= .ok () w'∧dD w b m true id cs T (r_ (b_ true)) w':=by
 obtain ⟨w',hrun,hmp,htn⟩:=h.mp.put ht hid X hn hm;refine ⟨w',hrun,⟨rfl,(fun h=>by cases h),fun _=>⟨X,hX,?_,hmp,?_⟩⟩⟩
 ·have:=htn.grown
  exact (this.block X (J2.1 h.bx).1 (fun e=>hXb (KC e))).trans h.bx
 ·have hg:=htn.grown
  exact ⟨hg.os.trans h.cd.os,hg.tape.trans h.cd.tape,hg.output.trans h.cd.output,LG h.cd.size hg.size,fun k hk hne=>(hg.block k (Kn hk h.cd.size) hne).trans (h.cd.block k hk)⟩
end
section
variable {α:Type} {vs:α→Array v_} {num:α→Int} {T:T_}
def RW (num:α→Int) (l:List (α × Nat)):df:=l.map fun p=>(num p.1,p.2)
structure Shelf (vs:α→Array v_) (num:α→Int) (T:T_) (w:w_) (base b:Nat) (l:List (α × Nat)):Prop where
 map:cF w b (RW num l)
 box: ∀ p∈l,w.heap[p.2]? =o_ (c_ (vs p.1) T)
 nodup:(b :: l.map (·.2)).Nodup
 low: ∀ g∈b :: l.map (·.2),base≤g
theorem Shelf.lt {w:w_} {base b:Nat} {l:List (α × Nat)} (h:Shelf vs num T w base b l): ∀ g∈b :: l.map (·.2),g < w.heap.size:=fun g hg=>by
 rcases Kt.1 hg with rfl | hg
 ·exact h.map.lt
 ·obtain ⟨p,hp,rfl⟩:=Lr.1 hg
  exact (J2.1 (h.box p hp)).1
theorem Shelf.same {w w':w_} {base b:Nat} {l:List (α × Nat)} (h:Shelf vs num T w base b l) (hs: ∀ g∈b :: l.map (·.2),w'.heap[g]? =w.heap[g]?):Shelf vs num T w' base b l:=
 ⟨h.map.same (hs b (by simp)),fun p hp=>(hs p.2 (LB _ (Lr.2 ⟨p,hp,rfl⟩))).trans (h.box p hp),h.nodup,h.low⟩
theorem Shelf.below {w w':w_} {base b:Nat} {l:List (α × Nat)} (h:Shelf vs num T w base b l) (hb:B_ w.heap.size w w'):Shelf vs num T w' base b l:=h.same fun g hg=>hb.block g (h.lt g hg)
theorem Shelf.lower {w:w_} {base base' b:Nat} {l:List (α × Nat)} (h:Shelf vs num T w base b l) (hb:base'≤base):Shelf vs num T w base' b l:=⟨h.map,h.box,h.nodup,fun g hg=>LG hb (h.low g hg)⟩
theorem Shelf.none {w:w_} {base b:Nat} (hb:w.heap[b]? =o_ (.map #[] 0)) (hl:base≤b):Shelf vs num T w base b [] :=
 ⟨cF.Hh hb,(fun p hp=>by cases hp),by simp,fun g hg=>by simp at hg; subst hg; exact hl⟩
def fc (num:α→Int) (p:α × Nat):List (α × Nat)→List (α × Nat)
 | [] => [p]
 | y :: r=>if num p.1 < num y.1 then p :: y :: r else y :: fc num p r
theorem EE (p:α × Nat) (l:List (α × Nat)):RW num (fc num p l)=oK (num p.1,p.2) (RW num l):=by
 induction l with
 | nil=>rfl
 | cons y r ih=>
  simp only [fc,RW,Lt,oK] at ih ⊢
  split
  ·rfl
  ·simp only [Lt,ih]
theorem lC (p:α × Nat) (l:List (α × Nat)):(fc num p l).Perm (p :: l):=by
 induction l with
 | nil=>exact RA _
 | cons y r ih=>
  unfold fc
  split
  ·exact RA _
  ·exact (List.Perm.cons y ih).trans (List.Perm.swap p y r)
theorem Er {p:α × Nat} {l:List (α × Nat)} (h: ∀ q∈l,num q.1 < num p.1):fc num p l=l ++ [p] :=by
 induction l with
 | nil=>rfl
 | cons y r ih=>
  have:=h y (by simp)
  unfold fc;rw [if_neg (by omega),ih (fun q hq=>h q (by simp [hq]))];rfl
theorem bZ (l:List (α × Nat)):(RW num l).length=l.length:=by simp [RW]
theorem Shelf.lay {w w':w_} {base b:Nat} {l:List (α × Nat)} {x:α} {e:Ending} (h:Shelf vs num T w base b l) (hb:base≤w.heap.size) (hl:dD w b (RW num l) true (num x) (vs x) T e w'):
  ∃ g,w.heap.size≤g∧Shelf vs num T w' base b (fc num (x,g) l)∧w.grownBy w' (o_ b):=by
 obtain ⟨-,-,h3⟩:=hl;obtain ⟨g,hg,lD,hmap,hgr⟩:=h3 rfl;have hpm:((fc num (x,g) l).map (·.2)).Perm (g :: l.map (·.2)):=(lC (num:=num) (x,g) l).map (·.2);refine ⟨g,hg,⟨?_,fun p hp=> ?_,?_,fun k hk=> ?_⟩,hgr⟩
 ·rw [EE]; exact hmap
 ·rcases Kt.1 ((lC (num:=num) (x,g) l).mem_iff.1 hp) with rfl | hp
  ·exact lD
  ·have hne: ¬ p.2=b:=fun e=>by
    have:=(Lp.1 h.nodup).1
    exact this (Lr.2 ⟨p,hp,e⟩)
   exact (hgr.block p.2 (h.lt p.2 (LB _ (Lr.2 ⟨p,hp,rfl⟩))) (fun e=>hne (KC e))).trans (h.box p hp)
 ·refine ((List.Perm.cons b hpm).nodup_iff).2 ?_
  refine ((List.Perm.swap g b (l.map (·.2))).nodup_iff).2 ?_;refine Lp.2 ⟨fun hm=> ?_,h.nodup⟩
  have:=h.lt g hm
  omega
 ·rcases Kt.1 hk with rfl | hk
  ·exact h.low k (by simp)
  ·rcases Kt.1 (hpm.mem_iff.1 hk) with rfl | hk
   ·omega
   ·exact h.low k (LB _ hk)
def jN (vs:α→Array v_) (num:α→Int) (T:T_) (w:w_) (Me:Int) (ok:Bool) (list:List α) (e:Ending) (w':w_):Prop:=
 B_ w.heap.size w w'∧((ok=false∧e=r_ (u_ #[a_ #[i_ j_ 0,.map n_],b_ false]))∨
  (ok=true∧ ∃ b l,e=r_ (u_ #[a_ #[i_ j_ Me,.map (o_ b)],b_ true])∧l.map (·.1)=list∧Shelf vs num T w' w.heap.size b l))
structure eS (vs:α→Array v_) (num:α→Int) (T TS:T_) (w wr:w_) (Me:Int) (l:List (α × Nat)):Prop where
 res:wr.heap[w.heap.size]? =o_ (c_ #[i_ j_ 0,.map n_] TS)
 var:wr.heap[w.heap.size+1+1]? =o_ (c_ #[i_ j_ Me,.map (o_ (w.heap.size+1))] TS)
 eh:Shelf vs num T wr (w.heap.size+1) (w.heap.size+1) l
 cd:B_ w.heap.size w wr
theorem eS.below {TS:T_} {w wr w':w_} {Me:Int} {l:List (α × Nat)} (h:eS vs num T TS w wr Me l) (hb:B_ wr.heap.size wr w'):eS vs num T TS w w' Me l:=
 ⟨(hb.block _ (J2.1 h.res).1).trans h.res,(hb.block _ (J2.1 h.var).1).trans h.var,h.eh.below hb,h.cd.trans (hb.mono h.cd.size)⟩
theorem eS.start (TS:T_) (w:w_) (Me:Int):eS vs num T TS w (((w.alloc (c_ #[i_ j_ 0,.map n_] TS)).alloc (.map #[] 0)).alloc (c_ #[i_ j_ Me,.map (o_ (w.heap.size+1))] TS)) Me [] :=by
 have b1:B_ w.heap.size w (w.alloc (c_ #[i_ j_ 0,.map n_] TS)):=(Kp _ _).alloc (Ki _) _;have b2:=b1.alloc b1.size (.map #[] 0);have b3:=b2.alloc b2.size (c_ #[i_ j_ Me,.map (o_ (w.heap.size+1))] TS);refine ⟨?_,?_,Shelf.none ?_ (by omega),b3⟩
 ·rw [PU ZcJ,PU (by simp),Kj]
 ·have:=Kj ((w.alloc (c_ #[i_ j_ 0,.map n_] TS)).alloc (.map #[] 0)) (c_ #[i_ j_ Me,.map (o_ (w.heap.size+1))] TS)
  simpa using this
 ·rw [PU (by simp)]
  exact Kq _ _ _
theorem eS.cells {TS:T_} {w wr:w_} {Me:Int} {l:List (α × Nat)} (h:eS vs num T TS w wr Me l):
  wr.cell? ⟨w.heap.size,0,n_⟩=o_ (i_ j_ 0)∧wr.cell? ⟨w.heap.size,1,n_⟩=o_ (.map n_)∧wr.cell? ⟨w.heap.size+1+1,0,n_⟩=o_ (i_ j_ Me)∧wr.cell? ⟨w.heap.size+1+1,1,n_⟩=o_ (.map (o_ (w.heap.size+1)))∧wr.frozen? ⟨w.heap.size,0,n_⟩=false∧wr.frozen? ⟨w.heap.size,1,n_⟩=false:=by
 have h1:=h.res;have h2:=h.var;refine ⟨by simp [World.cell?,h1],by simp [World.cell?,h1],by simp [World.cell?,h2],by simp [World.cell?,h2],Ko _ _ _ _ _ h1,Ko _ _ _ _ _ h1⟩
theorem eS.lay {TS:T_} {w wr w':w_} {Me:Int} {l:List (α × Nat)} {x:α} {e:Ending} (h:eS vs num T TS w wr Me l) (hl:dD wr (w.heap.size+1) (RW num l) true (num x) (vs x) T e w') (hr: ∀ q∈l,num q.1 < num x):
  ∃ g,eS vs num T TS w w' Me (l ++ [(x,g)]):=by
 obtain ⟨g,hg,hs,hgr⟩:=h.eh.lay (by have:=(J2.1 h.var).1; omega) hl;rw [Er hr] at hs;refine ⟨g,(hgr.block _ (J2.1 h.res).1 (by simp)).trans h.res,(hgr.block _ (J2.1 h.var).1 (by simp)).trans h.var,hs,?_⟩;exact h.cd.trans ⟨hgr.os,hgr.tape,hgr.output,hgr.size,fun k hk=>hgr.block k (by have:=h.cd.size; omega) (fun e=>by have:=KC e; omega)⟩
theorem xq {ok:α→Bool} : ∀ {l:List α} {last:Int},aw num ok last l=true→last≤bW num last l∧ ∀ y∈l,num y≤bW num last l
 | [],last,_=>⟨Int.le_refl _,fun y hy=>by cases hy⟩
 | x :: r,last,h=>by
  simp only [aw,J7,decide_eq_true_eq] at h;obtain ⟨h1,h2⟩:=xq h.2;simp only [bW];refine ⟨by omega,fun y hy=> ?_⟩;rcases Kt.1 hy with rfl | hy
  ·exact h1
  ·exact h2 y hy
theorem jB {ok:α→Bool} {l:List (α × Nat)} {list:List α} {last:Int} {x:α} (hm:l.map (·.1)=list) (h:aw num ok last list=true) (hx:bW num last list < num x): ∀ q∈l,num q.1 < num x:=fun q hq=>by
 have:=(xq h).2 q.1 (by rw [← hm]; exact Lr.2 ⟨q,hq,rfl⟩)
 omega
theorem Ej {l:List (α × Nat)} {x:α} (h: ∀ q∈l,num q.1 < num x):cz (RW num l) (num x)=n_:=by
 rw [qA];intro hm;simp only [RW,List.map_map,Lr] at hm;obtain ⟨q,hq,e⟩:=hm
 have:=h q hq
 simp only [Function.comp] at e;omega
theorem iC {ok:α→Bool} {list:List α} {k:Nat} {x:α} {Me:Int} {l:List (α × Nat)} (hx:list[k]? =o_ x) (hm:l.map (·.1)=list.take k) (oC:aw num ok 0 (list.take k)=true) (hlt:bW num 0 (list.take k) < num x) (h:iI Me (RW num l) (num x) (ok x)=false):
  (aw num ok 0 list && decide ((list.length:Int)≤max Me 0))=false:=by
 have hk:k < list.length:=(Lj.1 hx).1;have hn:=Ej (jB hm oC hlt);have hlen:l.length=k:=by
  have:=congrArg List.length hm
  simp only [KG,Lk] at this;omega
 simp only [iI,hn,bZ,hlen] at h;by_cases h1:(k:Int) < Me
 ·have:aw num ok 0 list=false:=bS hx (fun hh=>by
   rw [hh.1,hh.2.2,decide_eq_true h1] at h;simp at h)
  rw [this]; rfl
 ·have:decide ((list.length:Int)≤max Me 0)=false:=decide_eq_false (by omega)
  rw [this,PP]
theorem gM {ok:α→Bool} {list:List α} {k:Nat} {x:α} {Me:Int} {l:List (α × Nat)} (hx:list[k]? =o_ x) (hm:l.map (·.1)=list.take k) (oC:aw num ok 0 (list.take k)=true) (hlt:bW num 0 (list.take k) < num x) (h:iI Me (RW num l) (num x) (ok x)=true):
  aw num ok 0 (list.take (k+1))=true∧((k+1:Nat):Int)≤max Me 0:=by
 have hlen:l.length=k:=by
  have:=congrArg List.length hm
  have hk:k < list.length:=(Lj.1 hx).1;simp only [KG,Lk] at this;omega
 simp only [iI,J7,decide_eq_true_eq,bZ,hlen] at h;exact ⟨ed oC hx h.1.2 hlt h.2,by omega⟩
theorem eS.lu {TS:T_} {w wr:w_} {Me:Int} {l:List (α × Nat)} (h:eS vs num T TS w wr Me l) (v0 v1:v_):Shelf vs num T ((wr.setCell ⟨w.heap.size,0,n_⟩ v0).setCell ⟨w.heap.size,1,n_⟩ v1) w.heap.size (w.heap.size+1) l∧B_ w.heap.size w ((wr.setCell ⟨w.heap.size,0,n_⟩ v0).setCell ⟨w.heap.size,1,n_⟩ v1):=by
 refine ⟨(h.eh.same fun g hg=> ?_).lower (by omega),(h.cd.setCell (Ki _) _).setCell (Ki _) _⟩
 have:=h.eh.low g hg
 rw [K6 _ _ _ _ (by show g≠w.heap.size; omega),K6 _ _ _ _ (by show g≠w.heap.size; omega)]
end
end
section
open Go.RowKit
attribute [local go_sem ↓] Kc Kd
def aX (x:ao):Array v_:= #[i_ j_ x.id,i_ j_ x.RX,s_ x.aY x.prog.length x.bH,i_ j_ x.Md,i_ j_ x.pc,i_ j_ x.left,i_ j_ x.Mg,i_ j_ x.on,t_ x.held,t_ x.got,i_ j_ x.code,i_ j_ x.RU]
def eL (w:w_) (x:ao):Prop:=x.dX∧Row w x.aY (fk.flat x.prog)
theorem eL.below {w w':w_} {x:ao} (h:eL w x) (hb:B_ w.heap.size w w'):eL w' x:=⟨h.1,h.2.below hb⟩
theorem bo {W:w_} {X:Nat} {x:ao} (h:W.heap[X]? =o_ (c_ (aX x) 44)):W.cell? ⟨X,0,n_⟩=o_ (i_ j_ x.id)∧W.cell? ⟨X,1,n_⟩=o_ (i_ j_ x.RX)∧W.cell? ⟨X,2,n_⟩=o_ (s_ x.aY x.prog.length x.bH)∧W.cell? ⟨X,3,n_⟩=o_ (i_ j_ x.Md)∧W.cell? ⟨X,4,n_⟩=o_ (i_ j_ x.pc)∧W.cell? ⟨X,5,n_⟩=o_ (i_ j_ x.left)∧W.cell? ⟨X,6,n_⟩=o_ (i_ j_ x.Mg)∧W.cell? ⟨X,7,n_⟩=o_ (i_ j_ x.on)∧W.cell? ⟨X,8,n_⟩=o_ (t_ x.held)∧W.cell? ⟨X,9,n_⟩=o_ (t_ x.got)∧W.cell? ⟨X,10,n_⟩=o_ (i_ j_ x.code)∧W.cell? ⟨X,11,n_⟩=o_ (i_ j_ x.RU):=by
 unfold aX at h;simp [World.cell?,h]
theorem iK (x:ao) (w:w_):k_ J3 231 #[a_ (aX x)] w fun e w'=>e=r_ (i_ j_ x.id)∧B_ w.heap.size w w':=by
 unfold aX
 go_enter func231,ntmps231
 exact ww
theorem ob (v : v_) (w : w_) : Sem.run J3 (method 432 44 v "loop.example/g00313/impl.number") w = .ok (231, v) w := by kernel_rfl
theorem uB (v : v_) (w : w_) : Sem.run J3 (method 432 44 v "loop.example/g00313/impl.right") w = .ok (232, v) w := by kernel_rfl
theorem oD (w:w_):(zeroValue 71).run J3 w= .ok (p_ n_) w:=by kernel_rfl
theorem BP (Me:Int) (b:Nat) (m:df) (id:Int) (w:w_) (h:cF w b m) (hw:(Lit.int j_ id).wf=true):
  k_ J3 69 #[a_ #[i_ j_ Me,.map (o_ b)],i_ j_ id] w fun e w'=>e=r_ (b_ (cz m id).isSome)∧B_ w.heap.size w w':=by
 have hlk:=(h.below ((Kp _ w).alloc (Ki _) (c_ #[i_ j_ Me,.map (o_ b)] 75))).look underlying73 (oD _) hw true;simp only [if_true] at hlk;clear h hw
 go_enter func69,ntmps69
 exact ww
theorem kb (t:Int) (w:w_):k_ J3 236 #[i_ j_ t] w fun e w'=>e=r_ (b_ (cv t 1 2000000000))∧w'=w:=by
 by_cases h1:1≤t
 ·by_cases h2:t≤2000000000
  ·go_enter func236,ntmps236
   exact Zbi
  ·go_enter func236,ntmps236
   exact Za4
 ·go_enter func236,ntmps236
  exact Za5
theorem kn (x:ao) (w:w_) (hl:x.prog.length≤1048576):k_ J3 146 #[a_ (aX x)] w fun e w'=>e=r_ (b_ (dU x.toaD))∧B_ w.heap.size w w':=by
 unfold aX;have e1:wrap64 (x.prog.length:Int)=x.prog.length:=by unfold wrap64; omega
 by_cases h1:0≤x.pc
 ·by_cases h2:x.pc < (x.prog.length:Int)
  ·have HV:Hid (dU x.toaD=true):=eB h1 (by omega)
   go_enter func146,ntmps146
   exact ZaK
  ·have HV:Hid (dU x.toaD=false):=kR (by omega)
   go_enter func146,ntmps146
   exact ZaK
 ·have HV:Hid (dU x.toaD=false):=mA (by omega)
  go_enter func146,ntmps146
  exact ZaK
theorem xm {x:aD} (h:dU x=true): ∃ k:Nat,x.pc=k∧k < x.prog.length∧x.prog[k]? =o_ (opAt x):=by
 have:=bz.1 h
 refine ⟨x.pc.toNat,by omega,by omega,?_⟩;unfold opAt;rw [Kz (by omega)];rfl
theorem CP (x:ao) (w:w_) (hf:eL w x) (h:dU x.toaD=true):k_ J3 235 #[a_ (aX x)] w fun e w'=>e=r_ (b_ (jJ x.toaD))∧B_ w.heap.size w w':=by
 obtain ⟨k,hk,hkl,hop⟩:=xm h;have b1:B_ w.heap.size w (w.alloc (c_ (aX x) 44)):=(Kp _ _).alloc (Ki _) _;obtain ⟨g,hg,c0,c1,c2,c3⟩:=Jm (hf.2.below b1) hop;have HL:Hid (jJ x.toaD=if (opAt x.toaD).1=1 then decide (0≤x.left) && decide (x.left < (opAt x.toaD).2.1) else decide (x.left=0)):=rfl;have i0:(0:Int)≤(k:Int):=by omega
 have i1:(k:Int) < (x.prog.length:Int):=by omega
 clear h hop hf;generalize opAt x.toaD=o at *;obtain ⟨⟨id,RX,prog,Md,pc,left,Mg,on,held,got,code,RU⟩,aY,bH⟩:=x;simp only at hk hg i1 HL;subst hk hg;unfold aX at *;simp only at *;by_cases h1:o.1=1
 ·have Jt:Hid (jJ ⟨id,RX,prog,Md,k,left,Mg,on,held,got,code,RU⟩=(decide (0≤left) && decide (left < o.2.1))):=HL.I.trans (if_pos h1)
  have h1':(o.1 == 1)=true:=by simp [h1]
  clear h1 HL;by_cases h2:0≤left
  ·by_cases h3:left < o.2.1
   all_goals
    go_enter func235,ntmps235
    go_wp2;go_ret;exact ⟨al (by rw [Jt.I]; simp [h2,h3]),by go_grown⟩
  ·go_enter func235,ntmps235
   go_wp2;go_ret;exact ⟨al (by rw [Jt.I,decide_eq_false (by omega)]; rfl),by go_grown⟩
 ·have Jt:Hid (jJ ⟨id,RX,prog,Md,k,left,Mg,on,held,got,code,RU⟩=decide (left=0)):=HL.I.trans (if_neg h1)
  have h1':(o.1 == 1)=false:=by simp [h1]
  clear h1 HL
  go_enter func235,ntmps235
  go_wp2;go_ret;exact ⟨al (by rw [Jt.I]; by_cases h:left=0 <;> simp [h]),by go_grown⟩
def bQ (x:au):Array v_:= #[i_ j_ x.id,i_ j_ x.max,s_ x.ak x.Ma.length x.aq]
def fM (w:w_) (x:au):Prop:=fT w x.ak x.Ma
theorem fM.below {w w':w_} {x:au} (h:fM w x) (hb:B_ w.heap.size w w'):fM w' x:=fT.below h hb
theorem ia {W:w_} {X:Nat} {x:au} (h:W.heap[X]? =o_ (c_ (bQ x) 114)):W.cell? ⟨X,0,n_⟩=o_ (i_ j_ x.id)∧W.cell? ⟨X,1,n_⟩=o_ (i_ j_ x.max)∧W.cell? ⟨X,2,n_⟩=o_ (s_ x.ak x.Ma.length x.aq):=by
 unfold bQ at h;simp [World.cell?,h]
theorem gP (x:au) (w:w_):k_ J3 248 #[a_ (bQ x)] w fun e w'=>e=r_ (i_ j_ x.id)∧B_ w.heap.size w w':=by
 unfold bQ
 go_enter func248,ntmps248
 exact ww
theorem mc (v : v_) (w : w_) : Sem.run J3 (method 432 114 v "loop.example/g00313/impl.number") w = .ok (248, v) w := by kernel_rfl
theorem se (v : v_) (w : w_) : Sem.run J3 (method 432 114 v "loop.example/g00313/impl.right") w = .ok (249, v) w := by kernel_rfl
theorem pS (w:w_):(zeroValue 164).run J3 w= .ok (p_ n_) w:=by kernel_rfl
theorem mE (Me:Int) (b:Nat) (m:df) (id:Int) (w:w_) (h:cF w b m) (hw:(Lit.int j_ id).wf=true):
  k_ J3 78 #[a_ #[i_ j_ Me,.map (o_ b)],i_ j_ id] w fun e w'=>e=r_ (b_ (cz m id).isSome)∧B_ w.heap.size w w':=by
 have hlk:=(h.below ((Kp _ w).alloc (Ki _) (c_ #[i_ j_ Me,.map (o_ b)] 87))).look underlying85 (pS _) hw true;simp only [if_true] at hlk;clear h hw
 go_enter func78,ntmps78
 exact ww
theorem Sr (x:au) (w:w_) (hf:fM w x):k_ J3 249 #[a_ (bQ x)] w fun e w'=>e=r_ (b_ (ct x.toci))∧B_ w.heap.size w w':=by
 have HF:Hid (fM w x):=hf;clear hf;unfold bQ
 go_enter func249,ntmps249
 go_wp2_with fail;refine (oy x.ak x.Ma x.aq x.max _ (fT.below HF.I ((Kp _ _).alloc (Ki _) _))).mono ?_;rintro e w1 ⟨rfl,hw1⟩;subst hw1;exact ww
def cW (x:aM):Array v_:= #[i_ j_ x.id,b_ x.I,b_ x.Mf,i_ j_ x.max,s_ x.ak x.Ma.length x.aq]
def jf (w:w_) (x:aM):Prop:=fT w x.ak x.Ma
theorem jf.below {w w':w_} {x:aM} (h:jf w x) (hb:B_ w.heap.size w w'):jf w' x:=fT.below h hb
theorem gE {W:w_} {X:Nat} {x:aM} (h:W.heap[X]? =o_ (c_ (cW x) 132)):W.cell? ⟨X,0,n_⟩=o_ (i_ j_ x.id)∧W.cell? ⟨X,1,n_⟩=o_ (b_ x.I)∧W.cell? ⟨X,2,n_⟩=o_ (b_ x.Mf)∧W.cell? ⟨X,3,n_⟩=o_ (i_ j_ x.max)∧W.cell? ⟨X,4,n_⟩=o_ (s_ x.ak x.Ma.length x.aq):=by
 unfold cW at h;simp [World.cell?,h]
theorem iN (x:aM) (w:w_):k_ J3 258 #[a_ (cW x)] w fun e w'=>e=r_ (i_ j_ x.id)∧B_ w.heap.size w w':=by
 unfold cW
 go_enter func258,ntmps258
 exact ww
theorem nY (v : v_) (w : w_) : Sem.run J3 (method 432 132 v "loop.example/g00313/impl.number") w = .ok (258, v) w := by kernel_rfl
theorem vZ (v : v_) (w : w_) : Sem.run J3 (method 432 132 v "loop.example/g00313/impl.right") w = .ok (259, v) w := by kernel_rfl
theorem sK (w:w_):(zeroValue 172).run J3 w= .ok (p_ n_) w:=by kernel_rfl
theorem Bb (Me:Int) (b:Nat) (m:df) (id:Int) (w:w_) (h:cF w b m) (hw:(Lit.int j_ id).wf=true):
  k_ J3 114 #[a_ #[i_ j_ Me,.map (o_ b)],i_ j_ id] w fun e w'=>e=r_ (b_ (cz m id).isSome)∧B_ w.heap.size w w':=by
 have hlk:=(h.below ((Kp _ w).alloc (Ki _) (c_ #[i_ j_ Me,.map (o_ b)] 90))).look underlying88 (sK _) hw true;simp only [if_true] at hlk;clear h hw
 go_enter func114,ntmps114
 exact ww
theorem wG (x:aM) (w:w_) (hf:jf w x):k_ J3 259 #[a_ (cW x)] w fun e w'=>e=r_ (b_ (dj x.todS))∧B_ w.heap.size w w':=by
 have HF:Hid (jf w x):=hf;clear hf;obtain ⟨⟨id,I,Mf,max,Ma⟩,ak,aq⟩:=x;unfold cW;cases hp:(cv max 1 5 && dJ Ma max) with
 | false=>
  have HP:Hid ((cv max 1 5 && dJ Ma max)=false):=hp;clear hp
  go_enter func259,ntmps259
  go_wp2_with fail;refine (oy ak Ma aq max _ (fT.below HF.I ((Kp _ _).alloc (Ki _) _))).mono ?_;rintro e w1 ⟨rfl,hw1⟩;rw [HP.I];subst hw1;go_wp2;go_ret;exact ⟨al (zS HP.I).symm,(Kp _ _).alloc (Ki _) _⟩
 | true=>
  have HP:Hid ((cv max 1 5 && dJ Ma max)=true):=hp;clear hp;by_cases h1:max=1
  all_goals
   have HM:Hid (decide (max=1)=(max == 1)):=by show decide (max=1)=(max == 1); by_cases h:max=1 <;> simp [h]
   have h1':(max == 1)=decide (max=1):=HM.I.symm;cases Mf
  all_goals
   have HV:Hid (∀ q,dj ⟨id,I,q,max,Ma⟩=(q || decide (max=1))):=Cu HP.I;simp only [h1,decide_true,decide_false] at h1';clear h1
   go_enter func259,ntmps259
   go_wp2_with fail;refine (oy ak Ma aq max _ (fT.below HF.I ((Kp _ _).alloc (Ki _) _))).mono ?_;rintro e w1 ⟨rfl,hw1⟩;rw [HP.I];subst hw1;go_wp2;go_ret;exact ⟨al (by rw [HV.I,HM.I]; simp [h1']),(Kp _ _).alloc (Ki _) _⟩
def eH (x:bD):Array v_:= #[i_ j_ x.id,i_ j_ x.n,i_ j_ x.max]
def kU (_:w_) (_:bD):Prop:=True
theorem kU.below {w w':w_} {x:bD} (_:kU w x) (_:B_ w.heap.size w w'):kU w' x:=trivial
theorem gm {W:w_} {X:Nat} {x:bD} (h:W.heap[X]? =o_ (c_ (eH x) 59)):W.cell? ⟨X,0,n_⟩=o_ (i_ j_ x.id)∧W.cell? ⟨X,1,n_⟩=o_ (i_ j_ x.n)∧W.cell? ⟨X,2,n_⟩=o_ (i_ j_ x.max):=by
 unfold eH at h;simp [World.cell?,h]
theorem jv (x:bD) (w:w_):k_ J3 238 #[a_ (eH x)] w fun e w'=>e=r_ (i_ j_ x.id)∧B_ w.heap.size w w':=by
 unfold eH
 go_enter func238,ntmps238
 exact ww
theorem pb (v : v_) (w : w_) : Sem.run J3 (method 432 59 v "loop.example/g00313/impl.number") w = .ok (238, v) w := by kernel_rfl
theorem wW (v : v_) (w : w_) : Sem.run J3 (method 432 59 v "loop.example/g00313/impl.right") w = .ok (239, v) w := by kernel_rfl
theorem vU (w:w_):(zeroValue 163).run J3 w= .ok (p_ n_) w:=by kernel_rfl
theorem tZ (Me:Int) (b:Nat) (m:df) (id:Int) (w:w_) (h:cF w b m) (hw:(Lit.int j_ id).wf=true):
  k_ J3 77 #[a_ #[i_ j_ Me,.map (o_ b)],i_ j_ id] w fun e w'=>e=r_ (b_ (cz m id).isSome)∧B_ w.heap.size w w':=by
 have hlk:=(h.below ((Kp _ w).alloc (Ki _) (c_ #[i_ j_ Me,.map (o_ b)] 78))).look underlying76 (vU _) hw true;simp only [if_true] at hlk;clear h hw
 go_enter func77,ntmps77
 exact ww
theorem ye (x:bD) (w:w_) (_:kU w x):k_ J3 239 #[a_ (eH x)] w fun e w'=>e=r_ (b_ (gw x))∧B_ w.heap.size w w':=by
 unfold eH;by_cases h1:1≤x.max
 ·by_cases h2:x.max≤1000
  ·by_cases h3:0≤x.n
   ·by_cases h4:x.n≤x.max
    all_goals
     go_enter func239,ntmps239
     go_wp2;go_ret;exact ⟨al (by simp [gw,cv, *] <;> omega),(Kp _ _).alloc (Ki _) _⟩
   ·exact Zap
  ·exact Zap
 ·exact Zap
def cG (x:aB):Array v_:= #[i_ j_ x.id,b_ x.up]
def ix (_:w_) (_:aB):Prop:=True
theorem ix.below {w w':w_} {x:aB} (_:ix w x) (_:B_ w.heap.size w w'):ix w' x:=trivial
theorem kF {W:w_} {X:Nat} {x:aB} (h:W.heap[X]? =o_ (c_ (cG x) 122)):W.cell? ⟨X,0,n_⟩=o_ (i_ j_ x.id)∧W.cell? ⟨X,1,n_⟩=o_ (b_ x.up):=by
 unfold cG at h;simp [World.cell?,h]
theorem iw (x:aB) (w:w_):k_ J3 252 #[a_ (cG x)] w fun e w'=>e=r_ (i_ j_ x.id)∧B_ w.heap.size w w':=by
 unfold cG
 go_enter func252,ntmps252
 exact ww
theorem mT (v : v_) (w : w_) : Sem.run J3 (method 432 122 v "loop.example/g00313/impl.number") w = .ok (252, v) w := by kernel_rfl
theorem tp (v : v_) (w : w_) : Sem.run J3 (method 432 122 v "loop.example/g00313/impl.right") w = .ok (253, v) w := by kernel_rfl
theorem rE (w:w_):(zeroValue 194).run J3 w= .ok (p_ n_) w:=by kernel_rfl
theorem rj (Me:Int) (b:Nat) (m:df) (id:Int) (w:w_) (h:cF w b m) (hw:(Lit.int j_ id).wf=true):
  k_ J3 112 #[a_ #[i_ j_ Me,.map (o_ b)],i_ j_ id] w fun e w'=>e=r_ (b_ (cz m id).isSome)∧B_ w.heap.size w w':=by
 have hlk:=(h.below ((Kp _ w).alloc (Ki _) (c_ #[i_ j_ Me,.map (o_ b)] 81))).look underlying79 (rE _) hw true;simp only [if_true] at hlk;clear h hw
 go_enter func112,ntmps112
 exact ww
theorem tX (x:aB) (w:w_) (_:ix w x):k_ J3 253 #[a_ (cG x)] w fun e w'=>e=r_ (b_ (ey x))∧B_ w.heap.size w w':=by
 unfold cG
 go_enter func253,ntmps253
 exact ww
def cI (x:az):Array v_:= #[i_ j_ x.id,b_ x.shown,t_ x.text]
def gX (_:w_) (x:az):Prop:=x.text.size≤1048576
theorem gX.below {w w':w_} {x:az} (h:gX w x) (_:B_ w.heap.size w w'):gX w' x:=h
theorem kJ {W:w_} {X:Nat} {x:az} (h:W.heap[X]? =o_ (c_ (cI x) 126)):W.cell? ⟨X,0,n_⟩=o_ (i_ j_ x.id)∧W.cell? ⟨X,1,n_⟩=o_ (b_ x.shown)∧W.cell? ⟨X,2,n_⟩=o_ (t_ x.text):=by
 unfold cI at h;simp [World.cell?,h]
theorem iq (x:az) (w:w_):k_ J3 255 #[a_ (cI x)] w fun e w'=>e=r_ (i_ j_ x.id)∧B_ w.heap.size w w':=by
 unfold cI
 go_enter func255,ntmps255
 exact ww
theorem nr (v : v_) (w : w_) : Sem.run J3 (method 432 126 v "loop.example/g00313/impl.number") w = .ok (255, v) w := by kernel_rfl
theorem tq (v : v_) (w : w_) : Sem.run J3 (method 432 126 v "loop.example/g00313/impl.right") w = .ok (256, v) w := by kernel_rfl
theorem qW (w:w_):(zeroValue 197).run J3 w= .ok (p_ n_) w:=by kernel_rfl
theorem qM (Me:Int) (b:Nat) (m:df) (id:Int) (w:w_) (h:cF w b m) (hw:(Lit.int j_ id).wf=true):
  k_ J3 113 #[a_ #[i_ j_ Me,.map (o_ b)],i_ j_ id] w fun e w'=>e=r_ (b_ (cz m id).isSome)∧B_ w.heap.size w w':=by
 have hlk:=(h.below ((Kp _ w).alloc (Ki _) (c_ #[i_ j_ Me,.map (o_ b)] 84))).look underlying82 (qW _) hw true;simp only [if_true] at hlk;clear h hw
 go_enter func113,ntmps113
 exact ww
theorem wd (x:az) (w:w_) (hf:gX w x):k_ J3 256 #[a_ (cI x)] w fun e w'=>e=r_ (b_ (cU x))∧B_ w.heap.size w w':=by
 have HF:Hid (gX w x):=hf;clear hf;unfold cI;obtain ⟨id,shown,text⟩:=x;cases hp:bw text with
 | false=>
  have HP:Hid (bw text=false):=hp;clear hp
  go_enter func256,ntmps256
  go_wp2_with fail;refine (iM text _ HF.I).mono ?_;rintro e w1 ⟨rfl,hw1⟩;rw [HP.I];subst hw1;go_wp2;go_ret;exact ⟨al (by simp [cU,HP.I]),(Kp _ _).alloc (Ki _) _⟩
 | true=>
  have HP:Hid (bw text=true):=hp;clear hp;by_cases hes:text.toList= []
  all_goals
   have hes':([] =text.toList)=(text.toList= []):=propext ⟨fun h=>h.symm,fun h=>h.symm⟩;cases shown
  all_goals
   go_enter func256,ntmps256
   go_wp2_with fail;refine (iM text _ HF.I).mono ?_;rintro e w1 ⟨rfl,hw1⟩;rw [HP.I];subst hw1;go_wp2;go_ret;exact ⟨al (by simp [cU,HP.I,bI,hes]),(Kp _ _).alloc (Ki _) _⟩
end
section
open Go.RowKit
theorem pi {Me:Int} {m:df} {id:Int} {ok vA vB vC vD:Bool} (hA:(cz m id).isSome=vA) (hB:decide (Me≤(m.length:Int))=vB) (hC:cv id 1 1000=vC) (hD:ok=vD):iI Me m id ok=(!vA && !vB && vC && vD):=by
 subst hA hB hC hD;have e:decide ((m.length:Int) < Me)= !decide (Me≤(m.length:Int)):=by
  by_cases h:Me≤(m.length:Int)
  ·simp [h]
  ·simp [h,Int.not_le.1 h]
 simp [iI,e]
theorem MX (b:Bool) (w:w_):k_ J3 67 #[b_ b] w fun e w'=>e=r_ (t_ (Ij (MJ b)))∧w'=w:=by
 rw [Oq]
 go_enter func67,ntmps67
 cases b
 ·go_wp2
  go_ret;exact ⟨rfl,rfl⟩
 ·go_wp2
  go_ret;exact ⟨rfl,rfl⟩
theorem Nx (a:Option d_) (l:List ByteArray) (cap:Nat) (w:w_) (hl:l.length≤1048576) (hs: ∀ x∈l,x.size≤1048576) (h:Row w a (bT.flat l)):
  k_ J3 68 #[s_ a l.length cap] w fun e w'=>e=r_ (t_ (MI l))∧w'=w:=by
 have H:Hid (Row w a (bT.flat l)∧ ∀ x∈l,x.size≤1048576):=⟨h,hs⟩
 clear h hs
 go_enter func68,ntmps68
 go_wp2_with fail
 go_loop [3,4] (fun t i=> ∃ k:Nat,k≤l.length∧i=i_ j_ k∧t=t_ (MI (l.take k))) (fun _ i=>l.length - (intOf i).toNat)
 case atStart=>exact ⟨0,Ky _,rfl,rfl⟩
 case round=>
  obtain ⟨k,hk,rfl,rfl⟩:=hrel;by_cases hlt:k < l.length
  ·have i0:(0:Int)≤(k:Int):=by omega
   have i1:(k:Int) < (l.length:Int):=by omega
   obtain ⟨x,hx⟩: ∃ x,l[k]? =o_ x:=⟨_,Kz hlt⟩
   have HX:Hid (MI (l.take k) ++ ⟨#[59]⟩ ++ x=MI (l.take (k+1))):=by show _=_; rw [MI,MI,OX hx,NS,ByteArray.append_assoc]
   obtain ⟨g,rfl,c0⟩:=zl H.I.1 hx;have hz:(MI (l.take k)).size≤1048577 * k:=by
    have h1:=Nf (f:=NS) (l:=l.take k) (m:=1048577) fun y hy=>by have:=H.I.2 y (List.mem_of_mem_take hy); rw [Ny]; omega
    rw [Lk,Nat.min_eq_left hk] at h1;exact h1
   have hxs:=H.I.2 x (KA hx);have s1: ¬ 9223372036854775807 < (MI (l.take k)).size+1:=by omega
   have s2: ¬ 9223372036854775807 < (MI (l.take k)).size+1+x.size:=by omega
   clear hx hz hxs;go_wp2
   go_round
   case rel=>exact ⟨k+1,by omega,by go_num,congrArg Value.string HX.I⟩
   case measure=>simp [intOf]; omega
  ·have i1: ¬ (k:Int) < (l.length:Int):=by omega
   have ek:k=l.length:=by omega
   subst ek;rw [List.take_length];go_wp2;go_ret;exact ⟨rfl,rfl⟩
def NQ (l:List dN):ByteArray:=M0 l.length (Cd l) (Cg l) (Ea l) (Ce l)
theorem NP (a:Option d_) (l:List dN) (cap:Nat) (w:w_) (h0:0 < l.length) (hl:l.length≤1048576) (hs: ∀ o∈l,o.2.2.2.size≤1048576) (h:Row w a (fk.flat l)):
  k_ J3 66 #[s_ a l.length cap] w fun e w'=>e=r_ (t_ (NQ l))∧B_ w.heap.size w w':=by
 obtain ⟨g,rfl,hr⟩:=wa h h0;exact No g _ cap _ _ _ _ w hl (xd hs) hr
theorem N8 (l:List dN):(NQ l).size≤1040:=by
 unfold NQ M0;by_cases h:nq l.length (Cd l) (Cg l) (Ea l) (Ce l)=true
 ·rw [if_pos h]
  have h1:=MU h;have h2:=NX _ h1.2.2;omega
 ·rw [if_neg h]
  exact Ky _
end
end Go.Proofs.YtgdmbemagdbmaaaGreatDoor
