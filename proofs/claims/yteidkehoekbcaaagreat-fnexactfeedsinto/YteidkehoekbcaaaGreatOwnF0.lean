/- What the proof leans on, part 0. -/
import Derived.Test.YteidkehoekbcaaaGreatOwnK19
import Derived.Lib.ItoaNum
set_option maxRecDepth 100000
set_option maxHeartbeats 8000000
open Bool renaming and_eq_true->J7
open Go.Proofs.Tryz renaming prog->J3
open Go.Value.slice renaming injEq->LD
open List renaming cons_append->Qw,getElem?_append_right->Qo,getElem?_eq_some_iff->Lj,length_cons->Lg,mem_cons->Kt,mem_map->Lr,pairwise_cons->LM
open Nat renaming le_refl->Ki,zero_le->Ky

namespace Go.Proofs.YteidkehoekbcaaaGreat
open Go.RowKit
section
variable {w w1 w2:World} {bs bs':List Nat}
end
section
variable {α:Type} {K:Kind α}
theorem bl.owns {T:TypeId} {w:World} {base g cap:Nat} {l:List α} (h:bl K T w base g cap l):w.ownsRow base T K.n (.slice (some ⟨g,0,none⟩) l.length cap) l.length (K.flat l):=by
 obtain ⟨cur,h1,h2,h3,h4,h5,h6⟩:=h;exact ⟨K.dM l,.inr ⟨g,cap,cur,rfl,h2,h1,h3,h4,h5,h6⟩⟩
theorem bl.fX {T:TypeId} {w:World} {base cap:Nat} {a:Option Addr} {l:List α} (h:w.ownsRow base T K.n (.slice a l.length cap) l.length (K.flat l)) (hl: ¬ l.length=0): ∃ g,a=some ⟨g,0,none⟩∧bl K T w base g cap l:=by
 rcases h.2 with ⟨_,h0⟩ | ⟨g,c,cur,hv,h1,h2,h3,h4,h5,h6⟩
 ·exact absurd h0 hl
 ·simp only [LD] at hv
  obtain ⟨rfl,-,rfl⟩:=hv;exact ⟨g,rfl,cur,h2,h1,h3,h4,h5,h6⟩
theorem bl.eO {T:TypeId} {w:World} {base g cap j:Nat} {A B:List α} {x:α} (h:bl K T w base g cap (A ++ x :: B)) (hA:A.length=j) {r:Nat} (hr:r < K.n):(∃ u,w.cell? ⟨g,j * K.n+r,none⟩=some u)∧w.frozen? ⟨g,j * K.n+r,none⟩=false:=by
 have hx:(A ++ x :: B)[j]? =some x:=by
  subst hA;rw [Qo (Ki _)];simp
 obtain ⟨h1,h2⟩:=h.cell hx hr;rw [List.getElem?_eq_getElem (by rw [K.len]; exact hr)] at h1;exact ⟨⟨_,h1⟩,h2⟩
theorem bl.uD {T:TypeId} {w:World} {base g cap j:Nat} {A B:List α} {x:α} (h:bl K T w base g cap (A ++ x :: B)) (hA:A.length=j) {r:Nat} (hr:r < K.n):w.cell? ⟨g,j * K.n+r,none⟩=(K.vals x)[r]? :=by
 have hx:(A ++ x :: B)[j]? =some x:=by
  subst hA;rw [Qo (Ki _)];simp
 exact (h.cell hx hr).1
theorem mz {l:List α} {k:Nat} {x:α} (hx:l[k]? =some x):l.drop k=x :: l.drop (k+1):=by
 obtain ⟨hk,rfl⟩:=Lj.1 hx;exact List.drop_eq_getElem_cons hk
def aJ (f:Int→α→α) (c:α→Nat):Int→List α→List α
 | _,[] => []
 | k,x :: r=>f k x :: aJ f c (k+c x) r
def aF (c:α→Nat):List α→Nat
 | [] =>0
 | x :: r=>c x+aF c r
theorem oz (c:α→Nat): ∀ l r:List α,aF c (l ++ r)=aF c l+aF c r
 | [],r=>by simp [aF]
 | x :: l,r=>by simp only [Qw,aF,oz c l r]; omega
theorem nA (f:Int→α→α) (c:α→Nat): ∀ (k:Int) (l r:List α),aJ f c k (l ++ r)=aJ f c k l ++ aJ f c (k+aF c l) r
 | k,[],r=>by simp [aJ,aF]
 | k,x :: l,r=>by
  simp only [Qw,aJ,aF,nA f c (k+c x) l r];rw [show k+(c x:Int)+(aF c l:Int)=k+((c x+aF c l:Nat):Int) by omega]
theorem bE (f:Int→α→α) (c:α→Nat): ∀ (k:Int) (l:List α),(aJ f c k l).length=l.length
 | _,[] =>rfl
 | k,x :: r=>by simp [aJ,bE f c (k+c x) r]
theorem kr {c:α→Nat} {n:Nat} (h: ∀ x,c x=n): ∀ l:List α,aF c l=l.length * n
 | [] =>by simp [aF]
 | x :: r=>by rw [aF,h x,kr h r,Lg,Nat.succ_mul]; omega
theorem du {c:α→Nat} {l:List α} {i:Nat} {x:α} (hx:l[i]? =some x):aF c (l.take i)+c x≤aF c l:=by
 have e:=kL hx
 have:aF c l=aF c (l.take i ++ x :: l.drop (i+1)):=by rw [← e]
 rw [this,oz,aF];omega
theorem gK {c:α→Nat} {l:List α} {i:Nat} {x:α} (hx:l[i]? =some x):aF c (l.take (i+1))=aF c (l.take i)+c x:=by
 rw [cj hx,oz];simp [aF]
theorem jK {f:Int→α→α} {c:α→Nat} {k:Int} {l:List α} {i:Nat} {x:α} (hx:l[i]? =some x):(aJ f c k l)[i]? =some (f (k+aF c (l.take i)) x):=by
 have hi:i < l.length:=(Lj.1 hx).1;have e:aJ f c k l=aJ f c k (l.take i ++ x :: l.drop (i+1)):=by rw [← kL hx]
 have hn:(aJ f c k (l.take i)).length=i:=by rw [bE,List.length_take]; omega
 rw [e,nA,Qo (by omega),hn,Nat.sub_self];rfl
theorem kE {f:Int→α→α} {c:α→Nat} {k:Int} {l:List α} {i:Nat} {x:α} (hx:l[i]? =some x):aJ f c k (l.take (i+1))=aJ f c k (l.take i) ++ [f (k+aF c (l.take i)) x] :=by
 rw [cj hx,nA];rfl
end
end Go.Proofs.YteidkehoekbcaaaGreat

namespace Go.Proofs.YteidkehoekbcaaaGreat
open Go.RowKit
theorem i6 {w:World} {base g:Nat} {e:TypeId} {size:Nat} (hg:w.heap[g]? =some (.cells #[] e (0,0))) (hb:base≤g):w.ownsRow base e size (.slice (some ⟨g,0,none⟩) 0 0) 0 [] :=
 ⟨by simp,.inr ⟨g,0,#[],rfl,hb,hg,Ki _,Ky _,by simp,by simp⟩⟩
section
variable {P:Program} {Q:Exit→Act→World→Prop} {K:Act→World→Prop} {o:Oper} {a:Act} {w:World}
end
end Go.Proofs.YteidkehoekbcaaaGreat

namespace Go.Proofs.YteidkehoekbcaaaGreat
open Go.RowKit
def X0 (cs:List eQ) (q:eQ→Bool) (P:Int→Prop):Prop:= ∀ c∈cs,(P c.dst→P c.src)∧(q c=true→P c.src→P c.dst)
def XT (cs:List eQ) (q:eQ→Bool) (part i:Int):Prop:= ∀ P:Int→Prop,P part→X0 cs q P→P i
section
variable {cs:List eQ} {q:eQ→Bool} {part:Int}
theorem XA:XT cs q part part:=fun _ h _=>h
theorem Yi {c:eQ} (hc:c∈cs) (h:XT cs q part c.dst):XT cs q part c.src:=fun P h1 h2=>(h2 c hc).1 (h P h1 h2)
theorem XV {c:eQ} (hc:c∈cs) (hq:q c=true) (h:XT cs q part c.src):XT cs q part c.dst:=fun P h1 h2=>(h2 c hc).2 hq (h P h1 h2)
theorem Yh {l:List Int} (h0:part∈l) (h1: ∀ i∈l,XT cs q part i) (h2:X0 cs q (· ∈l)) (i:Int):i∈l↔XT cs q part i:=⟨h1 i,fun h=>h _ h0 h2⟩
structure XO (cs:List eQ) (q:eQ→Bool) (part:Int) (l:List Int):Prop where
 mem: ∀ i,i∈l↔XT cs q part i
 kW:l.Pairwise (· < ·)
end
theorem XU: ∀ {l m:List Int},l.Pairwise (· < ·)→m.Pairwise (· < ·)→(∀ i,i∈l↔i∈m)→l=m
 | [],[],_,_,_=>rfl
 | [],y :: m,_,_,h=>by have:=(h y).2 (by simp); cases this
 | x :: l,[],_,_,h=>by have:=(h x).1 (by simp); cases this
 | x :: l,y :: m,h1,h2,h=>by
  obtain ⟨a1,a2⟩:=LM.1 h1;obtain ⟨b1,b2⟩:=LM.1 h2;have e:x=y:=by
   rcases Kt.1 ((h x).1 (by simp)) with e | hx
   ·exact e
   ·rcases Kt.1 ((h y).2 (by simp)) with e | hy
    ·exact e.symm
    ·have:=a1 y hy; have:=b1 x hx; omega
  subst e;rw [XU a2 b2 fun i=>⟨fun hi=> ?_,fun hi=> ?_⟩]
  ·rcases Kt.1 ((h i).1 (by simp [hi])) with e | hm
   ·subst e; have:=a1 i hi; omega
   ·exact hm
  ·rcases Kt.1 ((h i).2 (by simp [hi])) with e | hm
   ·subst e; have:=b1 i hi; omega
   ·exact hm
theorem Yo {cs:List eQ} {q:eQ→Bool} {part:Int} {l m:List Int} (h:XO cs q part l) (h':XO cs q part m):l=m:=XU h.kW h'.kW fun i=>(h.mem i).trans (h'.mem i).symm
theorem Xo {k:kd} (h:eP k=true):(k.parts.map (·.id)).Pairwise (· < ·)∧k.parts.length≤6∧k.eC.length≤10∧ ∀ c∈k.eC,pa k.parts c=true:=by
 simp only [eP,J7,decide_eq_true_eq] at h;refine ⟨?_,h.1.1.1.2,h.1.1.2,?_⟩
 ·have key: ∀ (l:List aE) (last:Int),aw (·.id) bK last l=true→(l.map (·.id)).Pairwise (· < ·)∧ ∀ x∈l,last < x.id:=by
   intro l
   induction l with
   | nil=>exact fun _ _=>⟨List.Pairwise.nil,fun x hx=>by cases hx⟩
   | cons x r ih=>
    intro last h;simp only [aw,J7,decide_eq_true_eq] at h;obtain ⟨h1,h2⟩:=ih _ h.2;refine ⟨List.Pairwise.cons (fun y hy=> ?_) h1,fun y hy=> ?_⟩
    ·obtain ⟨z,hz,rfl⟩:=Lr.1 hy
     exact h2 z hz
    ·rcases Kt.1 hy with rfl | hy
     ·exact h.1.1.2
     ·have:=h2 y hy; have:=h.1.1.2; omega
  exact (key _ _ h.1.2).1
 ·have key: ∀ (r m:List eQ),fA k.parts m r=true→ ∀ c∈r,pa k.parts c=true:=by
   intro r
   induction r with
   | nil=>intro m _ c hc; cases hc
   | cons x r ih=>
    intro m h c hc;simp only [fA,J7] at h;rcases Kt.1 hc with rfl | hc
    ·exact h.1.1
    ·exact ih _ h.2 c hc
  exact key _ _ h.2
theorem Yr {ps:List aE} {part port:Int} {x:dS} (h:endP ps part port=some x):part∈ps.map (·.id):=by
 unfold endP at h;cases hf:hP (fun p:aE=>p.id) part ps with
 | none=>rw [hf] at h; cases h
 | some p=>exact Lr.2 ⟨p,List.mem_of_find?_eq_some hf,by have:=List.find?_some hf; simpa using this⟩
theorem XQ {ps:List aE} {c:eQ} (h:pa ps c=true):c.src∈ps.map (·.id)∧c.dst∈ps.map (·.id):=by
 unfold pa at h;cases h1:endP ps c.src c.ga with
 | none=>rw [h1] at h; simp at h
 | some x=>
  cases h2:endP ps c.dst c.hI with
  | none=>rw [h1,h2] at h; simp at h
  | some y=>exact ⟨Yr h1,Yr h2⟩
theorem XY {k:kd} {q:eQ→Bool} {part i:Int} (h:eP k=true) (hp:part∈k.parts.map (·.id)) (hr:XT k.eC q part i):i∈k.parts.map (·.id):=
 hr (· ∈k.parts.map (·.id)) hp fun c hc=>⟨fun _=>(XQ ((Xo h).2.2.2 c hc)).1,fun _ _=>(XQ ((Xo h).2.2.2 c hc)).2⟩
theorem Xs: ∀ {l m:List Int},l.Nodup→(∀ i∈l,i∈m)→l.length≤m.length
 | [],_,_,_=>Ky _
 | x :: l,m,h,hs=>by
  obtain ⟨h1,h2⟩:=List.nodup_cons.1 h;have hx:=hs x (by simp)
  have:=Xs (m:=m.erase x) h2 fun i hi=>(List.mem_erase_of_ne (fun e=>h1 (by rw [← e]; exact hi))).2 (hs i (by simp [hi]))
  rw [List.length_erase_of_mem hx] at this
  have:=List.length_pos_of_mem hx
  simp only [Lg];omega
end Go.Proofs.YteidkehoekbcaaaGreat

namespace Go.Proofs.YteidkehoekbcaaaGreat
open Go.RowKit
def Ij (n:Int):ByteArray:=⟨(Lib.itoa n).toArray⟩
theorem F7 {n:Int} (h:0≤n):Lib.itoa n=Lib.decDigits n.toNat:=by
 unfold Lib.itoa;rw [if_neg (by omega)]
theorem DX: ∀ (k u:Nat),u < 10 ^ (k+1)→(Lib.decDigits u).length≤k+1
 | 0,u,h=>by rw [Lib.decDigits,dif_pos (by simpa using h)]; simp
 | k+1,u,h=>by
  by_cases h1:u < 10
  ·rw [Lib.decDigits,dif_pos h1]; simp
  ·rw [Lib.decDigits,dif_neg h1]
   have:=DX k (u / 10) (by rw [Nat.pow_succ] at h; omega)
   simp; omega
theorem Fk {n:Int} (h:n≤9999999999):(Lib.decDigits n.toNat).length≤10:=DX 9 _ (by simp; omega)
theorem GP {a n:Int} {s:ByteArray} (h10:10≤a) (h:Lib.decDigits a.toNat ++ s.data.toList=Lib.decDigits n.toNat):
  Lib.decDigits (a / 10).toNat ++ ((⟨#[UInt8.ofNat (48+a % 10).toNat]⟩:ByteArray) ++ s).data.toList=Lib.decDigits n.toNat:=by
 rw [← h,Lib.decDigits.eq_def a.toNat,dif_neg (by omega)];have e1:(a / 10).toNat=a.toNat / 10:=by omega
 have e2:(48+a % 10).toNat=48+a.toNat % 10:=by omega
 simp [e1,e2,ByteArray.data_append]
theorem Gx (W:World) (c:Int):(convert 261 9 (.slice (some ⟨W.heap.size,0,none⟩) 1 1)).run J3 (W.alloc (.cells #[.int .u8 c] 5))= .ok (.string ⟨#[UInt8.ofNat c.toNat]⟩) (W.alloc (.cells #[.int .u8 c] 5)):=by
 rw [run_convert_bytes_string _ 261 9 5 _ 1 1 Tryz.underlying261 Tryz.underlying5 Tryz.underlying9];rw [run_bytesToString _ ⟨W.heap.size,0,none⟩ 1 1 [c] (by simp [go_sem])];rfl
theorem Bl {a b:ByteArray} (h:a.data.toList=b.data.toList):a=b:=by
 apply ByteArray.ext;apply Array.ext';exact h
theorem Ep (n:Int):(Ij n).data.toList=Lib.itoa n:=by simp [Ij]
def cu (n:Int):ByteArray:=⟨#[109]⟩ ++ Ij n
def Bw (a:Int):List UInt8:=if a=0 then [] else Lib.decDigits a.toNat
theorem Eh {a n:Int} {s:ByteArray} (h0:0 < a) (h:Bw a ++ s.data.toList=Lib.decDigits n.toNat):Bw (a / 10) ++ ((⟨#[UInt8.ofNat (48+a % 10).toNat]⟩:ByteArray) ++ s).data.toList=Lib.decDigits n.toNat:=by
 rw [Bw,if_neg (by omega)] at h;have e2:(48+a % 10).toNat=48+a.toNat % 10:=by omega
 by_cases h10:10≤a
 ·rw [Bw,if_neg (by omega)]
  exact GP h10 h
 ·rw [Bw,if_pos (by omega),← h,Lib.decDigits,dif_pos (by omega),e2,Nat.mod_eq_of_lt (by omega)]
  simp [ByteArray.data_append]
theorem Gt {n:Int} {s:ByteArray} (h0:1≤n) (h:s.data.toList=Lib.decDigits n.toNat):(⟨#[109]⟩:ByteArray) ++ s=cu n:=by
 have:s=Ij n:=Bl (by rw [h,Ep,F7 (by omega)])
 rw [this,cu]
theorem fh (n:Int) (hn0:1≤n) (hn:n≤99999999) (w:World):
  Calls J3 118 #[.int .i64 n] w fun e w'=>e= .returned (.string (cu n))∧Below w.heap.size w w':=by
 have h0: ¬ n≤0:=by omega
 have hcv:=Gx;have HN:Hid (1≤n∧n≤99999999):=⟨hn0,hn⟩
 clear hn0 hn
 go_enter Tryz.func118,Tryz.ntmps118
 go_wp2;clear h0
 go_loopw [0,3] (fun i t wr=> ∃ (a:Int) (s:ByteArray),i= .int .i64 a∧t= .string s∧Hid (0≤a∧a≤n∧Bw a ++ s.data.toList=Lib.decDigits n.toNat)∧Below w.heap.size w wr) (fun i _ _=>(intOf i).toNat)
 case atStart=>exact ⟨n,⟨#[]⟩,rfl,rfl,⟨by have:=HN.I; omega,Int.le_refl _,by rw [Bw,if_neg (by have:=HN.I; omega)]; simp⟩,Below.refl _ _⟩
 case round=>
  obtain ⟨a,s,rfl,rfl,HD,kj⟩:=hrel;have hs: ¬ 9223372036854775807 < 1+s.size:=by
   have h1:=congrArg List.length HD.I.2.2;have h2:=Fk (n:=n) (by have:=HN.I; omega);have h3:s.data.toList.length=s.size:=by simp
   rw [List.length_append] at h1;omega
  by_cases h10:0 < a
  ·have e1:wrap64 (48+a.tmod 10) % 256=48+a % 10:=by
    have:=HD.I
    rw [Int.tmod_eq_emod_of_nonneg (by omega)];unfold wrap64; omega
   have e2:a.tdiv 10=a / 10:=Int.tdiv_eq_ediv_of_nonneg (by have:=HD.I; omega);have e3:wrap64 (a / 10)=a / 10:=by have:=HD.I; have:=HN.I; unfold wrap64; omega
   go_wp2;go_roundw
   case rel=>
    refine ⟨a / 10,_,by rw [e3],rfl,?_,kj.alloc kj.size _⟩;have HD':=HD.I;refine ⟨by omega,by omega,?_⟩;exact Eh h10 HD'.2.2
   case measure=>simp only [intOf]; have:=HD.I; omega
  ·have HS:Hid (s.data.toList=Lib.decDigits n.toNat):=by
    have h:=HD.I;have h2:=h.2.2;rw [Bw,if_pos (by omega)] at h2;rw [List.nil_append] at h2;exact h2
   go_wp2;go_ret;refine ⟨?_,kj⟩
   show Ending.returned (.string ((⟨#[109]⟩:ByteArray) ++ s))=_
   rw [Gt HN.I.1 HS.I]
end Go.Proofs.YteidkehoekbcaaaGreat

namespace Go.Proofs.YteidkehoekbcaaaGreat
open Go.RowKit
theorem dd {α:Type} {N:gd α} {l:List α} {y:α} {g:Nat} (hy:y∈l) (hk:N.bt y=some g):(∃ a,a∈l∧N.bt a=some g)=True:=by simp only [eq_iff_iff,iff_true]; exact ⟨y,hy,hk⟩
end Go.Proofs.YteidkehoekbcaaaGreat

namespace Go.Proofs.YteidkehoekbcaaaGreat
open Go.RowKit
end Go.Proofs.YteidkehoekbcaaaGreat
