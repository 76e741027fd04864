/- What the proof leans on, part 0. -/
import Derived.Test.YteidkehoekbcaaaGreatOwnK0
import Derived.Test.YteidkehoekbcaaaGreatOwnK1
import Derived.Test.YteidkehoekbcaaaGreatOwnK3
import Derived.Test.YteidkehoekbcaaaGreatOwnK4
import Derived.Test.YteidkehoekbcaaaGreatOwnK14
import Derived.Shelf.SlIterI.Nil
import Derived.Shelf.SortM.Plain
import Derived.Shelf.SortM.SortNone
import Derived.Test.YteidkehoekbcaaaGreatProg
import Derived.Deep.RegionHeld
import Derived.Lib.ItoaNum
import Derived.RangeFuncCalls
import Derived.RangeFuncKeeps
set_option maxRecDepth 100000
set_option maxHeartbeats 8000000
open Array renaming all_eq_true_iff_forall_mem->aeb,getD_eq_getD_getElem?->adY,getElem?_eq_getElem->Qb
open Bool renaming and_eq_true->J7,not_eq_true'->PR
open Go.Proofs.Tryz renaming isAgg0->KK,isAgg2->KO,isAgg208->aeW,isAgg209->ae0,isAgg266->ae4,isAgg4->Q7,prog->J3,sizeOf0->KL,sizeOf2->KP,sizeOf208->aeX,sizeOf209->ae1,sizeOf266->ae5,sizeOf4->Q8,underlying0->KJ,underlying2->KN,underlying208->aeV,underlying209->aeZ,underlying266->ae3,underlying4->Q6,zeroValue0->KM,zeroValue2->KQ,zeroValue208->aeY,zeroValue209->ae2,zeroValue266->ae6,zeroValue4->Q9
open List renaming all_eq_true->PZ,find?_cons->LL,find?_map->aeu,find?_some->PS,getElem?_cons_succ->QC,getElem?_cons_zero->QI,length_append->Lf,length_take->Lk,mem_cons->Kt,mem_cons_of_mem->LB,mem_filter->L2,mem_map->Lr,mem_of_find?_eq_some->RG,mem_of_mem_take->RK,set_cons_succ->Lo
open Nat renaming le_refl->Ki,le_trans->LG
open Option renaming bind_some->aeE,getD_some->Ka,map_eq_some_iff->Kw,map_some->J9
open Option.some renaming injEq->LF

namespace Go.Proofs
open Go.Shelf
def Tryz.keysSem_ren:Go.Shelf.Ren:=⟨fun | 7=>189 | 10=>219 | n=>n,fun | 23=>164 | 26=>2 | 3=>247 | 28=>209 | 0=>0 | 27=>208 | 33=>266 | 4=>4 | n=>n,fun | n=>n⟩
theorem Tryz.keysSem:Go.Proofs.SlLaysZI.n7 J3 Tryz.keysSem_ren:= {
 mixed:=by kernel_rfl
 f7:=⟨Tryz.f189.name,by decide,Tryz.func189.trans (congrArg some (by kernel_rfl))⟩
 f10:=⟨Tryz.f219.name,by decide,Tryz.func219.trans (congrArg some (by kernel_rfl))⟩
 t0:=KJ
 a0:=KK
 z0:=KL
 v0:=KM
 t4:=Q6
 a4:=Q7
 z4:=Q8
 v4:=Q9
 t23:=Tryz.underlying164
 a23:=Tryz.isAgg164
 z23:=Tryz.sizeOf164
 v23:=Tryz.zeroValue164
 t26:=KN
 a26:=KO
 z26:=KP
 v26:=KQ
 t27:=aeV
 a27:=aeW
 z27:=aeX
 v27:=aeY
 t28:=aeZ
 a28:=ae0
 z28:=ae1
 v28:=ae2
 t33:=ae3
 a33:=ae4
 z33:=ae5
 v33:=ae6 }
def Tryz.keysEvent_ren:Go.Shelf.Ren:=⟨fun | 7=>190 | 10=>220 | n=>n,fun | 23=>167 | 26=>2 | 3=>250 | 28=>209 | 0=>0 | 27=>208 | 33=>266 | 4=>4 | n=>n,fun | n=>n⟩
theorem Tryz.keysEvent:Go.Proofs.SlLaysZI.n7 J3 Tryz.keysEvent_ren:= {
 mixed:=by kernel_rfl
 f7:=⟨Tryz.f190.name,by decide,Tryz.func190.trans (congrArg some (by kernel_rfl))⟩
 f10:=⟨Tryz.f220.name,by decide,Tryz.func220.trans (congrArg some (by kernel_rfl))⟩
 t0:=KJ
 a0:=KK
 z0:=KL
 v0:=KM
 t4:=Q6
 a4:=Q7
 z4:=Q8
 v4:=Q9
 t23:=Tryz.underlying167
 a23:=Tryz.isAgg167
 z23:=Tryz.sizeOf167
 v23:=Tryz.zeroValue167
 t26:=KN
 a26:=KO
 z26:=KP
 v26:=KQ
 t27:=aeV
 a27:=aeW
 z27:=aeX
 v27:=aeY
 t28:=aeZ
 a28:=ae0
 z28:=ae1
 v28:=ae2
 t33:=ae3
 a33:=ae4
 z33:=ae5
 v33:=ae6 }
def Tryz.keysBoard_ren:Go.Shelf.Ren:=⟨fun | 7=>191 | 10=>221 | n=>n,fun | 23=>170 | 26=>2 | 3=>253 | 28=>209 | 0=>0 | 27=>208 | 33=>266 | 4=>4 | n=>n,fun | n=>n⟩
theorem Tryz.keysBoard:Go.Proofs.SlLaysZI.n7 J3 Tryz.keysBoard_ren:= {
 mixed:=by kernel_rfl
 f7:=⟨Tryz.f191.name,by decide,Tryz.func191.trans (congrArg some (by kernel_rfl))⟩
 f10:=⟨Tryz.f221.name,by decide,Tryz.func221.trans (congrArg some (by kernel_rfl))⟩
 t0:=KJ
 a0:=KK
 z0:=KL
 v0:=KM
 t4:=Q6
 a4:=Q7
 z4:=Q8
 v4:=Q9
 t23:=Tryz.underlying170
 a23:=Tryz.isAgg170
 z23:=Tryz.sizeOf170
 v23:=Tryz.zeroValue170
 t26:=KN
 a26:=KO
 z26:=KP
 v26:=KQ
 t27:=aeV
 a27:=aeW
 z27:=aeX
 v27:=aeY
 t28:=aeZ
 a28:=ae0
 z28:=ae1
 v28:=ae2
 t33:=ae3
 a33:=ae4
 z33:=ae5
 v33:=ae6 }
def Tryz.keysBuffer_ren:Go.Shelf.Ren:=⟨fun | 7=>192 | 10=>222 | n=>n,fun | 23=>173 | 26=>2 | 3=>256 | 28=>209 | 0=>0 | 27=>208 | 33=>266 | 4=>4 | n=>n,fun | n=>n⟩
theorem Tryz.keysBuffer:Go.Proofs.SlLaysZI.n7 J3 Tryz.keysBuffer_ren:= {
 mixed:=by kernel_rfl
 f7:=⟨Tryz.f192.name,by decide,Tryz.func192.trans (congrArg some (by kernel_rfl))⟩
 f10:=⟨Tryz.f222.name,by decide,Tryz.func222.trans (congrArg some (by kernel_rfl))⟩
 t0:=KJ
 a0:=KK
 z0:=KL
 v0:=KM
 t4:=Q6
 a4:=Q7
 z4:=Q8
 v4:=Q9
 t23:=Tryz.underlying173
 a23:=Tryz.isAgg173
 z23:=Tryz.sizeOf173
 v23:=Tryz.zeroValue173
 t26:=KN
 a26:=KO
 z26:=KP
 v26:=KQ
 t27:=aeV
 a27:=aeW
 z27:=aeX
 v27:=aeY
 t28:=aeZ
 a28:=ae0
 z28:=ae1
 v28:=ae2
 t33:=ae3
 a33:=ae4
 z33:=ae5
 v33:=ae6 }
def Tryz.keysPort_ren:Go.Shelf.Ren:=⟨fun | 7=>193 | 10=>223 | n=>n,fun | 23=>176 | 26=>2 | 3=>203 | 28=>209 | 0=>0 | 27=>208 | 33=>266 | 4=>4 | n=>n,fun | n=>n⟩
theorem Tryz.keysPort:Go.Proofs.SlLaysZI.n7 J3 Tryz.keysPort_ren:= {
 mixed:=by kernel_rfl
 f7:=⟨Tryz.f193.name,by decide,Tryz.func193.trans (congrArg some (by kernel_rfl))⟩
 f10:=⟨Tryz.f223.name,by decide,Tryz.func223.trans (congrArg some (by kernel_rfl))⟩
 t0:=KJ
 a0:=KK
 z0:=KL
 v0:=KM
 t4:=Q6
 a4:=Q7
 z4:=Q8
 v4:=Q9
 t23:=Tryz.underlying176
 a23:=Tryz.isAgg176
 z23:=Tryz.sizeOf176
 v23:=Tryz.zeroValue176
 t26:=KN
 a26:=KO
 z26:=KP
 v26:=KQ
 t27:=aeV
 a27:=aeW
 z27:=aeX
 v27:=aeY
 t28:=aeZ
 a28:=ae0
 z28:=ae1
 v28:=ae2
 t33:=ae3
 a33:=ae4
 z33:=ae5
 v33:=ae6 }
end Go.Proofs

namespace Go.Proofs.YteidkehoekbcaaaGreat
open Go
section
variable {P:Program} {ops:Array Oper} {Q:Exit→Act→World→Prop} {md:Region.Mode} {S:World→Prop}
def zK (l:Array Bool):Nat:=l.toList.count false
theorem cX {l:Array Bool} {i:Nat} (h:i∈Region.ready md ops l):l[i]? =some false:=by
 simp only [Region.ready,L2,J7,PR] at h;have h1:=h.2.1;rw [adY] at h1;cases h2:l[i]? with
 | none=>rw [h2] at h1; simp at h1
 | some b=>rw [h2] at h1; simp at h1; rw [h1]
def D8 (md:Region.Mode) (ops:Array Oper) (i:Nat):List Nat:=((ops[i]?).map fun o=>(o.after.toList.filter fun e=>Region.binds md e).map fun e=>e.on).getD []
theorem hF {l:Array Bool} {i:Nat} (ns:List Nat) (h:i∈Region.ready md ops l) (hn:D8 md ops i=ns): ∀ j∈ns,l[j]? =some true:=fun j hj=>by
 simp only [Region.ready,L2,J7] at h;have h1:=h.2.2;subst hn;unfold D8 at hj;cases ho:ops[i]? with
 | none=>rw [ho] at hj; simp at hj
 | some o=>
  rw [ho] at hj h1;simp only [J9,Ka,Lr,L2] at hj h1;obtain ⟨e,⟨he,hb⟩,rfl⟩:=hj;rw [aeb] at h1;have h2:=h1 e (by simpa using he);simp only [hb,Bool.not_true,Bool.false_or,adY] at h2;cases h3:l[e.on]? with
  | none=>rw [h3] at h2; simp at h2
  | some b=>rw [h3] at h2; simp at h2; rw [h2]
theorem jW {l:Array Bool} {i:Nat} (ns:List Nat) (hi:decide (i < ops.size)=true) (hn:D8 md ops i=ns) (hf:l[i]? =some false) (hd: ∀ j∈ns,l[j]? =some true):i∈Region.ready md ops l:=by
 have hi':=of_decide_eq_true hi;simp only [Region.ready,L2,List.mem_range,J7,PR,adY,hf,Ka,true_and];refine ⟨hi',?_⟩;subst hn;rw [Qb hi'] at *;simp only [D8,Qb hi',J9,Ka] at hd ⊢;rw [aeb];intro e he;cases hb:Region.binds md e with
 | false=>simp
 | true=>
  have:=hd e.on (Lr.2 ⟨e,L2.2 ⟨by simpa using he,hb⟩,rfl⟩)
  simp [this]
theorem count_set: ∀ {q:List Bool} {i:Nat},q[i]? =some false→(q.set i true).count false+1=q.count false
 | [],_,h=>by simp at h
 | b :: r,0,h=>by
  simp only [QI,LF] at h;subst h;simp
 | b :: r,i+1,h=>by
  simp only [QC] at h
  have:=count_set h
  simp only [Lo,List.count_cons];omega
theorem vr {l:Array Bool} {i:Nat} (h:l[i]? =some false):zK (l.setIfInBounds i true)+1=zK l:=by
 unfold zK;rw [Array.toList_setIfInBounds];exact count_set (by rw [Array.getElem?_toList]; exact h)
theorem ln {i:Nat} {o:Oper} {K:Act→World→Prop} {a:Act} {w:World} (ho:ops[i]? =some o) (hw:Region.wanted o (yielded ops a.tmps)=true)
  (h: ∀ K':Act→World→Prop,Shut (∀ a w,K a w→K' a w)→Oper.wp P o a w K' Q):wpOp P ops Q i K a w:=
 wpOp_step ho fun K' hK=>by
  rw [if_pos hw];exact h K' hK
theorem wild (Inv:Array Bool→Act→World→Prop) (hS: ∀ l a w,Inv l a w→S w) (hstep: ∀ l a w,Inv l a w→ ∀ i∈Region.ready md ops l,wpOp P ops Q i (Inv (l.setIfInBounds i true)) a w)
  (hend: ∀ l a w,Inv l a w→Region.ready md ops l= [] →Q .normal a w): ∀ (fuel:Nat) (l:Array Bool) (a:Act) (w:World),Inv l a w→zK l≤fuel→wpAnyH P md ops Q S fuel l a w
 | 0,l,a,w,h,hu=>by
  have h0:Region.ready md ops l= [] :=List.eq_nil_iff_forall_not_mem.2 fun i hi=>by
   have:=vr (cX hi)
   omega
  exact ⟨h0,hend _ _ _ h h0⟩
 | fuel+1,l,a,w,h,hu=>⟨fun h0=>hend _ _ _ h h0,fun i hi=>wpOp_mono (fun a' w' h'=>⟨hS _ _ _ h',wild Inv hS hstep hend fuel _ a' w' h' (by have:=vr (cX hi); omega)⟩) (hstep _ _ _ h i hi)⟩
end
end Go.Proofs.YteidkehoekbcaaaGreat

namespace Go.Proofs.YteidkehoekbcaaaGreat
open Go.RowKit
def abP {α:Type} (f:α→Bool) (g:α→α):List α→List α
 | [] => []
 | x :: r=>if f x then g x :: r else x :: abP f g r
section
variable {α β:Type} {f:α→Bool} {g:α→α}
theorem acp: ∀ {l:List α} {n:Nat} {x:α},l[n]? =some x→f x=true→(∀ y∈l.take n,f y=false)→abP f g l=l.set n (g x)
 | [],n,x,h,_,_=>by simp at h
 | y :: r,0,x,h,hf,_=>by
  simp only [QI,LF] at h;subst h;simp [abP,hf]
 | y :: r,n+1,x,h,hf,hn=>by
  simp only [QC] at h;have h1:=hn y (by simp);simp only [abP,h1,Lo];rw [acp h hf fun z hz=>hn z (by simp [hz])];rfl
theorem acu {h:α→β} (hg: ∀ x,h (g x)=h x): ∀ l:List α,(abP f g l).map h=l.map h
 | [] =>rfl
 | x :: r=>by
  simp only [abP]
  split
  ·simp [hg]
  ·simp [acu hg r]
theorem acs {y:α} : ∀ {l:List α},y∈abP f g l→y∈l∨ ∃ x,l.find? f=some x∧y=g x
 | [],h=>by cases h
 | x :: r,h=>by
  simp only [abP] at h
  split at h
  ·rcases Kt.1 h with rfl | h
   ·exact .inr ⟨x,by rw [List.find?_cons_of_pos (by assumption)],rfl⟩
   ·exact .inl (LB _ h)
  ·rcases Kt.1 h with rfl | h
   ·exact .inl (by simp)
   ·rcases acs h with h5 | ⟨x',h5,h6⟩
    ·exact .inl (LB _ h5)
    ·exact .inr ⟨x',by rw [List.find?_cons_of_neg (by assumption)]; exact h5,h6⟩
end
theorem acf {α:Type} {num:α→Int} {id:Int} {g:α→α} (hg: ∀ x,num (g x)=num x) (j:Int): ∀ l:List α,hP num j (abP (fun x=>decide (num x=id)) g l)=if j=id then (hP num j l).map g else hP num j l
 | [] =>by simp [abP,hP]
 | x :: r=>by
  have h:=acf hg j r (id:=id);unfold hP at h ⊢;simp only [abP];by_cases hx:num x=id
  ·simp only [hx,decide_true,if_true,LL,hg]
   by_cases hj:j=id
   ·simp [hj]
   ·have: ¬ id=j:=fun e=>hj e.symm
    simp [hj,this]
  ·simp only [hx,decide_false,Bool.false_eq_true,if_false,LL]
   by_cases hj:num x=j
   ·have: ¬ j=id:=fun e=>hx (hj.trans e)
    simp [hj,this]
   ·simp only [hj,decide_false]
    exact h
def abZ (its:List ByteArray) (q:dS):dS:= { q with Ma:=its }
def ab7 (port:Int) (its:List ByteArray) (p:aE):aE:= { p with ai:=abP (fun q:dS=>decide (q.id=port)) (abZ its) p.ai }
def abK (part port:Int) (its:List ByteArray) (ps:List aE):List aE:=abP (fun p:aE=>decide (p.id=part)) (ab7 port its) ps
theorem acS (part port:Int) (its:List ByteArray) (ps:List aE) (a b:Int):endP (abK part port its ps) a b=if a=part∧b=port then (endP ps a b).map (abZ its) else endP ps a b:=by
 unfold abK endP;rw [acf (num:=fun p:aE=>p.id) (g:=ab7 port its) (fun _=>rfl)];by_cases ha:a=part
 ·subst ha
  simp only [if_true,true_and];cases hP (fun p:aE=>p.id) a ps with
  | none=>simp
  | some p=>
   simp only [J9,aeE];exact acf (num:=fun q:dS=>q.id) (g:=abZ its) (fun _=>rfl) b p.ai
 ·simp [ha]
def ab4 (t:dS):Nat:=(t.max - t.Ma.length).toNat
def abM (ps:List aE) (c:eQ):List aE:=match endP ps c.src c.ga,endP ps c.dst c.hI with
 | some s,some t=>if s.Mf then abK c.src c.ga (s.Ma.drop (min s.Ma.length (ab4 t))) (abK c.dst c.hI (t.Ma ++ s.Ma.take (min s.Ma.length (ab4 t))) ps) else if s.Ma.length=0 then ps else abK c.dst c.hI (s.Ma.take 1) ps
 | _,_=>ps
def abI (src:Int):List aE→List eQ→List aE
 | ps,[] =>ps
 | ps,c :: r=>abI src (if c.src=src then abM ps c else ps) r
theorem ab3 (src:Int): ∀ (ps:List aE) (l r:List eQ),abI src ps (l ++ r)=abI src (abI src ps l) r
 | _,[],_=>rfl
 | _,_ :: l,r=>ab3 src _ l r
theorem ace {src:Int} {ps:List aE} {l:List eQ} {n:Nat} {c:eQ} (h:l[n]? =some c):abI src ps (l.take (n+1))=if c.src=src then abM (abI src ps (l.take n)) c else abI src ps (l.take n):=by
 have e:l.take (n+1)=l.take n ++ [c] :=by rw [List.take_add_one,h]; rfl
 rw [e,ab3];rfl
def abL (q:dS):dS:= { q with Ma:= [] }
def abQ (p:aE):aE:= { p with ai:=p.ai.map abL }
structure abz (ps0 ps:List aE):Prop where
 acE:ps.map abQ=ps0.map abQ
 right: ∀ p∈ps,∀ q∈p.ai,dj q=true
theorem acY (part port:Int) (its:List ByteArray) (ps:List aE):(abK part port its ps).map abQ=ps.map abQ:=
 acu (fun p=>by
  have e:(abP (fun q:dS=>decide (q.id=port)) (abZ its) p.ai).map abL=p.ai.map abL:=acu (g:=abZ its) (fun q=>rfl) p.ai;unfold abQ ab7;simp only [e]) ps
section
variable {ps0 ps:List aE} {part port:Int} {its:List ByteArray}
theorem abz.Ma {q:dS} (h:abz ps0 ps) (he:endP ps part port=some q) (hq:dj (abZ its q)=true):abz ps0 (abK part port its ps):=by
 refine ⟨(acY _ _ _ _).trans h.acE,fun p hp y hy=> ?_⟩;rcases acs hp with hp | ⟨p',hp',rfl⟩
 ·exact h.right p hp y hy
 ·rcases acs hy with hy | ⟨y',hy',rfl⟩
  ·exact h.right p' (RG hp') y hy
  ·unfold endP hP at he
   rw [hp',aeE,hy'] at he;cases he;exact hq
end
theorem ac9 {ps:List aE} {a b:Int} {q:dS} (h:endP ps a b=some q): ∃ p∈ps,p.id=a∧q∈p.ai∧q.id=b:=by
 unfold endP at h;cases hf:hP (fun p:aE=>p.id) a ps with
 | none=>rw [hf] at h; cases h
 | some p=>
  rw [hf] at h;simp only [aeE] at h;have h1:=PS hf;have h2:=PS h;simp only [decide_eq_true_eq] at h1 h2;exact ⟨p,RG hf,h1,RG h,h2⟩
theorem acK {ps0 ps:List aE} (h:ps.map abQ=ps0.map abQ) (a b:Int):(endP ps a b).map abL=(endP ps0 a b).map abL:=by
 have key: ∀ l:List aE,(endP l a b).map abL=endP (l.map abQ) a b:=fun l=>by
  unfold endP;have e1:hP (fun p:aE=>p.id) a (l.map abQ)=(hP (fun p:aE=>p.id) a l).map abQ:=by
   unfold hP;rw [aeu];rfl
  rw [e1];cases hP (fun p:aE=>p.id) a l with
  | none=>rfl
  | some p=>
   simp only [J9,aeE]
   show (hP (fun q:dS=>q.id) b p.ai).map abL=hP (fun q:dS=>q.id) b (p.ai.map abL)
   unfold hP;rw [aeu];rfl
 rw [key,key,h]
theorem abz.refl {ps:List aE} (h: ∀ p∈ps,∀ q∈p.ai,dj q=true):abz ps ps:=⟨rfl,h⟩
theorem abz.ends {ps0 ps:List aE} {c:eQ} (h:abz ps0 ps) (hc:pa ps0 c=true): ∃ s t,endP ps c.src c.ga=some s∧endP ps c.dst c.hI=some t∧s.Mf=t.Mf∧ ¬ c.src=c.dst∧dj s=true∧dj t=true:=by
 have h1:=acK h.acE c.src c.ga;have h2:=acK h.acE c.dst c.hI;unfold pa at hc;cases e1:endP ps0 c.src c.ga with
 | none=>rw [e1] at hc; simp at hc
 | some s0=>
  cases e2:endP ps0 c.dst c.hI with
  | none=>rw [e1,e2] at hc; simp at hc
  | some t0=>
   rw [e1,e2] at hc;simp only [J7,PR,decide_eq_false_iff_not,beq_iff_eq] at hc;rw [e1] at h1;rw [e2] at h2;obtain ⟨s,hs,es⟩:=Kw.1 h1;obtain ⟨t,ht,et⟩:=Kw.1 h2;obtain ⟨p,hp,-,hq,-⟩:=ac9 hs;obtain ⟨p',hp',-,hq',-⟩:=ac9 ht;have q1:s.Mf=s0.Mf:=(congrArg dS.Mf es:(abL s).Mf=(abL s0).Mf)
   have q2:t.Mf=t0.Mf:=(congrArg dS.Mf et:(abL t).Mf=(abL t0).Mf)
   exact ⟨s,t,hs,ht,by rw [q1,q2]; exact hc.2,hc.1.1.1,h.right p hp s hq,h.right p' hp' t hq'⟩
theorem abT {q:dS} (h:dj q=true):1≤q.max∧q.max≤5∧(q.Mf=false→q.max=1)∧(∀ s∈q.Ma,bw s=true)∧(q.Ma.length:Int)≤q.max:=by
 simp only [dj,dJ,cv,J7,Bool.or_eq_true,decide_eq_true_eq,PZ] at h;exact ⟨h.1.1.1,h.1.1.2,fun e=>h.1.2.resolve_left (by rw [e]; decide),h.2.1,h.2.2⟩
theorem acJ {q:dS} {its:List ByteArray} (h:dj q=true) (h1: ∀ s∈its,bw s=true) (h2:(its.length:Int)≤q.max):dj (abZ its q)=true:=by
 unfold dj at h ⊢;rw [J7] at h ⊢;refine ⟨h.1,?_⟩;unfold dJ;rw [J7,PZ];exact ⟨h1,decide_eq_true h2⟩
theorem ady {s t:dS} (h:dj t=true):((t.Ma ++ s.Ma.take (min s.Ma.length (ab4 t))).length:Int)≤t.max:=by
 have h1:=(abT h).2.2.2.2;unfold ab4;rw [Lf,Lk];omega
theorem abz.carry {ps0 ps:List aE} {c:eQ} (h:abz ps0 ps) (hc:pa ps0 c=true):abz ps0 (abM ps c):=by
 obtain ⟨s,t,hs,ht,hq,hne,ps1,pt1⟩:=h.ends hc;unfold abM;rw [hs,ht];simp only;have a1:=(abT ps1).2.2.2.1;have a2:=(abT pt1).2.2.2.1
 split
 ·have h1:abz ps0 (abK c.dst c.hI (t.Ma ++ s.Ma.take (min s.Ma.length (ab4 t))) ps):=h.Ma ht (acJ pt1 (fun u hu=>by
   rcases List.mem_append.1 hu with hu | hu
   ·exact a2 u hu
   ·exact a1 u (RK hu)) (ady pt1))
  refine h1.Ma (q:=s) ?_ (acJ ps1 (fun u hu=>a1 u (List.mem_of_mem_drop hu)) (by have:=(abT ps1).2.2.2.2; rw [List.length_drop]; omega));rw [acS,if_neg (fun e=>hne e.1),hs]
 ·split
  ·exact h
  ·exact h.Ma ht (acJ pt1 (fun u hu=>a1 u (RK hu)) (by have:=(abT pt1).1; rw [Lk]; omega))
theorem acM {ps:List aE} : ∀ {l m:List eQ},fA ps m l=true→ ∀ c∈l,pa ps c=true
 | [],_,_,c,hc=>by cases hc
 | d :: r,m,h,c,hc=>by
  simp only [fA,J7] at h;rcases Kt.1 hc with rfl | hc
  ·exact h.1.1
  ·exact acM h.2 c hc
theorem abz.all {ps0:List aE} {src:Int} : ∀ {l:List eQ} {ps:List aE},abz ps0 ps→(∀ c∈l,pa ps0 c=true)→abz ps0 (abI src ps l)
 | [],_,h,_=>h
 | c :: r,ps,h,hc=>by
  unfold abI;refine abz.all ?_ fun d hd=>hc d (LB _ hd)
  split
  ·exact h.carry (hc c (by simp))
  ·exact h
end Go.Proofs.YteidkehoekbcaaaGreat

namespace Go.Proofs.YteidkehoekbcaaaGreat
open Go
theorem bL {P:Program} {fn:Func} {p u:Tmp} {ty:TypeId} (h:fn.results= #[.cell p ty,.tmp u]) (tmps:Array Value) (w:World) (g:Nat) (t:TypeId) (cs:Array Value) (fr:Nat × Nat) (d:TypeDesc)
  (hp:tmps.getD p undef= .pointer (some ⟨g,0,none⟩)) (hg:w.heap[g]? =some (.cells cs t fr))
  (hu:P.underlying ty=some d) (hd:(match d with | .struct _ | .array _ _=>true | _=>false)=true) (hi:(P.info? ty).map (·.size)=some cs.size):
  (results fn tmps).run P w= .ok (.tuple #[.agg cs,tmps.getD u undef]) w:=by
 rw [results_cell_tmp h,hp];simp [asAddr,run_loadVar_row w g t ty cs fr d hg hu hd hi]
end Go.Proofs.YteidkehoekbcaaaGreat

namespace Go.Proofs.YteidkehoekbcaaaGreat
open Go.RowKit
def Ij (n:Int):ByteArray:=⟨(Lib.itoa n).toArray⟩
theorem F7 {n:Int} (h:0≤n):Lib.itoa n=Lib.decDigits n.toNat:=by
 unfold Lib.itoa;rw [if_neg (by omega)]
theorem DX: ∀ (k u:Nat),u < 10 ^ (k+1)→(Lib.decDigits u).length≤k+1
 | 0,u,h=>by rw [Lib.decDigits,dif_pos (by simpa using h)]; simp
 | k+1,u,h=>by
  by_cases h1:u < 10
  ·rw [Lib.decDigits,dif_pos h1]; simp
  ·rw [Lib.decDigits,dif_neg h1]
   have:=DX k (u / 10) (by rw [Nat.pow_succ] at h; omega)
   simp; omega
theorem Fk {n:Int} (h:n≤9999999999):(Lib.decDigits n.toNat).length≤10:=DX 9 _ (by simp; omega)
theorem GP {a n:Int} {s:ByteArray} (h10:10≤a) (h:Lib.decDigits a.toNat ++ s.data.toList=Lib.decDigits n.toNat):
  Lib.decDigits (a / 10).toNat ++ ((⟨#[UInt8.ofNat (48+a % 10).toNat]⟩:ByteArray) ++ s).data.toList=Lib.decDigits n.toNat:=by
 rw [← h,Lib.decDigits.eq_def a.toNat,dif_neg (by omega)];have e1:(a / 10).toNat=a.toNat / 10:=by omega
 have e2:(48+a % 10).toNat=48+a.toNat % 10:=by omega
 simp [e1,e2,ByteArray.data_append]
theorem Gx (W:World) (c:Int):(convert 261 9 (.slice (some ⟨W.heap.size,0,none⟩) 1 1)).run J3 (W.alloc (.cells #[.int .u8 c] 5))= .ok (.string ⟨#[UInt8.ofNat c.toNat]⟩) (W.alloc (.cells #[.int .u8 c] 5)):=by
 rw [run_convert_bytes_string _ 261 9 5 _ 1 1 Tryz.underlying261 Tryz.underlying5 Tryz.underlying9];rw [run_bytesToString _ ⟨W.heap.size,0,none⟩ 1 1 [c] (by simp [go_sem])];rfl
theorem Bl {a b:ByteArray} (h:a.data.toList=b.data.toList):a=b:=by
 apply ByteArray.ext;apply Array.ext';exact h
theorem Ep (n:Int):(Ij n).data.toList=Lib.itoa n:=by simp [Ij]
def cu (n:Int):ByteArray:=⟨#[109]⟩ ++ Ij n
def Bw (a:Int):List UInt8:=if a=0 then [] else Lib.decDigits a.toNat
theorem Eh {a n:Int} {s:ByteArray} (h0:0 < a) (h:Bw a ++ s.data.toList=Lib.decDigits n.toNat):Bw (a / 10) ++ ((⟨#[UInt8.ofNat (48+a % 10).toNat]⟩:ByteArray) ++ s).data.toList=Lib.decDigits n.toNat:=by
 rw [Bw,if_neg (by omega)] at h;have e2:(48+a % 10).toNat=48+a.toNat % 10:=by omega
 by_cases h10:10≤a
 ·rw [Bw,if_neg (by omega)]
  exact GP h10 h
 ·rw [Bw,if_pos (by omega),← h,Lib.decDigits,dif_pos (by omega),e2,Nat.mod_eq_of_lt (by omega)]
  simp [ByteArray.data_append]
theorem Gt {n:Int} {s:ByteArray} (h0:1≤n) (h:s.data.toList=Lib.decDigits n.toNat):(⟨#[109]⟩:ByteArray) ++ s=cu n:=by
 have:s=Ij n:=Bl (by rw [h,Ep,F7 (by omega)])
 rw [this,cu]
theorem fh (n:Int) (hn0:1≤n) (hn:n≤99999999) (w:World):
  Calls J3 118 #[.int .i64 n] w fun e w'=>e= .returned (.string (cu n))∧Below w.heap.size w w':=by
 have h0: ¬ n≤0:=by omega
 have hcv:=Gx;have HN:Hid (1≤n∧n≤99999999):=⟨hn0,hn⟩
 clear hn0 hn
 go_enter Tryz.func118,Tryz.ntmps118
 go_wp2;clear h0
 go_loopw [0,3] (fun i t wr=> ∃ (a:Int) (s:ByteArray),i= .int .i64 a∧t= .string s∧Hid (0≤a∧a≤n∧Bw a ++ s.data.toList=Lib.decDigits n.toNat)∧Below w.heap.size w wr) (fun i _ _=>(intOf i).toNat)
 case atStart=>exact ⟨n,⟨#[]⟩,rfl,rfl,⟨by have:=HN.I; omega,Int.le_refl _,by rw [Bw,if_neg (by have:=HN.I; omega)]; simp⟩,Below.refl _ _⟩
 case round=>
  obtain ⟨a,s,rfl,rfl,HD,kj⟩:=hrel;have hs: ¬ 9223372036854775807 < 1+s.size:=by
   have h1:=congrArg List.length HD.I.2.2;have h2:=Fk (n:=n) (by have:=HN.I; omega);have h3:s.data.toList.length=s.size:=by simp
   rw [Lf] at h1;omega
  by_cases h10:0 < a
  ·have e1:wrap64 (48+a.tmod 10) % 256=48+a % 10:=by
    have:=HD.I
    rw [Int.tmod_eq_emod_of_nonneg (by omega)];unfold wrap64; omega
   have e2:a.tdiv 10=a / 10:=Int.tdiv_eq_ediv_of_nonneg (by have:=HD.I; omega);have e3:wrap64 (a / 10)=a / 10:=by have:=HD.I; have:=HN.I; unfold wrap64; omega
   go_wp2;go_roundw
   case rel=>
    refine ⟨a / 10,_,by rw [e3],rfl,?_,kj.alloc kj.size _⟩;have HD':=HD.I;refine ⟨by omega,by omega,?_⟩;exact Eh h10 HD'.2.2
   case measure=>simp only [intOf]; have:=HD.I; omega
  ·have HS:Hid (s.data.toList=Lib.decDigits n.toNat):=by
    have h:=HD.I;have h2:=h.2.2;rw [Bw,if_pos (by omega)] at h2;rw [List.nil_append] at h2;exact h2
   go_wp2;go_ret;refine ⟨?_,kj⟩
   show Ending.returned (.string ((⟨#[109]⟩:ByteArray) ++ s))=_
   rw [Gt HN.I.1 HS.I]
end Go.Proofs.YteidkehoekbcaaaGreat

namespace Go.Proofs.YteidkehoekbcaaaGreat
open Go.RowKit
end Go.Proofs.YteidkehoekbcaaaGreat

namespace Go.Proofs.YteidkehoekbcaaaGreat
open Go.RowKit
def Kept (B:Nat) (W W':World):Prop:=W.heap.size≤W'.heap.size∧ ∀ b,B≤b→b < W.heap.size→W'.heap[b]? =W.heap[b]?
def ZL (B:Nat) (W W':World):Prop:=W.heap.size≤W'.heap.size∧ ∀ b c t fr,B≤b→W.heap[b]? =some (.cells c t fr)→W'.heap[b]? =some (.cells c t fr)
theorem Kept.refl (B:Nat) (W:World):Kept B W W:=⟨Ki _,fun _ _ _=>rfl⟩
theorem Kept.trans {B:Nat} {X Y Z:World} (h:Kept B X Y) (k:Kept B Y Z):Kept B X Z:=
 ⟨LG h.1 k.1,fun b hb hl=>(k.2 b hb (Nat.lt_of_lt_of_le hl h.1)).trans (h.2 b hb hl)⟩
theorem Kept.alloc (B:Nat) (W:World) (o:Obj):Kept B W (W.alloc o):=⟨by simp,fun b _ hl=>Below.heap_alloc W o b hl⟩
theorem Kept.setCell {B:Nat} (W:World) {p:Addr} (hp:p.block < B) (v:Value):Kept B W (W.setCell p v):=⟨by simp,fun b hb _=>Below.heap_setCell W p v b (by omega)⟩
theorem Kept.drew (B:Nat) (W:World):Kept B W W.drew:=⟨Ki _,fun _ _ _=>rfl⟩
theorem Kept.dI {B:Nat} {W W':World} (h:Below W.heap.size W W'):Kept B W W':=⟨h.size,fun b _ hl=>h.block b hl⟩
theorem Kept.cells {B:Nat} {W W':World} (h:Kept B W W'):ZL B W W':=
 ⟨h.1,fun b _ _ _ hb hc=>(h.2 b hb (Array.getElem?_eq_some_iff.1 hc).1).trans hc⟩
theorem ZL.trans {B:Nat} {X Y Z:World} (h:ZL B X Y) (k:ZL B Y Z):ZL B X Z:=
 ⟨LG h.1 k.1,fun b c t fr hb hc=>k.2 b c t fr hb (h.2 b c t fr hb hc)⟩
theorem Zh {B l:Nat} {W:World} (h:B≤l) (o:Obj):Below B W (W.putObj l o):=
 ⟨rfl,rfl,rfl,by simp,fun _ hk=>World.putObj_heap_other (by omega)⟩
end Go.Proofs.YteidkehoekbcaaaGreat

namespace Go.Proofs
open Go.Shelf
def Tryz.keysOpen_ren:Go.Shelf.Ren:=⟨fun | 7=>125 | 10=>162 | n=>n,fun | 23=>104 | 26=>2 | 3=>97 | 28=>209 | 0=>0 | 27=>208 | 33=>266 | 4=>4 | n=>n,fun | n=>n⟩
theorem Tryz.keysOpen:Go.Proofs.SlLaysZI.n7 J3 Tryz.keysOpen_ren:= {
 mixed:=by kernel_rfl
 f7:=⟨Tryz.f125.name,by decide,Tryz.func125.trans (congrArg some (by kernel_rfl))⟩
 f10:=⟨Tryz.f162.name,by decide,Tryz.func162.trans (congrArg some (by kernel_rfl))⟩
 t0:=KJ
 a0:=KK
 z0:=KL
 v0:=KM
 t4:=Q6
 a4:=Q7
 z4:=Q8
 v4:=Q9
 t23:=Tryz.underlying104
 a23:=Tryz.isAgg104
 z23:=Tryz.sizeOf104
 v23:=Tryz.zeroValue104
 t26:=KN
 a26:=KO
 z26:=KP
 v26:=KQ
 t27:=aeV
 a27:=aeW
 z27:=aeX
 v27:=aeY
 t28:=aeZ
 a28:=ae0
 z28:=ae1
 v28:=ae2
 t33:=ae3
 a33:=ae4
 z33:=ae5
 v33:=ae6 }
end Go.Proofs

namespace Go.Proofs.YteidkehoekbcaaaGreat
open Go.RowKit
section
variable {cs:List eQ} {q:eQ→Bool} {part:Int}
end
theorem Xo {k:kd} (h:eP k=true):(k.parts.map (·.id)).Pairwise (· < ·)∧k.parts.length≤6∧k.eC.length≤10∧ ∀ c∈k.eC,pa k.parts c=true:=by
 simp only [eP,J7,decide_eq_true_eq] at h;refine ⟨?_,h.1.1.1.2,h.1.1.2,?_⟩
 ·have key: ∀ (l:List aE) (last:Int),aw (·.id) bK last l=true→(l.map (·.id)).Pairwise (· < ·)∧ ∀ x∈l,last < x.id:=by
   intro l
   induction l with
   | nil=>exact fun _ _=>⟨List.Pairwise.nil,fun x hx=>by cases hx⟩
   | cons x r ih=>
    intro last h;simp only [aw,J7,decide_eq_true_eq] at h;obtain ⟨h1,h2⟩:=ih _ h.2;refine ⟨List.Pairwise.cons (fun y hy=> ?_) h1,fun y hy=> ?_⟩
    ·obtain ⟨z,hz,rfl⟩:=Lr.1 hy
     exact h2 z hz
    ·rcases Kt.1 hy with rfl | hy
     ·exact h.1.1.2
     ·have:=h2 y hy; have:=h.1.1.2; omega
  exact (key _ _ h.1.2).1
 ·have key: ∀ (r m:List eQ),fA k.parts m r=true→ ∀ c∈r,pa k.parts c=true:=by
   intro r
   induction r with
   | nil=>intro m _ c hc; cases hc
   | cons x r ih=>
    intro m h c hc;simp only [fA,J7] at h;rcases Kt.1 hc with rfl | hc
    ·exact h.1.1
    ·exact ih _ h.2 c hc
  exact key _ _ h.2
end Go.Proofs.YteidkehoekbcaaaGreat
