/- What the proof leans on, part 30. -/
import Derived.Test.YtkbcplnlehdjfaaGreatOwnP28
set_option maxRecDepth 100000
set_option maxHeartbeats 8000000
open Bool renaming and_eq_true->J7,false_eq_true->J5,or_eq_true->Kb
open Function renaming comp_def->Ls
open Go.ByteArray renaming toList_eq->PQ
open List renaming filter_cons->LN,find?_cons->LL,getElem?_eq_getElem->Kz,getElem?_eq_some_iff->Lj,map_congr_left->Lw,map_cons->Lt,map_map->Lv,mem_append->Kg,mem_cons->Kt,mem_filter->L2,mem_filterMap->Lq,mem_map->Lr,pairwise_cons->LM,pairwise_map->Qm,take_append_drop->Qn
open Nat renaming le_refl->Ki,zero_le->Ky
open Option renaming map_some->J9
open Option.some renaming inj->KC,injEq->LF

namespace Go.Proofs.YtkbcplnlehdjfaaGreat
section
variable {α:Type} (ah:α→α→Bool)
def qV (r:Option α) (x:α):Option α:=match r with
 | none=>some x
 | some b=>if ah x b then some x else some b
def oa (l:List α):Option α:=l.foldl (qV ah) none
theorem qy (l:List α) (x:α):oa ah (l ++ [x])=qV ah (oa ah l) x:=by simp [oa]
theorem EO {r:Option α} {x y:α} (h:qV ah r x=some y):y=x∨r=some y:=by
 unfold qV at h
 split at h
 ·exact .inl (KC h).symm
 ·split at h
  ·exact .inl (KC h).symm
  ·exact .inr h
theorem zZ: ∀ (l:List α) (r:Option α) {y:α},l.foldl (qV ah) r=some y→y∈l∨r=some y
 | [],_,_,h=> .inr h
 | x :: l,r,y,h=>by
  rcases zZ l (qV ah r x) h with h1 | h1
  ·exact .inl (by simp [h1])
  ·rcases EO ah h1 with h2 | h2
   ·exact .inl (by simp [h2])
   ·exact .inr h2
theorem Fg {l:List α} {y:α} (h:oa ah l=some y):y∈l:=(zZ ah l none h).elim id (fun e=>by cases e)
theorem C8 (r:Option α) (x:α): ∃ y,qV ah r x=some y:=by
 unfold qV
 split
 ·exact ⟨_,rfl⟩
 ·split <;> exact ⟨_,rfl⟩
theorem CZ {l:List α} (h:oa ah l=none):l= [] :=by
 rcases List.eq_nil_or_concat l with e | ⟨l',x,e⟩
 ·exact e
 ·subst e
  rw [List.concat_eq_append,qy] at h;obtain ⟨y,hy⟩:=C8 ah (oa ah l') x;rw [hy] at h;cases h
def eN (f:α→Bool) (l:List α) (k:Nat) (i:Int):Prop:=match oa ah ((l.take k).filter f) with
 | none=>i= -1
 | some x=> ∃ n:Nat,i=n∧n < k∧l[n]? =some x
variable {f:α→Bool} {l:List α} {k:Nat} {i:Int} {x:α}
theorem eN.start (f:α→Bool) (l:List α):eN ah f l 0 (-1):=by simp [eN,oa]
theorem qm (hx:l[k]? =some x):(l.take (k+1)).filter f=(l.take k).filter f ++ (if f x then [x] else []):=by
 have h:l.take (k+1)=l.take k ++ [x] :=by rw [List.take_add_one,hx]; rfl
 rw [h,List.filter_append];by_cases h:f x=true <;> simp [h]
variable {ah}
theorem eN.skip (h:eN ah f l k i) (hx:l[k]? =some x) (hf:f x=false):eN ah f l (k+1) i:=by
 unfold eN at h ⊢;rw [qm hx,hf];simp only [J5,if_false,List.append_nil]
 split at h
 ·exact h
 ·obtain ⟨n,h1,h2,h3⟩:=h
  exact ⟨n,h1,by omega,h3⟩
theorem eN.first (h:eN ah f l k i) (hi:i < 0) (hx:l[k]? =some x) (hf:f x=true):eN ah f l (k+1) k:=by
 unfold eN at h ⊢;rw [qm hx,hf];simp only [if_true];rw [qy]
 split at h
 ·rename_i e
  rw [e];exact ⟨k,rfl,by omega,hx⟩
 ·obtain ⟨n,h1,_⟩:=h
  omega
theorem eN.got (h:eN ah f l k i) (hi: ¬ i < 0): ∃ (n:Nat) (y:α),i=n∧n < k∧l[n]? =some y∧oa ah ((l.take k).filter f)=some y:=by
 unfold eN at h
 split at h
 ·omega
 ·rename_i y e
  obtain ⟨n,h1,h2,h3⟩:=h;exact ⟨n,y,h1,h2,h3,e⟩
theorem eN.none' (h:eN ah f l k i) (hi:i < 0):oa ah ((l.take k).filter f)=none:=by
 unfold eN at h
 split at h
 ·assumption
 ·obtain ⟨n,h1,_⟩:=h
  omega
theorem eN.next {n:Nat} {y:α} (hn:n < k) (hy:l[n]? =some y) (he:oa ah ((l.take k).filter f)=some y) (hx:l[k]? =some x) (hf:f x=true):eN ah f l (k+1) (if ah x y then (k:Int) else (n:Int)):=by
 unfold eN;rw [qm hx,hf];simp only [if_true];rw [qy,he];simp only [qV];by_cases ha:ah x y=true
 ·simp only [ha,if_true]
  exact ⟨k,rfl,by omega,hx⟩
 ·simp only [ha,J5,if_false]
  exact ⟨n,rfl,by omega,hy⟩
end
def og (now:Int) (x:aD):Bool:=decide (2≤x.Md) && cv x.Mg 1 now
def l8 (a b:aD):Bool:=decide (a.Mg < b.Mg)
def lF (now:Int) (l:List aD):List aD:=l.filter (og now)
def lZ (now:Int) (l:List aD):Option aD:=oa l8 (lF now l)
def jM (code:Int) (x:aD):aD:= { x with code:=code,Md:=1,pc:=x.pc+1,left:=0,Mg:=0,on:=0,held:=rM }
def jT (code:Int) (x:aD):aD:=if x.pc+1=x.prog.length then j7 (jM code x) else jM code x
def iY (nx code:Int) (x:aD):aD:=if x.pc+1=x.prog.length then j7 (jM code x) else { jM code x with RU:=nx }
def gf (nx:Int) (x:aD):Int:=if x.pc+1=x.prog.length then nx else nx+1
def mL (x:aD):Int:=if x.Md=2 then 0 else 2
def gu (p:aE) (x:aD):aE:= { p with next:=gf p.next x,L8:=ce x.id (iY p.next (mL x)) p.L8 }
def oO (now:Int):Nat→aE→aE
 | 0,p=>p
 | n+1,p=>match lZ now p.L8 with
  | none=>p
  | some x=>oO now n (gu p x)
def gj (now:Int) (p:aE):aE:=oO now (lF now p.L8).length p
theorem rD (nx code:Int) (x:aD):(iY nx code x).id=x.id∧(iY nx code x).prog=x.prog:=by
 unfold iY
 split <;> exact ⟨rfl,rfl⟩
theorem E7 (now nx code:Int) (x:aD):og now (iY nx code x)=false:=by
 unfold iY og
 split <;> simp [j7,jM]
theorem qB {f:aD→aD} {id:Int} : ∀ {l:List aD},(∀ y∈l,y.id≠id)→ce id f l=l
 | [],_=>rfl
 | y :: r,h=>by
  have h1:ce id f r=r:=qB fun z hz=>h z (List.mem_cons_of_mem _ hz)
  simp only [ce,Lt] at h1 ⊢;rw [if_neg (h y (by simp)),h1]
theorem Bg {now:Int} {f:aD→aD} {x:aD} (hf:og now (f x)=false) (hx:og now x=true): ∀ {l:List aD},l.Pairwise (fun x y=>x.id < y.id)→x∈l→(lF now (ce x.id f l)).length+1=(lF now l).length
 | [],_,h=>by cases h
 | y :: r,hr,h=>by
  rw [LM] at hr;by_cases e:y=x
  ·subst e
   have h2:ce y.id f (y :: r)=f y :: r:=by
    have h3:ce y.id f r=r:=qB fun z hz e=>by have:=hr.1 z hz; omega
    simp only [ce,Lt,if_true] at h3 ⊢;rw [h3]
   rw [h2];simp [lF,hf,hx]
  ·have hm:x∈r:=by
    rcases Kt.1 h with h1 | h1
    ·exact absurd h1.symm e
    ·exact h1
   have h4:=Bg hf hx hr.2 hm;have h5: ¬ y.id=x.id:=by have:=hr.1 x hm; omega
   have h6:ce x.id f (y :: r)=y :: ce x.id f r:=by simp [ce,h5]
   rw [h6];unfold lF at h4 ⊢;by_cases hy:og now y=true
   ·simp only [LN,hy,if_true,List.length_cons]; omega
   ·simp only [LN,hy,J5,if_false]; exact h4
theorem rW {f:aD→aD} {id:Int} (hf: ∀ x,(f x).id=x.id) {l:List aD} (h:l.Pairwise (fun x y=>x.id < y.id)):(ce id f l).Pairwise (fun x y=>x.id < y.id):=by
 unfold ce;rw [Qm];refine h.imp fun {a b} hab=> ?_
 have e: ∀ z:aD,(if z.id=id then f z else z).id=z.id:=fun z=>by split <;> simp [hf]
 rw [e,e];exact hab
theorem Gs {f:aD→aD} {id:Int} {l:List aD} {y:aD} (h:y∈ce id f l):y∈l∨ ∃ x∈l,y=f x:=by
 obtain ⟨z,hz,e⟩:=Lr.1 h;by_cases h1:z.id=id
 ·exact .inr ⟨z,hz,by rw [← e,if_pos h1]⟩
 ·exact .inl (by rw [if_neg h1] at e; exact e ▸ hz)
structure Wk (now:Int) (p:aE):Prop where
 kW:p.L8.Pairwise (fun x y=>x.id < y.id)
 op: ∀ x∈p.L8,2≤x.Md→0≤x.pc∧x.pc < x.prog.length
 room:1≤p.next∧p.next+(lF now p.L8).length≤1000000000
 low:p.L8.length≤6
theorem Wk.mem {now:Int} {p:aE} {x:aD} (h:lZ now p.L8=some x):x∈p.L8∧og now x=true:=by
 have h1:=Fg l8 h;exact L2.1 h1
theorem Wk.step {now:Int} {p:aE} {x:aD} (h:Wk now p) (hx:lZ now p.L8=some x):Wk now (gu p x)∧(lF now (gu p x).L8).length+1=(lF now p.L8).length:=by
 obtain ⟨hm,hd⟩:=Wk.mem hx;have h1:=Bg (E7 now p.next (mL x) x) hd h.kW hm;refine ⟨⟨rW (fun y=>(rD _ _ y).1) h.kW,fun y hy hs=> ?_,?_,?_⟩,h1⟩
 ·rcases Gs hy with h2 | ⟨z,_,rfl⟩
  ·exact h.op y h2 hs
  ·unfold iY at hs
   split at hs <;> simp [j7,jM] at hs
 ·have h2:=h.room
  have h3:(gu p x).next≤p.next+1∧p.next≤(gu p x).next:=by
   show gf p.next x≤_∧_≤gf p.next x
   unfold gf
   split <;> omega
  have h4:(lF now (gu p x).L8).length+1=(lF now p.L8).length:=h1;omega
 ·show (ce _ _ p.L8).length≤6
  simpa [ce] using h.low
theorem Co {now:Int} {p:aE} (h:lZ now p.L8=none):gj now p=p:=by
 unfold gj;rw [CZ l8 h];rfl
theorem vn {now:Int} {p:aE} {x:aD} (h:Wk now p) (hx:lZ now p.L8=some x):gj now p=gj now (gu p x):=by
 have h1:=(h.step hx).2;unfold gj;rw [← h1];simp only [oO,hx]
theorem Wk.of {now:Int} {p:aE} (h:aQ p) (hn:p.next≤999999980):Wk now p:=by
 have h1:=(db h.L8).2;refine ⟨h1,fun x hx hs=> ?_,?_,h.dl⟩
 ·have h2:=(cK h.L8 x hx).2
  simp only [cH,J7] at h2;have h3:=h2.1.1.2;unfold bO at h3;have h4:dU x=true:=by
   split at h3
   ·omega
   ·split at h3
    ·omega
    ·split at h3
     ·simp only [J7] at h3; exact h3.1.1.1.1
     ·split at h3
      ·simp only [J7] at h3; exact h3.1.1
      ·split at h3
       ·simp only [J7] at h3; exact h3.1.1.1
       ·cases h3
  have h5:=bz.1 h4;omega
 ·have h2:=bz.1 h.next
  have h3:(lF now p.L8).length≤p.L8.length:=List.length_filter_le _ _;have h4:=h.dl;omega
section
open Go.RowKit Go.Maps
attribute [local go_sem ↓] Go.wp_at_zero Go.wp_at_succ
theorem xX {z:Int} (h:cv z 1 1000=true):(Lit.int .i64 z).wf=true:=by
 have h2:=bz.1 h;have e1:IntKind.min .i64≤0:=by decide
 have e2:100000≤IntKind.max .i64:=by decide
 simp only [Lit.wf,J7,decide_eq_true_eq];omega
theorem iB {S:aZ} (h:aQ S.pure):S.Fits:=by
 refine ⟨?_,?_,?_,?_,?_,?_,?_,?_,?_,?_,?_,?_⟩
 ·have h5:=h.dl
  have h6:S.pure.L8.length=S.lp.length:=by simp [aZ.pure]
  omega
 ·intro p hp
  obtain ⟨r,hr,rfl⟩:=Lr.1 hp;exact xX (cK h.L8 (r.1.toaD) (Lr.2 ⟨r,hr,rfl⟩)).1
 ·have h5:=h.fx
  have h6:S.pure.aj.length=S.ls.length:=by simp [aZ.pure]
  omega
 ·intro p hp
  obtain ⟨r,hr,rfl⟩:=Lr.1 hp;exact xX (cK h.aj (r.1) (Lr.2 ⟨r,hr,rfl⟩)).1
 ·have h5:=h.cD
  have h6:S.pure.L9.length=S.le.length:=by simp [aZ.pure]
  omega
 ·intro p hp
  obtain ⟨r,hr,rfl⟩:=Lr.1 hp;exact xX (cK h.L9 (r.1) (Lr.2 ⟨r,hr,rfl⟩)).1
 ·have h5:=h.cC
  have h6:S.pure.ag.length=S.lb.length:=by simp [aZ.pure]
  omega
 ·intro p hp
  obtain ⟨r,hr,rfl⟩:=Lr.1 hp;exact xX (cK h.ag (r.1) (Lr.2 ⟨r,hr,rfl⟩)).1
 ·have h5:=h.cb
  have h6:S.pure.ae.length=S.lf.length:=by simp [aZ.pure]
  omega
 ·intro p hp
  obtain ⟨r,hr,rfl⟩:=Lr.1 hp;exact xX (cK h.ae (r.1.toci) (Lr.2 ⟨r,hr,rfl⟩)).1
 ·have h5:=h.dH
  have h6:S.pure.ai.length=S.lq.length:=by simp [aZ.pure]
  omega
 ·intro p hp
  obtain ⟨r,hr,rfl⟩:=Lr.1 hp;exact xX (cK h.ai (r.1.todS) (Lr.2 ⟨r,hr,rfl⟩)).1
end
section
open Go.RowKit
section
variable {α:Type} {num:α→Int} {ok:α→Bool}
def bY (num:α→Int) (x:α):List α→List α
 | [] => [x]
 | y :: r=>if num x < num y then x :: y :: r else y :: bY num x r
def cA (num:α→Int) (x:α):List α→List α
 | [] => [x]
 | y :: r=>if num y < num x then y :: cA num x r else x :: y :: r
theorem er (x:α): ∀ l:List α,(bY num x l).length=l.length+1
 | [] =>rfl
 | y :: r=>by
  simp only [bY]
  split
  ·rfl
  ·simp [er x r]
theorem fq {x z:α} : ∀ {l:List α},z∈bY num x l↔z=x∨z∈l
 | [] =>by simp [bY]
 | y :: r=>by
  simp only [bY]
  split
  ·simp
  ·simp only [Kt,fq (l:=r)]
   constructor
   ·rintro (h | h | h)
    ·exact .inr (.inl h)
    ·exact .inl h
    ·exact .inr (.inr h)
   ·rintro (h | h | h)
    ·exact .inr (.inl h)
    ·exact .inl h
    ·exact .inr (.inr h)
theorem js {x z:α} : ∀ {l:List α},z∈cA num x l↔z=x∨z∈l
 | [] =>by simp [cA]
 | y :: r=>by
  simp only [cA]
  split
  ·simp only [Kt,js (l:=r)]
   constructor
   ·rintro (h | h | h)
    ·exact .inr (.inl h)
    ·exact .inl h
    ·exact .inr (.inr h)
   ·rintro (h | h | h)
    ·exact .inr (.inl h)
    ·exact .inl h
    ·exact .inr (.inr h)
  ·simp
theorem eJ (x:α): ∀ l:List α,(cA num x l).length=l.length+1
 | [] =>rfl
 | y :: r=>by
  simp only [cA]
  split
  ·simp [eJ x r]
  ·rfl
theorem tP {x:α} : ∀ {l:List α} {k:Nat},(∀ y∈l.take k,num y < num x)→(∀ y,l[k]? =some y→ ¬ num y < num x)→l.take k ++ x :: l.drop k=cA num x l
 | [],k,_,_=>by simp [cA]
 | y :: r,0,_,h2=>by
  have h3:=h2 y rfl;simp [cA,h3]
 | y :: r,k+1,h1,h2=>by
  have h3:=h1 y (by simp);simp only [List.take_succ_cons,List.drop_succ_cons,List.cons_append,cA,if_pos h3];rw [tP (fun z hz=>h1 z (by simp [hz])) (fun z hz=>h2 z (by simpa using hz))]
def jn (num:α→Int) (ok:α→Bool) (x:α) (l:List α):Bool:= !decide (num x∈l.map num) && cv (num x) 1 1000 && ok x
theorem vJ {x:α} : ∀ {l:List α} {last:Int},aw num ok last l=true→last < num x→aw num ok last (bY num x l)=jn num ok x l
 | [],last,_,hl=>by simp [bY,aw,jn,hl]
 | y :: r,last,h,hl=>by
  have h':=h;simp only [aw,J7,decide_eq_true_eq] at h;by_cases h1:num x < num y
  ·have hr:=db h.2
   have hn:num x∉(y :: r).map num:=fun hm=>by
    rcases Kt.1 hm with e | hm
    ·omega
    ·obtain ⟨z,hz,e⟩:=Lr.1 hm
     have:=hr.1 z hz
     omega
   rw [jn,decide_eq_false hn];simp [bY,h1,aw,hl,h.1.1.1,h.1.2,h.2]
  ·simp only [bY,if_neg h1,aw]
   by_cases h2:num y=num x
   ·have hm:num x∈(y :: r).map num:=by simp [h2]
    have h3:aw num ok (num y) (bY num x r)=false:=by
     cases h4:aw num ok (num y) (bY num x r) with
     | false=>rfl
     | true=>
      have:=(db h4).1 x (fq.2 (.inl rfl))
      omega
    rw [jn,decide_eq_true hm,h3];simp
   ·rw [vJ h.2 (by omega)]
    have h5:(num x∈(y :: r).map num)↔num x∈r.map num:=by
     simp only [Lt,Kt];constructor
     ·rintro (e | e)
      ·exact absurd e.symm h2
      ·exact e
     ·exact .inr
    simp only [jn,h5,h.1.1.1,h.1.1.2,h.1.2,decide_true,Bool.true_and]
theorem mw {x:α} {l:List α} (h:aw num ok 0 l=true):aw num ok 0 (bY num x l)=jn num ok x l:=by
 by_cases h0:0 < num x
 ·exact vJ h h0
 ·have h1:cv (num x) 1 1000=false:=by
   cases h2:cv (num x) 1 1000 with
   | false=>rfl
   | true=>have:=bz.1 h2; omega
  cases h4:aw num ok 0 (bY num x l) with
  | false=>simp [jn,h1]
  | true=>
   have:=(db h4).1 x (fq.2 (.inl rfl))
   omega
end
def cB (p p':aE):Option aE:=if bK p && bK p' then some p' else none
theorem nm {p p':aE} (h:bK p=false):cB p p'=none:=by simp [cB,h]
theorem ox {p p':aE} (h:bK p'=false):cB p p'=none:=by simp [cB,h]
theorem mZ {p p':aE} (h:bK p=true) (h':bK p'=true):cB p p'=some p':=by simp [cB,h,h']
end
def jP {α:Type} (num:α→Int) (id:Int) (f:α→α) (l:List α):List α:=l.map fun x=>if num x=id then f x else x
def cg {α:Type} (num:α→Int) (id:Int) (l:List α):Option α:=l.find? fun x=>decide (num x=id)
def ie (st on:Int) (x:aD):Bool:=decide (x.Md=st) && decide (x.on=on)
def jl (st on:Int) (l:List aD):Option aD:=jo (l.filter (ie st on))
def bu (code id:Int) (p:aE):aE:= { p with L8:=ce id (jT code) p.L8 }
def lG (t:ByteArray) (x:aD):aD:= { x with got:=t }
def ez (t:ByteArray) (id:Int) (p:aE):aE:= { p with L8:=ce id (lG t) p.L8 }
def gF (f:aD→aD) (p:aE) (x:aD):aE:= { p with next:=gf p.next x,L8:=ce x.id (fun y=>iY p.next 0 (f y)) p.L8 }
def gW (f:aD→aD) (st on:Int):Nat→aE→aE
 | 0,p=>p
 | n+1,p=>match jl st on p.L8 with
  | none=>p
  | some x=>gW f st on n (gF f p x)
def ff (f:aD→aD) (st on:Int) (p:aE):aE:=gW f st on (p.L8.filter (ie st on)).length p
def zb (nx st on:Int) (held:ByteArray) (Mg:Int) (y:aD):aD:= { y with Md:=st,Mg:=Mg,on:=on,held:=held,RU:=nx }
def kC (st on:Int) (held:ByteArray) (Mg id:Int) (p:aE):aE:= { p with next:=p.next+1,L8:=ce id (zb p.next st on held Mg) p.L8 }
def kZ (now m:Int):Int:=if 0≤m then now+m else -1
def mX (st:Int) (o:dN) (now id:Int) (p:aE):aE:=if o.2.2.1=0 then bu 1 id p else kC st o.2.1 o.2.2.2 (kZ now o.2.2.1) id p
def nZ (id d:Int) (p:aE):aE:= { p with aj:=jP (·.id) id (fun y=> { y with n:=y.n+d }) p.aj }
def gL (id:Int) (b:Bool) (p:aE):aE:= { p with L9:=jP (·.id) id (fun y=> { y with up:=b }) p.L9 }
def ib (id:Int) (b:Bool) (t:ByteArray) (p:aE):aE:= { p with ag:=jP (·.id) id (fun y=> { y with shown:=b,text:=t }) p.ag }
def cV (id:Int) (l:List ByteArray) (p:aE):aE:= { p with ae:=jP (·.id) id (fun y=> { y with Ma:=l }) p.ae }
def gU (id:Int) (l:List ByteArray) (p:aE):aE:= { p with ai:=jP (·.id) id (fun y=> { y with Ma:=l }) p.ai }
def mh (o:dN) (now id:Int) (p:aE):aE:=match cg (·.id) o.2.1 p.aj with
 | none=>bu 3 id p
 | some s=>if s.n=0 then mX 3 o now id p else bu 0 id (nZ o.2.1 (-1) p)
def gJ (o:dN) (id:Int) (p:aE):aE:=match cg (·.id) o.2.1 p.aj with
 | none=>bu 3 id p
 | some s=>match jl 3 o.2.1 p.L8 with
  | some y=>bu 0 id (gF (fun y=>y) p y)
  | none=>if s.n=s.max then bu 1 id p else bu 0 id (nZ o.2.1 1 p)
def dE (o:dN) (now id:Int) (p:aE):aE:=match cg (·.id) o.2.1 p.L9 with
 | none=>bu 3 id p
 | some e=>if o.1=5 then bu 0 id (ff (fun y=>y) 4 o.2.1 (gL o.2.1 true p))
  else if o.1=6 then bu 0 id (gL o.2.1 false p)
  else if e.up then bu 0 id p else mX 4 o now id p
def lc (o:dN) (now id:Int) (p:aE):aE:=match cg (·.id) o.2.1 p.ae with
 | none=>bu 3 id p
 | some b=>match jl 6 o.2.1 p.L8 with
  | some y=>bu 0 id (gF (lG o.2.2.2) p y)
  | none=>if (b.Ma.length:Int)=b.max then mX 5 o now id p else bu 0 id (cV o.2.1 (b.Ma ++ [o.2.2.2]) p)
def ka (o:dN) (now id:Int) (p:aE):aE:=match cg (·.id) o.2.1 p.ae with
 | none=>bu 3 id p
 | some b=>match b.Ma with
  | [] =>mX 6 o now id (ez rM id p)
  | t :: r=>match jl 5 o.2.1 (ez t id p).L8 with
   | none=>bu 0 id (cV o.2.1 r (ez t id p))
   | some y=>bu 0 id (gF (fun y=>y) (cV o.2.1 (r ++ [y.held]) (ez t id p)) y)
def dC (o:dN) (now id:Int) (p:aE):aE:=match cg (·.id) o.2.1 p.ag with
 | none=>bu 3 id p
 | some b=>if o.1=10 then bu 0 id (ff (lG o.2.2.2) 7 o.2.1 (ib o.2.1 true o.2.2.2 p))
  else if o.1=11 then bu 0 id (ib o.2.1 false rM p)
  else if b.shown then bu 0 id (ez b.text id p) else mX 7 o now id (ez b.text id p)
def ig (o:dN) (id:Int) (p:aE):aE:=match cg (·.id) o.2.1 p.ai with
 | none=>bu 3 id p
 | some q=>if q.I=false then bu 3 id p
  else if q.Mf=false then bu 0 id (gU o.2.1 [o.2.2.2] p)
  else if (q.Ma.length:Int)=q.max then bu 1 id p
  else bu 0 id (gU o.2.1 (q.Ma ++ [o.2.2.2]) p)
def gC (o:dN) (id:Int) (p:aE):aE:=match cg (·.id) o.2.1 p.ai with
 | none=>bu 3 id p
 | some q=>if q.I then bu 3 id p else match q.Ma with
  | [] =>bu 1 id (ez rM id p)
  | t :: r=>bu 0 id (if q.Mf then gU o.2.1 r (ez t id p) else ez t id p)
def py (id:Int) (p:aE):aE:= { p with next:=p.next+1,L8:=ce id (fun y=> { y with Md:=1,RU:=p.next }) p.L8 }
def ot (id:Int) (p:aE):aE:= { p with L8:=ce id j7 p.L8 }
def jU (o:dN) (id:Int) (p:aE):aE:=match cg (·.id) o.2.1 p.L8 with
 | none=>bu 3 id p
 | some y=>if y.Md=0 then bu 0 id (py o.2.1 p) else bu 1 id p
def lg (o:dN) (id:Int) (p:aE):aE:=match cg (·.id) o.2.1 p.L8 with
 | none=>bu 3 id p
 | some y=>if y.Md=0 then bu 1 id p else if o.2.1=id then ot id p else bu 0 id (ot o.2.1 p)
def GY (x:aD) (o:dN) (p:aE):aE:=
 if (if x.left=0 then o.2.1 else x.left)=1 then bu 0 x.id p
 else { p with L8:=ce x.id (fun y=> { y with left:=(if x.left=0 then o.2.1 else x.left) - 1 }) p.L8 }
def lX (now:Int) (x:aD) (o:dN) (p:aE):aE:=
 if o.1=1 then GY x o p
 else if o.1=2 then kC 2 0 rM (now+o.2.1) x.id p
 else if o.1=3 then mh o now x.id p
 else if o.1=4 then gJ o x.id p
 else if o.1=5∨o.1=6∨o.1=7 then dE o now x.id p
 else if o.1=8 then lc o now x.id p
 else if o.1=9 then ka o now x.id p
 else if o.1=10∨o.1=11∨o.1=12 then dC o now x.id p
 else if o.1=13 then ig o x.id p
 else if o.1=14 then gC o x.id p
 else if o.1=15 then jU o x.id p
 else if o.1=16 then lg o x.id p
 else { p with L8:=ce x.id (fun y=> { y with pc:=0 }) p.L8 }
def mS (now:Int) (p:aE):aE:=match jl 1 0 (gj now p).L8 with
 | none=>gj now p
 | some x=>lX now x (opAt x) (gj now p)
def hZ (p:aE) (now:Int):Option aE:=if bK p && cv now 0 1000000000 && decide (p.next≤999999980) then some (mS now p) else none
section
variable {α:Type} {num:α→Int}
theorem jF {l:List α} {f:α→α} {id:Int} {n:Nat} {y:α} (hr:l.Pairwise (fun x y=>num x < num y)) (hn:l[n]? =some y) (hy:num y=id):jP num id f l=l.set n (f y):=by
 induction l generalizing n with
 | nil=>simp at hn
 | cons x r ih=>
  obtain ⟨h1,h2⟩:=LM.1 hr;cases n with
  | zero=>
   simp only [List.getElem?_cons_zero,LF] at hn;subst hn;have e:jP num id f r=r:=by
    unfold jP
    conv=>rhs; rw [← List.map_id r]
    refine Lw fun z hz=> ?_
    rw [if_neg (by have:=h1 z hz; omega)];rfl
   simp only [List.set_cons_zero]
   show (if num x=id then f x else x) :: jP num id f r=_
   rw [if_pos hy,e]
  | succ n=>
   simp only [List.getElem?_cons_succ] at hn;have hlt:=h1 y (List.mem_of_getElem? hn);simp only [List.set_cons_succ]
   show (if num x=id then f x else x) :: jP num id f r=_
   rw [if_neg (by omega),ih h2 hn]
theorem ef (id:Int): ∀ (l:List α) (k:Nat),(place (l.map num) id k= -1∧cg num id l=none)∨ ∃ n x,place (l.map num) id k=((k+n:Nat):Int)∧l[n]? =some x∧num x=id∧cg num id l=some x
 | [],k=> .inl ⟨rfl,rfl⟩
 | x :: r,k=>by
  unfold cg;by_cases h:num x=id
  ·refine .inr ⟨0,x,?_,rfl,h,by simp [h]⟩
   simp [place,h]
  ·rcases ef id r (k+1) with ⟨h1,h2⟩ | ⟨n,y,h1,h2,h4,h3⟩
   ·exact .inl ⟨by simp only [Lt,place]; rw [if_neg h]; exact h1,by simp only [LL,h,decide_false]; exact h2⟩
   ·refine .inr ⟨n+1,y,?_,h2,h4,by simp only [LL,h,decide_false]; exact h3⟩
    simp only [Lt,place];rw [if_neg h,h1];omega
theorem ks {id:Int} {l:List α} {x:α} (h:cg num id l=some x):x∈l∧num x=id:=by
 have h1:=List.find?_some h;exact ⟨List.mem_of_find?_eq_some h,by simpa using h1⟩
end
theorem xw: ∀ (l:List aD) (r:Option aD) {y:aD},l.foldl iy r=some y→y∈l∨r=some y
 | [],_,_,h=> .inr h
 | x :: l,r,y,h=>by
  rcases xw l (iy r x) h with h1 | h1
  ·exact .inl (by simp [h1])
  ·rcases zp h1 with h2 | h2
   ·exact .inl (by simp [h2])
   ·exact .inr h2
theorem ft {st on:Int} {l:List aD} {x:aD} (h:jl st on l=some x):x∈l∧x.Md=st∧x.on=on:=by
 have h1:x∈l.filter (ie st on):=(xw _ none h).elim (fun e=>e) (fun e=>by cases e);obtain ⟨h2,h3⟩:=L2.1 h1;unfold ie at h3;simp only [J7,decide_eq_true_eq] at h3;exact ⟨h2,h3⟩
theorem Dt {st on:Int} {l:List aD} (h:jl st on l=none):l.filter (ie st on)= [] :=by
 unfold jl jo at h;rcases List.eq_nil_or_concat (l.filter (ie st on)) with e | ⟨l',x,e⟩
 ·exact e
 ·rw [e,List.concat_eq_append,List.foldl_append] at h
  simp only [List.foldl_cons,List.foldl_nil] at h;obtain ⟨y,hy⟩:=pN (l'.foldl iy none) x;rw [hy] at h;cases h
section
open Go.RowKit Go.Maps
theorem dY {A B B':List Nat} {g:Nat} (h:B'.Perm (g :: B)):(A ++ B').Perm (g :: (A ++ B)):=(List.Perm.append_left A h).trans List.perm_middle
theorem lM {α:Type} {num:α→Int} (x:α) (b g:Nat) (l:List (α × Nat)):(b :: (fc num (x,g) l).map (·.2)).Perm (g :: (b :: l.map (·.2))):=
 have h:((fc num (x,g) l).map (·.2)).Perm (g :: l.map (·.2)):=(lC (num:=num) (x,g) l).map (·.2)
 (List.Perm.cons b h).trans (List.Perm.swap g b _)
theorem m9 {α β:Type} {num:α→Int} {je:β→Int} (f:α→β) (hf: ∀ y,je (f y)=num y) (x:α) (g:Nat): ∀ l:List (α × Nat),(fc num (x,g) l).map (fun p=>f p.1)=bY je (f x) (l.map (fun p=>f p.1))
 | [] =>rfl
 | y :: r=>by
  simp only [fc,bY,Lt,hf]
  split
  ·simp
  ·simp [m9 f hf x g r]
theorem AG {α:Type} {N:gd α} {num:α→Int} (x:α) (g:Nat) (l:List (α × Nat)):(kids N (fc num (x,g) l)).Perm (kids N ((x,g) :: l)):=(lC (num:=num) (x,g) l).filterMap _
theorem oP {α β:Type} {num:α→Int} {je:β→Int} (f:α→β) (hf: ∀ y,je (f y)=num y) (ok:β→Bool) (x:α) (n:Nat) (l:List (α × Nat)):iI n (RW num l) (num x) (ok (f x))=(jn je ok (f x) (l.map (fun p=>f p.1)) && decide ((l.map (fun p=>f p.1)).length < n)):=by
 have e1:(RW num l).map (·.1)=(l.map (fun p=>f p.1)).map je:=by
  simp only [RW,Lv];exact Lw fun p _=>(hf p.1).symm
 have e2:decide (((RW num l).length:Int) < (n:Int))=decide ((l.map (fun p=>f p.1)).length < n):=by
  rw [bZ,List.length_map];exact decide_eq_decide.2 (by omega)
 unfold iI jn;rw [ry,e1,e2,hf];cases decide ((l.map (fun p=>f p.1)).length < n) <;> simp
theorem cJ.lt {w:World} {base o:Nat} {S:aZ} (h:cJ w base o S): ∀ c∈o :: (S.boxes ++ S.kids),c < w.heap.size:=fun c hc=>by
 simp only [aZ.boxes,aZ.kids,Kt,Kg] at hc;rcases hc with rfl | ((hc | hc | hc | hc | hc | hc) | hc | hc | hc)
 ·exact (Array.getElem?_eq_some_iff.1 h.opn).1
 ·exact h.L8.lt c (Kt.2 hc)
 ·exact h.aj.lt c (Kt.2 hc)
 ·exact h.L9.lt c (Kt.2 hc)
 ·exact h.ag.lt c (Kt.2 hc)
 ·exact h.ae.lt c (Kt.2 hc)
 ·exact h.ai.lt c (Kt.2 hc)
 ·obtain ⟨r,hr,hk⟩:=Lq.1 hc
  exact ((h.eI r hr).lt hk).2
 ·obtain ⟨r,hr,hk⟩:=Lq.1 hc
  exact ((h.eE r hr).lt hk).2
 ·obtain ⟨r,hr,hk⟩:=Lq.1 hc
  exact ((h.eR r hr).lt hk).2
end
theorem sr {α:Type} {num:α→Int} {ok:α→Bool} : ∀ {l:List α} {last:Int},(∀ x∈l,cv (num x) 1 1000=true∧ok x=true)→(∀ x∈l,last < num x)→l.Pairwise (fun x y=>num x < num y)→aw num ok last l=true
 | [],_,_,_,_=>rfl
 | x :: r,last,h1,h2,h3=>by
  obtain ⟨h4,h5⟩:=LM.1 h3;simp only [aw,J7,decide_eq_true_eq];exact ⟨⟨⟨(h1 x (by simp)).1,h2 x (by simp)⟩,(h1 x (by simp)).2⟩,sr (fun y hy=>h1 y (by simp [hy])) h4 h5⟩
theorem nj {α:Type} {num:α→Int} {ok:α→Bool} {l:List α} {last id:Int} {f:α→α} (h:aw num ok last l=true) (hf: ∀ x,num (f x)=num x) (ho: ∀ x∈l,num x=id→ok (f x)=true):aw num ok last (jP num id f l)=true:=by
 obtain ⟨h1,h2⟩:=db h;have h3:=cK h;have e: ∀ z:α,num (if num z=id then f z else z)=num z:=fun z=>by split <;> simp [hf]
 refine sr (fun y hy=> ?_) (fun y hy=> ?_) ?_
 ·obtain ⟨z,hz,rfl⟩:=Lr.1 hy
  refine ⟨by rw [e]; exact (h3 z hz).1,?_⟩
  split
  ·exact ho z hz ‹_›
  ·exact (h3 z hz).2
 ·obtain ⟨z,hz,rfl⟩:=Lr.1 hy
  rw [e]; exact h1 z hz
 ·unfold jP
  rw [Qm];exact h2.imp fun {a b} hab=>by rw [e,e]; exact hab
theorem vN {α:Type} {num:α→Int} {id:Int} {f:α→α} (hf: ∀ x,num (f x)=num x) (l:List α):(jP num id f l).map num=l.map num:=by
 unfold jP;rw [Lv];refine Lw fun z _=> ?_
 simp only [Ls]
 split <;> simp [hf]
section
variable {p:aE}
theorem aQ.proc (h:aQ p) {x:aD} (hx:x∈p.L8):cv x.id 1 1000=true∧cH x=true∧fF p.next x=true∧dG p x=true:=by
 obtain ⟨h1,h2⟩:=cK h.L8 x hx;simp only [J7] at h2;exact ⟨h1,h2.1.1,h2.1.2,h2.2⟩
theorem aQ.kW (h:aQ p):p.L8.Pairwise (fun x y=>x.id < y.id):=(db h.L8).2
theorem aQ.ju {id nx:Int} {f:aD→aD} (h:aQ p) (hid: ∀ x,(f x).id=x.id) (hn:p.next≤nx∧nx≤1000000000)
  (hx: ∀ x∈p.L8,x.id=id→cH (f x)=true∧fF nx (f x)=true∧dG p (f x)=true∧((f x).RU=x.RU∨(f x).RU=0∨(f x).RU=p.next)):aQ { p with next:=nx,L8:=ce id f p.L8 } :=by
 have hnx:=bz.1 h.next;have e: ∀ z:aD,(if z.id=id then f z else z).id=z.id:=fun z=>by split <;> simp [hid]
 refine ⟨h.id,(show cv nx 1 1000000000=true from eB (by omega) hn.2),by simpa [ce] using h.dl,h.fx,h.cD,h.cC,h.cb,h.dH,?_,h.aj,h.L9,h.ag,h.ae,h.ai,?_⟩
 ·obtain ⟨h1,h2⟩:=db h.L8
  refine sr (fun y hy=> ?_) (fun y hy=> ?_) ?_
  ·obtain ⟨z,hz,rfl⟩:=Lr.1 hy
   refine ⟨by rw [e]; exact (h.proc hz).1,?_⟩;simp only [J7]
   split
   ·rename_i hi
    obtain ⟨k1,k2,k3,-⟩:=hx z hz hi;exact ⟨⟨k1,k2⟩,k3⟩
   ·obtain ⟨-,k1,k2,k3⟩:=h.proc hz
    refine ⟨⟨k1,?_⟩,k3⟩;unfold fF at k2 ⊢;simp only [Kb,decide_eq_true_eq] at k2 ⊢;rcases k2 with k2 | k2
    ·exact .inl k2
    ·have:=bz.1 k2; exact .inr (eB (by omega) (by show _≤nx - 1; omega))
  ·obtain ⟨z,hz,rfl⟩:=Lr.1 hy
   rw [e]; exact h1 z hz
  ·show (ce id f p.L8).Pairwise _
   exact rW hid h2
 ·have hs: ∀ z∈p.L8,z.RU < p.next∧0≤z.RU:=fun z hz=>by
   obtain ⟨-,k1,k2,-⟩:=h.proc hz;by_cases h0:z.Md=0
   ·have:=kx k1 h0; omega
   ·unfold fF at k2
    simp only [Kb,decide_eq_true_eq,h0,false_or] at k2
    have:=bz.1 k2; omega
  have ha:=h.apart;unfold rb at ha ⊢
  show ((ce id f p.L8).map (·.RU)).Pairwise _
  unfold ce;rw [Lv,Qm];rw [Qm] at ha;refine List.Pairwise.imp_of_mem (fun {a b} ham wU hab=> ?_) (ha.and h.kW);obtain ⟨h1,h2⟩:=hab;have sa:=hs a ham;have sb:=hs b wU;simp only [Ls];by_cases ea:a.id=id
  ·rw [if_pos ea,if_neg (by omega)]
   obtain ⟨-,-,-,k⟩:=hx a ham ea;rintro ⟨u,v⟩;rcases k with k | k | k
   ·rw [k] at u; exact h1 ⟨u,v⟩
   ·omega
   ·omega
  ·rw [if_neg ea]
   by_cases eb:b.id=id
   ·rw [if_pos eb]
    obtain ⟨-,-,-,k⟩:=hx b wU eb;rintro ⟨u,v⟩;rcases k with k | k | k
    ·rw [k] at u v; exact h1 ⟨u,v⟩
    ·omega
    ·omega
   ·rw [if_neg eb]; exact h1
theorem aQ.GD {l:List bD} (h:aQ p) (hi:l.map (·.id)=p.aj.map (·.id)) (hr:aw (·.id) gw 0 l=true):aQ { p with aj:=l } :=by
 have hw:dG { p with aj:=l } =dG p:=by funext x; simp only [dG,hasB,hi]
 have hl:l.length=p.aj.length:=by simpa using congrArg List.length hi
 exact ⟨h.id,h.next,h.dl,by show l.length≤5; rw [hl]; exact h.fx,h.cD,h.cC,h.cb,h.dH,by rw [hw]; exact h.L8,hr,h.L9,h.ag,h.ae,h.ai,h.apart⟩
theorem aQ.Cz {l:List aB} (h:aQ p) (hi:l.map (·.id)=p.L9.map (·.id)) (hr:aw (·.id) ey 0 l=true):aQ { p with L9:=l } :=by
 have hw:dG { p with L9:=l } =dG p:=by funext x; simp only [dG,hasB,hi]
 have hl:l.length=p.L9.length:=by simpa using congrArg List.length hi
 exact ⟨h.id,h.next,h.dl,h.fx,by show l.length≤5; rw [hl]; exact h.cD,h.cC,h.cb,h.dH,by rw [hw]; exact h.L8,h.aj,hr,h.ag,h.ae,h.ai,h.apart⟩
theorem aQ.C5 {l:List az} (h:aQ p) (hi:l.map (·.id)=p.ag.map (·.id)) (hr:aw (·.id) cU 0 l=true):aQ { p with ag:=l } :=by
 have hw:dG { p with ag:=l } =dG p:=by funext x; simp only [dG,hasB,hi]
 have hl:l.length=p.ag.length:=by simpa using congrArg List.length hi
 exact ⟨h.id,h.next,h.dl,h.fx,h.cD,by show l.length≤5; rw [hl]; exact h.cC,h.cb,h.dH,by rw [hw]; exact h.L8,h.aj,h.L9,hr,h.ae,h.ai,h.apart⟩
theorem aQ.Cb {l:List ci} (h:aQ p) (hi:l.map (·.id)=p.ae.map (·.id)) (hr:aw (·.id) ct 0 l=true):aQ { p with ae:=l } :=by
 have hw:dG { p with ae:=l } =dG p:=by funext x; simp only [dG,hasB,hi]
 have hl:l.length=p.ae.length:=by simpa using congrArg List.length hi
 exact ⟨h.id,h.next,h.dl,h.fx,h.cD,h.cC,by show l.length≤5; rw [hl]; exact h.cb,h.dH,by rw [hw]; exact h.L8,h.aj,h.L9,h.ag,hr,h.ai,h.apart⟩
theorem aQ.Es {l:List dS} (h:aQ p) (hi:l.map (·.id)=p.ai.map (·.id)) (hr:aw (·.id) dj 0 l=true):aQ { p with ai:=l } :=by
 have hw:dG { p with ai:=l } =dG p:=by funext x; simp only [dG,hasB]
 have hl:l.length=p.ai.length:=by simpa using congrArg List.length hi
 exact ⟨h.id,h.next,h.dl,h.fx,h.cD,h.cC,h.cb,by show l.length≤5; rw [hl]; exact h.dH,by rw [hw]; exact h.L8,h.aj,h.L9,h.ag,h.ae,hr,h.apart⟩
end
def jY (x:aD):Bool:=cv x.RX 1 50 && jm x.prog && bw x.held && bw x.got && cv x.code 0 3
theorem fG (x:aD):cH x=(jY x && bO x):=rfl
theorem jX:bw rM=true:=by decide
theorem oB:bI rM=true:=by simp [bI,rM,PQ]
theorem iT {x:aD} (h:cH x=true) (h0: ¬ x.Md=0):0≤x.pc∧x.pc < x.prog.length:=by
 rw [fG,J7] at h;have h3:=h.2;unfold bO at h3;have h4:dU x=true:=by
  rw [if_neg h0] at h3
  split at h3
  ·simp only [J7] at h3; exact h3.1.1.1.1
  ·split at h3
   ·simp only [J7] at h3; exact h3.1.1.1.1
   ·split at h3
    ·simp only [J7] at h3; exact h3.1.1
    ·split at h3
     ·simp only [J7] at h3; exact h3.1.1.1
     ·cases h3
 have h5:=bz.1 h4;omega
theorem yG {l:List dN} (h:jm l=true) {i:Nat} {o:dN} (ho:l[i]? =some o):kc o=true:=by
 unfold jm nq at h;have h1:=(of_decide_eq_true h).2.2 i (Lj.1 ho).1;unfold j8 Cd Cg Ea Ce at h1;rw [ho] at h1;exact h1
theorem lK {l:List dN} (h:jm l=true):1≤l.length∧l.length≤20:=by
 unfold jm nq at h;have h1:=of_decide_eq_true h;exact ⟨h1.1,h1.2.1⟩
theorem mr {x:aD} (hp:jm x.prog=true) (hs:x.Md=1) (hc:0≤x.pc∧x.pc < x.prog.length) (hl:x.left=0) (hw:x.Mg=0) (ho:x.on=0) (hh:bI x.held=true):bO x=true:=by
 unfold bO;rw [if_neg (by omega),if_pos hs,hw,ho,hh];have h1:dU x=true:=eB hc.1 (by omega);have h2:jJ x=true:=by
  unfold jJ;rw [hl]
  split
  ·rename_i hk
   unfold opAt at hk ⊢;have h3:x.pc.toNat < x.prog.length:=by omega
   rw [Kz h3] at hk ⊢;simp only [Option.getD_some] at hk ⊢;have h4:=yG hp (Kz h3);unfold kc mQ at h4;rw [hk] at h4;have h5:cv (x.prog[x.pc.toNat]).2.1 1 1000=true:=by simp at h4; exact h4.1.1
   have:=bz.1 h5
   simp only [J7,decide_eq_true_eq];omega
  ·rfl
 rw [h1,h2]; rfl
theorem vQ {x:aD} (h:jY x=true):cH (j7 x)=true:=by
 rw [fG,J7];constructor
 ·unfold jY at h ⊢
  simp only [J7] at h ⊢;exact ⟨⟨⟨h.1.1.1,jX⟩,h.1.2⟩,h.2⟩
 ·unfold bO j7
  simp [oB]
theorem vF {x:aD} {code s:Int} (h:jY x=true) (hc:cv code 0 3=true) (h0:0≤x.pc) (h1:x.pc+1 < x.prog.length):cH { jM code x with RU:=s } =true:=by
 rw [fG,J7];unfold jY at h ⊢;simp only [J7] at h ⊢;refine ⟨⟨⟨⟨h.1.1.1,jX⟩,h.1.2⟩,hc⟩,mr (x:= { jM code x with RU:=s }) h.1.1.1.2 rfl ⟨by show 0≤x.pc+1; omega,h1⟩ rfl rfl rfl oB⟩
section
open Go.RowKit Go.Maps
def ld (w:World) (a:Option Addr) (xs:List Value):Prop:= ∀ j u,xs[j]? =some u→ ∃ ad,a=some ad∧w.cell? (ad.add j)=some u
theorem ld.nil {w:World} {a:Option Addr} :ld w a [] :=fun j u hu=>by cases hu
theorem ld.none {w:World} {xs:List Value} (h:ld w none xs):xs= [] :=by
 cases xs with
 | nil=>rfl
 | cons u r=>
  obtain ⟨ad,e,_⟩:=h 0 u rfl;cases e
theorem jD {P:Program} (w:World) (base:Nat) (t ty e:TypeId) (i:TypeInfo) (z:Value) (size bytes:Nat) (ht:P.underlying t=some (.slice e)) (hi:P.info? e=some i) (hz:i.zero=some z)
  (hsize:i.size=size) (hby:i.bytes=bytes) (hzs:z.cells.size=size) (hsz:0 < size) (a0:Option Addr) (n0 c0:Nat) (ys:List Value) (ho:w.ownsRow base e size (.slice a0 n0 c0) n0 ys)
  (a:Option Addr) (n cap:Nat) (xs:List Value) (h:ld w a xs) (hl:xs.length=n * size) (h1: ∀ u∈xs,u.oneCell'=true) (h63:n0+n≤4000000) (hb:bytes≤1000) (lY:base≤w.heap.size):
  ∃ a' cap' w',(Builtin.append_ #[t,t] ty #[.slice a0 n0 c0,.slice a n cap]).run P w= .ok (.slice a' (n0+n) cap') w'∧w'.ownsRow base e size (.slice a' (n0+n) cap') (n0+n) (ys ++ xs)∧w.grownBy w' (Value.slice a0 n0 c0).ownBlock∧ ∀ g∈blk a',g∈blk a0∨g=w.heap.size:=by
 cases a with
 | none=>
  have hx:=h.none;subst hx;have hn:n=0:=by
   cases n with
   | zero=>rfl
   | succ n=>simp only [List.length_nil,Nat.succ_mul] at hl; omega
  subst hn;refine ⟨a0,c0,w,?_,by simpa using ho,⟨rfl,rfl,rfl,Ki _,fun _ _ _=>rfl⟩,fun g hg=> .inl hg⟩;have hc:n0≤c0:=by
   obtain ⟨-,⟨e1,e2⟩ | ⟨g,c,cur,e1,-,-,h5,-⟩⟩:=ho
   ·cases e1; exact Ki _
   ·cases e1; exact h5
  cases a0 <;> simp [Builtin.append_,run_underlying ht,sizeOf,typeInfo,hi,Builtin.lenOf,Builtin.firstCells,storeCells,hc]
 | some ad=>
  have hnews: ∀ j u,xs[j]? =some u→w.cell? (ad.add j)=some u:=fun j u hu=>by
   obtain ⟨ad',e',hc⟩:=h j u hu;cases e';exact hc
  obtain ⟨v',w',hr,ho',hgr,-,hbl⟩:=run_append_own_at (P:=P) w base t ty e i z size bytes ht hi hz hsize hby hzs hsz (.slice a0 n0 c0) n0 ys ho ad n cap xs hl hnews h1 (by unfold maxLen; omega) (by have:=Nat.mul_le_mul h63 hb; omega) lY;obtain ⟨a',cap',rfl,-⟩:=cr ho';refine ⟨a',cap',w',hr,ho',hgr,fun g hg=> ?_⟩;rw [fZ] at hg ⊢;cases a' with
  | none=>cases hg
  | some ad'=>
   simp only [J9,LF] at hg;subst hg;rcases hbl with hbl | hbl
   ·refine .inl ?_
    cases a0 with
    | none=>cases hbl
    | some ad0=>simpa [Value.ownBlock] using hbl.symm
   ·exact .inr (by simpa [Value.ownBlock] using hbl)
theorem qv {Z A A' R:List Nat} (h:(Z ++ (A ++ R)).Nodup) (hA:A'.Nodup) (h1: ∀ g∈A',g∉Z ++ (A ++ R)):(Z ++ (A' ++ R)).Nodup:=by
 simp only [Kg,not_or] at h1;simp only [List.nodup_append,Kg] at h ⊢;obtain ⟨hz,⟨-,hR,-⟩,hzz⟩:=h;refine ⟨hz,⟨hA,hR,fun a ha b hb e=>(h1 a ha).2.2 (e ▸ hb)⟩,fun a ha b hb e=> ?_⟩;rcases hb with hb | hb
 ·exact (h1 b hb).1 (e ▸ ha)
 ·exact hzz a ha b (.inr hb) e
theorem Hj (g m j:Nat):(⟨g,m,none⟩:Addr).add j=⟨g,m+j,none⟩:=by unfold Addr.add; split <;> simp_all
theorem FH {α:Type} {K:Kind α} {w:World} {a:Option Addr} {l:List α} (k:Nat) (h:Row w a (K.flat l)):ld w (a.map (·.add (k * K.n))) (K.flat (l.drop k)):=fun j u hu=>by
 by_cases hk:k≤l.length
 ·have e:K.flat l=K.flat (l.take k) ++ K.flat (l.drop k):=by rw [← K.dc,Qn]
  have hl:(K.flat (l.take k)).length=k * K.n:=by rw [K.dM,List.length_take,Nat.min_eq_left hk]
  have hu2:(K.flat l)[k * K.n+j]? =some u:=by
   rw [e,List.getElem?_append_right (by omega),hl,Nat.add_sub_cancel_left];exact hu
  obtain ⟨g,rfl,hc⟩:=h _ u hu2;exact ⟨⟨g,k * K.n,none⟩,by rw [J9,qZ],by rw [Hj]; exact hc⟩
 ·rw [List.drop_eq_nil_of_le (by omega)] at hu
  cases hu
theorem IS {w:World} {a:Option Addr} {xs:List Value} (h:Row w a xs):ld w a xs:=fun j u hu=>by
 obtain ⟨g,rfl,hc⟩:=h j u hu;exact ⟨_,rfl,by rw [qZ]; exact hc⟩
theorem uM {α:Type} {K:Kind α} {w:World} {a:Option Addr} {l:List α} (k:Nat) (h:Row w a (K.flat l)):ld w a (K.flat (l.take k)):=fun j u hu=>by
 have e:K.flat l=K.flat (l.take k) ++ K.flat (l.drop k):=by rw [← K.dc,Qn]
 have hu2:(K.flat l)[j]? =some u:=by
  rw [e,List.getElem?_append_left (Lj.1 hu).1];exact hu
 exact IS h j u hu2
theorem nV {w:World} {base size n c:Nat} {e:TypeId} {a:Option Addr} {xs:List Value} (h:w.ownsRow base e size (.slice a n c) n xs):n≤c:=by
 obtain ⟨-,⟨e1,e2⟩ | ⟨g,c',cur,e1,-,-,h5,-⟩⟩:=h
 ·cases e1; exact Ki _
 ·cases e1; exact h5
theorem jO {w:World} {g:Nat} {cs:Array Value} {t:TypeId} {fz:Nat × Nat} (h:w.heap[g]? =some (.cells cs t fz)):ld w (some ⟨g,0,none⟩) cs.toList:=fun j u hu=>⟨_,rfl,by rw [qZ]; simp only [World.cell?,h]; simpa using hu⟩
theorem ja {w:World} {o i:Nat} {v:Value} :(w.setCell ⟨o,i,none⟩ v).heap.size=w.heap.size:=fH [v]
theorem qK {α:Type} {K:Kind α} {w:World} {a:Option Addr} {l:List α} {k c:Nat} (hk:l.length≤c) (h:Row w a (K.flat l)):ld w (if c=k then a else Option.map (fun x=>x.add (k * K.n)) a) (K.flat (l.drop k)):=by
 split
 ·rw [List.drop_eq_nil_of_le (by omega)]
  exact ld.nil
 ·exact FH k h
theorem jS {p p':aE} (h:(bK p && bK p')=true):cB p p'=some p':=if_pos h
theorem jh {p p':aE} (h:(bK p && bK p')=false):cB p p'=none:=if_neg (by rw [h]; decide)
theorem zm {α:Type} (num:α→Int) (id:Int) (l:List α) (k:Nat):(∃ x,l[k]? =some x∧num x < id∧k < l.length)∨(∃ x,l[k]? =some x∧ ¬ num x < id∧k < l.length)∨ ¬ k < l.length:=by
 by_cases h:k < l.length
 ·by_cases h2:num l[k] < id
  ·exact .inl ⟨_,Kz h,h2,h⟩
  ·exact .inr (.inl ⟨_,Kz h,h2,h⟩)
 ·exact .inr (.inr h)
end
section
open Go.RowKit
theorem nX {p:aE} {x:ci} (h:p.Small) (hr:bK p=true) (hx:(Lit.int .i64 x.id).wf=true∧x.Ma.length≤1048576∧ ∀ s∈x.Ma,s.size≤1048576):aE.Small { p with ae:=bY (·.id) x p.ae } :=by
 have h2:=((ch _).1 hr).cb;exact ⟨h.dl,h.fx,h.cD,h.cC,by show (bY (·.id) x p.ae).length≤_; rw [er]; omega,h.dH,h.L8,h.aj,h.L9,h.ag,fun y hy=>(fq.1 hy).elim (fun e=>e ▸ hx) (h.ae y),h.ai⟩
theorem yN {p:aE} {x:bD} (h:p.Small) (hr:bK p=true) (hx:(Lit.int .i64 x.id).wf=true):aE.Small { p with aj:=cA (·.id) x p.aj } :=by
 have h2:=((ch _).1 hr).fx;exact ⟨h.dl,by show (cA (·.id) x p.aj).length≤_; rw [eJ]; omega,h.cD,h.cC,h.cb,h.dH,h.L8,fun y hy=>(js.1 hy).elim (fun e=>e ▸ hx) (h.aj y),h.L9,h.ag,h.ae,h.ai⟩
theorem vS {p:aE} {x:aB} (h:p.Small) (hr:bK p=true) (hx:(Lit.int .i64 x.id).wf=true):aE.Small { p with L9:=cA (·.id) x p.L9 } :=by
 have h2:=((ch _).1 hr).cD;exact ⟨h.dl,h.fx,by show (cA (·.id) x p.L9).length≤_; rw [eJ]; omega,h.cC,h.cb,h.dH,h.L8,h.aj,fun y hy=>(js.1 hy).elim (fun e=>e ▸ hx) (h.L9 y),h.ag,h.ae,h.ai⟩
theorem vR {p:aE} {x:az} (h:p.Small) (hr:bK p=true) (hx:(Lit.int .i64 x.id).wf=true∧x.text.size≤1048576):aE.Small { p with ag:=cA (·.id) x p.ag } :=by
 have h2:=((ch _).1 hr).cC;exact ⟨h.dl,h.fx,h.cD,by show (cA (·.id) x p.ag).length≤_; rw [eJ]; omega,h.cb,h.dH,h.L8,h.aj,h.L9,fun y hy=>(js.1 hy).elim (fun e=>e ▸ hx) (h.ag y),h.ae,h.ai⟩
theorem pU {p:aE} {x:dS} (h:p.Small) (hr:bK p=true) (hx:(Lit.int .i64 x.id).wf=true∧x.Ma.length≤1048576∧ ∀ s∈x.Ma,s.size≤1048576):aE.Small { p with ai:=bY (·.id) x p.ai } :=by
 have h2:=((ch _).1 hr).dH;exact ⟨h.dl,h.fx,h.cD,h.cC,h.cb,by show (bY (·.id) x p.ai).length≤_; rw [er]; omega,h.L8,h.aj,h.L9,h.ag,h.ae,fun y hy=>(fq.1 hy).elim (fun e=>e ▸ hx) (h.ai y)⟩
abbrev newP (id RX:Int) (l:List dN):aD:=⟨id,RX,l,0,0,0,0,0,⟨#[]⟩,⟨#[]⟩,0,0⟩
theorem xJ {α:Type} {num:α→Int} {R:α→α→Prop} {x:α} : ∀ {l:List α},(∀ y∈l,R x y)→(∀ y∈l,R y x)→l.Pairwise R→(bY num x l).Pairwise R
 | [],_,_,_=>by simp [bY]
 | y :: r,h1,h2,h=>by
  simp only [bY]
  split
  ·exact LM.2 ⟨h1,h⟩
  ·rw [LM] at h
   refine LM.2 ⟨fun z hz=> ?_,xJ (fun z hz=>h1 z (by simp [hz])) (fun z hz=>h2 z (by simp [hz])) h.2⟩;rcases fq.1 hz with rfl | hz
   ·exact h2 y (by simp)
   ·exact h.1 z hz
theorem El {id RX:Int} {l:List dN} {ps:List aD} (h:rb ps):rb (bY (·.id) (newP id RX l) ps):=by
 unfold rb at h ⊢;rw [Qm] at h ⊢;exact xJ (fun y _ e=>by have h1:(0:Int)=y.RU:=e.1; have h2:0 < y.RU:=e.2; omega) (fun y _ e=>absurd (show (0:Int) < 0 from e.2) (by decide)) h
theorem S8 {p:aE} {id RX:Int} {l:List dN} (h:aQ p):bK ({ p with L8:=bY (·.id) (newP id RX l) p.L8 } :aE)=(jn (·.id) cH (newP id RX l) p.L8 && decide (p.L8.length < 6)):=by
 have e0:jn (·.id) (fun x=>cH x && fF p.next x && dG p x) (newP id RX l) p.L8=jn (·.id) cH (newP id RX l) p.L8:=by
  have e1:fF p.next (newP id RX l)=true:=by simp [fF]
  have e2:dG p (newP id RX l)=true:=by simp [dG]
  simp only [jn,e1,e2,Bool.and_true]
 rw [Bool.eq_iff_iff,ch,J7,decide_eq_true_eq,← e0,← mw h.L8];constructor
 ·intro h2
  have h3:(bY (·.id) (newP id RX l) p.L8).length≤6:=h2.dl;rw [er] at h3;exact ⟨h2.L8,by omega⟩
 ·intro h2
  have h3:=h2.2;exact ⟨h.id,h.next,(by show (bY (·.id) (newP id RX l) p.L8).length≤6; rw [er]; omega),h.fx,h.cD,h.cC,h.cb,h.dH,h2.1,h.aj,h.L9,h.ag,h.ae,h.ai,El h.apart⟩
section
variable {p:aE} {id RX:Int} {l:List dN}
theorem pO (h:p.Small) (hr:bK p=true) (hx:l.length≤1048576∧ ∀ o∈l,o.2.2.2.size≤1048576) (hw:(Lit.int .i64 id).wf=true):aE.Small { p with L8:=bY (·.id) (newP id RX l) p.L8 } :=by
 have h2:=((ch _).1 hr).dl;exact ⟨by show (bY (·.id) (newP id RX l) p.L8).length≤_; rw [er]; omega,h.fx,h.cD,h.cC,h.cb,h.dH,fun y hy=>(fq.1 hy).elim (fun e=>e ▸ ⟨⟨hx.1,hx.2,Ky _,Ky _⟩,hw,by show (Lit.int .i64 0).wf=true; decide,by show (Lit.int .i64 0).wf=true; decide⟩) (h.L8 y),h.aj,h.L9,h.ag,h.ae,h.ai⟩
end
end
end Go.Proofs.YtkbcplnlehdjfaaGreat
