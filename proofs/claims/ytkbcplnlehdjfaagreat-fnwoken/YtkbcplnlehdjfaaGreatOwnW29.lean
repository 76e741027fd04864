/- What the proof leans on, part 29. -/
import Derived.Test.YtkbcplnlehdjfaaGreatOwnW27
set_option maxRecDepth 100000
set_option maxHeartbeats 8000000
open Array renaming getElem?_eq_some_iff->J2
open Bool renaming and_eq_true->J7,false_eq_true->J5
open Go renaming wp_at_succ->Kd,wp_at_zero->Kc
open Go.Proofs.Tryz renaming prog->J3
open Go.RowKit.Below renaming refl->Kp
open List renaming append_nil->QO,filter_append->QN,filter_cons->LN,find?_cons->LL,getElem?_eq_getElem->Kz,map_cons->Lt,mem_cons->Kt,mem_cons_of_mem->LB,mem_filter->L2,mem_map->Lr,mem_of_getElem?->KA,pairwise_cons->LM,take_of_length_le->KF
open Nat renaming zero_le->Ky
open Option renaming map_some->J9
open Option.some renaming inj->KC,injEq->LF

namespace Go.Proofs.YtkbcplnlehdjfaaGreat
section
variable {α:Type} (ah:α→α→Bool)
def qV (r:Option α) (x:α):Option α:=match r with
 | none=>some x
 | some b=>if ah x b then some x else some b
def oa (l:List α):Option α:=l.foldl (qV ah) none
theorem qy (l:List α) (x:α):oa ah (l ++ [x])=qV ah (oa ah l) x:=by simp [oa]
theorem EO {r:Option α} {x y:α} (h:qV ah r x=some y):y=x∨r=some y:=by
 unfold qV at h
 split at h
 ·exact .inl (KC h).symm
 ·split at h
  ·exact .inl (KC h).symm
  ·exact .inr h
theorem zZ: ∀ (l:List α) (r:Option α) {y:α},l.foldl (qV ah) r=some y→y∈l∨r=some y
 | [],_,_,h=> .inr h
 | x :: l,r,y,h=>by
  rcases zZ l (qV ah r x) h with h1 | h1
  ·exact .inl (by simp [h1])
  ·rcases EO ah h1 with h2 | h2
   ·exact .inl (by simp [h2])
   ·exact .inr h2
theorem Fg {l:List α} {y:α} (h:oa ah l=some y):y∈l:=(zZ ah l none h).elim id (fun e=>by cases e)
theorem C8 (r:Option α) (x:α): ∃ y,qV ah r x=some y:=by
 unfold qV
 split
 ·exact ⟨_,rfl⟩
 ·split <;> exact ⟨_,rfl⟩
theorem CZ {l:List α} (h:oa ah l=none):l= [] :=by
 rcases List.eq_nil_or_concat l with e | ⟨l',x,e⟩
 ·exact e
 ·subst e
  rw [List.concat_eq_append,qy] at h;obtain ⟨y,hy⟩:=C8 ah (oa ah l') x;rw [hy] at h;cases h
def eN (f:α→Bool) (l:List α) (k:Nat) (i:Int):Prop:=match oa ah ((l.take k).filter f) with
 | none=>i= -1
 | some x=> ∃ n:Nat,i=n∧n < k∧l[n]? =some x
variable {f:α→Bool} {l:List α} {k:Nat} {i:Int} {x:α}
theorem eN.start (f:α→Bool) (l:List α):eN ah f l 0 (-1):=by simp [eN,oa]
theorem qm (hx:l[k]? =some x):(l.take (k+1)).filter f=(l.take k).filter f ++ (if f x then [x] else []):=by
 have h:l.take (k+1)=l.take k ++ [x] :=by rw [List.take_add_one,hx]; rfl
 rw [h,QN];by_cases h:f x=true <;> simp [h]
variable {ah}
theorem eN.skip (h:eN ah f l k i) (hx:l[k]? =some x) (hf:f x=false):eN ah f l (k+1) i:=by
 unfold eN at h ⊢;rw [qm hx,hf];simp only [J5,if_false,QO]
 split at h
 ·exact h
 ·obtain ⟨n,h1,h2,h3⟩:=h
  exact ⟨n,h1,by omega,h3⟩
theorem eN.first (h:eN ah f l k i) (hi:i < 0) (hx:l[k]? =some x) (hf:f x=true):eN ah f l (k+1) k:=by
 unfold eN at h ⊢;rw [qm hx,hf];simp only [if_true];rw [qy]
 split at h
 ·rename_i e
  rw [e];exact ⟨k,rfl,by omega,hx⟩
 ·obtain ⟨n,h1,_⟩:=h
  omega
theorem eN.got (h:eN ah f l k i) (hi: ¬ i < 0): ∃ (n:Nat) (y:α),i=n∧n < k∧l[n]? =some y∧oa ah ((l.take k).filter f)=some y:=by
 unfold eN at h
 split at h
 ·omega
 ·rename_i y e
  obtain ⟨n,h1,h2,h3⟩:=h;exact ⟨n,y,h1,h2,h3,e⟩
theorem eN.none' (h:eN ah f l k i) (hi:i < 0):oa ah ((l.take k).filter f)=none:=by
 unfold eN at h
 split at h
 ·assumption
 ·obtain ⟨n,h1,_⟩:=h
  omega
theorem eN.next {n:Nat} {y:α} (hn:n < k) (hy:l[n]? =some y) (he:oa ah ((l.take k).filter f)=some y) (hx:l[k]? =some x) (hf:f x=true):eN ah f l (k+1) (if ah x y then (k:Int) else (n:Int)):=by
 unfold eN;rw [qm hx,hf];simp only [if_true];rw [qy,he];simp only [qV];by_cases ha:ah x y=true
 ·simp only [ha,if_true]
  exact ⟨k,rfl,by omega,hx⟩
 ·simp only [ha,J5,if_false]
  exact ⟨n,rfl,by omega,hy⟩
end
def og (now:Int) (x:aD):Bool:=decide (2≤x.Md) && cv x.Mg 1 now
def l8 (a b:aD):Bool:=decide (a.Mg < b.Mg)
def lF (now:Int) (l:List aD):List aD:=l.filter (og now)
def lZ (now:Int) (l:List aD):Option aD:=oa l8 (lF now l)
def jM (code:Int) (x:aD):aD:= { x with code:=code,Md:=1,pc:=x.pc+1,left:=0,Mg:=0,on:=0,held:=rM }
def jT (code:Int) (x:aD):aD:=if x.pc+1=x.prog.length then j7 (jM code x) else jM code x
def iY (nx code:Int) (x:aD):aD:=if x.pc+1=x.prog.length then j7 (jM code x) else { jM code x with RU:=nx }
def gf (nx:Int) (x:aD):Int:=if x.pc+1=x.prog.length then nx else nx+1
def mL (x:aD):Int:=if x.Md=2 then 0 else 2
def gu (p:aE) (x:aD):aE:= { p with next:=gf p.next x,L8:=ce x.id (iY p.next (mL x)) p.L8 }
def oO (now:Int):Nat→aE→aE
 | 0,p=>p
 | n+1,p=>match lZ now p.L8 with
  | none=>p
  | some x=>oO now n (gu p x)
def gj (now:Int) (p:aE):aE:=oO now (lF now p.L8).length p
def kk (p:aE) (now:Int):Option aE:=if bK p && cv now 0 1000000000 && decide (p.next≤999999980) then some (gj now p) else none
theorem rD (nx code:Int) (x:aD):(iY nx code x).id=x.id∧(iY nx code x).prog=x.prog:=by
 unfold iY
 split <;> exact ⟨rfl,rfl⟩
theorem E7 (now nx code:Int) (x:aD):og now (iY nx code x)=false:=by
 unfold iY og
 split <;> simp [j7,jM]
theorem qB {f:aD→aD} {id:Int} : ∀ {l:List aD},(∀ y∈l,y.id≠id)→ce id f l=l
 | [],_=>rfl
 | y :: r,h=>by
  have h1:ce id f r=r:=qB fun z hz=>h z (LB _ hz)
  simp only [ce,Lt] at h1 ⊢;rw [if_neg (h y (by simp)),h1]
theorem Bg {now:Int} {f:aD→aD} {x:aD} (hf:og now (f x)=false) (hx:og now x=true): ∀ {l:List aD},l.Pairwise (fun x y=>x.id < y.id)→x∈l→(lF now (ce x.id f l)).length+1=(lF now l).length
 | [],_,h=>by cases h
 | y :: r,hr,h=>by
  rw [LM] at hr;by_cases e:y=x
  ·subst e
   have h2:ce y.id f (y :: r)=f y :: r:=by
    have h3:ce y.id f r=r:=qB fun z hz e=>by have:=hr.1 z hz; omega
    simp only [ce,Lt,if_true] at h3 ⊢;rw [h3]
   rw [h2];simp [lF,hf,hx]
  ·have hm:x∈r:=by
    rcases Kt.1 h with h1 | h1
    ·exact absurd h1.symm e
    ·exact h1
   have h4:=Bg hf hx hr.2 hm;have h5: ¬ y.id=x.id:=by have:=hr.1 x hm; omega
   have h6:ce x.id f (y :: r)=y :: ce x.id f r:=by simp [ce,h5]
   rw [h6];unfold lF at h4 ⊢;by_cases hy:og now y=true
   ·simp only [LN,hy,if_true,List.length_cons]; omega
   ·simp only [LN,hy,J5,if_false]; exact h4
theorem rW {f:aD→aD} {id:Int} (hf: ∀ x,(f x).id=x.id) {l:List aD} (h:l.Pairwise (fun x y=>x.id < y.id)):(ce id f l).Pairwise (fun x y=>x.id < y.id):=by
 unfold ce;rw [List.pairwise_map];refine h.imp fun {a b} hab=> ?_
 have e: ∀ z:aD,(if z.id=id then f z else z).id=z.id:=fun z=>by split <;> simp [hf]
 rw [e,e];exact hab
theorem Gs {f:aD→aD} {id:Int} {l:List aD} {y:aD} (h:y∈ce id f l):y∈l∨ ∃ x∈l,y=f x:=by
 obtain ⟨z,hz,e⟩:=Lr.1 h;by_cases h1:z.id=id
 ·exact .inr ⟨z,hz,by rw [← e,if_pos h1]⟩
 ·exact .inl (by rw [if_neg h1] at e; exact e ▸ hz)
structure Wk (now:Int) (p:aE):Prop where
 kW:p.L8.Pairwise (fun x y=>x.id < y.id)
 op: ∀ x∈p.L8,2≤x.Md→0≤x.pc∧x.pc < x.prog.length
 room:1≤p.next∧p.next+(lF now p.L8).length≤1000000000
 low:p.L8.length≤6
theorem Wk.mem {now:Int} {p:aE} {x:aD} (h:lZ now p.L8=some x):x∈p.L8∧og now x=true:=by
 have h1:=Fg l8 h;exact L2.1 h1
theorem Wk.step {now:Int} {p:aE} {x:aD} (h:Wk now p) (hx:lZ now p.L8=some x):Wk now (gu p x)∧(lF now (gu p x).L8).length+1=(lF now p.L8).length:=by
 obtain ⟨hm,hd⟩:=Wk.mem hx;have h1:=Bg (E7 now p.next (mL x) x) hd h.kW hm;refine ⟨⟨rW (fun y=>(rD _ _ y).1) h.kW,fun y hy hs=> ?_,?_,?_⟩,h1⟩
 ·rcases Gs hy with h2 | ⟨z,_,rfl⟩
  ·exact h.op y h2 hs
  ·unfold iY at hs
   split at hs <;> simp [j7,jM] at hs
 ·have h2:=h.room
  have h3:(gu p x).next≤p.next+1∧p.next≤(gu p x).next:=by
   show gf p.next x≤_∧_≤gf p.next x
   unfold gf
   split <;> omega
  have h4:(lF now (gu p x).L8).length+1=(lF now p.L8).length:=h1;omega
 ·show (ce _ _ p.L8).length≤6
  simpa [ce] using h.low
theorem Co {now:Int} {p:aE} (h:lZ now p.L8=none):gj now p=p:=by
 unfold gj;rw [CZ l8 h];rfl
theorem vn {now:Int} {p:aE} {x:aD} (h:Wk now p) (hx:lZ now p.L8=some x):gj now p=gj now (gu p x):=by
 have h1:=(h.step hx).2;unfold gj;rw [← h1];simp only [oO,hx]
theorem Wk.of {now:Int} {p:aE} (h:aQ p) (hn:p.next≤999999980):Wk now p:=by
 have h1:=(db h.L8).2;refine ⟨h1,fun x hx hs=> ?_,?_,h.dl⟩
 ·have h2:=(cK h.L8 x hx).2
  simp only [cH,J7] at h2;have h3:=h2.1.1.2;unfold bO at h3;have h4:dU x=true:=by
   split at h3
   ·omega
   ·split at h3
    ·omega
    ·split at h3
     ·simp only [J7] at h3; exact h3.1.1.1.1
     ·split at h3
      ·simp only [J7] at h3; exact h3.1.1
      ·split at h3
       ·simp only [J7] at h3; exact h3.1.1.1
       ·cases h3
  have h5:=bz.1 h4;omega
 ·have h2:=bz.1 h.next
  have h3:(lF now p.L8).length≤p.L8.length:=List.length_filter_le _ _;have h4:=h.dl;omega
section
open Go.RowKit Go.Maps
attribute [local go_sem ↓] Kc Kd
theorem xX {z:Int} (h:cv z 1 1000=true):(Lit.int .i64 z).wf=true:=by
 have h2:=bz.1 h;have e1:IntKind.min .i64≤0:=by decide
 have e2:100000≤IntKind.max .i64:=by decide
 simp only [Lit.wf,J7,decide_eq_true_eq];omega
theorem iB {S:aZ} (h:aQ S.pure):S.Fits:=by
 refine ⟨?_,?_,?_,?_,?_,?_,?_,?_,?_,?_,?_,?_⟩
 ·have h5:=h.dl
  have h6:S.pure.L8.length=S.lp.length:=by simp [aZ.pure]
  omega
 ·intro p hp
  obtain ⟨r,hr,rfl⟩:=Lr.1 hp;exact xX (cK h.L8 (r.1.toaD) (Lr.2 ⟨r,hr,rfl⟩)).1
 ·have h5:=h.fx
  have h6:S.pure.aj.length=S.ls.length:=by simp [aZ.pure]
  omega
 ·intro p hp
  obtain ⟨r,hr,rfl⟩:=Lr.1 hp;exact xX (cK h.aj (r.1) (Lr.2 ⟨r,hr,rfl⟩)).1
 ·have h5:=h.cD
  have h6:S.pure.L9.length=S.le.length:=by simp [aZ.pure]
  omega
 ·intro p hp
  obtain ⟨r,hr,rfl⟩:=Lr.1 hp;exact xX (cK h.L9 (r.1) (Lr.2 ⟨r,hr,rfl⟩)).1
 ·have h5:=h.cC
  have h6:S.pure.ag.length=S.lb.length:=by simp [aZ.pure]
  omega
 ·intro p hp
  obtain ⟨r,hr,rfl⟩:=Lr.1 hp;exact xX (cK h.ag (r.1) (Lr.2 ⟨r,hr,rfl⟩)).1
 ·have h5:=h.cb
  have h6:S.pure.ae.length=S.lf.length:=by simp [aZ.pure]
  omega
 ·intro p hp
  obtain ⟨r,hr,rfl⟩:=Lr.1 hp;exact xX (cK h.ae (r.1.toci) (Lr.2 ⟨r,hr,rfl⟩)).1
 ·have h5:=h.dH
  have h6:S.pure.ai.length=S.lq.length:=by simp [aZ.pure]
  omega
 ·intro p hp
  obtain ⟨r,hr,rfl⟩:=Lr.1 hp;exact xX (cK h.ai (r.1.todS) (Lr.2 ⟨r,hr,rfl⟩)).1
theorem NU {S:aZ} {g:Nat} {f:ao→ao} {nx:Int} (h:S.Fits) (hf: ∀ x,(f x).id=x.id):(S.ju g f nx).Fits:=by
 have e:RW (fun x:ao=>x.id) (sU g f S.lp)=RW (fun x:ao=>x.id) S.lp:=Al fun p _ _=>hf p.1
 refine ⟨?_,?_,h.fx,h.wSem,h.cD,h.G4,h.cC,h.FP,h.cb,h.DW,h.dH,h.Jz⟩
 ·show (sU g f S.lp).length≤_
  unfold sU;rw [List.length_map];exact h.dl
 ·show ∀ p∈RW (fun x:ao=>x.id) (sU g f S.lp),_
  rw [e];exact h.Jl
theorem wE (o g:Nat) (nx:Int) (w:World) (h1:w.cell? ⟨o,1,none⟩=some (.int .i64 nx)) (f1:w.frozen? ⟨o,1,none⟩=false) (h2: ∃ u,w.cell? ⟨g,11,none⟩=some u) (f2:w.frozen? ⟨g,11,none⟩=false) (hne: ¬ o=g) (n0:0≤nx) (n1:nx≤1000000000):
  Calls J3 180 #[.pointer (some ⟨o,0,none⟩),.pointer (some ⟨g,0,none⟩)] w fun e w'=>e= .returned (.tuple #[])∧w'=(w.setCell ⟨g,11,none⟩ (.int .i64 nx)).setCell ⟨o,1,none⟩ (.int .i64 (nx+1)):=by
 obtain ⟨u,h2⟩:=h2;have k1:(w.setCell ⟨g,11,none⟩ (.int .i64 nx)).cell? ⟨o,1,none⟩=some (.int .i64 nx):=(World.cell?_of_block (aH hne)).trans h1;have k2:(w.setCell ⟨g,11,none⟩ (.int .i64 nx)).frozen? ⟨o,1,none⟩=false:=(World.frozen?_of_block (aH hne)).trans f1
 go_enter Tryz.func180,Tryz.ntmps180
 go_wp2
 go_end0
 exact ⟨rfl,rfl⟩
end
section
open Go.RowKit
section
variable {α:Type} {num:α→Int} {ok:α→Bool}
def bY (num:α→Int) (x:α):List α→List α
 | [] => [x]
 | y :: r=>if num x < num y then x :: y :: r else y :: bY num x r
def cA (num:α→Int) (x:α):List α→List α
 | [] => [x]
 | y :: r=>if num y < num x then y :: cA num x r else x :: y :: r
theorem er (x:α): ∀ l:List α,(bY num x l).length=l.length+1
 | [] =>rfl
 | y :: r=>by
  simp only [bY]
  split
  ·rfl
  ·simp [er x r]
theorem fq {x z:α} : ∀ {l:List α},z∈bY num x l↔z=x∨z∈l
 | [] =>by simp [bY]
 | y :: r=>by
  simp only [bY]
  split
  ·simp
  ·simp only [Kt,fq (l:=r)]
   constructor
   ·rintro (h | h | h)
    ·exact .inr (.inl h)
    ·exact .inl h
    ·exact .inr (.inr h)
   ·rintro (h | h | h)
    ·exact .inr (.inl h)
    ·exact .inl h
    ·exact .inr (.inr h)
theorem js {x z:α} : ∀ {l:List α},z∈cA num x l↔z=x∨z∈l
 | [] =>by simp [cA]
 | y :: r=>by
  simp only [cA]
  split
  ·simp only [Kt,js (l:=r)]
   constructor
   ·rintro (h | h | h)
    ·exact .inr (.inl h)
    ·exact .inl h
    ·exact .inr (.inr h)
   ·rintro (h | h | h)
    ·exact .inr (.inl h)
    ·exact .inl h
    ·exact .inr (.inr h)
  ·simp
theorem eJ (x:α): ∀ l:List α,(cA num x l).length=l.length+1
 | [] =>rfl
 | y :: r=>by
  simp only [cA]
  split
  ·simp [eJ x r]
  ·rfl
theorem tP {x:α} : ∀ {l:List α} {k:Nat},(∀ y∈l.take k,num y < num x)→(∀ y,l[k]? =some y→ ¬ num y < num x)→l.take k ++ x :: l.drop k=cA num x l
 | [],k,_,_=>by simp [cA]
 | y :: r,0,_,h2=>by
  have h3:=h2 y rfl;simp [cA,h3]
 | y :: r,k+1,h1,h2=>by
  have h3:=h1 y (by simp);simp only [List.take_succ_cons,List.drop_succ_cons,List.cons_append,cA,if_pos h3];rw [tP (fun z hz=>h1 z (by simp [hz])) (fun z hz=>h2 z (by simpa using hz))]
end
def cB (p p':aE):Option aE:=if bK p && bK p' then some p' else none
end
def jP {α:Type} (num:α→Int) (id:Int) (f:α→α) (l:List α):List α:=l.map fun x=>if num x=id then f x else x
def cg {α:Type} (num:α→Int) (id:Int) (l:List α):Option α:=l.find? fun x=>decide (num x=id)
def ie (st on:Int) (x:aD):Bool:=decide (x.Md=st) && decide (x.on=on)
def jl (st on:Int) (l:List aD):Option aD:=jo (l.filter (ie st on))
def bu (code id:Int) (p:aE):aE:= { p with L8:=ce id (jT code) p.L8 }
def lG (t:ByteArray) (x:aD):aD:= { x with got:=t }
def ez (t:ByteArray) (id:Int) (p:aE):aE:= { p with L8:=ce id (lG t) p.L8 }
def gF (f:aD→aD) (p:aE) (x:aD):aE:= { p with next:=gf p.next x,L8:=ce x.id (fun y=>iY p.next 0 (f y)) p.L8 }
def gW (f:aD→aD) (st on:Int):Nat→aE→aE
 | 0,p=>p
 | n+1,p=>match jl st on p.L8 with
  | none=>p
  | some x=>gW f st on n (gF f p x)
def ff (f:aD→aD) (st on:Int) (p:aE):aE:=gW f st on (p.L8.filter (ie st on)).length p
def zb (nx st on:Int) (held:ByteArray) (Mg:Int) (y:aD):aD:= { y with Md:=st,Mg:=Mg,on:=on,held:=held,RU:=nx }
def kC (st on:Int) (held:ByteArray) (Mg id:Int) (p:aE):aE:= { p with next:=p.next+1,L8:=ce id (zb p.next st on held Mg) p.L8 }
def kZ (now m:Int):Int:=if 0≤m then now+m else -1
def mX (st:Int) (o:dN) (now id:Int) (p:aE):aE:=if o.2.2.1=0 then bu 1 id p else kC st o.2.1 o.2.2.2 (kZ now o.2.2.1) id p
def nZ (id d:Int) (p:aE):aE:= { p with aj:=jP (·.id) id (fun y=> { y with n:=y.n+d }) p.aj }
def gL (id:Int) (b:Bool) (p:aE):aE:= { p with L9:=jP (·.id) id (fun y=> { y with up:=b }) p.L9 }
def ib (id:Int) (b:Bool) (t:ByteArray) (p:aE):aE:= { p with ag:=jP (·.id) id (fun y=> { y with shown:=b,text:=t }) p.ag }
def cV (id:Int) (l:List ByteArray) (p:aE):aE:= { p with ae:=jP (·.id) id (fun y=> { y with Ma:=l }) p.ae }
def gU (id:Int) (l:List ByteArray) (p:aE):aE:= { p with ai:=jP (·.id) id (fun y=> { y with Ma:=l }) p.ai }
def mh (o:dN) (now id:Int) (p:aE):aE:=match cg (·.id) o.2.1 p.aj with
 | none=>bu 3 id p
 | some s=>if s.n=0 then mX 3 o now id p else bu 0 id (nZ o.2.1 (-1) p)
def gJ (o:dN) (id:Int) (p:aE):aE:=match cg (·.id) o.2.1 p.aj with
 | none=>bu 3 id p
 | some s=>match jl 3 o.2.1 p.L8 with
  | some y=>bu 0 id (gF (fun y=>y) p y)
  | none=>if s.n=s.max then bu 1 id p else bu 0 id (nZ o.2.1 1 p)
def dE (o:dN) (now id:Int) (p:aE):aE:=match cg (·.id) o.2.1 p.L9 with
 | none=>bu 3 id p
 | some e=>if o.1=5 then bu 0 id (ff (fun y=>y) 4 o.2.1 (gL o.2.1 true p))
  else if o.1=6 then bu 0 id (gL o.2.1 false p)
  else if e.up then bu 0 id p else mX 4 o now id p
def lc (o:dN) (now id:Int) (p:aE):aE:=match cg (·.id) o.2.1 p.ae with
 | none=>bu 3 id p
 | some b=>match jl 6 o.2.1 p.L8 with
  | some y=>bu 0 id (gF (lG o.2.2.2) p y)
  | none=>if (b.Ma.length:Int)=b.max then mX 5 o now id p else bu 0 id (cV o.2.1 (b.Ma ++ [o.2.2.2]) p)
def ka (o:dN) (now id:Int) (p:aE):aE:=match cg (·.id) o.2.1 p.ae with
 | none=>bu 3 id p
 | some b=>match b.Ma with
  | [] =>mX 6 o now id (ez rM id p)
  | t :: r=>match jl 5 o.2.1 (ez t id p).L8 with
   | none=>bu 0 id (cV o.2.1 r (ez t id p))
   | some y=>bu 0 id (gF (fun y=>y) (cV o.2.1 (r ++ [y.held]) (ez t id p)) y)
def dC (o:dN) (now id:Int) (p:aE):aE:=match cg (·.id) o.2.1 p.ag with
 | none=>bu 3 id p
 | some b=>if o.1=10 then bu 0 id (ff (lG o.2.2.2) 7 o.2.1 (ib o.2.1 true o.2.2.2 p))
  else if o.1=11 then bu 0 id (ib o.2.1 false rM p)
  else if b.shown then bu 0 id (ez b.text id p) else mX 7 o now id (ez b.text id p)
def ig (o:dN) (id:Int) (p:aE):aE:=match cg (·.id) o.2.1 p.ai with
 | none=>bu 3 id p
 | some q=>if q.I=false then bu 3 id p
  else if q.Mf=false then bu 0 id (gU o.2.1 [o.2.2.2] p)
  else if (q.Ma.length:Int)=q.max then bu 1 id p
  else bu 0 id (gU o.2.1 (q.Ma ++ [o.2.2.2]) p)
def gC (o:dN) (id:Int) (p:aE):aE:=match cg (·.id) o.2.1 p.ai with
 | none=>bu 3 id p
 | some q=>if q.I then bu 3 id p else match q.Ma with
  | [] =>bu 1 id (ez rM id p)
  | t :: r=>bu 0 id (if q.Mf then gU o.2.1 r (ez t id p) else ez t id p)
def py (id:Int) (p:aE):aE:= { p with next:=p.next+1,L8:=ce id (fun y=> { y with Md:=1,RU:=p.next }) p.L8 }
def ot (id:Int) (p:aE):aE:= { p with L8:=ce id j7 p.L8 }
def jU (o:dN) (id:Int) (p:aE):aE:=match cg (·.id) o.2.1 p.L8 with
 | none=>bu 3 id p
 | some y=>if y.Md=0 then bu 0 id (py o.2.1 p) else bu 1 id p
def lg (o:dN) (id:Int) (p:aE):aE:=match cg (·.id) o.2.1 p.L8 with
 | none=>bu 3 id p
 | some y=>if y.Md=0 then bu 1 id p else if o.2.1=id then ot id p else bu 0 id (ot o.2.1 p)
def GY (x:aD) (o:dN) (p:aE):aE:=
 if (if x.left=0 then o.2.1 else x.left)=1 then bu 0 x.id p
 else { p with L8:=ce x.id (fun y=> { y with left:=(if x.left=0 then o.2.1 else x.left) - 1 }) p.L8 }
def lX (now:Int) (x:aD) (o:dN) (p:aE):aE:=
 if o.1=1 then GY x o p
 else if o.1=2 then kC 2 0 rM (now+o.2.1) x.id p
 else if o.1=3 then mh o now x.id p
 else if o.1=4 then gJ o x.id p
 else if o.1=5∨o.1=6∨o.1=7 then dE o now x.id p
 else if o.1=8 then lc o now x.id p
 else if o.1=9 then ka o now x.id p
 else if o.1=10∨o.1=11∨o.1=12 then dC o now x.id p
 else if o.1=13 then ig o x.id p
 else if o.1=14 then gC o x.id p
 else if o.1=15 then jU o x.id p
 else if o.1=16 then lg o x.id p
 else { p with L8:=ce x.id (fun y=> { y with pc:=0 }) p.L8 }
def mS (now:Int) (p:aE):aE:=match jl 1 0 (gj now p).L8 with
 | none=>gj now p
 | some x=>lX now x (opAt x) (gj now p)
def hZ (p:aE) (now:Int):Option aE:=if bK p && cv now 0 1000000000 && decide (p.next≤999999980) then some (mS now p) else none
section
variable {α:Type} {num:α→Int}
theorem jF {l:List α} {f:α→α} {id:Int} {n:Nat} {y:α} (hr:l.Pairwise (fun x y=>num x < num y)) (hn:l[n]? =some y) (hy:num y=id):jP num id f l=l.set n (f y):=by
 induction l generalizing n with
 | nil=>simp at hn
 | cons x r ih=>
  obtain ⟨h1,h2⟩:=LM.1 hr;cases n with
  | zero=>
   simp only [List.getElem?_cons_zero,LF] at hn;subst hn;have e:jP num id f r=r:=by
    unfold jP
    conv=>rhs; rw [← List.map_id r]
    refine List.map_congr_left fun z hz=> ?_
    rw [if_neg (by have:=h1 z hz; omega)];rfl
   simp only [List.set_cons_zero]
   show (if num x=id then f x else x) :: jP num id f r=_
   rw [if_pos hy,e]
  | succ n=>
   simp only [List.getElem?_cons_succ] at hn;have hlt:=h1 y (KA hn);simp only [List.set_cons_succ]
   show (if num x=id then f x else x) :: jP num id f r=_
   rw [if_neg (by omega),ih h2 hn]
theorem ef (id:Int): ∀ (l:List α) (k:Nat),(place (l.map num) id k= -1∧cg num id l=none)∨ ∃ n x,place (l.map num) id k=((k+n:Nat):Int)∧l[n]? =some x∧num x=id∧cg num id l=some x
 | [],k=> .inl ⟨rfl,rfl⟩
 | x :: r,k=>by
  unfold cg;by_cases h:num x=id
  ·refine .inr ⟨0,x,?_,rfl,h,by simp [h]⟩
   simp [place,h]
  ·rcases ef id r (k+1) with ⟨h1,h2⟩ | ⟨n,y,h1,h2,h4,h3⟩
   ·exact .inl ⟨by simp only [Lt,place]; rw [if_neg h]; exact h1,by simp only [LL,h,decide_false]; exact h2⟩
   ·refine .inr ⟨n+1,y,?_,h2,h4,by simp only [LL,h,decide_false]; exact h3⟩
    simp only [Lt,place];rw [if_neg h,h1];omega
theorem ks {id:Int} {l:List α} {x:α} (h:cg num id l=some x):x∈l∧num x=id:=by
 have h1:=List.find?_some h;exact ⟨List.mem_of_find?_eq_some h,by simpa using h1⟩
end
theorem xw: ∀ (l:List aD) (r:Option aD) {y:aD},l.foldl iy r=some y→y∈l∨r=some y
 | [],_,_,h=> .inr h
 | x :: l,r,y,h=>by
  rcases xw l (iy r x) h with h1 | h1
  ·exact .inl (by simp [h1])
  ·rcases zp h1 with h2 | h2
   ·exact .inl (by simp [h2])
   ·exact .inr h2
theorem ft {st on:Int} {l:List aD} {x:aD} (h:jl st on l=some x):x∈l∧x.Md=st∧x.on=on:=by
 have h1:x∈l.filter (ie st on):=(xw _ none h).elim (fun e=>e) (fun e=>by cases e);obtain ⟨h2,h3⟩:=L2.1 h1;unfold ie at h3;simp only [J7,decide_eq_true_eq] at h3;exact ⟨h2,h3⟩
theorem Dt {st on:Int} {l:List aD} (h:jl st on l=none):l.filter (ie st on)= [] :=by
 unfold jl jo at h;rcases List.eq_nil_or_concat (l.filter (ie st on)) with e | ⟨l',x,e⟩
 ·exact e
 ·rw [e,List.concat_eq_append,List.foldl_append] at h
  simp only [List.foldl_cons,List.foldl_nil] at h;obtain ⟨y,hy⟩:=pN (l'.foldl iy none) x;rw [hy] at h;cases h
section
open Go.RowKit Go.Maps
attribute [local go_sem ↓] Kc Kd
theorem NI (g:Nat) (x:ao) (w:World) (h:w.heap[g]? =some (.cells (aX x) 43 (0,0))):Calls J3 99 #[.pointer (some ⟨g,0,none⟩)] w fun e w'=>e= .returned (.tuple #[])∧w'=w.drew.setRow g #[.int .i64 x.id,.int .i64 x.RX,.slice x.aY x.prog.length x.bH,.int .i64 0,.int .i64 0,.int .i64 0,.int .i64 0,.int .i64 0,.string ⟨#[]⟩,.string x.got,.int .i64 x.code,.int .i64 0] :=by
 have H:Hid (_):=h;obtain ⟨d0,d1,d2,d3,d4,d5,d6,d7,d8,d9,tH,tS⟩:=bo h;clear h d3 d4 d5 d6 d7 d8 tS
 go_enter Tryz.func99,Tryz.ntmps99
 go_wp2_with fail;refine eD (fun w'=>w'=w.drew) 23 (by kernel_rfl) rfl ?_
 iterate 23 (refine ly 24 (v:= ?_) (some _) rfl rfl (by kernel_rfl) (fun _ _ _ h=>h) (bV (by kernel_rfl) ?_) ?_; rotate_left; (intro w0 hS0; subst hS0; go_simp; try with_reducible rfl); simp only [pt,sb,s0,s1])
 refine fL rfl (by kernel_rfl) (by kernel_rfl) (by kernel_rfl) ?_;intro w1 cm;subst cm;refine qd _ _ _ rfl g _ _ #[.int .i64 x.id,.int .i64 x.RX,.slice x.aY x.prog.length x.bH,.int .i64 0,.int .i64 0,.int .i64 0,.int .i64 0,.int .i64 0,.string ⟨#[]⟩,.string x.got,.int .i64 x.code,.int .i64 0] rfl rfl H.I (by kernel_rfl) rfl (by kernel_rfl) ?_
 go_end0
 exact ⟨rfl,rfl⟩
def Qz (a b:aD):Bool:=if a.Mg=b.Mg then decide (a.id < b.id) else decide (a.Mg < b.Mg)
def RY (a b:ao × Nat):Bool:=Qz a.1.toaD b.1.toaD
def Qx (now:Int) (l:List (ao × Nat)):List (ao × Nat):=l.filter fun p=>og now p.1.toaD
theorem RZ {now:Int} {x:aD} :og now x=true↔2≤x.Md∧1≤x.Mg∧x.Mg≤now:=by
 unfold og;rw [J7,decide_eq_true_eq,bz]
theorem R2 (now:Int) (l:List (ao × Nat)) (p:ao × Nat):Qx now (l ++ [p])=Qx now l ++ (if og now p.1.toaD=true then [p] else []):=by
 unfold Qx;rw [QN];by_cases h:og now p.1.toaD=true <;> simp [h]
theorem Sn {α:Type} (ah:α→α→Bool) {l:List α} {k:Nat} (h:0 < k) (hk:k≤l.length): ∃ y,oa ah (l.take k)=some y∧y∈l:=by
 cases hb:oa ah (l.take k) with
 | none=>
  have h1:=congrArg List.length (CZ ah hb);rw [List.length_take,List.length_nil] at h1;omega
 | some y=>exact ⟨y,rfl,List.mem_of_mem_take (Fg ah hb)⟩
theorem Sq {α β:Type} {ah:β→β→Bool} (f:α→β) (l:List α):oa ah (l.map f)=(oa (fun x y=>ah (f x) (f y)) l).map f:=by
 have key: ∀ (l:List α) (r:Option α),(l.map f).foldl (qV ah) (r.map f)=(l.foldl (qV fun x y=>ah (f x) (f y)) r).map f:=by
  intro l
  induction l with
  | nil=>intro r; rfl
  | cons x l ih=>
   intro r;simp only [List.foldl_cons,Lt,← ih]
   congr 1
   cases r with
   | none=>rfl
   | some b=>
    simp only [qV,J9]
    split <;> rfl
 exact key l none
theorem fold_congr {α:Type} {ah ah':α→α→Bool} : ∀ (l l0:List α) (r:Option α),(∀ b,r=some b→b∈l0)→(∀ b∈l0,∀ x∈l,ah x b=ah' x b)→l.Pairwise (fun b x=>ah x b=ah' x b)→l.foldl (qV ah) r=l.foldl (qV ah') r
 | [],_,_,_,_,_=>rfl
 | x :: l,l0,r,hr,h1,h2=>by
  rw [LM] at h2;have e:qV ah r x=qV ah' r x:=by
   cases r with
   | none=>rfl
   | some b=>simp only [qV,h1 b (hr b rfl) x (by simp)]
  simp only [List.foldl_cons,e];refine fold_congr l (x :: l0) _ (fun b hb=> ?_) (fun b hb y hy=> ?_) h2.2
  ·rcases EO ah' hb with h3 | h3
   ·simp [h3]
   ·exact LB _ (hr b h3)
  ·rcases Kt.1 hb with rfl | hb
   ·exact h2.1 y hy
   ·exact h1 b hb y (by simp [hy])
theorem Sy {now:Int} {lp:List (ao × Nat)} (h:(lp.map fun p=>p.1.toaD).Pairwise (fun x y=>x.id < y.id)):(oa RY (Qx now lp)).map (fun p=>p.1.toaD)=lZ now (lp.map fun p=>p.1.toaD):=by
 have e1:lF now (lp.map fun p=>p.1.toaD)=(Qx now lp).map fun p=>p.1.toaD:=by
  unfold lF Qx;rw [List.filter_map];rfl
 unfold lZ;rw [e1];have e2:oa l8 ((Qx now lp).map fun p=>p.1.toaD)=oa Qz ((Qx now lp).map fun p=>p.1.toaD):=by
  refine fold_congr _ [] none (fun b hb=>by cases hb) (fun b hb=>by cases hb) ?_;have h2:((Qx now lp).map fun p=>p.1.toaD).Pairwise (fun x y=>x.id < y.id):=by
   rw [← e1];exact h.sublist List.filter_sublist
  refine h2.imp fun {b x} lW=> ?_
  unfold l8 Qz;by_cases hw:x.Mg=b.Mg
  ·rw [if_pos hw,decide_eq_false (by omega),decide_eq_false (by omega)]
  ·rw [if_neg hw]
 rw [e2,Sq];rfl
theorem R9 (A B:Nat) (a b:ao) (w:World) (ha:w.heap[A]? =some (.cells (aX a) 43 (0,0))) (hb:w.heap[B]? =some (.cells (aX b) 43 (0,0))):
  Calls J3 186 #[.pointer (some ⟨A,0,none⟩),.pointer (some ⟨B,0,none⟩)] w fun e w'=>e= .returned (.bool (Qz a.toaD b.toaD))∧Below w.heap.size w w':=by
 obtain ⟨a0,-,-,-,-,-,a6,-⟩:=bo ha;obtain ⟨b0,-,-,-,-,-,b6,-⟩:=bo hb;clear ha hb
 go_enter Tryz.func186,Tryz.ntmps186
 by_cases hp:a.Mg=b.Mg
 ·have e1:(a.Mg != b.Mg)=false:=by simp [hp]
  by_cases hs:a.id < b.id
  ·have ds:decide (a.id < b.id)=true:=decide_eq_true hs
   have HV:Hid (Qz a.toaD b.toaD=true):=by show Qz _ _=_; unfold Qz; rw [if_pos hp]; exact ds
   clear hp hs;go_wp2_with fail;refine aT (fun w'=>w'=w.drew) (by kernel_rfl) rfl ?_
   iterate 9 (refine PI ?_ (hy:=fun w0 hS0=>by subst hS0; go_simp; try with_reducible rfl))
   refine bk (by kernel_rfl) ?_ _;intro w1 cm;subst cm;go_wp2_with fail;refine aT (fun w'=>w'=w.drew.drew) (by kernel_rfl) rfl ?_
   iterate 10 (refine PI ?_ (hy:=fun w0 hS0=>by subst hS0; go_simp; try with_reducible rfl))
   refine bk (by kernel_rfl) ?_ _;intro w1 cm;subst cm;go_wp2;go_ret;exact ⟨al HV.I.symm,(Kp _ _).drew.drew⟩
  ·have ds:decide (a.id < b.id)=false:=decide_eq_false hs
   have HV:Hid (Qz a.toaD b.toaD=false):=by show Qz _ _=_; unfold Qz; rw [if_pos hp]; exact ds
   clear hp hs;go_wp2_with fail;refine aT (fun w'=>w'=w.drew) (by kernel_rfl) rfl ?_
   iterate 9 (refine PI ?_ (hy:=fun w0 hS0=>by subst hS0; go_simp; try with_reducible rfl))
   refine bk (by kernel_rfl) ?_ _;intro w1 cm;subst cm;go_wp2_with fail;refine aT (fun w'=>w'=w.drew.drew) (by kernel_rfl) rfl ?_
   iterate 10 (refine PI ?_ (hy:=fun w0 hS0=>by subst hS0; go_simp; try with_reducible rfl))
   refine bk (by kernel_rfl) ?_ _;intro w1 cm;subst cm;go_wp2;go_ret;exact ⟨al HV.I.symm,(Kp _ _).drew.drew⟩
 ·have e1:(a.Mg != b.Mg)=true:=by simp [hp]
  by_cases hs:a.Mg < b.Mg
  ·have ds:decide (a.Mg < b.Mg)=true:=decide_eq_true hs
   have HV:Hid (Qz a.toaD b.toaD=true):=by show Qz _ _=_; unfold Qz; rw [if_neg hp]; exact ds
   clear hp hs;go_wp2_with fail;refine aT (fun w'=>w'=w.drew) (by kernel_rfl) rfl ?_
   iterate 9 (refine PI ?_ (hy:=fun w0 hS0=>by subst hS0; go_simp; try with_reducible rfl))
   refine bk (by kernel_rfl) ?_ _;intro w1 cm;subst cm;go_wp2_with fail;refine aT (fun w'=>w'=w.drew.drew) (by kernel_rfl) rfl ?_
   iterate 10 (refine PI ?_ (hy:=fun w0 hS0=>by subst hS0; go_simp; try with_reducible rfl))
   refine bk (by kernel_rfl) ?_ _;intro w1 cm;subst cm;go_wp2;go_ret;exact ⟨al HV.I.symm,(Kp _ _).drew.drew⟩
  ·have ds:decide (a.Mg < b.Mg)=false:=decide_eq_false hs
   have HV:Hid (Qz a.toaD b.toaD=false):=by show Qz _ _=_; unfold Qz; rw [if_neg hp]; exact ds
   clear hp hs;go_wp2_with fail;refine aT (fun w'=>w'=w.drew) (by kernel_rfl) rfl ?_
   iterate 9 (refine PI ?_ (hy:=fun w0 hS0=>by subst hS0; go_simp; try with_reducible rfl))
   refine bk (by kernel_rfl) ?_ _;intro w1 cm;subst cm;go_wp2_with fail;refine aT (fun w'=>w'=w.drew.drew) (by kernel_rfl) rfl ?_
   iterate 10 (refine PI ?_ (hy:=fun w0 hS0=>by subst hS0; go_simp; try with_reducible rfl))
   refine bk (by kernel_rfl) ?_ _;intro w1 cm;subst cm;go_wp2;go_ret;exact ⟨al HV.I.symm,(Kp _ _).drew.drew⟩
theorem Sd (a:Option Addr) (l:List (ao × Nat)) (cap:Nat) (w:World) (hl:l.length≤1048576) (hr:Row w a (l.map fun p=>dt p.2)) (hb: ∀ p∈l,w.heap[p.2]? =some (.cells (aX p.1) 43 (0,0))):
  Calls J3 156 #[.slice a l.length cap,.func (.func 186) #[] #[]] w fun e w'=>e= .returned (.tuple #[qz ((oa RY l).map (·.2)),.bool (decide (0 < l.length))])∧Below w.heap.size w w':=by
 have H:Hid (Row w a (l.map fun p=>dt p.2)∧ ∀ p∈l,w.heap[p.2]? =some (.cells (aX p.1) 43 (0,0))):=⟨hr,hb⟩
 clear hr hb
 go_enter Tryz.func156,Tryz.ntmps156
 go_wp2_with fail
 go_loopw [6,11] (fun b i wr=> ∃ (k:Nat) (r:Option (ao × Nat)),k≤l.length∧i= .int .i64 k∧b=qz (r.map (·.2))∧Hid (r=oa RY (l.take k)∧Below w.heap.size w wr)) (fun _ i _=>l.length - (intOf i).toNat)
 case atStart=>exact ⟨0,none,Ky _,rfl,rfl,⟨by simp [oa],Kp _ _⟩⟩
 case round=>
  obtain ⟨k,r,hk,rfl,rfl,HA⟩:=hrel;by_cases hlt:k < l.length
  ·have i0:(0:Int)≤(k:Int):=by omega
   have i1:(k:Int) < (l.length:Int):=by omega
   obtain ⟨p,hp⟩: ∃ p,l[k]? =some p:=⟨_,Kz hlt⟩
   obtain ⟨g,ha,hc⟩:=(H.I.1.below HA.I.2) k (dt p.2) (by simp [hp]);subst ha;unfold dt at hc;have HP:Hid (l[k]? =some p∧p∈l):=⟨hp,KA hp⟩
   clear hp;by_cases hk0:k=0
   ·have e0:((k:Int) == 0)=true:=by simp [hk0]
    have HS:Hid (some p=oa RY (l.take (k+1))):=by show _=_; rw [cj HP.I.1,qy,hk0]; rfl
    clear hk0;go_wp2;go_roundw
    case rel=>exact ⟨k+1,some p,by omega,by go_num,rfl,⟨HS.I,HA.I.2⟩⟩
    case measure=>simp [intOf]; omega
   ·have e0:((k:Int) == 0)=false:=by simp [hk0]
    obtain ⟨y,hy,hym⟩:=Sn RY (l:=l) (by omega:0 < k) hk;have hry:r=some y:=HA.I.1.trans hy;subst hry;have HQ:Hid (oa RY (l.take k)=some y∧y∈l):=⟨hy,hym⟩
    clear hk0 hy hym;simp only [qz,dt,J9];go_wp2_with fail;refine (R9 p.2 y.2 p.1 y.1 wr ((HA.I.2.block _ (J2.1 (H.I.2 p HP.I.2)).1).trans (H.I.2 p HP.I.2)) ((HA.I.2.block _ (J2.1 (H.I.2 y HQ.I.2)).1).trans (H.I.2 y HQ.I.2))).mono ?_;rintro e w4 ⟨rfl,hb4⟩;have HB4:Hid (Below w.heap.size w w4):=HA.I.2.trans (hb4.mono HA.I.2.size);clear hb4;cases FT:Qz p.1.toaD y.1.toaD with
    | true=>
     have HS:Hid (some p=oa RY (l.take (k+1))):=by show _=_; rw [cj HP.I.1,qy,HQ.I.1]; simp [qV,RY,FT]
     clear FT;go_wp2;go_roundw
     case rel=>exact ⟨k+1,some p,by omega,by go_num,rfl,⟨HS.I,HB4.I⟩⟩
     case measure=>simp [intOf]; omega
    | false=>
     have HS:Hid (some y=oa RY (l.take (k+1))):=by show _=_; rw [cj HP.I.1,qy,HQ.I.1]; simp [qV,RY,FT]
     clear FT;go_wp2;go_roundw
     case rel=>exact ⟨k+1,some y,by omega,by go_num,rfl,⟨HS.I,HB4.I⟩⟩
     case measure=>simp [intOf]; omega
  ·have i1: ¬ (k:Int) < (l.length:Int):=by omega
   have HE:Hid (r=oa RY l):=by have h5:=HA.I.1; rwa [KF (by omega)] at h5
   go_wp2;go_ret2;refine ⟨?_,HA.I.2⟩;rw [HE.I];simp
theorem Sz (o:Nat) (q:ol) (lp:List (ao × Nat)) (now:Int) (base:Nat) (w:World) (hop:fa w o q) (hsh:Shelf aX (fun x:ao=>x.id) 43 w base q.bp lp) (hl:lp.length≤1048576) (hwf: ∀ p∈RW (fun x:ao=>x.id) lp,(Lit.int .i64 p.1).wf=true):
  Calls J3 185 #[.pointer (some ⟨o,0,none⟩),.int .i64 now] w fun e w'=>(∃ a cap,e= .returned (.slice a (Qx now lp).length cap)∧Row w' a ((Qx now lp).map fun p=>dt p.2))∧Below w.heap.size w w':=by
 obtain ⟨i0,hi,e0⟩:=Option.map_eq_some_iff.1 sQ;simp only [Prod.mk.injEq] at e0;have HI:Hid (Tryz.prog.info? 102=some i0∧i0.zero=some (.pointer none)∧i0.size=1∧i0.bytes=8):=⟨hi,e0⟩
 have H:Hid (Shelf aX (fun x:ao=>x.id) 43 w base q.bp lp∧ ∀ p∈RW (fun x:ao=>x.id) lp,(Lit.int .i64 p.1).wf=true):=⟨hsh,hwf⟩
 have c2:w.cell? ⟨o,2,none⟩=some (.int .i64 6):=hop.cell 2;have c3:w.cell? ⟨o,3,none⟩=some (.map (some q.bp)):=hop.cell 3;have HK:Hid ((RW (fun x:ao=>x.id) lp).length=lp.length):=bZ lp;clear hop hsh hwf hi e0
 go_enter Tryz.func185,Tryz.ntmps185
 go_wp2_with fail;refine (mq 6 q.bp (RW (fun x:ao=>x.id) lp) w H.I.1.map (by rw [HK.I]; exact hl) H.I.2).mono ?_;rintro e w2 ⟨a,cap,rfl,hown,hb2⟩;obtain ⟨a',cap',hv,hrow⟩:=cr hown;cases hv;have HR:Hid (Row w2 a ((RW (fun x:ao=>x.id) lp).map fun p=>dt p.2)):=hrow;have HO:Hid (Shelf aX (fun x:ao=>x.id) 43 w2 base q.bp lp∧Below w.heap.size w w2):=⟨H.I.1.below hb2,hb2⟩
 rw [HK.I];clear hown hrow hb2 c2 c3;go_wp2_with fail
 go_loopw [5,14] (fun l i wr=> ∃ (k n:Nat),k≤lp.length∧n≤k∧i= .int .i64 k∧ ∃ a' cap',l= .slice a' n cap'∧Hid (n=(Qx now (lp.take k)).length∧wr.ownsRow w2.heap.size 102 1 (.slice a' n cap') n ((Qx now (lp.take k)).map fun p=>dt p.2)∧Below w2.heap.size w2 wr)) (fun _ i _=>lp.length - (intOf i).toNat)
 case atStart=>exact ⟨0,0,Ky _,Nat.le_refl _,rfl,none,0,rfl,⟨rfl,World.ownsRow_nil _ _ _ _,Kp _ _⟩⟩
 case round=>
  obtain ⟨k,n,hk,hn,rfl,a',cap',rfl,HA⟩:=hrel;by_cases hlt:k < lp.length
  ·have qE:(0:Int)≤(k:Int):=by omega
   have i1:(k:Int) < (lp.length:Int):=by omega
   obtain ⟨p,hp⟩: ∃ p,lp[k]? =some p:=⟨_,Kz hlt⟩
   obtain ⟨g,ha,hc⟩:=(HR.I.below HA.I.2.2) k (dt p.2) (by simp [RW,hp]);subst ha;unfold dt at hc;have HP:Hid (lp[k]? =some p):=hp;have lW:wr.heap[p.2]? =some (.cells (aX p.1) 43 (0,0)):=(HO.I.1.below HA.I.2.2).box p (KA hp);obtain ⟨-,-,-,s3,-,-,s6,-⟩:=bo lW;have kT:=HA.I.2.2.size;clear hp lW;by_cases h1:2≤p.1.Md;rotate_left
   ·skip
    have SC:Hid ((Qx now (lp.take (k+1)))=(Qx now (lp.take k))):=by show _=_; rw [cj HP.I,R2,if_neg (by rw [RZ]; have h5:p.1.toaD.Md=p.1.Md:=rfl; have h6:p.1.toaD.Mg=p.1.Mg:=rfl; omega),QO]
    go_wp2;go_roundw
    case rel=>exact ⟨k+1,n,by omega,by omega,by go_num,a',cap',rfl,by show _∧_; rw [SC.I]; exact HA.I⟩
    case measure=>simp [intOf]; omega
   by_cases h2:1≤p.1.Mg;rotate_left
   ·skip
    have SC:Hid ((Qx now (lp.take (k+1)))=(Qx now (lp.take k))):=by show _=_; rw [cj HP.I,R2,if_neg (by rw [RZ]; have h5:p.1.toaD.Md=p.1.Md:=rfl; have h6:p.1.toaD.Mg=p.1.Mg:=rfl; omega),QO]
    go_wp2;go_roundw
    case rel=>exact ⟨k+1,n,by omega,by omega,by go_num,a',cap',rfl,by show _∧_; rw [SC.I]; exact HA.I⟩
    case measure=>simp [intOf]; omega
   by_cases h3:p.1.Mg≤now;rotate_left
   ·skip
    have SC:Hid ((Qx now (lp.take (k+1)))=(Qx now (lp.take k))):=by show _=_; rw [cj HP.I,R2,if_neg (by rw [RZ]; have h5:p.1.toaD.Md=p.1.Md:=rfl; have h6:p.1.toaD.Mg=p.1.Mg:=rfl; omega),QO]
    go_wp2;go_roundw
    case rel=>exact ⟨k+1,n,by omega,by omega,by go_num,a',cap',rfl,by show _∧_; rw [SC.I]; exact HA.I⟩
    case measure=>simp [intOf]; omega
   have SC:Hid ((Qx now (lp.take (k+1)))=(Qx now (lp.take k)) ++ [p]):=by show _=_; rw [cj HP.I,R2,if_pos (by rw [RZ]; exact ⟨h1,h2,h3⟩)]
   go_wp2_with (at_builtin; refine wpList_append_own_at _ rfl _ _ 204 rfl w2.heap.size 102 i0 (.pointer none) 1 8 Tryz.underlying204 HI.I.1 HI.I.2.1 HI.I.2.2.1 HI.I.2.2.2 rfl (by decide) (.slice a' n cap') n ((Qx now (lp.take k)).map fun p=>dt p.2) rfl (HA.I.2.1.alloc _) ⟨wr.heap.size,0,none⟩ 1 1 [.pointer (some ⟨p.2,0,none⟩)] (by rfl) rfl (World.news_of_block (cs:= #[.pointer (some ⟨p.2,0,none⟩)]) (t:=102) (fr:=(0,0)) (heap_alloc_new wr _)) (by simp [Value.oneCell']) (by unfold maxLen; omega) (by omega) (by simp; omega) ?_; intro v' w5 hown' hgrow hnil jV; obtain ⟨a5,im,rfl,-⟩:=cr hown'; have HN:Hid (n+1=(Qx now (lp.take (k+1))).length∧w5.ownsRow w2.heap.size 102 1 (.slice a5 (n+1) im) (n+1) ((Qx now (lp.take (k+1))).map fun p=>dt p.2)∧Below w2.heap.size w2 w5):=⟨by rw [SC.I,List.length_append,← HA.I.1]; rfl,by rw [SC.I,List.map_append]; exact hown',(HA.I.2.2.alloc kT _).grown hgrow (by simp; omega) (fun q hq=>(HA.I.2.1.lt q hq).1)⟩; clear hown' hgrow hnil jV);go_roundw
   case rel=>exact ⟨k+1,n+1,by omega,by omega,by go_num,a5,im,rfl,HN⟩
   case measure=>simp [intOf]; omega
  ·have i1: ¬ (k:Int) < (lp.length:Int):=by omega
   have HE:Hid (n=(Qx now lp).length∧Row wr a' ((Qx now lp).map fun p=>dt p.2)):=by
    have h5:=HA.I;rw [KF (by omega)] at h5;obtain ⟨b1,b2,hv,hrow⟩:=cr h5.2.1;cases hv;exact ⟨h5.1,hrow⟩
   go_wp2;go_ret;exact ⟨⟨a',⟨cap',by rw [← HE.I.1]; rfl⟩,HE.I.2⟩,HO.I.2.trans (HA.I.2.2.mono HO.I.2.size)⟩
end
end Go.Proofs.YtkbcplnlehdjfaaGreat
