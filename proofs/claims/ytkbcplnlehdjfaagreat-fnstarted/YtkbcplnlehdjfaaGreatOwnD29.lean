/- What the proof leans on, part 29. -/
import Derived.Test.YtkbcplnlehdjfaaGreatOwnD27
import Derived.Test.YtkbcplnlehdjfaaGreatOwnD28
set_option maxRecDepth 100000
set_option maxHeartbeats 8000000
open Array renaming getElem?_eq_some_iff->J2
open Bool renaming and_eq_true->J7,false_eq_true->J5
open Go renaming frozen_of_row->Ko,heap_alloc2_new->Kq,heap_alloc_new->Kj,setRow_other->KH,wp_at_succ->Kd,wp_at_zero->Kc
open Go.Proofs.Tryz renaming prog->J3,results48->RH,results50->RI,underlying108->Ra
open Go.RowKit.Below renaming refl->Kp
open Go.World renaming cell?_of_block->J1
open List renaming filter_cons->LN,find?_cons->LL,find?_some->PS,map_cons->Lt,mem_append->Kg,mem_cons->Kt,mem_cons_of_mem->LB,mem_filter->L2,mem_map->Lr,mem_of_find?_eq_some->RG,nodup_cons->Lp,pairwise_cons->LM
open Nat renaming le_refl->Ki
open Option renaming isSome_some->Qk,map_some->J9
open Option.some renaming inj->KC,injEq->LF

namespace Go.Proofs.YtkbcplnlehdjfaaGreat
section
variable {α:Type} (ah:α→α→Bool)
def qV (r:Option α) (x:α):Option α:=match r with
 | none=>some x
 | some b=>if ah x b then some x else some b
def oa (l:List α):Option α:=l.foldl (qV ah) none
theorem qy (l:List α) (x:α):oa ah (l ++ [x])=qV ah (oa ah l) x:=by simp [oa]
theorem EO {r:Option α} {x y:α} (h:qV ah r x=some y):y=x∨r=some y:=by
 unfold qV at h
 split at h
 ·exact .inl (KC h).symm
 ·split at h
  ·exact .inl (KC h).symm
  ·exact .inr h
theorem zZ: ∀ (l:List α) (r:Option α) {y:α},l.foldl (qV ah) r=some y→y∈l∨r=some y
 | [],_,_,h=> .inr h
 | x :: l,r,y,h=>by
  rcases zZ l (qV ah r x) h with h1 | h1
  ·exact .inl (by simp [h1])
  ·rcases EO ah h1 with h2 | h2
   ·exact .inl (by simp [h2])
   ·exact .inr h2
theorem Fg {l:List α} {y:α} (h:oa ah l=some y):y∈l:=(zZ ah l none h).elim id (fun e=>by cases e)
theorem C8 (r:Option α) (x:α): ∃ y,qV ah r x=some y:=by
 unfold qV
 split
 ·exact ⟨_,rfl⟩
 ·split <;> exact ⟨_,rfl⟩
theorem CZ {l:List α} (h:oa ah l=none):l= [] :=by
 rcases List.eq_nil_or_concat l with e | ⟨l',x,e⟩
 ·exact e
 ·subst e
  rw [List.concat_eq_append,qy] at h;obtain ⟨y,hy⟩:=C8 ah (oa ah l') x;rw [hy] at h;cases h
def eN (f:α→Bool) (l:List α) (k:Nat) (i:Int):Prop:=match oa ah ((l.take k).filter f) with
 | none=>i= -1
 | some x=> ∃ n:Nat,i=n∧n < k∧l[n]? =some x
variable {f:α→Bool} {l:List α} {k:Nat} {i:Int} {x:α}
theorem eN.start (f:α→Bool) (l:List α):eN ah f l 0 (-1):=by simp [eN,oa]
theorem qm (hx:l[k]? =some x):(l.take (k+1)).filter f=(l.take k).filter f ++ (if f x then [x] else []):=by
 have h:l.take (k+1)=l.take k ++ [x] :=by rw [List.take_add_one,hx]; rfl
 rw [h,List.filter_append];by_cases h:f x=true <;> simp [h]
variable {ah}
theorem eN.skip (h:eN ah f l k i) (hx:l[k]? =some x) (hf:f x=false):eN ah f l (k+1) i:=by
 unfold eN at h ⊢;rw [qm hx,hf];simp only [J5,if_false,List.append_nil]
 split at h
 ·exact h
 ·obtain ⟨n,h1,h2,h3⟩:=h
  exact ⟨n,h1,by omega,h3⟩
theorem eN.first (h:eN ah f l k i) (hi:i < 0) (hx:l[k]? =some x) (hf:f x=true):eN ah f l (k+1) k:=by
 unfold eN at h ⊢;rw [qm hx,hf];simp only [if_true];rw [qy]
 split at h
 ·rename_i e
  rw [e];exact ⟨k,rfl,by omega,hx⟩
 ·obtain ⟨n,h1,_⟩:=h
  omega
theorem eN.got (h:eN ah f l k i) (hi: ¬ i < 0): ∃ (n:Nat) (y:α),i=n∧n < k∧l[n]? =some y∧oa ah ((l.take k).filter f)=some y:=by
 unfold eN at h
 split at h
 ·omega
 ·rename_i y e
  obtain ⟨n,h1,h2,h3⟩:=h;exact ⟨n,y,h1,h2,h3,e⟩
theorem eN.none' (h:eN ah f l k i) (hi:i < 0):oa ah ((l.take k).filter f)=none:=by
 unfold eN at h
 split at h
 ·assumption
 ·obtain ⟨n,h1,_⟩:=h
  omega
theorem eN.next {n:Nat} {y:α} (hn:n < k) (hy:l[n]? =some y) (he:oa ah ((l.take k).filter f)=some y) (hx:l[k]? =some x) (hf:f x=true):eN ah f l (k+1) (if ah x y then (k:Int) else (n:Int)):=by
 unfold eN;rw [qm hx,hf];simp only [if_true];rw [qy,he];simp only [qV];by_cases ha:ah x y=true
 ·simp only [ha,if_true]
  exact ⟨k,rfl,by omega,hx⟩
 ·simp only [ha,J5,if_false]
  exact ⟨n,rfl,by omega,hy⟩
end
def og (now:Int) (x:aD):Bool:=decide (2≤x.Md) && cv x.Mg 1 now
def l8 (a b:aD):Bool:=decide (a.Mg < b.Mg)
def lF (now:Int) (l:List aD):List aD:=l.filter (og now)
def lZ (now:Int) (l:List aD):Option aD:=oa l8 (lF now l)
def jM (code:Int) (x:aD):aD:= { x with code:=code,Md:=1,pc:=x.pc+1,left:=0,Mg:=0,on:=0,held:=rM }
def jT (code:Int) (x:aD):aD:=if x.pc+1=x.prog.length then j7 (jM code x) else jM code x
def iY (nx code:Int) (x:aD):aD:=if x.pc+1=x.prog.length then j7 (jM code x) else { jM code x with RU:=nx }
def gf (nx:Int) (x:aD):Int:=if x.pc+1=x.prog.length then nx else nx+1
def mL (x:aD):Int:=if x.Md=2 then 0 else 2
def gu (p:aE) (x:aD):aE:= { p with next:=gf p.next x,L8:=ce x.id (iY p.next (mL x)) p.L8 }
def oO (now:Int):Nat→aE→aE
 | 0,p=>p
 | n+1,p=>match lZ now p.L8 with
  | none=>p
  | some x=>oO now n (gu p x)
def gj (now:Int) (p:aE):aE:=oO now (lF now p.L8).length p
theorem rD (nx code:Int) (x:aD):(iY nx code x).id=x.id∧(iY nx code x).prog=x.prog:=by
 unfold iY
 split <;> exact ⟨rfl,rfl⟩
theorem E7 (now nx code:Int) (x:aD):og now (iY nx code x)=false:=by
 unfold iY og
 split <;> simp [j7,jM]
theorem qB {f:aD→aD} {id:Int} : ∀ {l:List aD},(∀ y∈l,y.id≠id)→ce id f l=l
 | [],_=>rfl
 | y :: r,h=>by
  have h1:ce id f r=r:=qB fun z hz=>h z (LB _ hz)
  simp only [ce,Lt] at h1 ⊢;rw [if_neg (h y (by simp)),h1]
theorem Bg {now:Int} {f:aD→aD} {x:aD} (hf:og now (f x)=false) (hx:og now x=true): ∀ {l:List aD},l.Pairwise (fun x y=>x.id < y.id)→x∈l→(lF now (ce x.id f l)).length+1=(lF now l).length
 | [],_,h=>by cases h
 | y :: r,hr,h=>by
  rw [LM] at hr;by_cases e:y=x
  ·subst e
   have h2:ce y.id f (y :: r)=f y :: r:=by
    have h3:ce y.id f r=r:=qB fun z hz e=>by have:=hr.1 z hz; omega
    simp only [ce,Lt,if_true] at h3 ⊢;rw [h3]
   rw [h2];simp [lF,hf,hx]
  ·have hm:x∈r:=by
    rcases Kt.1 h with h1 | h1
    ·exact absurd h1.symm e
    ·exact h1
   have h4:=Bg hf hx hr.2 hm;have h5: ¬ y.id=x.id:=by have:=hr.1 x hm; omega
   have h6:ce x.id f (y :: r)=y :: ce x.id f r:=by simp [ce,h5]
   rw [h6];unfold lF at h4 ⊢;by_cases hy:og now y=true
   ·simp only [LN,hy,if_true,List.length_cons]; omega
   ·simp only [LN,hy,J5,if_false]; exact h4
theorem rW {f:aD→aD} {id:Int} (hf: ∀ x,(f x).id=x.id) {l:List aD} (h:l.Pairwise (fun x y=>x.id < y.id)):(ce id f l).Pairwise (fun x y=>x.id < y.id):=by
 unfold ce;rw [List.pairwise_map];refine h.imp fun {a b} hab=> ?_
 have e: ∀ z:aD,(if z.id=id then f z else z).id=z.id:=fun z=>by split <;> simp [hf]
 rw [e,e];exact hab
theorem Gs {f:aD→aD} {id:Int} {l:List aD} {y:aD} (h:y∈ce id f l):y∈l∨ ∃ x∈l,y=f x:=by
 obtain ⟨z,hz,e⟩:=Lr.1 h;by_cases h1:z.id=id
 ·exact .inr ⟨z,hz,by rw [← e,if_pos h1]⟩
 ·exact .inl (by rw [if_neg h1] at e; exact e ▸ hz)
structure Wk (now:Int) (p:aE):Prop where
 kW:p.L8.Pairwise (fun x y=>x.id < y.id)
 op: ∀ x∈p.L8,2≤x.Md→0≤x.pc∧x.pc < x.prog.length
 room:1≤p.next∧p.next+(lF now p.L8).length≤1000000000
 low:p.L8.length≤6
theorem Wk.mem {now:Int} {p:aE} {x:aD} (h:lZ now p.L8=some x):x∈p.L8∧og now x=true:=by
 have h1:=Fg l8 h;exact L2.1 h1
theorem Wk.step {now:Int} {p:aE} {x:aD} (h:Wk now p) (hx:lZ now p.L8=some x):Wk now (gu p x)∧(lF now (gu p x).L8).length+1=(lF now p.L8).length:=by
 obtain ⟨hm,hd⟩:=Wk.mem hx;have h1:=Bg (E7 now p.next (mL x) x) hd h.kW hm;refine ⟨⟨rW (fun y=>(rD _ _ y).1) h.kW,fun y hy hs=> ?_,?_,?_⟩,h1⟩
 ·rcases Gs hy with h2 | ⟨z,_,rfl⟩
  ·exact h.op y h2 hs
  ·unfold iY at hs
   split at hs <;> simp [j7,jM] at hs
 ·have h2:=h.room
  have h3:(gu p x).next≤p.next+1∧p.next≤(gu p x).next:=by
   show gf p.next x≤_∧_≤gf p.next x
   unfold gf
   split <;> omega
  have h4:(lF now (gu p x).L8).length+1=(lF now p.L8).length:=h1;omega
 ·show (ce _ _ p.L8).length≤6
  simpa [ce] using h.low
theorem Co {now:Int} {p:aE} (h:lZ now p.L8=none):gj now p=p:=by
 unfold gj;rw [CZ l8 h];rfl
theorem vn {now:Int} {p:aE} {x:aD} (h:Wk now p) (hx:lZ now p.L8=some x):gj now p=gj now (gu p x):=by
 have h1:=(h.step hx).2;unfold gj;rw [← h1];simp only [oO,hx]
theorem Wk.of {now:Int} {p:aE} (h:aQ p) (hn:p.next≤999999980):Wk now p:=by
 have h1:=(db h.L8).2;refine ⟨h1,fun x hx hs=> ?_,?_,h.dl⟩
 ·have h2:=(cK h.L8 x hx).2
  simp only [cH,J7] at h2;have h3:=h2.1.1.2;unfold bO at h3;have h4:dU x=true:=by
   split at h3
   ·omega
   ·split at h3
    ·omega
    ·split at h3
     ·simp only [J7] at h3; exact h3.1.1.1.1
     ·split at h3
      ·simp only [J7] at h3; exact h3.1.1
      ·split at h3
       ·simp only [J7] at h3; exact h3.1.1.1
       ·cases h3
  have h5:=bz.1 h4;omega
 ·have h2:=bz.1 h.next
  have h3:(lF now p.L8).length≤p.L8.length:=List.length_filter_le _ _;have h4:=h.dl;omega
section
open Go.RowKit Go.Maps
attribute [local go_sem ↓] Kc Kd
theorem xX {z:Int} (h:cv z 1 1000=true):(Lit.int .i64 z).wf=true:=by
 have h2:=bz.1 h;have e1:IntKind.min .i64≤0:=by decide
 have e2:100000≤IntKind.max .i64:=by decide
 simp only [Lit.wf,J7,decide_eq_true_eq];omega
theorem iB {S:aZ} (h:aQ S.pure):S.Fits:=by
 refine ⟨?_,?_,?_,?_,?_,?_,?_,?_,?_,?_,?_,?_⟩
 ·have h5:=h.dl
  have h6:S.pure.L8.length=S.lp.length:=by simp [aZ.pure]
  omega
 ·intro p hp
  obtain ⟨r,hr,rfl⟩:=Lr.1 hp;exact xX (cK h.L8 (r.1.toaD) (Lr.2 ⟨r,hr,rfl⟩)).1
 ·have h5:=h.fx
  have h6:S.pure.aj.length=S.ls.length:=by simp [aZ.pure]
  omega
 ·intro p hp
  obtain ⟨r,hr,rfl⟩:=Lr.1 hp;exact xX (cK h.aj (r.1) (Lr.2 ⟨r,hr,rfl⟩)).1
 ·have h5:=h.cD
  have h6:S.pure.L9.length=S.le.length:=by simp [aZ.pure]
  omega
 ·intro p hp
  obtain ⟨r,hr,rfl⟩:=Lr.1 hp;exact xX (cK h.L9 (r.1) (Lr.2 ⟨r,hr,rfl⟩)).1
 ·have h5:=h.cC
  have h6:S.pure.ag.length=S.lb.length:=by simp [aZ.pure]
  omega
 ·intro p hp
  obtain ⟨r,hr,rfl⟩:=Lr.1 hp;exact xX (cK h.ag (r.1) (Lr.2 ⟨r,hr,rfl⟩)).1
 ·have h5:=h.cb
  have h6:S.pure.ae.length=S.lf.length:=by simp [aZ.pure]
  omega
 ·intro p hp
  obtain ⟨r,hr,rfl⟩:=Lr.1 hp;exact xX (cK h.ae (r.1.toci) (Lr.2 ⟨r,hr,rfl⟩)).1
 ·have h5:=h.dH
  have h6:S.pure.ai.length=S.lq.length:=by simp [aZ.pure]
  omega
 ·intro p hp
  obtain ⟨r,hr,rfl⟩:=Lr.1 hp;exact xX (cK h.ai (r.1.todS) (Lr.2 ⟨r,hr,rfl⟩)).1
theorem NU {S:aZ} {g:Nat} {f:ao→ao} {nx:Int} (h:S.Fits) (hf: ∀ x,(f x).id=x.id):(S.ju g f nx).Fits:=by
 have e:RW (fun x:ao=>x.id) (sU g f S.lp)=RW (fun x:ao=>x.id) S.lp:=Al fun p _ _=>hf p.1
 refine ⟨?_,?_,h.fx,h.wSem,h.cD,h.G4,h.cC,h.FP,h.cb,h.DW,h.dH,h.Jz⟩
 ·show (sU g f S.lp).length≤_
  unfold sU;rw [List.length_map];exact h.dl
 ·show ∀ p∈RW (fun x:ao=>x.id) (sU g f S.lp),_
  rw [e];exact h.Jl
theorem wE (o g:Nat) (nx:Int) (w:World) (h1:w.cell? ⟨o,1,none⟩=some (.int .i64 nx)) (f1:w.frozen? ⟨o,1,none⟩=false) (h2: ∃ u,w.cell? ⟨g,11,none⟩=some u) (f2:w.frozen? ⟨g,11,none⟩=false) (hne: ¬ o=g) (n0:0≤nx) (n1:nx≤1000000000):
  Calls J3 180 #[.pointer (some ⟨o,0,none⟩),.pointer (some ⟨g,0,none⟩)] w fun e w'=>e= .returned (.tuple #[])∧w'=(w.setCell ⟨g,11,none⟩ (.int .i64 nx)).setCell ⟨o,1,none⟩ (.int .i64 (nx+1)):=by
 obtain ⟨u,h2⟩:=h2;have k1:(w.setCell ⟨g,11,none⟩ (.int .i64 nx)).cell? ⟨o,1,none⟩=some (.int .i64 nx):=(J1 (aH hne)).trans h1;have k2:(w.setCell ⟨g,11,none⟩ (.int .i64 nx)).frozen? ⟨o,1,none⟩=false:=(World.frozen?_of_block (aH hne)).trans f1
 go_enter Tryz.func180,Tryz.ntmps180
 go_wp2
 go_end0
 exact ⟨rfl,rfl⟩
def F2 (nx:Int) (y:ao):ao:= { y with Md:=1,RU:=nx }
theorem OD (o g base:Nat) (S:aZ) (x:ao) (w:World) (h:cJ w base o S) (hx:(x,g)∈S.lp) (n0:0≤S.q.next) (n1:S.q.next≤1000000000):
  Calls J3 96 #[.pointer (some ⟨o,0,none⟩),.pointer (some ⟨g,0,none⟩)] w fun e w'=>e= .returned (.tuple #[])∧cJ w' base o (S.ju g (F2 S.q.next) (S.q.next+1))∧Below base w w':=by
 have hgb:w.heap[g]? =some (.cells (aX x) 43 (0,0)):=h.L8.box (x,g) hx;have bR:g∈S.lp.map (·.2):=Lr.2 ⟨(x,g),hx,rfl⟩;have hno: ¬ o=g:=fun e=>by
  have h5:=(Lp.1 h.nodup).1;exact h5 (by rw [e]; simp only [aZ.boxes,Kg,Kt]; exact .inl (.inl (.inr bR)))
 have hgl:base≤g:=h.L8.low g (LB _ bR);have CT:=cx (i:=3) (v:= .int .i64 1) hgb;have c3:w.cell? ⟨g,3,none⟩=some (.int .i64 x.Md):=(bo hgb).2.2.2.1;have z3:w.frozen? ⟨g,3,none⟩=false:=Ko _ _ _ _ _ hgb;have HC:Hid ((w.setCell ⟨g,3,none⟩ (.int .i64 1)).cell? ⟨o,1,none⟩=some (.int .i64 S.q.next)∧(w.setCell ⟨g,3,none⟩ (.int .i64 1)).frozen? ⟨o,1,none⟩=false∧(∃ u,(w.setCell ⟨g,3,none⟩ (.int .i64 1)).cell? ⟨g,11,none⟩=some u)∧(w.setCell ⟨g,3,none⟩ (.int .i64 1)).frozen? ⟨g,11,none⟩=false):=⟨(J1 (aH hno)).trans (h.opn.cell 1),(World.frozen?_of_block (aH hno)).trans (Ko _ _ _ _ _ h.opn),⟨.int .i64 x.RU,by simp [World.cell?,CT,aX]⟩,Ko _ _ _ _ _ CT⟩
 have HE:Hid (cJ (((w.setCell ⟨g,3,none⟩ (.int .i64 1)).setCell ⟨g,11,none⟩ (.int .i64 S.q.next)).setCell ⟨o,1,none⟩ (.int .i64 (S.q.next+1))) base o (S.ju g (F2 S.q.next) (S.q.next+1))∧Below base w (((w.setCell ⟨g,3,none⟩ (.int .i64 1)).setCell ⟨g,11,none⟩ (.int .i64 S.q.next)).setCell ⟨o,1,none⟩ (.int .i64 (S.q.next+1)))):=by
  refine ⟨h.ju (fun y=>⟨rfl,rfl,rfl,rfl⟩) (fun p hp hpg=> ?_) bR ?_ fun b hb hb2=>(aH hb2).trans ((aH hb).trans (aH hb)),bP (bP (bP (Kp _ _) hgl) hgl) h.low⟩
  ·have e:=h.L8.one hp hx hpg
   subst e;have h5:=(aH (i:=1) (v:= .int .i64 (S.q.next+1)) (fun e=>hno e.symm:g≠o)).trans (cx (i:=11) (v:= .int .i64 S.q.next) CT);exact h5
  ·have h5:((w.setCell ⟨g,3,none⟩ (.int .i64 1)).setCell ⟨g,11,none⟩ (.int .i64 S.q.next)).heap[o]? =_:=((aH hno).trans (aH hno)).trans h.opn
   exact cx (i:=1) (v:= .int .i64 (S.q.next+1)) h5
 clear hgb bR CT hgl h hx
 go_enter Tryz.func96,Tryz.ntmps96
 go_wp2_with fail;refine (wE o g S.q.next _ HC.I.1 HC.I.2.1 HC.I.2.2.1 HC.I.2.2.2 hno n0 n1).mono ?_;rintro e w2 ⟨rfl,rfl⟩;go_wp2
 go_end0
 exact ⟨rfl,HE.I.1,HE.I.2⟩
end
section
open Go.RowKit
section
variable {α:Type} {num:α→Int} {ok:α→Bool}
def bY (num:α→Int) (x:α):List α→List α
 | [] => [x]
 | y :: r=>if num x < num y then x :: y :: r else y :: bY num x r
def cA (num:α→Int) (x:α):List α→List α
 | [] => [x]
 | y :: r=>if num y < num x then y :: cA num x r else x :: y :: r
theorem er (x:α): ∀ l:List α,(bY num x l).length=l.length+1
 | [] =>rfl
 | y :: r=>by
  simp only [bY]
  split
  ·rfl
  ·simp [er x r]
theorem fq {x z:α} : ∀ {l:List α},z∈bY num x l↔z=x∨z∈l
 | [] =>by simp [bY]
 | y :: r=>by
  simp only [bY]
  split
  ·simp
  ·simp only [Kt,fq (l:=r)]
   constructor
   ·rintro (h | h | h)
    ·exact .inr (.inl h)
    ·exact .inl h
    ·exact .inr (.inr h)
   ·rintro (h | h | h)
    ·exact .inr (.inl h)
    ·exact .inl h
    ·exact .inr (.inr h)
theorem js {x z:α} : ∀ {l:List α},z∈cA num x l↔z=x∨z∈l
 | [] =>by simp [cA]
 | y :: r=>by
  simp only [cA]
  split
  ·simp only [Kt,js (l:=r)]
   constructor
   ·rintro (h | h | h)
    ·exact .inr (.inl h)
    ·exact .inl h
    ·exact .inr (.inr h)
   ·rintro (h | h | h)
    ·exact .inr (.inl h)
    ·exact .inl h
    ·exact .inr (.inr h)
  ·simp
theorem eJ (x:α): ∀ l:List α,(cA num x l).length=l.length+1
 | [] =>rfl
 | y :: r=>by
  simp only [cA]
  split
  ·simp [eJ x r]
  ·rfl
theorem tP {x:α} : ∀ {l:List α} {k:Nat},(∀ y∈l.take k,num y < num x)→(∀ y,l[k]? =some y→ ¬ num y < num x)→l.take k ++ x :: l.drop k=cA num x l
 | [],k,_,_=>by simp [cA]
 | y :: r,0,_,h2=>by
  have h3:=h2 y rfl;simp [cA,h3]
 | y :: r,k+1,h1,h2=>by
  have h3:=h1 y (by simp);simp only [List.take_succ_cons,List.drop_succ_cons,List.cons_append,cA,if_pos h3];rw [tP (fun z hz=>h1 z (by simp [hz])) (fun z hz=>h2 z (by simpa using hz))]
end
def cB (p p':aE):Option aE:=if bK p && bK p' then some p' else none
end
def jP {α:Type} (num:α→Int) (id:Int) (f:α→α) (l:List α):List α:=l.map fun x=>if num x=id then f x else x
def cg {α:Type} (num:α→Int) (id:Int) (l:List α):Option α:=l.find? fun x=>decide (num x=id)
def ie (st on:Int) (x:aD):Bool:=decide (x.Md=st) && decide (x.on=on)
def jl (st on:Int) (l:List aD):Option aD:=jo (l.filter (ie st on))
def bu (code id:Int) (p:aE):aE:= { p with L8:=ce id (jT code) p.L8 }
def lG (t:ByteArray) (x:aD):aD:= { x with got:=t }
def ez (t:ByteArray) (id:Int) (p:aE):aE:= { p with L8:=ce id (lG t) p.L8 }
def gF (f:aD→aD) (p:aE) (x:aD):aE:= { p with next:=gf p.next x,L8:=ce x.id (fun y=>iY p.next 0 (f y)) p.L8 }
def gW (f:aD→aD) (st on:Int):Nat→aE→aE
 | 0,p=>p
 | n+1,p=>match jl st on p.L8 with
  | none=>p
  | some x=>gW f st on n (gF f p x)
def ff (f:aD→aD) (st on:Int) (p:aE):aE:=gW f st on (p.L8.filter (ie st on)).length p
def zb (nx st on:Int) (held:ByteArray) (Mg:Int) (y:aD):aD:= { y with Md:=st,Mg:=Mg,on:=on,held:=held,RU:=nx }
def kC (st on:Int) (held:ByteArray) (Mg id:Int) (p:aE):aE:= { p with next:=p.next+1,L8:=ce id (zb p.next st on held Mg) p.L8 }
def kZ (now m:Int):Int:=if 0≤m then now+m else -1
def mX (st:Int) (o:dN) (now id:Int) (p:aE):aE:=if o.2.2.1=0 then bu 1 id p else kC st o.2.1 o.2.2.2 (kZ now o.2.2.1) id p
def nZ (id d:Int) (p:aE):aE:= { p with aj:=jP (·.id) id (fun y=> { y with n:=y.n+d }) p.aj }
def gL (id:Int) (b:Bool) (p:aE):aE:= { p with L9:=jP (·.id) id (fun y=> { y with up:=b }) p.L9 }
def ib (id:Int) (b:Bool) (t:ByteArray) (p:aE):aE:= { p with ag:=jP (·.id) id (fun y=> { y with shown:=b,text:=t }) p.ag }
def cV (id:Int) (l:List ByteArray) (p:aE):aE:= { p with ae:=jP (·.id) id (fun y=> { y with Ma:=l }) p.ae }
def gU (id:Int) (l:List ByteArray) (p:aE):aE:= { p with ai:=jP (·.id) id (fun y=> { y with Ma:=l }) p.ai }
def mh (o:dN) (now id:Int) (p:aE):aE:=match cg (·.id) o.2.1 p.aj with
 | none=>bu 3 id p
 | some s=>if s.n=0 then mX 3 o now id p else bu 0 id (nZ o.2.1 (-1) p)
def gJ (o:dN) (id:Int) (p:aE):aE:=match cg (·.id) o.2.1 p.aj with
 | none=>bu 3 id p
 | some s=>match jl 3 o.2.1 p.L8 with
  | some y=>bu 0 id (gF (fun y=>y) p y)
  | none=>if s.n=s.max then bu 1 id p else bu 0 id (nZ o.2.1 1 p)
def dE (o:dN) (now id:Int) (p:aE):aE:=match cg (·.id) o.2.1 p.L9 with
 | none=>bu 3 id p
 | some e=>if o.1=5 then bu 0 id (ff (fun y=>y) 4 o.2.1 (gL o.2.1 true p))
  else if o.1=6 then bu 0 id (gL o.2.1 false p)
  else if e.up then bu 0 id p else mX 4 o now id p
def lc (o:dN) (now id:Int) (p:aE):aE:=match cg (·.id) o.2.1 p.ae with
 | none=>bu 3 id p
 | some b=>match jl 6 o.2.1 p.L8 with
  | some y=>bu 0 id (gF (lG o.2.2.2) p y)
  | none=>if (b.Ma.length:Int)=b.max then mX 5 o now id p else bu 0 id (cV o.2.1 (b.Ma ++ [o.2.2.2]) p)
def ka (o:dN) (now id:Int) (p:aE):aE:=match cg (·.id) o.2.1 p.ae with
 | none=>bu 3 id p
 | some b=>match b.Ma with
  | [] =>mX 6 o now id (ez rM id p)
  | t :: r=>match jl 5 o.2.1 (ez t id p).L8 with
   | none=>bu 0 id (cV o.2.1 r (ez t id p))
   | some y=>bu 0 id (gF (fun y=>y) (cV o.2.1 (r ++ [y.held]) (ez t id p)) y)
def dC (o:dN) (now id:Int) (p:aE):aE:=match cg (·.id) o.2.1 p.ag with
 | none=>bu 3 id p
 | some b=>if o.1=10 then bu 0 id (ff (lG o.2.2.2) 7 o.2.1 (ib o.2.1 true o.2.2.2 p))
  else if o.1=11 then bu 0 id (ib o.2.1 false rM p)
  else if b.shown then bu 0 id (ez b.text id p) else mX 7 o now id (ez b.text id p)
def ig (o:dN) (id:Int) (p:aE):aE:=match cg (·.id) o.2.1 p.ai with
 | none=>bu 3 id p
 | some q=>if q.I=false then bu 3 id p
  else if q.Mf=false then bu 0 id (gU o.2.1 [o.2.2.2] p)
  else if (q.Ma.length:Int)=q.max then bu 1 id p
  else bu 0 id (gU o.2.1 (q.Ma ++ [o.2.2.2]) p)
def gC (o:dN) (id:Int) (p:aE):aE:=match cg (·.id) o.2.1 p.ai with
 | none=>bu 3 id p
 | some q=>if q.I then bu 3 id p else match q.Ma with
  | [] =>bu 1 id (ez rM id p)
  | t :: r=>bu 0 id (if q.Mf then gU o.2.1 r (ez t id p) else ez t id p)
def py (id:Int) (p:aE):aE:= { p with next:=p.next+1,L8:=ce id (fun y=> { y with Md:=1,RU:=p.next }) p.L8 }
def ot (id:Int) (p:aE):aE:= { p with L8:=ce id j7 p.L8 }
def jU (o:dN) (id:Int) (p:aE):aE:=match cg (·.id) o.2.1 p.L8 with
 | none=>bu 3 id p
 | some y=>if y.Md=0 then bu 0 id (py o.2.1 p) else bu 1 id p
def lg (o:dN) (id:Int) (p:aE):aE:=match cg (·.id) o.2.1 p.L8 with
 | none=>bu 3 id p
 | some y=>if y.Md=0 then bu 1 id p else if o.2.1=id then ot id p else bu 0 id (ot o.2.1 p)
def GY (x:aD) (o:dN) (p:aE):aE:=
 if (if x.left=0 then o.2.1 else x.left)=1 then bu 0 x.id p
 else { p with L8:=ce x.id (fun y=> { y with left:=(if x.left=0 then o.2.1 else x.left) - 1 }) p.L8 }
def lX (now:Int) (x:aD) (o:dN) (p:aE):aE:=
 if o.1=1 then GY x o p
 else if o.1=2 then kC 2 0 rM (now+o.2.1) x.id p
 else if o.1=3 then mh o now x.id p
 else if o.1=4 then gJ o x.id p
 else if o.1=5∨o.1=6∨o.1=7 then dE o now x.id p
 else if o.1=8 then lc o now x.id p
 else if o.1=9 then ka o now x.id p
 else if o.1=10∨o.1=11∨o.1=12 then dC o now x.id p
 else if o.1=13 then ig o x.id p
 else if o.1=14 then gC o x.id p
 else if o.1=15 then jU o x.id p
 else if o.1=16 then lg o x.id p
 else { p with L8:=ce x.id (fun y=> { y with pc:=0 }) p.L8 }
def mS (now:Int) (p:aE):aE:=match jl 1 0 (gj now p).L8 with
 | none=>gj now p
 | some x=>lX now x (opAt x) (gj now p)
def hZ (p:aE) (now:Int):Option aE:=if bK p && cv now 0 1000000000 && decide (p.next≤999999980) then some (mS now p) else none
section
variable {α:Type} {num:α→Int}
theorem jF {l:List α} {f:α→α} {id:Int} {n:Nat} {y:α} (hr:l.Pairwise (fun x y=>num x < num y)) (hn:l[n]? =some y) (hy:num y=id):jP num id f l=l.set n (f y):=by
 induction l generalizing n with
 | nil=>simp at hn
 | cons x r ih=>
  obtain ⟨h1,h2⟩:=LM.1 hr;cases n with
  | zero=>
   simp only [List.getElem?_cons_zero,LF] at hn;subst hn;have e:jP num id f r=r:=by
    unfold jP
    conv=>rhs; rw [← List.map_id r]
    refine List.map_congr_left fun z hz=> ?_
    rw [if_neg (by have:=h1 z hz; omega)];rfl
   simp only [List.set_cons_zero]
   show (if num x=id then f x else x) :: jP num id f r=_
   rw [if_pos hy,e]
  | succ n=>
   simp only [List.getElem?_cons_succ] at hn;have hlt:=h1 y (List.mem_of_getElem? hn);simp only [List.set_cons_succ]
   show (if num x=id then f x else x) :: jP num id f r=_
   rw [if_neg (by omega),ih h2 hn]
theorem ef (id:Int): ∀ (l:List α) (k:Nat),(place (l.map num) id k= -1∧cg num id l=none)∨ ∃ n x,place (l.map num) id k=((k+n:Nat):Int)∧l[n]? =some x∧num x=id∧cg num id l=some x
 | [],k=> .inl ⟨rfl,rfl⟩
 | x :: r,k=>by
  unfold cg;by_cases h:num x=id
  ·refine .inr ⟨0,x,?_,rfl,h,by simp [h]⟩
   simp [place,h]
  ·rcases ef id r (k+1) with ⟨h1,h2⟩ | ⟨n,y,h1,h2,h4,h3⟩
   ·exact .inl ⟨by simp only [Lt,place]; rw [if_neg h]; exact h1,by simp only [LL,h,decide_false]; exact h2⟩
   ·refine .inr ⟨n+1,y,?_,h2,h4,by simp only [LL,h,decide_false]; exact h3⟩
    simp only [Lt,place];rw [if_neg h,h1];omega
theorem ks {id:Int} {l:List α} {x:α} (h:cg num id l=some x):x∈l∧num x=id:=by
 have h1:=PS h;exact ⟨RG h,by simpa using h1⟩
end
theorem xw: ∀ (l:List aD) (r:Option aD) {y:aD},l.foldl iy r=some y→y∈l∨r=some y
 | [],_,_,h=> .inr h
 | x :: l,r,y,h=>by
  rcases xw l (iy r x) h with h1 | h1
  ·exact .inl (by simp [h1])
  ·rcases zp h1 with h2 | h2
   ·exact .inl (by simp [h2])
   ·exact .inr h2
theorem ft {st on:Int} {l:List aD} {x:aD} (h:jl st on l=some x):x∈l∧x.Md=st∧x.on=on:=by
 have h1:x∈l.filter (ie st on):=(xw _ none h).elim (fun e=>e) (fun e=>by cases e);obtain ⟨h2,h3⟩:=L2.1 h1;unfold ie at h3;simp only [J7,decide_eq_true_eq] at h3;exact ⟨h2,h3⟩
theorem Dt {st on:Int} {l:List aD} (h:jl st on l=none):l.filter (ie st on)= [] :=by
 unfold jl jo at h;rcases List.eq_nil_or_concat (l.filter (ie st on)) with e | ⟨l',x,e⟩
 ·exact e
 ·rw [e,List.concat_eq_append,List.foldl_append] at h
  simp only [List.foldl_cons,List.foldl_nil] at h;obtain ⟨y,hy⟩:=pN (l'.foldl iy none) x;rw [hy] at h;cases h
section
open Go.RowKit Go.Maps
attribute [local go_sem ↓] Kc Kd
theorem Nt (p:af) (id:Int) (w:World) (hid:(Lit.int .i64 id).wf=true) (hg:p.Good w):
  Calls J3 48 #[.agg p.cells,.int .i64 id] w fun e w'=>gI w (kD p.pure id) e w':=by
 have HB:Hid (p.Good ((w.alloc (.cells p.row 32)).alloc (.cells ar 32))∧Below w.heap.size w ((w.alloc (.cells p.row 32)).alloc (.cells ar 32))∧((w.alloc (.cells p.row 32)).alloc (.cells ar 32)).heap[w.heap.size+1]? =some (.cells ar 32 (0,0))∧av ((w.alloc (.cells p.row 32)).alloc (.cells ar 32)) w.heap.size p∧(Lit.int .i64 id).wf=true):=by
  have b1:Below w.heap.size w ((w.alloc (.cells p.row 32)).alloc (.cells ar 32)):=((Kp _ _).alloc (Ki _) _).alloc (by simp) _;exact ⟨hg.below b1,b1,Kq _ _ _,(PU (by simp)).trans (Kj _ _),hid⟩
 clear hg hid;obtain ⟨m0,m1,m2,m3,m4,m5,m6,m7⟩:=HB.I.2.2.2.1.cells;unfold af.cells
 go_enter Tryz.func48,Tryz.ntmps48
 go_wp2_with fail;generalize (w.alloc (.cells p.row 32)).alloc (.cells ar 32)=W at *;clear m0 m1 m2 m3 m4 m5 m6 m7;refine (iO p W HB.I.1).mono ?_;rintro e w1 ⟨hb1,⟨hno,rfl⟩ | ⟨fm,o,S,rfl,hat,gn⟩⟩
 ·have HZ:Hid (Below w.heap.size w w1∧w1.heap[w.heap.size+1]? =some (.cells ar 32 (0,0))∧True):=⟨HB.I.2.1.trans (hb1.mono HB.I.2.1.size),(hb1.block _ (J2.1 HB.I.2.2.1).1).trans HB.I.2.2.1,trivial⟩
  have HN:Hid (kD p.pure id=none):=vO (dL hno);clear hb1 hno;go_wp2_with (refine ec 4 16 (w.heap.size+1) ar HZ.I.2.1 ?_);refine mG RH (w.heap.size+1) ar (.bool false) HZ.I.2.1 ?_;exact ca HN.I (below_setRow HZ.I.1 (by omega) _)
 have HZ:Hid (Below w.heap.size w w1∧w1.heap[w.heap.size+1]? =some (.cells ar 32 (0,0))∧aQ S.pure∧cJ w1 W.heap.size o S∧S.pure=p.pure∧w.heap.size+1 < W.heap.size∧W.heap.size≤w1.heap.size):=⟨HB.I.2.1.trans (hb1.mono HB.I.2.1.size),(hb1.block _ (J2.1 HB.I.2.2.1).1).trans HB.I.2.2.1,by rw [gn]; exact fm,hat,gn,(J2.1 HB.I.2.2.1).1,hb1.size⟩
 have c3:w1.cell? ⟨o,3,none⟩=some (.map (some S.q.bp)):=hat.opn.cell 3;have c1:w1.cell? ⟨o,1,none⟩=some (.int .i64 S.q.next):=hat.opn.cell 1;have hlk:=hat.L8.map.look Ra (oD w1) HB.I.2.2.2.2 true;have td:p.pure.L8.find? (fun x=>decide (x.id=id))=(S.lp.find? (fun p=>decide (p.1.id=id))).map (fun p=>p.1.toaD):=by rw [← gn]; exact Fj id S.lp
 have hnx:p.next=S.q.next:=(congrArg aE.next gn).symm;rw [E0] at hlk;simp only [if_true] at hlk;have Jf:Hid (p.next=S.q.next):=hnx;clear hb1 fm hat gn hnx;cases Dc:S.lp.find? (fun p=>decide (p.1.id=id)) with
 | none=>
  rw [Dc] at hlk td;simp only [Option.map_none,qz,Option.isSome_none] at hlk;have HN:Hid (kD p.pure id=none):=tg td;clear Dc td;go_wp2_with (refine ec 4 43 (w.heap.size+1) ar HZ.I.2.1 ?_);refine mG RH (w.heap.size+1) ar (.bool false) HZ.I.2.1 ?_;exact ca HN.I (below_setRow HZ.I.1 (by omega) _)
 | some r=>
  obtain ⟨x,g⟩:=r;rw [Dc] at hlk td;simp only [J9,qz,dt,Qk] at hlk;have hm:(x,g)∈S.lp:=RG Dc;have OG:x.id=id:=by have h7:=PS Dc; simpa using h7
  have HX:Hid ((x,g)∈S.lp∧x.id=id∧p.pure.L8.find? (fun x=>decide (x.id=id))=some x.toaD):=⟨hm,OG,td⟩
  have d3:=(bo (HZ.I.2.2.2.1.L8.box (x,g) hm)).2.2.2.1;clear Dc td hm OG;by_cases hst:x.Md=0
  ·by_cases Pp:S.q.next=1000000000
   ·have HN:Hid (kD p.pure id=none):=sx HX.I.2.2 (by have e:p.pure.next=1000000000:=Jf.I.trans Pp; simp [e])
    have e1:(x.Md != 0)=false:=by simp [hst]
    have e2:(S.q.next == 1000000000)=true:=by simp [Pp]
    clear hst Pp;go_wp2_with (refine ec 4 43 (w.heap.size+1) ar HZ.I.2.1 ?_);refine mG RH (w.heap.size+1) ar (.bool false) HZ.I.2.1 ?_;exact ca HN.I (below_setRow HZ.I.1 (by omega) _)
   have HN:Hid (kD p.pure id=some { p.pure with next:=p.next+1,L8:=ce id (fun y:aD=> { y with Md:=1,RU:=p.next }) p.pure.L8 }):=tT (by rw [← HZ.I.2.2.2.2.1]; exact fP HZ.I.2.2.1) HX.I.2.2 (by have e:x.toaD.Md=0:=hst; have e2: ¬ p.pure.next=1000000000:=fun h=>Pp (Jf.I.symm.trans h); simp [e,e2]);have e1:(x.Md != 0)=false:=by simp [hst]
   have e2:(S.q.next == 1000000000)=false:=by simp [Pp]
   clear hst Pp;go_wp2_with fail;clear c1 c3 d3 e1 e2 hlk;have hnb:0≤S.q.next∧S.q.next≤1000000000:=by have h6:=bz.1 HZ.I.2.2.1.next; have h7:S.pure.next=S.q.next:=rfl; omega
   refine (OD o g W.heap.size S x w1 HZ.I.2.2.2.1 HX.I.1 hnb.1 hnb.2).mono ?_;rintro e w2 ⟨rfl,g8,hb2⟩;have hlt:=HZ.I.2.2.2.2.2.1;have H2:Hid (cJ w2 W.heap.size o (S.ju g (F2 S.q.next) (S.q.next+1))∧Below w.heap.size w w2∧w2.heap[w.heap.size+1]? =some (.cells ar 32 (0,0))∧W.heap.size≤w2.heap.size):=⟨g8,HZ.I.1.trans (hb2.mono (by omega)),(hb2.block _ hlt).trans HZ.I.2.1,by have:=hb2.size; have:=HZ.I.2.2.2.2.2.2; omega⟩
   have HF:Hid ((S.ju g (F2 S.q.next) (S.q.next+1)).Fits∧(S.ju g (F2 S.q.next) (S.q.next+1)).pure= { p.pure with next:=p.next+1,L8:=ce id (fun y:aD=> { y with Md:=1,RU:=p.next }) p.pure.L8 }):=by
    refine ⟨NU (iB HZ.I.2.2.1) fun _=>rfl,?_⟩;rw [aZ.NW (f':=fun y:aD=> { y with Md:=1,RU:=S.q.next }) HZ.I.2.2.1 (fun q hq e=>HZ.I.2.2.2.1.L8.one hq HX.I.1 e) HX.I.1 (fun _=>rfl),HX.I.2.1,HZ.I.2.2.2.2.1,Jf.I]
   clear g8 hb2 hnb;go_wp2_with fail;refine (jR o W.heap.size _ w2 H2.I.1 HF.I.1).mono ?_;rintro e w3 ⟨r,rfl,Bn,wu,hb3⟩;have H3:Hid (ap w3 W.heap.size r∧Below w.heap.size w w3∧w3.heap[w.heap.size+1]? =some (.cells ar 32 (0,0))∧r.pure= { p.pure with next:=p.next+1,L8:=ce id (fun y:aD=> { y with Md:=1,RU:=p.next }) p.pure.L8 }):=⟨Bn,H2.I.2.1.trans (hb3.mono H2.I.2.1.size),(hb3.block _ (J2.1 H2.I.2.2.1).1).trans H2.I.2.2.1,wu.trans HF.I.2⟩
   clear Bn wu hb3;go_wp2_with (refine ec 4 48 (w.heap.size+1) (af.cells r) H3.I.2.2.1 ?_);refine mG RH (w.heap.size+1) (af.cells r) (.bool true) H3.I.2.2.1 ?_;rw [HN.I];exact ⟨r,rfl,(H3.I.1.lower (by omega)).same fun b hb=>KH _ _ _ _ (by have:=(H3.I.1.lt b hb).1; omega),H3.I.2.2.2,below_setRow H3.I.2.1 (by omega) _⟩
  ·have HN:Hid (kD p.pure id=none):=sx HX.I.2.2 (by have e: ¬ x.toaD.Md=0:=hst; simp [e])
   have e1:(x.Md != 0)=true:=by simp [hst]
   clear hst;go_wp2_with (refine ec 4 43 (w.heap.size+1) ar HZ.I.2.1 ?_);refine mG RH (w.heap.size+1) ar (.bool false) HZ.I.2.1 ?_;exact ca HN.I (below_setRow HZ.I.1 (by omega) _)
theorem NI (g:Nat) (x:ao) (w:World) (h:w.heap[g]? =some (.cells (aX x) 43 (0,0))):Calls J3 99 #[.pointer (some ⟨g,0,none⟩)] w fun e w'=>e= .returned (.tuple #[])∧w'=w.drew.setRow g #[.int .i64 x.id,.int .i64 x.RX,.slice x.aY x.prog.length x.bH,.int .i64 0,.int .i64 0,.int .i64 0,.int .i64 0,.int .i64 0,.string ⟨#[]⟩,.string x.got,.int .i64 x.code,.int .i64 0] :=by
 have H:Hid (_):=h;obtain ⟨d0,d1,d2,d3,d4,d5,d6,d7,d8,d9,tH,tS⟩:=bo h;clear h d3 d4 d5 d6 d7 d8 tS
 go_enter Tryz.func99,Tryz.ntmps99
 go_wp2_with fail;refine eD (fun w'=>w'=w.drew) 23 (by kernel_rfl) rfl ?_
 iterate 23 (refine ly 24 (v:= ?_) (some _) rfl rfl (by kernel_rfl) (fun _ _ _ h=>h) (bV (by kernel_rfl) ?_) ?_; rotate_left; (intro w0 hS0; subst hS0; go_simp; try with_reducible rfl); simp only [pt,sb,s0,s1])
 refine fL rfl (by kernel_rfl) (by kernel_rfl) (by kernel_rfl) ?_;intro w1 cm;subst cm;refine qd _ _ _ rfl g _ _ #[.int .i64 x.id,.int .i64 x.RX,.slice x.aY x.prog.length x.bH,.int .i64 0,.int .i64 0,.int .i64 0,.int .i64 0,.int .i64 0,.string ⟨#[]⟩,.string x.got,.int .i64 x.code,.int .i64 0] rfl rfl H.I (by kernel_rfl) rfl (by kernel_rfl) ?_
 go_end0
 exact ⟨rfl,rfl⟩
theorem OQ (o g base:Nat) (S:aZ) (x:ao) (w:World) (h:cJ w base o S) (hx:(x,g)∈S.lp):
  Calls J3 99 #[.pointer (some ⟨g,0,none⟩)] w fun e w'=>e= .returned (.tuple #[])∧cJ w' base o (S.ju g sW S.q.next)∧Below base w w':=by
 have hgb:w.heap[g]? =some (.cells (aX x) 43 (0,0)):=h.L8.box (x,g) hx;have bR:g∈S.lp.map (·.2):=Lr.2 ⟨(x,g),hx,rfl⟩;have hno: ¬ o=g:=fun e=>by
  have h5:=(Lp.1 h.nodup).1;exact h5 (by rw [e]; simp only [aZ.boxes,Kg,Kt]; exact .inl (.inl (.inr bR)))
 refine (NI g x w hgb).mono ?_;rintro e w2 ⟨rfl,rfl⟩;refine ⟨rfl,h.ju (fun y=>⟨rfl,rfl,rfl,rfl⟩) (fun p hp hpg=> ?_) bR ((KH _ _ _ _ hno).trans h.opn) (fun b hb _=>KH _ _ _ _ hb),below_setRow (Kp _ _).drew (h.L8.low g (LB _ bR)) _⟩;have e:=h.L8.one hp hx hpg;subst e;exact setRow_heap _ _ _ _ _ _ hgb
theorem MY (p:af) (id:Int) (w:World) (hid:(Lit.int .i64 id).wf=true) (hg:p.Good w):
  Calls J3 50 #[.agg p.cells,.int .i64 id] w fun e w'=>gI w (pf p.pure id) e w':=by
 have HB:Hid (p.Good ((w.alloc (.cells p.row 32)).alloc (.cells ar 32))∧Below w.heap.size w ((w.alloc (.cells p.row 32)).alloc (.cells ar 32))∧((w.alloc (.cells p.row 32)).alloc (.cells ar 32)).heap[w.heap.size+1]? =some (.cells ar 32 (0,0))∧av ((w.alloc (.cells p.row 32)).alloc (.cells ar 32)) w.heap.size p∧(Lit.int .i64 id).wf=true):=by
  have b1:Below w.heap.size w ((w.alloc (.cells p.row 32)).alloc (.cells ar 32)):=((Kp _ _).alloc (Ki _) _).alloc (by simp) _;exact ⟨hg.below b1,b1,Kq _ _ _,(PU (by simp)).trans (Kj _ _),hid⟩
 clear hg hid;obtain ⟨m0,m1,m2,m3,m4,m5,m6,m7⟩:=HB.I.2.2.2.1.cells;unfold af.cells
 go_enter Tryz.func50,Tryz.ntmps50
 go_wp2_with fail;generalize (w.alloc (.cells p.row 32)).alloc (.cells ar 32)=W at *;clear m0 m1 m2 m3 m4 m5 m6 m7;refine (iO p W HB.I.1).mono ?_;rintro e w1 ⟨hb1,⟨hno,rfl⟩ | ⟨fm,o,S,rfl,hat,gn⟩⟩
 ·have HZ:Hid (Below w.heap.size w w1∧w1.heap[w.heap.size+1]? =some (.cells ar 32 (0,0))∧True):=⟨HB.I.2.1.trans (hb1.mono HB.I.2.1.size),(hb1.block _ (J2.1 HB.I.2.2.1).1).trans HB.I.2.2.1,trivial⟩
  have HN:Hid (pf p.pure id=none):=vO (dL hno);clear hb1 hno;go_wp2_with (refine ec 4 16 (w.heap.size+1) ar HZ.I.2.1 ?_);refine mG RI (w.heap.size+1) ar (.bool false) HZ.I.2.1 ?_;exact ca HN.I (below_setRow HZ.I.1 (by omega) _)
 have HZ:Hid (Below w.heap.size w w1∧w1.heap[w.heap.size+1]? =some (.cells ar 32 (0,0))∧aQ S.pure∧cJ w1 W.heap.size o S∧S.pure=p.pure∧w.heap.size+1 < W.heap.size∧W.heap.size≤w1.heap.size):=⟨HB.I.2.1.trans (hb1.mono HB.I.2.1.size),(hb1.block _ (J2.1 HB.I.2.2.1).1).trans HB.I.2.2.1,by rw [gn]; exact fm,hat,gn,(J2.1 HB.I.2.2.1).1,hb1.size⟩
 have c3:w1.cell? ⟨o,3,none⟩=some (.map (some S.q.bp)):=hat.opn.cell 3;have c1:w1.cell? ⟨o,1,none⟩=some (.int .i64 S.q.next):=hat.opn.cell 1;have hlk:=hat.L8.map.look Ra (oD w1) HB.I.2.2.2.2 true;have td:p.pure.L8.find? (fun x=>decide (x.id=id))=(S.lp.find? (fun p=>decide (p.1.id=id))).map (fun p=>p.1.toaD):=by rw [← gn]; exact Fj id S.lp
 have hnx:p.next=S.q.next:=(congrArg aE.next gn).symm;rw [E0] at hlk;simp only [if_true] at hlk;have Jf:Hid (p.next=S.q.next):=hnx;clear hb1 fm hat gn hnx;cases Dc:S.lp.find? (fun p=>decide (p.1.id=id)) with
 | none=>
  rw [Dc] at hlk td;simp only [Option.map_none,qz,Option.isSome_none] at hlk;have HN:Hid (pf p.pure id=none):=tg td;clear Dc td;go_wp2_with (refine ec 4 36 (w.heap.size+1) ar HZ.I.2.1 ?_);refine mG RI (w.heap.size+1) ar (.bool false) HZ.I.2.1 ?_;exact ca HN.I (below_setRow HZ.I.1 (by omega) _)
 | some r=>
  obtain ⟨x,g⟩:=r;rw [Dc] at hlk td;simp only [J9,qz,dt,Qk] at hlk;have hm:(x,g)∈S.lp:=RG Dc;have OG:x.id=id:=by have h7:=PS Dc; simpa using h7
  have HX:Hid ((x,g)∈S.lp∧x.id=id∧p.pure.L8.find? (fun x=>decide (x.id=id))=some x.toaD):=⟨hm,OG,td⟩
  have d3:=(bo (HZ.I.2.2.2.1.L8.box (x,g) hm)).2.2.2.1;clear Dc td hm OG;by_cases hst:x.Md=0
  ·have HN:Hid (pf p.pure id=none):=sx HX.I.2.2 (by have e:x.toaD.Md=0:=hst; simp [e])
   have e1:(x.Md == 0)=true:=by simp [hst]
   clear hst c1;go_wp2_with (refine ec 4 36 (w.heap.size+1) ar HZ.I.2.1 ?_);refine mG RI (w.heap.size+1) ar (.bool false) HZ.I.2.1 ?_;exact ca HN.I (below_setRow HZ.I.1 (by omega) _)
  have HN:Hid (pf p.pure id=some { p.pure with next:=p.next,L8:=ce id j7 p.pure.L8 }):=tT (by rw [← HZ.I.2.2.2.2.1]; exact fP HZ.I.2.2.1) HX.I.2.2 (by have e: ¬ x.toaD.Md=0:=hst; simp [e]);have e1:(x.Md == 0)=false:=by simp [hst]
  clear hst c1;go_wp2_with fail;clear c3 d3 e1 hlk;refine (OQ o g W.heap.size S x w1 HZ.I.2.2.2.1 HX.I.1).mono ?_;rintro e w2 ⟨rfl,g8,hb2⟩;have hlt:=HZ.I.2.2.2.2.2.1;have H2:Hid (cJ w2 W.heap.size o (S.ju g sW S.q.next)∧Below w.heap.size w w2∧w2.heap[w.heap.size+1]? =some (.cells ar 32 (0,0))∧W.heap.size≤w2.heap.size):=⟨g8,HZ.I.1.trans (hb2.mono (by omega)),(hb2.block _ hlt).trans HZ.I.2.1,by have:=hb2.size; have:=HZ.I.2.2.2.2.2.2; omega⟩
  have HF:Hid ((S.ju g sW S.q.next).Fits∧(S.ju g sW S.q.next).pure= { p.pure with next:=p.next,L8:=ce id j7 p.pure.L8 }):=by
   refine ⟨NU (iB HZ.I.2.2.1) fun _=>rfl,?_⟩;rw [aZ.NW (f':=j7) HZ.I.2.2.1 (fun q hq e=>HZ.I.2.2.2.1.L8.one hq HX.I.1 e) HX.I.1 (fun _=>rfl),HX.I.2.1,HZ.I.2.2.2.2.1,Jf.I]
  clear g8 hb2;go_wp2_with fail;refine (jR o W.heap.size _ w2 H2.I.1 HF.I.1).mono ?_;rintro e w3 ⟨r,rfl,Bn,wu,hb3⟩;have H3:Hid (ap w3 W.heap.size r∧Below w.heap.size w w3∧w3.heap[w.heap.size+1]? =some (.cells ar 32 (0,0))∧r.pure= { p.pure with next:=p.next,L8:=ce id j7 p.pure.L8 }):=⟨Bn,H2.I.2.1.trans (hb3.mono H2.I.2.1.size),(hb3.block _ (J2.1 H2.I.2.2.1).1).trans H2.I.2.2.1,wu.trans HF.I.2⟩
  clear Bn wu hb3;go_wp2_with (refine ec 4 40 (w.heap.size+1) (af.cells r) H3.I.2.2.1 ?_);refine mG RI (w.heap.size+1) (af.cells r) (.bool true) H3.I.2.2.1 ?_;rw [HN.I];exact ⟨r,rfl,(H3.I.1.lower (by omega)).same fun b hb=>KH _ _ _ _ (by have:=(H3.I.1.lt b hb).1; omega),H3.I.2.2.2,below_setRow H3.I.2.1 (by omega) _⟩
end
end Go.Proofs.YtkbcplnlehdjfaaGreat
