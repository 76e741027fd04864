/- What the proof leans on, part 2. -/
import Derived.Test.YtnlbiglljiopmaaGreatDoorOwnT0
import Derived.Test.YtnlbiglljiopmaaGreatDoorOwnT1
import Derived.Deep.AppendLies
set_option linter.unusedVariables false
set_option maxRecDepth 100000
set_option maxHeartbeats 8000000
open Go.Proofs.Tryz
open Go renaming World->w_,Value->v_,Calls->k_,TypeId->T_
open Go.Ending renaming returned->r_
open Go.IntKind renaming i64->j_
open Go.Obj renaming cells->c_
open Go.RowKit renaming Below->B_
open Go.Value renaming int->i_,slice->s_,bool->b_,string->t_,agg->a_,pointer->p_,tuple->u_
open Option renaming some->o_,none->n_
open Array renaming getElem?_eq_some_iff->J2
open Bool renaming and_eq_true->J7
open Go renaming callsIn_wide->LO,frozen_of_row->Ko,heap_alloc_new->Kj,wp_at_succ->Kd,wp_at_zero->Kc
open Go.Proofs.Tryz renaming prog->J3
open Go.RowKit.Below renaming heap_setCell->K6,refl->Kp
open List renaming getElem?_eq_some_iff->Lj,length_map->KG,length_take->Lk,map_cons->Lt,map_map->Lv,mem_cons->Kt,mem_cons_of_mem->LB,mem_map->Lr,nodup_cons->Lp,pairwise_cons->LM
open List.Perm renaming refl->RA
open Nat renaming le_refl->Ki
open Option renaming isNone_iff_eq_none->PX,isSome_eq_false_iff->PY
open Option.some renaming inj->KC

namespace Go.Proofs.YtnlbiglljiopmaaGreatDoor
open Go.RowKit Go.Maps
section
variable {α:Type} {vs:α→Array v_} {num:α→Int} {T:T_}
def RW (num:α→Int) (l:List (α × Nat)):df:=l.map fun p=>(num p.1,p.2)
structure Shelf (vs:α→Array v_) (num:α→Int) (T:T_) (w:w_) (base b:Nat) (l:List (α × Nat)):Prop where
 map:cF w b (RW num l)
 box: ∀ p∈l,w.heap[p.2]? =o_ (c_ (vs p.1) T)
 nodup:(b :: l.map (·.2)).Nodup
 low: ∀ g∈b :: l.map (·.2),base≤g
theorem Shelf.lt {w:w_} {base b:Nat} {l:List (α × Nat)} (h:Shelf vs num T w base b l): ∀ g∈b :: l.map (·.2),g < w.heap.size:=fun g hg=>by
 rcases Kt.1 hg with rfl | hg
 ·exact h.map.lt
 ·obtain ⟨p,hp,rfl⟩:=Lr.1 hg
  exact (J2.1 (h.box p hp)).1
theorem Shelf.same {w w':w_} {base b:Nat} {l:List (α × Nat)} (h:Shelf vs num T w base b l) (hs: ∀ g∈b :: l.map (·.2),w'.heap[g]? =w.heap[g]?):Shelf vs num T w' base b l:=
 ⟨h.map.same (hs b (by simp)),fun p hp=>(hs p.2 (LB _ (Lr.2 ⟨p,hp,rfl⟩))).trans (h.box p hp),h.nodup,h.low⟩
theorem Shelf.below {w w':w_} {base b:Nat} {l:List (α × Nat)} (h:Shelf vs num T w base b l) (hb:B_ w.heap.size w w'):Shelf vs num T w' base b l:=h.same fun g hg=>hb.block g (h.lt g hg)
theorem Shelf.lower {w:w_} {base base' b:Nat} {l:List (α × Nat)} (h:Shelf vs num T w base b l) (hb:base'≤base):Shelf vs num T w base' b l:=⟨h.map,h.box,h.nodup,fun g hg=>Nat.le_trans hb (h.low g hg)⟩
theorem Shelf.none {w:w_} {base b:Nat} (hb:w.heap[b]? =o_ (.map #[] 0)) (hl:base≤b):Shelf vs num T w base b [] :=
 ⟨cF.Hh hb,(fun p hp=>by cases hp),by simp,fun g hg=>by simp at hg; subst hg; exact hl⟩
def fc (num:α→Int) (p:α × Nat):List (α × Nat)→List (α × Nat)
 | [] => [p]
 | y :: r=>if num p.1 < num y.1 then p :: y :: r else y :: fc num p r
theorem EE (p:α × Nat) (l:List (α × Nat)):RW num (fc num p l)=oK (num p.1,p.2) (RW num l):=by
 induction l with
 | nil=>rfl
 | cons y r ih=>
  simp only [fc,RW,Lt,oK] at ih ⊢
  split
  ·rfl
  ·simp only [Lt,ih]
theorem lC (p:α × Nat) (l:List (α × Nat)):(fc num p l).Perm (p :: l):=by
 induction l with
 | nil=>exact RA _
 | cons y r ih=>
  unfold fc
  split
  ·exact RA _
  ·exact (List.Perm.cons y ih).trans (List.Perm.swap p y r)
theorem Er {p:α × Nat} {l:List (α × Nat)} (h: ∀ q∈l,num q.1 < num p.1):fc num p l=l ++ [p] :=by
 induction l with
 | nil=>rfl
 | cons y r ih=>
  have:=h y (by simp)
  unfold fc;rw [if_neg (by omega),ih (fun q hq=>h q (by simp [hq]))];rfl
theorem bZ (l:List (α × Nat)):(RW num l).length=l.length:=by simp [RW]
theorem Shelf.lay {w w':w_} {base b:Nat} {l:List (α × Nat)} {x:α} {e:Ending} (h:Shelf vs num T w base b l) (hb:base≤w.heap.size) (hl:dD w b (RW num l) true (num x) (vs x) T e w'):
  ∃ g,w.heap.size≤g∧Shelf vs num T w' base b (fc num (x,g) l)∧w.grownBy w' (o_ b):=by
 obtain ⟨-,-,h3⟩:=hl;obtain ⟨g,hg,lD,hmap,hgr⟩:=h3 rfl;have hpm:((fc num (x,g) l).map (·.2)).Perm (g :: l.map (·.2)):=(lC (num:=num) (x,g) l).map (·.2);refine ⟨g,hg,⟨?_,fun p hp=> ?_,?_,fun k hk=> ?_⟩,hgr⟩
 ·rw [EE]; exact hmap
 ·rcases Kt.1 ((lC (num:=num) (x,g) l).mem_iff.1 hp) with rfl | hp
  ·exact lD
  ·have hne: ¬ p.2=b:=fun e=>by
    have:=(Lp.1 h.nodup).1
    exact this (Lr.2 ⟨p,hp,e⟩)
   exact (hgr.block p.2 (h.lt p.2 (LB _ (Lr.2 ⟨p,hp,rfl⟩))) (fun e=>hne (KC e))).trans (h.box p hp)
 ·refine ((List.Perm.cons b hpm).nodup_iff).2 ?_
  refine ((List.Perm.swap g b (l.map (·.2))).nodup_iff).2 ?_;refine Lp.2 ⟨fun hm=> ?_,h.nodup⟩
  have:=h.lt g hm
  omega
 ·rcases Kt.1 hk with rfl | hk
  ·exact h.low k (by simp)
  ·rcases Kt.1 (hpm.mem_iff.1 hk) with rfl | hk
   ·omega
   ·exact h.low k (LB _ hk)
def jN (vs:α→Array v_) (num:α→Int) (T:T_) (w:w_) (Me:Int) (ok:Bool) (list:List α) (e:Ending) (w':w_):Prop:=
 B_ w.heap.size w w'∧((ok=false∧e=r_ (u_ #[a_ #[i_ j_ 0,.map n_],b_ false]))∨
  (ok=true∧ ∃ b l,e=r_ (u_ #[a_ #[i_ j_ Me,.map (o_ b)],b_ true])∧l.map (·.1)=list∧Shelf vs num T w' w.heap.size b l))
structure eS (vs:α→Array v_) (num:α→Int) (T TS:T_) (w wr:w_) (Me:Int) (l:List (α × Nat)):Prop where
 res:wr.heap[w.heap.size]? =o_ (c_ #[i_ j_ 0,.map n_] TS)
 var:wr.heap[w.heap.size+1+1]? =o_ (c_ #[i_ j_ Me,.map (o_ (w.heap.size+1))] TS)
 eh:Shelf vs num T wr (w.heap.size+1) (w.heap.size+1) l
 cd:B_ w.heap.size w wr
theorem eS.below {TS:T_} {w wr w':w_} {Me:Int} {l:List (α × Nat)} (h:eS vs num T TS w wr Me l) (hb:B_ wr.heap.size wr w'):eS vs num T TS w w' Me l:=
 ⟨(hb.block _ (J2.1 h.res).1).trans h.res,(hb.block _ (J2.1 h.var).1).trans h.var,h.eh.below hb,h.cd.trans (hb.mono h.cd.size)⟩
theorem eS.start (TS:T_) (w:w_) (Me:Int):eS vs num T TS w (((w.alloc (c_ #[i_ j_ 0,.map n_] TS)).alloc (.map #[] 0)).alloc (c_ #[i_ j_ Me,.map (o_ (w.heap.size+1))] TS)) Me [] :=by
 have b1:B_ w.heap.size w (w.alloc (c_ #[i_ j_ 0,.map n_] TS)):=(Kp _ _).alloc (Ki _) _;have b2:=b1.alloc b1.size (.map #[] 0);have b3:=b2.alloc b2.size (c_ #[i_ j_ Me,.map (o_ (w.heap.size+1))] TS);refine ⟨?_,?_,Shelf.none ?_ (by omega),b3⟩
 ·rw [PU ZcS,PU (by simp),Kj]
 ·have:=Kj ((w.alloc (c_ #[i_ j_ 0,.map n_] TS)).alloc (.map #[] 0)) (c_ #[i_ j_ Me,.map (o_ (w.heap.size+1))] TS)
  simpa using this
 ·rw [PU (by simp)]
  exact heap_alloc2_new _ _ _
theorem eS.cells {TS:T_} {w wr:w_} {Me:Int} {l:List (α × Nat)} (h:eS vs num T TS w wr Me l):
  wr.cell? ⟨w.heap.size,0,n_⟩=o_ (i_ j_ 0)∧wr.cell? ⟨w.heap.size,1,n_⟩=o_ (.map n_)∧wr.cell? ⟨w.heap.size+1+1,0,n_⟩=o_ (i_ j_ Me)∧wr.cell? ⟨w.heap.size+1+1,1,n_⟩=o_ (.map (o_ (w.heap.size+1)))∧wr.frozen? ⟨w.heap.size,0,n_⟩=false∧wr.frozen? ⟨w.heap.size,1,n_⟩=false:=by
 have h1:=h.res;have h2:=h.var;refine ⟨by simp [World.cell?,h1],by simp [World.cell?,h1],by simp [World.cell?,h2],by simp [World.cell?,h2],Ko _ _ _ _ _ h1,Ko _ _ _ _ _ h1⟩
theorem eS.lay {TS:T_} {w wr w':w_} {Me:Int} {l:List (α × Nat)} {x:α} {e:Ending} (h:eS vs num T TS w wr Me l) (hl:dD wr (w.heap.size+1) (RW num l) true (num x) (vs x) T e w') (hr: ∀ q∈l,num q.1 < num x):
  ∃ g,eS vs num T TS w w' Me (l ++ [(x,g)]):=by
 obtain ⟨g,hg,hs,hgr⟩:=h.eh.lay (by have:=(J2.1 h.var).1; omega) hl;rw [Er hr] at hs;refine ⟨g,(hgr.block _ (J2.1 h.res).1 (by simp)).trans h.res,(hgr.block _ (J2.1 h.var).1 (by simp)).trans h.var,hs,?_⟩;exact h.cd.trans ⟨hgr.os,hgr.tape,hgr.output,hgr.size,fun k hk=>hgr.block k (by have:=h.cd.size; omega) (fun e=>by have:=KC e; omega)⟩
theorem xq {ok:α→Bool} : ∀ {l:List α} {last:Int},aw num ok last l=true→last≤bW num last l∧ ∀ y∈l,num y≤bW num last l
 | [],last,_=>⟨Int.le_refl _,fun y hy=>by cases hy⟩
 | x :: r,last,h=>by
  simp only [aw,J7,decide_eq_true_eq] at h;obtain ⟨h1,h2⟩:=xq h.2;simp only [bW];refine ⟨by omega,fun y hy=> ?_⟩;rcases Kt.1 hy with rfl | hy
  ·exact h1
  ·exact h2 y hy
theorem jB {ok:α→Bool} {l:List (α × Nat)} {list:List α} {last:Int} {x:α} (hm:l.map (·.1)=list) (h:aw num ok last list=true) (hx:bW num last list < num x): ∀ q∈l,num q.1 < num x:=fun q hq=>by
 have:=(xq h).2 q.1 (by rw [← hm]; exact Lr.2 ⟨q,hq,rfl⟩)
 omega
theorem Ej {l:List (α × Nat)} {x:α} (h: ∀ q∈l,num q.1 < num x):cz (RW num l) (num x)=n_:=by
 rw [qA];intro hm;simp only [RW,Lv,Lr] at hm;obtain ⟨q,hq,e⟩:=hm
 have:=h q hq
 simp only [Function.comp] at e;omega
theorem iC {ok:α→Bool} {list:List α} {k:Nat} {x:α} {Me:Int} {l:List (α × Nat)} (hx:list[k]? =o_ x) (hm:l.map (·.1)=list.take k) (oC:aw num ok 0 (list.take k)=true) (hlt:bW num 0 (list.take k) < num x) (h:iI Me (RW num l) (num x) (ok x)=false):
  (aw num ok 0 list && decide ((list.length:Int)≤max Me 0))=false:=by
 have hk:k < list.length:=(Lj.1 hx).1;have hn:=Ej (jB hm oC hlt);have hlen:l.length=k:=by
  have:=congrArg List.length hm
  simp only [KG,Lk] at this;omega
 simp only [iI,hn,bZ,hlen] at h;by_cases h1:(k:Int) < Me
 ·have:aw num ok 0 list=false:=bS hx (fun hh=>by
   rw [hh.1,hh.2.2,decide_eq_true h1] at h;simp at h)
  rw [this]; rfl
 ·have:decide ((list.length:Int)≤max Me 0)=false:=decide_eq_false (by omega)
  rw [this,Bool.and_false]
theorem gM {ok:α→Bool} {list:List α} {k:Nat} {x:α} {Me:Int} {l:List (α × Nat)} (hx:list[k]? =o_ x) (hm:l.map (·.1)=list.take k) (oC:aw num ok 0 (list.take k)=true) (hlt:bW num 0 (list.take k) < num x) (h:iI Me (RW num l) (num x) (ok x)=true):
  aw num ok 0 (list.take (k+1))=true∧((k+1:Nat):Int)≤max Me 0:=by
 have hlen:l.length=k:=by
  have:=congrArg List.length hm
  have hk:k < list.length:=(Lj.1 hx).1;simp only [KG,Lk] at this;omega
 simp only [iI,J7,decide_eq_true_eq,bZ,hlen] at h;exact ⟨ed oC hx h.1.2 hlt h.2,by omega⟩
theorem eS.lu {TS:T_} {w wr:w_} {Me:Int} {l:List (α × Nat)} (h:eS vs num T TS w wr Me l) (v0 v1:v_):Shelf vs num T ((wr.setCell ⟨w.heap.size,0,n_⟩ v0).setCell ⟨w.heap.size,1,n_⟩ v1) w.heap.size (w.heap.size+1) l∧B_ w.heap.size w ((wr.setCell ⟨w.heap.size,0,n_⟩ v0).setCell ⟨w.heap.size,1,n_⟩ v1):=by
 refine ⟨(h.eh.same fun g hg=> ?_).lower (by omega),(h.cd.setCell (Ki _) _).setCell (Ki _) _⟩
 have:=h.eh.low g hg
 rw [K6 _ _ _ _ (by show g≠w.heap.size; omega),K6 _ _ _ _ (by show g≠w.heap.size; omega)]
end
end Go.Proofs.YtnlbiglljiopmaaGreatDoor

namespace Go.Proofs.YtnlbiglljiopmaaGreatDoor
open Go.RowKit
attribute [local go_sem ↓] Kc Kd
def aX (x:ao):Array v_:= #[i_ j_ x.id,i_ j_ x.RX,s_ x.aY x.prog.length x.bH,i_ j_ x.Md,i_ j_ x.pc,i_ j_ x.left,i_ j_ x.Mg,i_ j_ x.on,t_ x.held,t_ x.got,i_ j_ x.code,i_ j_ x.RU]
def eL (w:w_) (x:ao):Prop:=x.dX∧Row w x.aY (fk.flat x.prog)
theorem eL.below {w w':w_} {x:ao} (h:eL w x) (hb:B_ w.heap.size w w'):eL w' x:=⟨h.1,h.2.below hb⟩
theorem bo {W:w_} {X:Nat} {x:ao} (h:W.heap[X]? =o_ (c_ (aX x) 100)):W.cell? ⟨X,0,n_⟩=o_ (i_ j_ x.id)∧W.cell? ⟨X,1,n_⟩=o_ (i_ j_ x.RX)∧W.cell? ⟨X,2,n_⟩=o_ (s_ x.aY x.prog.length x.bH)∧W.cell? ⟨X,3,n_⟩=o_ (i_ j_ x.Md)∧W.cell? ⟨X,4,n_⟩=o_ (i_ j_ x.pc)∧W.cell? ⟨X,5,n_⟩=o_ (i_ j_ x.left)∧W.cell? ⟨X,6,n_⟩=o_ (i_ j_ x.Mg)∧W.cell? ⟨X,7,n_⟩=o_ (i_ j_ x.on)∧W.cell? ⟨X,8,n_⟩=o_ (t_ x.held)∧W.cell? ⟨X,9,n_⟩=o_ (t_ x.got)∧W.cell? ⟨X,10,n_⟩=o_ (i_ j_ x.code)∧W.cell? ⟨X,11,n_⟩=o_ (i_ j_ x.RU):=by
 unfold aX at h;simp [World.cell?,h]
theorem iK (x:ao) (w:w_):k_ J3 259 #[a_ (aX x)] w fun e w'=>e=r_ (i_ j_ x.id)∧B_ w.heap.size w w':=by
 unfold aX
 go_enter func259,ntmps259
 exact z_
theorem ob (v : v_) (w : w_) : Sem.run J3 (method 474 100 v "loop.example/g00313/impl.number") w = .ok (259, v) w := by kernel_rfl
theorem uB (v : v_) (w : w_) : Sem.run J3 (method 474 100 v "loop.example/g00313/impl.right") w = .ok (260, v) w := by kernel_rfl
theorem oD (w:w_):(zeroValue 161).run J3 w= .ok (p_ n_) w:=by kernel_rfl
theorem BP (Me:Int) (b:Nat) (m:df) (id:Int) (w:w_) (h:cF w b m) (hw:(Lit.int j_ id).wf=true):
  k_ J3 152 #[a_ #[i_ j_ Me,.map (o_ b)],i_ j_ id] w fun e w'=>e=r_ (b_ (cz m id).isSome)∧B_ w.heap.size w w':=by
 have hlk:=(h.below ((Kp _ w).alloc (Ki _) (c_ #[i_ j_ Me,.map (o_ b)] 129))).look underlying127 (oD _) hw true;simp only [if_true] at hlk;clear h hw
 go_enter func152,ntmps152
 exact z_
theorem kb (t:Int) (w:w_):k_ J3 266 #[i_ j_ t] w fun e w'=>e=r_ (b_ (cv t 1 2000000000))∧w'=w:=by
 by_cases h1:1≤t
 ·by_cases h2:t≤2000000000
  ·go_enter func266,ntmps266
   exact Zbq
  ·go_enter func266,ntmps266
   exact Zbc
 ·go_enter func266,ntmps266
  exact Zbd
theorem kn (x:ao) (w:w_) (hl:x.prog.length≤1048576):k_ J3 191 #[a_ (aX x)] w fun e w'=>e=r_ (b_ (dU x.toaD))∧B_ w.heap.size w w':=by
 unfold aX;have e1:wrap64 (x.prog.length:Int)=x.prog.length:=by unfold wrap64; omega
 by_cases h1:0≤x.pc
 ·by_cases h2:x.pc < (x.prog.length:Int)
  ·have HV:Hid (dU x.toaD=true):=eB h1 (by omega)
   go_enter func191,ntmps191
   exact ZaS
  ·have HV:Hid (dU x.toaD=false):=kR (by omega)
   go_enter func191,ntmps191
   exact ZaS
 ·have HV:Hid (dU x.toaD=false):=mA (by omega)
  go_enter func191,ntmps191
  exact ZaS
theorem xm {x:aD} (h:dU x=true): ∃ k:Nat,x.pc=k∧k < x.prog.length∧x.prog[k]? =o_ (opAt x):=by
 have:=bz.1 h
 refine ⟨x.pc.toNat,by omega,by omega,?_⟩;unfold opAt;rw [List.getElem?_eq_getElem (by omega)];rfl
theorem CP (x:ao) (w:w_) (hf:eL w x) (h:dU x.toaD=true):k_ J3 265 #[a_ (aX x)] w fun e w'=>e=r_ (b_ (jJ x.toaD))∧B_ w.heap.size w w':=by
 obtain ⟨k,hk,hkl,hop⟩:=xm h;have b1:B_ w.heap.size w (w.alloc (c_ (aX x) 100)):=(Kp _ _).alloc (Ki _) _;obtain ⟨g,hg,c0,c1,c2,c3⟩:=Jm (hf.2.below b1) hop;have HL:Hid (jJ x.toaD=if (opAt x.toaD).1=1 then decide (0≤x.left) && decide (x.left < (opAt x.toaD).2.1) else decide (x.left=0)):=rfl;have i0:(0:Int)≤(k:Int):=by omega
 have i1:(k:Int) < (x.prog.length:Int):=by omega
 clear h hop hf;generalize opAt x.toaD=o at *;obtain ⟨⟨id,RX,prog,Md,pc,left,Mg,on,held,got,code,RU⟩,aY,bH⟩:=x;simp only at hk hg i1 HL;subst hk hg;unfold aX at *;simp only at *;by_cases h1:o.1=1
 ·have Jt:Hid (jJ ⟨id,RX,prog,Md,k,left,Mg,on,held,got,code,RU⟩=(decide (0≤left) && decide (left < o.2.1))):=HL.I.trans (if_pos h1)
  have h1':(o.1 == 1)=true:=by simp [h1]
  clear h1 HL;by_cases h2:0≤left
  ·by_cases h3:left < o.2.1
   all_goals
    go_enter func265,ntmps265
    go_wp2;go_ret;exact ⟨al (by rw [Jt.I]; simp [h2,h3]),by go_grown⟩
  ·go_enter func265,ntmps265
   go_wp2;go_ret;exact ⟨al (by rw [Jt.I,decide_eq_false (by omega)]; rfl),by go_grown⟩
 ·have Jt:Hid (jJ ⟨id,RX,prog,Md,k,left,Mg,on,held,got,code,RU⟩=decide (left=0)):=HL.I.trans (if_neg h1)
  have h1':(o.1 == 1)=false:=by simp [h1]
  clear h1 HL
  go_enter func265,ntmps265
  go_wp2;go_ret;exact ⟨al (by rw [Jt.I]; by_cases h:left=0 <;> simp [h]),by go_grown⟩
end Go.Proofs.YtnlbiglljiopmaaGreatDoor

namespace Go.Proofs.YtnlbiglljiopmaaGreatDoor
open Go.RowKit
attribute [local go_sem ↓] Kc Kd
def bQ (x:au):Array v_:= #[i_ j_ x.id,i_ j_ x.max,s_ x.ak x.Ma.length x.aq]
def fM (w:w_) (x:au):Prop:=fT w x.ak x.Ma
theorem fM.below {w w':w_} {x:au} (h:fM w x) (hb:B_ w.heap.size w w'):fM w' x:=fT.below h hb
theorem ia {W:w_} {X:Nat} {x:au} (h:W.heap[X]? =o_ (c_ (bQ x) 114)):W.cell? ⟨X,0,n_⟩=o_ (i_ j_ x.id)∧W.cell? ⟨X,1,n_⟩=o_ (i_ j_ x.max)∧W.cell? ⟨X,2,n_⟩=o_ (s_ x.ak x.Ma.length x.aq):=by
 unfold bQ at h;simp [World.cell?,h]
theorem gP (x:au) (w:w_):k_ J3 280 #[a_ (bQ x)] w fun e w'=>e=r_ (i_ j_ x.id)∧B_ w.heap.size w w':=by
 unfold bQ
 go_enter func280,ntmps280
 exact z_
theorem mc (v : v_) (w : w_) : Sem.run J3 (method 474 114 v "loop.example/g00313/impl.number") w = .ok (280, v) w := by kernel_rfl
theorem se (v : v_) (w : w_) : Sem.run J3 (method 474 114 v "loop.example/g00313/impl.right") w = .ok (281, v) w := by kernel_rfl
theorem pS (w:w_):(zeroValue 198).run J3 w= .ok (p_ n_) w:=by kernel_rfl
theorem mE (Me:Int) (b:Nat) (m:df) (id:Int) (w:w_) (h:cF w b m) (hw:(Lit.int j_ id).wf=true):
  k_ J3 157 #[a_ #[i_ j_ Me,.map (o_ b)],i_ j_ id] w fun e w'=>e=r_ (b_ (cz m id).isSome)∧B_ w.heap.size w w':=by
 have hlk:=(h.below ((Kp _ w).alloc (Ki _) (c_ #[i_ j_ Me,.map (o_ b)] 149))).look underlying147 (pS _) hw true;simp only [if_true] at hlk;clear h hw
 go_enter func157,ntmps157
 exact z_
theorem Sr (x:au) (w:w_) (hf:fM w x):k_ J3 281 #[a_ (bQ x)] w fun e w'=>e=r_ (b_ (ct x.toci))∧B_ w.heap.size w w':=by
 have HF:Hid (fM w x):=hf;clear hf;unfold bQ
 go_enter func281,ntmps281
 go_wp2_with fail;refine (oy x.ak x.Ma x.aq x.max _ (fT.below HF.I ((Kp _ _).alloc (Ki _) _))).mono ?_;rintro e w1 ⟨rfl,hw1⟩;subst hw1;exact z_
end Go.Proofs.YtnlbiglljiopmaaGreatDoor

namespace Go.Proofs.YtnlbiglljiopmaaGreatDoor
open Go.RowKit
attribute [local go_sem ↓] Kc Kd
def cW (x:aM):Array v_:= #[i_ j_ x.id,b_ x.I,b_ x.Mf,i_ j_ x.max,s_ x.ak x.Ma.length x.aq]
def jf (w:w_) (x:aM):Prop:=fT w x.ak x.Ma
theorem jf.below {w w':w_} {x:aM} (h:jf w x) (hb:B_ w.heap.size w w'):jf w' x:=fT.below h hb
theorem gE {W:w_} {X:Nat} {x:aM} (h:W.heap[X]? =o_ (c_ (cW x) 116)):W.cell? ⟨X,0,n_⟩=o_ (i_ j_ x.id)∧W.cell? ⟨X,1,n_⟩=o_ (b_ x.I)∧W.cell? ⟨X,2,n_⟩=o_ (b_ x.Mf)∧W.cell? ⟨X,3,n_⟩=o_ (i_ j_ x.max)∧W.cell? ⟨X,4,n_⟩=o_ (s_ x.ak x.Ma.length x.aq):=by
 unfold cW at h;simp [World.cell?,h]
theorem iN (x:aM) (w:w_):k_ J3 284 #[a_ (cW x)] w fun e w'=>e=r_ (i_ j_ x.id)∧B_ w.heap.size w w':=by
 unfold cW
 go_enter func284,ntmps284
 exact z_
theorem nY (v : v_) (w : w_) : Sem.run J3 (method 474 116 v "loop.example/g00313/impl.number") w = .ok (284, v) w := by kernel_rfl
theorem vZ (v : v_) (w : w_) : Sem.run J3 (method 474 116 v "loop.example/g00313/impl.right") w = .ok (285, v) w := by kernel_rfl
theorem sK (w:w_):(zeroValue 199).run J3 w= .ok (p_ n_) w:=by kernel_rfl
theorem Bb (Me:Int) (b:Nat) (m:df) (id:Int) (w:w_) (h:cF w b m) (hw:(Lit.int j_ id).wf=true):
  k_ J3 158 #[a_ #[i_ j_ Me,.map (o_ b)],i_ j_ id] w fun e w'=>e=r_ (b_ (cz m id).isSome)∧B_ w.heap.size w w':=by
 have hlk:=(h.below ((Kp _ w).alloc (Ki _) (c_ #[i_ j_ Me,.map (o_ b)] 154))).look underlying152 (sK _) hw true;simp only [if_true] at hlk;clear h hw
 go_enter func158,ntmps158
 exact z_
theorem wG (x:aM) (w:w_) (hf:jf w x):k_ J3 285 #[a_ (cW x)] w fun e w'=>e=r_ (b_ (dj x.todS))∧B_ w.heap.size w w':=by
 have HF:Hid (jf w x):=hf;clear hf;obtain ⟨⟨id,I,Mf,max,Ma⟩,ak,aq⟩:=x;unfold cW;cases hp:(cv max 1 5 && dJ Ma max) with
 | false=>
  have HP:Hid ((cv max 1 5 && dJ Ma max)=false):=hp;clear hp
  go_enter func285,ntmps285
  go_wp2_with fail;refine (oy ak Ma aq max _ (fT.below HF.I ((Kp _ _).alloc (Ki _) _))).mono ?_;rintro e w1 ⟨rfl,hw1⟩;rw [HP.I];subst hw1;go_wp2;go_ret;exact ⟨al (zS HP.I).symm,(Kp _ _).alloc (Ki _) _⟩
 | true=>
  have HP:Hid ((cv max 1 5 && dJ Ma max)=true):=hp;clear hp;by_cases h1:max=1
  all_goals
   have HM:Hid (decide (max=1)=(max == 1)):=by show decide (max=1)=(max == 1); by_cases h:max=1 <;> simp [h]
   have h1':(max == 1)=decide (max=1):=HM.I.symm;cases Mf
  all_goals
   have HV:Hid (∀ q,dj ⟨id,I,q,max,Ma⟩=(q || decide (max=1))):=Cu HP.I;simp only [h1,decide_true,decide_false] at h1';clear h1
   go_enter func285,ntmps285
   go_wp2_with fail;refine (oy ak Ma aq max _ (fT.below HF.I ((Kp _ _).alloc (Ki _) _))).mono ?_;rintro e w1 ⟨rfl,hw1⟩;rw [HP.I];subst hw1;go_wp2;go_ret;exact ⟨al (by rw [HV.I,HM.I]; simp [h1']),(Kp _ _).alloc (Ki _) _⟩
end Go.Proofs.YtnlbiglljiopmaaGreatDoor

namespace Go.Proofs.YtnlbiglljiopmaaGreatDoor
open Go.RowKit
attribute [local go_sem ↓] Kc Kd
def eH (x:bD):Array v_:= #[i_ j_ x.id,i_ j_ x.n,i_ j_ x.max]
def kU (_:w_) (_:bD):Prop:=True
theorem kU.below {w w':w_} {x:bD} (_:kU w x) (_:B_ w.heap.size w w'):kU w' x:=trivial
theorem gm {W:w_} {X:Nat} {x:bD} (h:W.heap[X]? =o_ (c_ (eH x) 105)):W.cell? ⟨X,0,n_⟩=o_ (i_ j_ x.id)∧W.cell? ⟨X,1,n_⟩=o_ (i_ j_ x.n)∧W.cell? ⟨X,2,n_⟩=o_ (i_ j_ x.max):=by
 unfold eH at h;simp [World.cell?,h]
theorem jv (x:bD) (w:w_):k_ J3 271 #[a_ (eH x)] w fun e w'=>e=r_ (i_ j_ x.id)∧B_ w.heap.size w w':=by
 unfold eH
 go_enter func271,ntmps271
 exact z_
theorem pb (v : v_) (w : w_) : Sem.run J3 (method 474 105 v "loop.example/g00313/impl.number") w = .ok (271, v) w := by kernel_rfl
theorem wW (v : v_) (w : w_) : Sem.run J3 (method 474 105 v "loop.example/g00313/impl.right") w = .ok (272, v) w := by kernel_rfl
theorem vU (w:w_):(zeroValue 219).run J3 w= .ok (p_ n_) w:=by kernel_rfl
theorem tZ (Me:Int) (b:Nat) (m:df) (id:Int) (w:w_) (h:cF w b m) (hw:(Lit.int j_ id).wf=true):
  k_ J3 154 #[a_ #[i_ j_ Me,.map (o_ b)],i_ j_ id] w fun e w'=>e=r_ (b_ (cz m id).isSome)∧B_ w.heap.size w w':=by
 have hlk:=(h.below ((Kp _ w).alloc (Ki _) (c_ #[i_ j_ Me,.map (o_ b)] 134))).look underlying132 (vU _) hw true;simp only [if_true] at hlk;clear h hw
 go_enter func154,ntmps154
 exact z_
theorem ye (x:bD) (w:w_) (_:kU w x):k_ J3 272 #[a_ (eH x)] w fun e w'=>e=r_ (b_ (gw x))∧B_ w.heap.size w w':=by
 unfold eH;by_cases h1:1≤x.max
 ·by_cases h2:x.max≤1000
  ·by_cases h3:0≤x.n
   ·by_cases h4:x.n≤x.max
    all_goals
     exact V_
   ·exact V_
  ·exact V_
 ·exact V_
end Go.Proofs.YtnlbiglljiopmaaGreatDoor

namespace Go.Proofs.YtnlbiglljiopmaaGreatDoor
open Go.RowKit
attribute [local go_sem ↓] Kc Kd
def cG (x:aB):Array v_:= #[i_ j_ x.id,b_ x.up]
def ix (_:w_) (_:aB):Prop:=True
theorem ix.below {w w':w_} {x:aB} (_:ix w x) (_:B_ w.heap.size w w'):ix w' x:=trivial
theorem kF {W:w_} {X:Nat} {x:aB} (h:W.heap[X]? =o_ (c_ (cG x) 109)):W.cell? ⟨X,0,n_⟩=o_ (i_ j_ x.id)∧W.cell? ⟨X,1,n_⟩=o_ (b_ x.up):=by
 unfold cG at h;simp [World.cell?,h]
theorem iw (x:aB) (w:w_):k_ J3 274 #[a_ (cG x)] w fun e w'=>e=r_ (i_ j_ x.id)∧B_ w.heap.size w w':=by
 unfold cG
 go_enter func274,ntmps274
 exact z_
theorem mT (v : v_) (w : w_) : Sem.run J3 (method 474 109 v "loop.example/g00313/impl.number") w = .ok (274, v) w := by kernel_rfl
theorem tp (v : v_) (w : w_) : Sem.run J3 (method 474 109 v "loop.example/g00313/impl.right") w = .ok (275, v) w := by kernel_rfl
theorem rE (w:w_):(zeroValue 222).run J3 w= .ok (p_ n_) w:=by kernel_rfl
theorem rj (Me:Int) (b:Nat) (m:df) (id:Int) (w:w_) (h:cF w b m) (hw:(Lit.int j_ id).wf=true):
  k_ J3 155 #[a_ #[i_ j_ Me,.map (o_ b)],i_ j_ id] w fun e w'=>e=r_ (b_ (cz m id).isSome)∧B_ w.heap.size w w':=by
 have hlk:=(h.below ((Kp _ w).alloc (Ki _) (c_ #[i_ j_ Me,.map (o_ b)] 139))).look underlying137 (rE _) hw true;simp only [if_true] at hlk;clear h hw
 go_enter func155,ntmps155
 exact z_
theorem tX (x:aB) (w:w_) (_:ix w x):k_ J3 275 #[a_ (cG x)] w fun e w'=>e=r_ (b_ (ey x))∧B_ w.heap.size w w':=by
 unfold cG
 go_enter func275,ntmps275
 exact z_
end Go.Proofs.YtnlbiglljiopmaaGreatDoor

namespace Go.Proofs.YtnlbiglljiopmaaGreatDoor
open Go.RowKit
attribute [local go_sem ↓] Kc Kd
def cI (x:az):Array v_:= #[i_ j_ x.id,b_ x.shown,t_ x.text]
def gX (_:w_) (x:az):Prop:=x.text.size≤1048576
theorem gX.below {w w':w_} {x:az} (h:gX w x) (_:B_ w.heap.size w w'):gX w' x:=h
theorem kJ {W:w_} {X:Nat} {x:az} (h:W.heap[X]? =o_ (c_ (cI x) 112)):W.cell? ⟨X,0,n_⟩=o_ (i_ j_ x.id)∧W.cell? ⟨X,1,n_⟩=o_ (b_ x.shown)∧W.cell? ⟨X,2,n_⟩=o_ (t_ x.text):=by
 unfold cI at h;simp [World.cell?,h]
theorem iq (x:az) (w:w_):k_ J3 277 #[a_ (cI x)] w fun e w'=>e=r_ (i_ j_ x.id)∧B_ w.heap.size w w':=by
 unfold cI
 go_enter func277,ntmps277
 exact z_
theorem nr (v : v_) (w : w_) : Sem.run J3 (method 474 112 v "loop.example/g00313/impl.number") w = .ok (277, v) w := by kernel_rfl
theorem tq (v : v_) (w : w_) : Sem.run J3 (method 474 112 v "loop.example/g00313/impl.right") w = .ok (278, v) w := by kernel_rfl
theorem qW (w:w_):(zeroValue 225).run J3 w= .ok (p_ n_) w:=by kernel_rfl
theorem qM (Me:Int) (b:Nat) (m:df) (id:Int) (w:w_) (h:cF w b m) (hw:(Lit.int j_ id).wf=true):
  k_ J3 156 #[a_ #[i_ j_ Me,.map (o_ b)],i_ j_ id] w fun e w'=>e=r_ (b_ (cz m id).isSome)∧B_ w.heap.size w w':=by
 have hlk:=(h.below ((Kp _ w).alloc (Ki _) (c_ #[i_ j_ Me,.map (o_ b)] 144))).look underlying142 (qW _) hw true;simp only [if_true] at hlk;clear h hw
 go_enter func156,ntmps156
 exact z_
theorem wd (x:az) (w:w_) (hf:gX w x):k_ J3 278 #[a_ (cI x)] w fun e w'=>e=r_ (b_ (cU x))∧B_ w.heap.size w w':=by
 have HF:Hid (gX w x):=hf;clear hf;unfold cI;obtain ⟨id,shown,text⟩:=x;cases hp:bw text with
 | false=>
  have HP:Hid (bw text=false):=hp;clear hp
  go_enter func278,ntmps278
  go_wp2_with fail;refine (iM text _ HF.I).mono ?_;rintro e w1 ⟨rfl,hw1⟩;rw [HP.I];subst hw1;go_wp2;go_ret;exact ⟨al (by simp [cU,HP.I]),(Kp _ _).alloc (Ki _) _⟩
 | true=>
  have HP:Hid (bw text=true):=hp;clear hp;by_cases hes:text.toList= []
  all_goals
   have hes':([] =text.toList)=(text.toList= []):=propext ⟨fun h=>h.symm,fun h=>h.symm⟩;cases shown
  all_goals
   go_enter func278,ntmps278
   go_wp2_with fail;refine (iM text _ HF.I).mono ?_;rintro e w1 ⟨rfl,hw1⟩;rw [HP.I];subst hw1;go_wp2;go_ret;exact ⟨al (by simp [cU,HP.I,bI,hes]),(Kp _ _).alloc (Ki _) _⟩
end Go.Proofs.YtnlbiglljiopmaaGreatDoor

namespace Go.Proofs.YtnlbiglljiopmaaGreatDoor
open Go.RowKit
theorem pi {Me:Int} {m:df} {id:Int} {ok vA vB vC vD:Bool} (hA:(cz m id).isSome=vA) (hB:decide (Me≤(m.length:Int))=vB) (hC:cv id 1 1000=vC) (hD:ok=vD):iI Me m id ok=(!vA && !vB && vC && vD):=by
 subst hA hB hC hD;have e:decide ((m.length:Int) < Me)= !decide (Me≤(m.length:Int)):=by
  by_cases h:Me≤(m.length:Int)
  ·simp [h]
  ·simp [h,Int.not_le.1 h]
 simp [iI,e]
end Go.Proofs.YtnlbiglljiopmaaGreatDoor

namespace Go.Proofs
open Go.RowKit Go.Maps Go.Sort Go.Shelf
theorem Tryz.sortsA (m : Nat) : AnyZI.SortsIn J3 Tryz.sortedA_ren Fence.wide m :=
  ⟨fun blk off cap ss W hH hblk hsz => LO.2 (AnyM.slices_Sort_int Tryz.sortA blk off cap ss W hH hblk hsz),
   fun p cap W => LO.2 (AnyM.slices_Sort_int_none Tryz.sortA p cap W)⟩
namespace YtnlbiglljiopmaaGreatDoor
theorem oA : ∀ {l1 l2 : List Int}, l1.Perm l2 → l1.Pairwise (· ≤ ·) → l2.Pairwise (· ≤ ·) → l1 = l2
  | [], l2, hp, _, _ => (List.nil_perm.1 hp).symm
  | a :: t, [], hp, _, _ => absurd (List.perm_nil.1 hp) (by simp)
  | a :: t, b :: s, hp, h1, h2 => by
    obtain ⟨ha, ht⟩ := LM.1 h1;obtain ⟨hb, hs⟩ := LM.1 h2;have hab : a = b := by
      have m1 : a ∈ b :: s := hp.mem_iff.1 (by simp);have m2 : b ∈ a :: t := hp.mem_iff.2 (by simp);rcases Kt.1 m1 with e | m1
      · exact e
      · rcases Kt.1 m2 with e | m2
        · exact e.symm
        · have := ha b m2
          have := hb a m1;omega
    subst hab;rw [oA (List.perm_cons a |>.1 hp) ht hs]
theorem lU (m : df) : intKeys (gA m) = m.map (·.1) := by
  simp only [intKeys, gA, Lv];rfl
theorem jG {m : df} (h : zP m) {ss : List Int} (hp : ss.Perm (intKeys (gA m))) : ss.mergeSort (fun x y => decide (x ≤ y)) = m.map (·.1) := by
  rw [lU] at hp;refine oA ((List.mergeSort_perm _ _).trans hp) ?_ ?_
  · have := List.pairwise_mergeSort (le := fun x y : Int => decide (x ≤ y)) (fun a b c h1 h2 => by simp at *; omega) (fun a b => by simp; omega) ss
    exact this.imp (fun {a b} h => by simpa using h)
  · rw [List.pairwise_map]
    exact List.Pairwise.imp (fun {a b} h => by omega) h
theorem cr {w : w_} {base n size : Nat} {e : T_} {v : v_} {xs : List v_} (h : w.ownsRow base e size v n xs) : ∃ a cap, v =s_ a n cap ∧ Row w a xs := by
  obtain ⟨hl, h2⟩ := h;rcases h2 with ⟨rfl, rfl⟩ | ⟨g, cap, cur, rfl, hb, hg, h3, h4, h5, h6⟩
  · have : xs = [] := List.eq_nil_of_length_eq_zero (by simpa using hl)
    subst this;exact ⟨n_, 0, rfl, Row.nothing _ _⟩
  · refine ⟨o_ ⟨g, 0, n_⟩, cap, rfl, fun j u hu => ⟨g, rfl, ?_⟩⟩
    rw [cell_of_row w g j cur e (0, 0) hg];rw [← h6, List.getElem?_take] at hu
    split at hu
    · simpa using hu
    · cases hu
theorem cq {w : w_} {base base' n size : Nat} {e : T_} {v : v_} {xs : List v_} (h : w.ownsRow base e size v n xs) (hb : base' ≤ base) : w.ownsRow base' e size v n xs := by
  obtain ⟨hl, h2⟩ := h;refine ⟨hl, ?_⟩;rcases h2 with h2 | ⟨g, cap, cur, h1, h3, h4⟩
  · exact .inl h2
  · exact .inr ⟨g, cap, cur, h1, by omega, h4⟩
end YtnlbiglljiopmaaGreatDoor
end Go.Proofs

namespace Go.Proofs.YtnlbiglljiopmaaGreatDoor
open Go.RowKit
structure ol where
 id:Int
 next:Int
 bp:Nat
 bs:Nat
 be:Nat
 bb:Nat
 bf:Nat
 bq:Nat
def ol.cells (q:ol):Array v_:= #[i_ j_ q.id,i_ j_ q.next,i_ j_ 6,.map (o_ q.bp),i_ j_ 5,.map (o_ q.bs),i_ j_ 5,.map (o_ q.be),i_ j_ 5,.map (o_ q.bb),i_ j_ 5,.map (o_ q.bf),i_ j_ 5,.map (o_ q.bq)]
def fa (W:w_) (o:Nat) (q:ol):Prop:=W.heap[o]? =o_ (c_ q.cells 158)
theorem fa.below {W W':w_} {o:Nat} {q:ol} (h:fa W o q) (hb:B_ W.heap.size W W'):fa W' o q:=(hb.block o (J2.1 h).1).trans h
theorem fa.cell {W:w_} {o:Nat} {q:ol} (h:fa W o q) (i:Nat):W.cell? ⟨o,i,n_⟩=q.cells[i]? :=by
 unfold fa at h;simp [World.cell?,h]
structure fu (w W:w_) (o X:Nat) (q:ol) (x:ao) (ms me mb mf:df):Prop where
 opn:fa W o q
 box:W.heap[X]? =o_ (c_ (aX x) 100)
 ms:cF W q.bs ms
 me:cF W q.be me
 mb:cF W q.bb mb
 mf:cF W q.bf mf
 cd:B_ w.heap.size w W
theorem fu.below {w W W':w_} {o X:Nat} {q:ol} {x:ao} {ms me mb mf:df} (h:fu w W o X q x ms me mb mf) (hb:B_ W.heap.size W W'):fu w W' o X q x ms me mb mf:=
 ⟨h.opn.below hb,(hb.block _ (J2.1 h.box).1).trans h.box,h.ms.below hb,h.me.below hb,h.mb.below hb,h.mf.below hb,h.cd.trans (hb.mono h.cd.size)⟩
theorem fu.drew {w W:w_} {o X:Nat} {q:ol} {x:ao} {ms me mb mf:df} (h:fu w W o X q x ms me mb mf):fu w W.drew o X q x ms me mb mf:=h.below (Kp _ _).drew
def fw (ms me mb mf:df) (x:ao):Bool:=
 if x.Md=3 then (cz ms x.on).isSome else if x.Md=4 then (cz me x.on).isSome else if x.Md=5∨x.Md=6 then (cz mf x.on).isSome else if x.Md=7 then (cz mb x.on).isSome else true
end Go.Proofs.YtnlbiglljiopmaaGreatDoor

namespace Go.Proofs.YtnlbiglljiopmaaGreatDoor
open Go.RowKit
structure oV (w W:w_) (x:ao):Prop where
 box:W.heap[w.heap.size]? =o_ (c_ (aX x) 100)
 fit:eL W x
 cd:B_ w.heap.size w W
theorem oV.below {w W W':w_} {x:ao} (h:oV w W x) (hb:B_ W.heap.size W W'):oV w W' x:=
 ⟨(hb.block _ (J2.1 h.box).1).trans h.box,h.fit.below hb,h.cd.trans (hb.mono h.cd.size)⟩
theorem oV.start {w:w_} {x:ao} (h:eL w x):oV w (w.alloc (c_ (aX x) 100)) x:=by
 have b1:B_ w.heap.size w (w.alloc (c_ (aX x) 100)):=(Kp _ _).alloc (Ki _) _;exact ⟨Kj _ _,h.below b1,b1⟩
theorem p9 {s:ByteArray} (h:s.toList= []):bI s=true:=by simp [bI,h]
theorem sf {s:ByteArray} (h: ¬ s.toList= []):bI s=false:=by simp [bI,h]
theorem aA {p:Prop} (h:p):Hid p:=h
theorem SD {a b c d e f:Prop} (h1:a) (h2:b) (h3:c) (h4:d) (h5:e) (h6:f):a∧b∧c∧d∧e∧f:=⟨h1,h2,h3,h4,h5,h6⟩
theorem mu (a b:Int):(a == b)=decide (a=b):=by rw [Bool.eq_iff_iff]; simp
theorem Jh (a b c d:Bool):a=false∨(a=true∧b=false)∨(a=true∧b=true∧c=false)∨(a=true∧b=true∧c=true∧d=false)∨(a=true∧b=true∧c=true∧d=true):=by
 revert a b c d
 decide
theorem ways5 (a b c d e:Bool):a=false∨(a=true∧b=false)∨(a=true∧b=true∧c=false)∨(a=true∧b=true∧c=true∧d=false)∨(a=true∧b=true∧c=true∧d=true∧e=false)∨(a=true∧b=true∧c=true∧d=true∧e=true):=by
 revert a b c d e
 decide
theorem qL (a b c d:Bool):a=false∨(a=true∧b=false)∨(a=true∧b=true∧c=true)∨(a=true∧b=true∧c=false∧d=false)∨(a=true∧b=true∧c=false∧d=true):=by
 revert a b c d
 decide
theorem state0 {x:aD} (h:x.Md=0):bO x=((x.pc == 0) && (x.left == 0) && (x.Mg == 0) && (x.on == 0) && (x.RU == 0) && bI x.held):=by simp [bO,h,mu]
theorem Da (x:ao) (w:w_) (hf:eL w x) (hs:x.Md=0):k_ J3 263 #[a_ (aX x)] w fun e w'=>e=r_ (b_ (bO x.toaD))∧B_ w.heap.size w w':=by
 have HE:=aA (state0 hs);have HI:=aA (oV.start hf);clear hf;obtain ⟨⟨id,RX,prog,Md,pc,left,Mg,on,held,got,code,RU⟩,aY,bH⟩:=x;replace hs:Md=0:=hs;subst hs;obtain ⟨v0,h0⟩: ∃ v,(pc == 0)=v:=⟨_,rfl⟩
 obtain ⟨v1,h1⟩: ∃ v,(left == 0)=v:=⟨_,rfl⟩
 obtain ⟨v2,h2⟩: ∃ v,(Mg == 0)=v:=⟨_,rfl⟩
 obtain ⟨v3,h3⟩: ∃ v,(on == 0)=v:=⟨_,rfl⟩
 obtain ⟨v4,h4⟩: ∃ v,(RU == 0)=v:=⟨_,rfl⟩
 have HE:=aA (HE.I.trans (show _=(v0 && v1 && v2 && v3 && v4 && bI held) by simp only [h0,h1,h2,h3,h4]));obtain ⟨c0,c1,c2,c3,c4,c5,c6,c7,c8,c9,qF,pe⟩:=bo HI.I.box;unfold aX at *;rcases ways5 v0 v1 v2 v3 v4 with rfl | ⟨rfl,rfl⟩ | ⟨rfl,rfl,rfl⟩ | ⟨rfl,rfl,rfl,rfl⟩ | ⟨rfl,rfl,rfl,rfl,rfl⟩ | ⟨rfl,rfl,rfl,rfl,rfl⟩
 all_goals
  go_enter func263,ntmps263
  go_wp2;exact Zaf
theorem state1 {x:aD} (h:x.Md=1):bO x=(dU x && jJ x && (x.Mg == 0) && (x.on == 0) && bI x.held):=by simp [bO,h,mu]
theorem CL (x:ao) (w:w_) (hf:eL w x) (hs:x.Md=1):k_ J3 263 #[a_ (aX x)] w fun e w'=>e=r_ (b_ (bO x.toaD))∧B_ w.heap.size w w':=by
 have HE:=aA (state1 hs);have HI:=aA (oV.start hf);clear hf;obtain ⟨⟨id,RX,prog,Md,pc,left,Mg,on,held,got,code,RU⟩,aY,bH⟩:=x;replace hs:Md=1:=hs;subst hs;obtain ⟨v0,h0⟩: ∃ v,dU ⟨id,RX,prog,1,pc,left,Mg,on,held,got,code,RU⟩=v:=⟨_,rfl⟩
 obtain ⟨v1,h1⟩: ∃ v,jJ ⟨id,RX,prog,1,pc,left,Mg,on,held,got,code,RU⟩=v:=⟨_,rfl⟩
 obtain ⟨v2,h2⟩: ∃ v,(Mg == 0)=v:=⟨_,rfl⟩
 obtain ⟨v3,h3⟩: ∃ v,(on == 0)=v:=⟨_,rfl⟩
 have HE:=aA (HE.I.trans (show _=(v0 && v1 && v2 && v3 && bI held) by simp only [h0,h1,h2,h3]));have tc:=aA h0;clear h0;have I8:=aA h1;clear h1;obtain ⟨c0,c1,c2,c3,c4,c5,c6,c7,c8,c9,qF,pe⟩:=bo HI.I.box;unfold aX at *;rcases Jh v0 v1 v2 v3 with rfl | ⟨rfl,rfl⟩ | ⟨rfl,rfl,rfl⟩ | ⟨rfl,rfl,rfl,rfl⟩ | ⟨rfl,rfl,rfl,rfl⟩
 all_goals
  go_enter func263,ntmps263
  go_wp2_with (first | (go_at_call 191; refine (kn _ _ HI.I.fit.1.prog).mono ?_; rintro e w1 ⟨rfl,hb1⟩; have HI:=aA (HI.I.below hb1); obtain ⟨c0,c1,c2,c3,c4,c5,c6,c7,c8,c9,qF,pe⟩:=bo HI.I.box; clear hb1; rw [tc.I]) | (go_at_call 265; refine (CP _ _ HI.I.fit tc.I).mono ?_; rintro e w1 ⟨rfl,hb1⟩; have HI:=aA (HI.I.below hb1); obtain ⟨c0,c1,c2,c3,c4,c5,c6,c7,c8,c9,qF,pe⟩:=bo HI.I.box; clear hb1; rw [I8.I]));exact Zaf
theorem state2 {x:aD} (h:x.Md=2):bO x=(dU x && (x.left == 0) && cv x.Mg 1 2000000000 && (x.on == 0) && bI x.held):=by simp [bO,h,mu]
theorem Cw (x:ao) (w:w_) (hf:eL w x) (hs:x.Md=2):k_ J3 263 #[a_ (aX x)] w fun e w'=>e=r_ (b_ (bO x.toaD))∧B_ w.heap.size w w':=by
 have HE:=aA (state2 hs);have HI:=aA (oV.start hf);clear hf;obtain ⟨⟨id,RX,prog,Md,pc,left,Mg,on,held,got,code,RU⟩,aY,bH⟩:=x;replace hs:Md=2:=hs;subst hs;obtain ⟨v0,h0⟩: ∃ v,dU ⟨id,RX,prog,2,pc,left,Mg,on,held,got,code,RU⟩=v:=⟨_,rfl⟩
 obtain ⟨v1,h1⟩: ∃ v,(left == 0)=v:=⟨_,rfl⟩
 obtain ⟨v2,h2⟩: ∃ v,cv Mg 1 2000000000=v:=⟨_,rfl⟩
 obtain ⟨v3,h3⟩: ∃ v,(on == 0)=v:=⟨_,rfl⟩
 have HE:=aA (HE.I.trans (show _=(v0 && v1 && v2 && v3 && bI held) by simp only [h0,h1,h2,h3]));have tc:=aA h0;clear h0;have Hd:=aA h2;clear h2;obtain ⟨c0,c1,c2,c3,c4,c5,c6,c7,c8,c9,qF,pe⟩:=bo HI.I.box;unfold aX at *;rcases Jh v0 v1 v2 v3 with rfl | ⟨rfl,rfl⟩ | ⟨rfl,rfl,rfl⟩ | ⟨rfl,rfl,rfl,rfl⟩ | ⟨rfl,rfl,rfl,rfl⟩
 all_goals
  go_enter func263,ntmps263
  go_wp2_with (first | (go_at_call 191; refine (kn _ _ HI.I.fit.1.prog).mono ?_; rintro e w1 ⟨rfl,hb1⟩; have HI:=aA (HI.I.below hb1); obtain ⟨c0,c1,c2,c3,c4,c5,c6,c7,c8,c9,qF,pe⟩:=bo HI.I.box; clear hb1; rw [tc.I]) | (go_at_call 266; refine (kb Mg _).mono ?_; rintro e w1 ⟨rfl,hw1⟩; rw [Hd.I,hw1]; clear hw1 w1));exact Zaf
theorem state3 {x:aD} (h:x.Md=3):bO x=(dU x && (x.left == 0) && (cv x.Mg 1 2000000000 || (x.Mg == -1)) && bI x.held):=by simp [bO,h,mu,lh]
theorem CU (x:ao) (w:w_) (hf:eL w x) (hs:x.Md=3):k_ J3 263 #[a_ (aX x)] w fun e w'=>e=r_ (b_ (bO x.toaD))∧B_ w.heap.size w w':=by
 have HE:=aA (state3 hs);have HI:=aA (oV.start hf);clear hf;obtain ⟨⟨id,RX,prog,Md,pc,left,Mg,on,held,got,code,RU⟩,aY,bH⟩:=x;replace hs:Md=3:=hs;subst hs;obtain ⟨v0,h0⟩: ∃ v,dU ⟨id,RX,prog,3,pc,left,Mg,on,held,got,code,RU⟩=v:=⟨_,rfl⟩
 exact aa
theorem state4 {x:aD} (h:x.Md=4):bO x=(dU x && (x.left == 0) && (cv x.Mg 1 2000000000 || (x.Mg == -1)) && bI x.held):=by simp [bO,h,mu,lh]
theorem Cv (x:ao) (w:w_) (hf:eL w x) (hs:x.Md=4):k_ J3 263 #[a_ (aX x)] w fun e w'=>e=r_ (b_ (bO x.toaD))∧B_ w.heap.size w w':=by
 have HE:=aA (state4 hs);have HI:=aA (oV.start hf);clear hf;obtain ⟨⟨id,RX,prog,Md,pc,left,Mg,on,held,got,code,RU⟩,aY,bH⟩:=x;replace hs:Md=4:=hs;subst hs;obtain ⟨v0,h0⟩: ∃ v,dU ⟨id,RX,prog,4,pc,left,Mg,on,held,got,code,RU⟩=v:=⟨_,rfl⟩
 exact aa
theorem state5 {x:aD} (h:x.Md=5):bO x=(dU x && (x.left == 0) && (cv x.Mg 1 2000000000 || (x.Mg == -1))):=by simp [bO,h,mu,lh]
theorem Dp (x:ao) (w:w_) (hf:eL w x) (hs:x.Md=5):k_ J3 263 #[a_ (aX x)] w fun e w'=>e=r_ (b_ (bO x.toaD))∧B_ w.heap.size w w':=by
 have HE:=aA (state5 hs);have HI:=aA (oV.start hf);clear hf;obtain ⟨⟨id,RX,prog,Md,pc,left,Mg,on,held,got,code,RU⟩,aY,bH⟩:=x;replace hs:Md=5:=hs;subst hs;obtain ⟨v0,h0⟩: ∃ v,dU ⟨id,RX,prog,5,pc,left,Mg,on,held,got,code,RU⟩=v:=⟨_,rfl⟩
 obtain ⟨v1,h1⟩: ∃ v,(left == 0)=v:=⟨_,rfl⟩
 obtain ⟨v2,h2⟩: ∃ v,cv Mg 1 2000000000=v:=⟨_,rfl⟩
 obtain ⟨v3,h3⟩: ∃ v,(Mg == -1)=v:=⟨_,rfl⟩
 have HE:=aA (HE.I.trans (show _=(v0 && v1 && (v2 || v3)) by simp only [h0,h1,h2,h3]));have tc:=aA h0;clear h0;have Hd:=aA h2;clear h2;obtain ⟨c0,c1,c2,c3,c4,c5,c6,c7,c8,c9,qF,pe⟩:=bo HI.I.box;unfold aX at *;rcases qL v0 v1 v2 v3 with rfl | ⟨rfl,rfl⟩ | ⟨rfl,rfl,rfl⟩ | ⟨rfl,rfl,rfl,rfl⟩ | ⟨rfl,rfl,rfl,rfl⟩
 all_goals
  go_enter func263,ntmps263
  go_wp2_with (first | (go_at_call 191; refine (kn _ _ HI.I.fit.1.prog).mono ?_; rintro e w1 ⟨rfl,hb1⟩; have HI:=aA (HI.I.below hb1); obtain ⟨c0,c1,c2,c3,c4,c5,c6,c7,c8,c9,qF,pe⟩:=bo HI.I.box; clear hb1; rw [tc.I]) | (go_at_call 266; refine (kb Mg _).mono ?_; rintro e w1 ⟨rfl,hw1⟩; rw [Hd.I,hw1]; clear hw1 w1));go_ret;exact ⟨al (by rw [HE.I]; simp),HI.I.cd⟩
theorem state6 {x:aD} (h:x.Md=6):bO x=(dU x && (x.left == 0) && (cv x.Mg 1 2000000000 || (x.Mg == -1)) && bI x.held):=by simp [bO,h,mu,lh]
theorem DC (x:ao) (w:w_) (hf:eL w x) (hs:x.Md=6):k_ J3 263 #[a_ (aX x)] w fun e w'=>e=r_ (b_ (bO x.toaD))∧B_ w.heap.size w w':=by
 have HE:=aA (state6 hs);have HI:=aA (oV.start hf);clear hf;obtain ⟨⟨id,RX,prog,Md,pc,left,Mg,on,held,got,code,RU⟩,aY,bH⟩:=x;replace hs:Md=6:=hs;subst hs;obtain ⟨v0,h0⟩: ∃ v,dU ⟨id,RX,prog,6,pc,left,Mg,on,held,got,code,RU⟩=v:=⟨_,rfl⟩
 exact aa
theorem state7 {x:aD} (h:x.Md=7):bO x=(dU x && (x.left == 0) && (cv x.Mg 1 2000000000 || (x.Mg == -1)) && bI x.held):=by simp [bO,h,mu,lh]
theorem Db (x:ao) (w:w_) (hf:eL w x) (hs:x.Md=7):k_ J3 263 #[a_ (aX x)] w fun e w'=>e=r_ (b_ (bO x.toaD))∧B_ w.heap.size w w':=by
 have HE:=aA (state7 hs);have HI:=aA (oV.start hf);clear hf;obtain ⟨⟨id,RX,prog,Md,pc,left,Mg,on,held,got,code,RU⟩,aY,bH⟩:=x;replace hs:Md=7:=hs;subst hs;obtain ⟨v0,h0⟩: ∃ v,dU ⟨id,RX,prog,7,pc,left,Mg,on,held,got,code,RU⟩=v:=⟨_,rfl⟩
 exact aa
theorem zu (x:ao) (w:w_) (h0: ¬ x.Md=0) (h1: ¬ x.Md=1) (h2: ¬ x.Md=2) (h3: ¬ x.Md=3) (h4: ¬ x.Md=4) (h5: ¬ x.Md=5) (h6: ¬ x.Md=6) (h7: ¬ x.Md=7):k_ J3 263 #[a_ (aX x)] w fun e w'=>e=r_ (b_ (bO x.toaD))∧B_ w.heap.size w w':=by
 have HV:Hid (bO x.toaD=false):=by show bO x.toaD=false; simp [bO,h0,h1,h2,h3,h4,h5,h6,h7]
 have s0:(x.Md == 0)=false:=by simp [h0]
 have s1:(x.Md == 1)=false:=by simp [h1]
 have s2:(x.Md == 2)=false:=by simp [h2]
 have s3:(x.Md == 3)=false:=by simp [h3]
 have s4:(x.Md == 4)=false:=by simp [h4]
 have s5:(x.Md == 5)=false:=by simp [h5]
 have s6:(x.Md == 6)=false:=by simp [h6]
 have s7:(x.Md == 7)=false:=by simp [h7]
 clear h0 h1 h2 h3 h4 h5 h6 h7;unfold aX
 go_enter func263,ntmps263
 exact ZaS
theorem Am (x:ao) (w:w_) (hf:eL w x):k_ J3 263 #[a_ (aX x)] w fun e w'=>e=r_ (b_ (bO x.toaD))∧B_ w.heap.size w w':=by
 by_cases h0:x.Md=0
 ·exact Da x w hf h0
 by_cases h1:x.Md=1
 ·exact CL x w hf h1
 by_cases h2:x.Md=2
 ·exact Cw x w hf h2
 by_cases h3:x.Md=3
 ·exact CU x w hf h3
 by_cases h4:x.Md=4
 ·exact Cv x w hf h4
 by_cases h5:x.Md=5
 ·exact Dp x w hf h5
 by_cases h6:x.Md=6
 ·exact DC x w hf h6
 by_cases h7:x.Md=7
 ·exact Db x w hf h7
 exact zu x w h0 h1 h2 h3 h4 h5 h6 h7
end Go.Proofs.YtnlbiglljiopmaaGreatDoor

namespace Go.Proofs.YtnlbiglljiopmaaGreatDoor
open Go.RowKit
attribute [local go_sem ↓] Kc Kd
def yk (w:w_) (b:Nat) (m:df) (Me:Int) (x:bD) (w':w_):Prop:=(w'.cell? ⟨w.heap.size,0,n_⟩=o_ (i_ j_ Me)∧w'.cell? ⟨w.heap.size,1,n_⟩=o_ (.map (o_ b))∧(∀ ty,(Builtin.len_ #[132] ty #[.map (o_ b)]).run J3 w'= .ok (i_ j_ (m.length:Int)) w')∧w'.cell? ⟨w.heap.size+1,0,n_⟩=o_ (i_ j_ x.id)∧w'.cell? ⟨w.heap.size+1,1,n_⟩=o_ (i_ j_ x.n)∧w'.cell? ⟨w.heap.size+1,2,n_⟩=o_ (i_ j_ x.max))∧Hid (fe w w' w.heap.size (w.heap.size+1) b m Me (eH x) 105 134)∧Hid (kU w' x)
theorem jz {w w':w_} {b:Nat} {m:df} {Me:Int} {x:bD} (h:fe w w' w.heap.size (w.heap.size+1) b m Me (eH x) 105 134) (hf:kU w' x):yk w b m Me x w':=
 ⟨⟨h.cells.1,h.cells.2,fun ty=>h.mp.len underlying132 ty,gm h.bx⟩,h,hf⟩
theorem tU (Me:Int) (b:Nat) (m:df) (x:bD) (w:w_) (h:cF w b m) (hw:(Lit.int j_ x.id).wf=true) (hm:m.length≤1048576) (hf:kU w x):
  k_ J3 115 #[a_ #[i_ j_ Me,.map (o_ b)],a_ (eH x)] w fun e w'=>dD w b m (iI Me m x.id (gw x)) x.id (eH x) 105 e w':=by
 have HF:Hid (fe w ((w.alloc (c_ #[i_ j_ Me,.map (o_ b)] 134)).alloc (c_ (eH x) 105)) w.heap.size (w.heap.size+1) b m Me (eH x) 105 134):=fe.start w h Me _ _ _;have HW:Hid ((Lit.int j_ x.id).wf=true∧ ¬ w.heap.size+1=b∧m.length≤1048576):=⟨hw,by have:=h.lt; omega,hm⟩
 have HI:Hid (kU ((w.alloc (c_ #[i_ j_ Me,.map (o_ b)] 134)).alloc (c_ (eH x) 105)) x):=hf.below ((((Kp _ w).alloc (Ki _) _)).alloc (by simp) _);have hmn:=pb;have hmr:=wW;obtain ⟨s0,s1⟩:=HF.I.cells;obtain ⟨c0,c1,c2⟩:=gm HF.I.bx;clear h hw hf hm;unfold eH at *
 go_enter func115,ntmps115
 go_wp2_with fail;clear s0 s1 c0 c1 c2;obtain ⟨vA,hA⟩: ∃ v,(cz m x.id).isSome=v:=⟨_,rfl⟩
 obtain ⟨vB,F6⟩: ∃ v,decide (Me≤(m.length:Int))=v:=⟨_,rfl⟩
 obtain ⟨vC,hC⟩: ∃ v,cv x.id 1 1000=v:=⟨_,rfl⟩
 obtain ⟨vD,hD⟩: ∃ v,gw x=v:=⟨_,rfl⟩
 have HL:Hid (iI Me m x.id (gw x)=(!vA && !vB && vC && vD)∧(vA=false→cz m x.id=n_)):=⟨pi hA F6 hC hD,fun e=>PX.1 (PY.1 (hA.trans e))⟩
 have HA:Hid (Ending.returned (b_ (cz m x.id).isSome)=r_ (b_ vA)):=al hA;have HC:Hid (Ending.returned (b_ (cv x.id 1 1000))=r_ (b_ vC)):=al hC;have HD:Hid (Ending.returned (b_ (gw x))=r_ (b_ vD)):=al hD;clear hA hC hD;refine aT (yk w b m Me x) ZcR (jz HF.I.drew (HI.I.below (Kp _ _).drew)) ?_
 iterate 3 (refine agj ?_)
 (refine cl (i_ j_ x.id) 271 #[a_ #[i_ j_ x.id,i_ j_ x.n,i_ j_ x.max]] ?_ ?_ ?_; (intro w0 hS0; obtain ⟨⟨q0,q1,q2,q3,q4,q5⟩,hH⟩:=hS0; go_simp; try with_reducible rfl); (intro w0 hS0; refine (jv x w0).mono ?_; rintro e w2 ⟨rfl,hb2⟩; exact ⟨rfl,jz (hS0.2.1.I.below hb2) (hS0.2.2.I.below hb2)⟩); simp only [pt,sb,s0,s1])
 (refine cl (b_ vA) 154 #[a_ #[i_ j_ Me,.map (o_ b)],i_ j_ x.id] ?_ ?_ ?_; (intro w0 hS0; obtain ⟨⟨q0,q1,q2,q3,q4,q5⟩,hH⟩:=hS0; go_simp; try with_reducible rfl); (intro w0 hS0; refine (tZ Me b m x.id w0 hS0.2.1.I.mp HW.I.1).mono ?_; rintro e w2 ⟨rfl,hb2⟩; exact ⟨HA.I,jz (hS0.2.1.I.below hb2) (hS0.2.2.I.below hb2)⟩); simp only [pt,sb,s0,s1])
 (refine agj ?_)
 rcases vA.eq_false_or_eq_true with rfl | rfl
 focus iterate 6 (refine nl ?_; simp only [pt,sb,s0,s1])
 rotate_left
 focus iterate 6 (refine agj ?_)
 all_goals iterate 2 (refine agj ?_)
 rcases vB.eq_false_or_eq_true with rfl | rfl
 focus iterate 5 (refine nl ?_; simp only [pt,sb,s0,s1])
 rotate_left
 focus
  iterate 2 (refine agj ?_)
  (refine cl (i_ j_ x.id) 271 #[a_ #[i_ j_ x.id,i_ j_ x.n,i_ j_ x.max]] ?_ ?_ ?_; (intro w0 hS0; obtain ⟨⟨q0,q1,q2,q3,q4,q5⟩,hH⟩:=hS0; go_simp; try with_reducible rfl); (intro w0 hS0; refine (jv x w0).mono ?_; rintro e w2 ⟨rfl,hb2⟩; exact ⟨rfl,jz (hS0.2.1.I.below hb2) (hS0.2.2.I.below hb2)⟩); simp only [pt,sb,s0,s1])
  (refine cl (b_ vC) 153 #[i_ j_ x.id] ?_ ?_ ?_; (intro w0 hS0; obtain ⟨⟨q0,q1,q2,q3,q4,q5⟩,hH⟩:=hS0; go_simp; try with_reducible rfl); (intro w0 hS0; refine (eW x.id w0).mono ?_; rintro e w2 ⟨rfl,rfl⟩; exact ⟨HC.I,hS0⟩); simp only [pt,sb,s0,s1])
  (refine agj ?_)
 rotate_left
 focus iterate 5 (refine nl ?_; simp only [pt,sb,s0,s1])
 all_goals iterate 2 (refine agj ?_)
 rotate_right
 rcases vC.eq_false_or_eq_true with rfl | rfl
 focus
  iterate 2 (refine agj ?_)
  (refine cl (b_ vD) 272 #[a_ #[i_ j_ x.id,i_ j_ x.n,i_ j_ x.max]] ?_ ?_ ?_; (intro w0 hS0; obtain ⟨⟨q0,q1,q2,q3,q4,q5⟩,hH⟩:=hS0; go_simp; try with_reducible rfl); (intro w0 hS0; refine (ye x w0 hS0.2.2.I).mono ?_; rintro e w2 ⟨rfl,hb2⟩; exact ⟨HD.I,jz (hS0.2.1.I.below hb2) (hS0.2.2.I.below hb2)⟩); simp only [pt,sb,s0,s1])
  (refine agj ?_)
 rotate_left
 focus iterate 4 (refine nl ?_; simp only [pt,sb,s0,s1])
 rotate_left
 focus iterate 4 (refine nl ?_; simp only [pt,sb,s0,s1])
 rotate_left
 focus iterate 4 (refine nl ?_; simp only [pt,sb,s0,s1])
 rotate_left
 all_goals (refine agj ?_)
 all_goals refine bk ZcR ?_ _
 all_goals intro w1 cm
 rcases vD.eq_false_or_eq_true with rfl | rfl;rotate_left
 iterate 4
  exact ZaR
 go_wp2_with fail;refine eD (yk w b m Me x) 5 ZcR (jz cm.2.1.I.drew (cm.2.2.I.below (Kp _ _).drew)) ?_
 iterate 4 (refine ly 6 (v:= ?_) (o_ _) rfl rfl ZcR (fun _ _ _ h=>h) (bV ZcR ?_) ?_; rotate_left; (intro w0 hS0; obtain ⟨⟨q0,q1,q2,q3,q4,q5⟩,hH⟩:=hS0; go_simp; try with_reducible rfl); simp only [pt,sb,s0,s1])
 refine ly 6 (v:=i_ j_ x.id) (o_ _) rfl rfl ZcR (fun _ _ _ h=>h) (iZ (f:=271) (args:= #[a_ #[i_ j_ x.id,i_ j_ x.n,i_ j_ x.max]]) ZcR ?_ ?_) ?_
 ·exact ZcD
 ·intro w0 hS0
  refine (jv x w0).mono ?_;rintro e w2 ⟨rfl,hb2⟩;exact ⟨rfl,jz (hS0.2.1.I.below hb2) (hS0.2.2.I.below hb2)⟩
 simp only [pt,sb,s0,s1];refine fL rfl ZcR ZcR ZcR ?_;intro w1 cm;obtain ⟨w2,hput,hend⟩:=cm.2.1.I.put (by omega) underlying132 HW.I.1 (HL.I.2 (by trivial)) HW.I.2.2 HW.I.2.1;have HE:Hid (dD w b m true x.id (eH x) 105 (r_ (b_ true)) w2):=hend;exact Zao
end Go.Proofs.YtnlbiglljiopmaaGreatDoor

namespace Go.Proofs.YtnlbiglljiopmaaGreatDoor
open Go.RowKit
attribute [local go_sem ↓] Kc Kd
def sk (w:w_) (b:Nat) (m:df) (Me:Int) (x:aB) (w':w_):Prop:=(w'.cell? ⟨w.heap.size,0,n_⟩=o_ (i_ j_ Me)∧w'.cell? ⟨w.heap.size,1,n_⟩=o_ (.map (o_ b))∧(∀ ty,(Builtin.len_ #[137] ty #[.map (o_ b)]).run J3 w'= .ok (i_ j_ (m.length:Int)) w')∧w'.cell? ⟨w.heap.size+1,0,n_⟩=o_ (i_ j_ x.id)∧w'.cell? ⟨w.heap.size+1,1,n_⟩=o_ (b_ x.up))∧Hid (fe w w' w.heap.size (w.heap.size+1) b m Me (cG x) 109 139)∧Hid (ix w' x)
theorem ik {w w':w_} {b:Nat} {m:df} {Me:Int} {x:aB} (h:fe w w' w.heap.size (w.heap.size+1) b m Me (cG x) 109 139) (hf:ix w' x):sk w b m Me x w':=
 ⟨⟨h.cells.1,h.cells.2,fun ty=>h.mp.len underlying137 ty,kF h.bx⟩,h,hf⟩
theorem rC (Me:Int) (b:Nat) (m:df) (x:aB) (w:w_) (h:cF w b m) (hw:(Lit.int j_ x.id).wf=true) (hm:m.length≤1048576) (hf:ix w x):
  k_ J3 116 #[a_ #[i_ j_ Me,.map (o_ b)],a_ (cG x)] w fun e w'=>dD w b m (iI Me m x.id (ey x)) x.id (cG x) 109 e w':=by
 have HF:Hid (fe w ((w.alloc (c_ #[i_ j_ Me,.map (o_ b)] 139)).alloc (c_ (cG x) 109)) w.heap.size (w.heap.size+1) b m Me (cG x) 109 139):=fe.start w h Me _ _ _;have HW:Hid ((Lit.int j_ x.id).wf=true∧ ¬ w.heap.size+1=b∧m.length≤1048576):=⟨hw,by have:=h.lt; omega,hm⟩
 have HI:Hid (ix ((w.alloc (c_ #[i_ j_ Me,.map (o_ b)] 139)).alloc (c_ (cG x) 109)) x):=hf.below ((((Kp _ w).alloc (Ki _) _)).alloc (by simp) _);have hmn:=mT;have hmr:=tp;obtain ⟨s0,s1⟩:=HF.I.cells;obtain ⟨c0,c1⟩:=kF HF.I.bx;clear h hw hf hm;unfold cG at *
 go_enter func116,ntmps116
 go_wp2_with fail;clear s0 s1 c0 c1;obtain ⟨vA,hA⟩: ∃ v,(cz m x.id).isSome=v:=⟨_,rfl⟩
 obtain ⟨vB,F6⟩: ∃ v,decide (Me≤(m.length:Int))=v:=⟨_,rfl⟩
 obtain ⟨vC,hC⟩: ∃ v,cv x.id 1 1000=v:=⟨_,rfl⟩
 obtain ⟨vD,hD⟩: ∃ v,ey x=v:=⟨_,rfl⟩
 have HL:Hid (iI Me m x.id (ey x)=(!vA && !vB && vC && vD)∧(vA=false→cz m x.id=n_)):=⟨pi hA F6 hC hD,fun e=>PX.1 (PY.1 (hA.trans e))⟩
 have HA:Hid (Ending.returned (b_ (cz m x.id).isSome)=r_ (b_ vA)):=al hA;have HC:Hid (Ending.returned (b_ (cv x.id 1 1000))=r_ (b_ vC)):=al hC;have HD:Hid (Ending.returned (b_ (ey x))=r_ (b_ vD)):=al hD;clear hA hC hD;refine aT (sk w b m Me x) ZcR (ik HF.I.drew (HI.I.below (Kp _ _).drew)) ?_
 iterate 3 (refine agj ?_)
 (refine cl (i_ j_ x.id) 274 #[a_ #[i_ j_ x.id,b_ x.up]] ?_ ?_ ?_; (intro w0 hS0; obtain ⟨⟨q0,q1,q2,q3,q4⟩,hH⟩:=hS0; go_simp; try with_reducible rfl); (intro w0 hS0; refine (iw x w0).mono ?_; rintro e w2 ⟨rfl,hb2⟩; exact ⟨rfl,ik (hS0.2.1.I.below hb2) (hS0.2.2.I.below hb2)⟩); simp only [pt,sb,s0,s1])
 (refine cl (b_ vA) 155 #[a_ #[i_ j_ Me,.map (o_ b)],i_ j_ x.id] ?_ ?_ ?_; (intro w0 hS0; obtain ⟨⟨q0,q1,q2,q3,q4⟩,hH⟩:=hS0; go_simp; try with_reducible rfl); (intro w0 hS0; refine (rj Me b m x.id w0 hS0.2.1.I.mp HW.I.1).mono ?_; rintro e w2 ⟨rfl,hb2⟩; exact ⟨HA.I,ik (hS0.2.1.I.below hb2) (hS0.2.2.I.below hb2)⟩); simp only [pt,sb,s0,s1])
 (refine agj ?_)
 rcases vA.eq_false_or_eq_true with rfl | rfl
 focus iterate 6 (refine nl ?_; simp only [pt,sb,s0,s1])
 rotate_left
 focus iterate 6 (refine agj ?_)
 all_goals iterate 2 (refine agj ?_)
 rcases vB.eq_false_or_eq_true with rfl | rfl
 focus iterate 5 (refine nl ?_; simp only [pt,sb,s0,s1])
 rotate_left
 focus
  iterate 2 (refine agj ?_)
  (refine cl (i_ j_ x.id) 274 #[a_ #[i_ j_ x.id,b_ x.up]] ?_ ?_ ?_; (intro w0 hS0; obtain ⟨⟨q0,q1,q2,q3,q4⟩,hH⟩:=hS0; go_simp; try with_reducible rfl); (intro w0 hS0; refine (iw x w0).mono ?_; rintro e w2 ⟨rfl,hb2⟩; exact ⟨rfl,ik (hS0.2.1.I.below hb2) (hS0.2.2.I.below hb2)⟩); simp only [pt,sb,s0,s1])
  (refine cl (b_ vC) 153 #[i_ j_ x.id] ?_ ?_ ?_; (intro w0 hS0; obtain ⟨⟨q0,q1,q2,q3,q4⟩,hH⟩:=hS0; go_simp; try with_reducible rfl); (intro w0 hS0; refine (eW x.id w0).mono ?_; rintro e w2 ⟨rfl,rfl⟩; exact ⟨HC.I,hS0⟩); simp only [pt,sb,s0,s1])
  (refine agj ?_)
 rotate_left
 focus iterate 5 (refine nl ?_; simp only [pt,sb,s0,s1])
 all_goals iterate 2 (refine agj ?_)
 rotate_right
 rcases vC.eq_false_or_eq_true with rfl | rfl
 focus
  iterate 2 (refine agj ?_)
  (refine cl (b_ vD) 275 #[a_ #[i_ j_ x.id,b_ x.up]] ?_ ?_ ?_; (intro w0 hS0; obtain ⟨⟨q0,q1,q2,q3,q4⟩,hH⟩:=hS0; go_simp; try with_reducible rfl); (intro w0 hS0; refine (tX x w0 hS0.2.2.I).mono ?_; rintro e w2 ⟨rfl,hb2⟩; exact ⟨HD.I,ik (hS0.2.1.I.below hb2) (hS0.2.2.I.below hb2)⟩); simp only [pt,sb,s0,s1])
  (refine agj ?_)
 rotate_left
 focus iterate 4 (refine nl ?_; simp only [pt,sb,s0,s1])
 rotate_left
 focus iterate 4 (refine nl ?_; simp only [pt,sb,s0,s1])
 rotate_left
 focus iterate 4 (refine nl ?_; simp only [pt,sb,s0,s1])
 rotate_left
 all_goals (refine agj ?_)
 all_goals refine bk ZcR ?_ _
 all_goals intro w1 cm
 rcases vD.eq_false_or_eq_true with rfl | rfl;rotate_left
 iterate 4
  exact ZaR
 go_wp2_with fail;refine eD (sk w b m Me x) 5 ZcR (ik cm.2.1.I.drew (cm.2.2.I.below (Kp _ _).drew)) ?_
 iterate 4 (refine ly 6 (v:= ?_) (o_ _) rfl rfl ZcR (fun _ _ _ h=>h) (bV ZcR ?_) ?_; rotate_left; (intro w0 hS0; obtain ⟨⟨q0,q1,q2,q3,q4⟩,hH⟩:=hS0; go_simp; try with_reducible rfl); simp only [pt,sb,s0,s1])
 refine ly 6 (v:=i_ j_ x.id) (o_ _) rfl rfl ZcR (fun _ _ _ h=>h) (iZ (f:=274) (args:= #[a_ #[i_ j_ x.id,b_ x.up]]) ZcR ?_ ?_) ?_
 ·intro w0 hS0
  obtain ⟨⟨q0,q1,q2,q3,q4⟩,hH⟩:=hS0
  exact wl
 ·intro w0 hS0
  refine (iw x w0).mono ?_;rintro e w2 ⟨rfl,hb2⟩;exact ⟨rfl,ik (hS0.2.1.I.below hb2) (hS0.2.2.I.below hb2)⟩
 simp only [pt,sb,s0,s1];refine fL rfl ZcR ZcR ZcR ?_;intro w1 cm;obtain ⟨w2,hput,hend⟩:=cm.2.1.I.put (by omega) underlying137 HW.I.1 (HL.I.2 (by trivial)) HW.I.2.2 HW.I.2.1;have HE:Hid (dD w b m true x.id (cG x) 109 (r_ (b_ true)) w2):=hend;exact Zao
end Go.Proofs.YtnlbiglljiopmaaGreatDoor

namespace Go.Proofs.YtnlbiglljiopmaaGreatDoor
open Go.RowKit
attribute [local go_sem ↓] Kc Kd
def rP (w:w_) (b:Nat) (m:df) (Me:Int) (x:az) (w':w_):Prop:=(w'.cell? ⟨w.heap.size,0,n_⟩=o_ (i_ j_ Me)∧w'.cell? ⟨w.heap.size,1,n_⟩=o_ (.map (o_ b))∧(∀ ty,(Builtin.len_ #[142] ty #[.map (o_ b)]).run J3 w'= .ok (i_ j_ (m.length:Int)) w')∧w'.cell? ⟨w.heap.size+1,0,n_⟩=o_ (i_ j_ x.id)∧w'.cell? ⟨w.heap.size+1,1,n_⟩=o_ (b_ x.shown)∧w'.cell? ⟨w.heap.size+1,2,n_⟩=o_ (t_ x.text))∧Hid (fe w w' w.heap.size (w.heap.size+1) b m Me (cI x) 112 144)∧Hid (gX w' x)
theorem ii {w w':w_} {b:Nat} {m:df} {Me:Int} {x:az} (h:fe w w' w.heap.size (w.heap.size+1) b m Me (cI x) 112 144) (hf:gX w' x):rP w b m Me x w':=
 ⟨⟨h.cells.1,h.cells.2,fun ty=>h.mp.len underlying142 ty,kJ h.bx⟩,h,hf⟩
theorem rr (Me:Int) (b:Nat) (m:df) (x:az) (w:w_) (h:cF w b m) (hw:(Lit.int j_ x.id).wf=true) (hm:m.length≤1048576) (hf:gX w x):
  k_ J3 117 #[a_ #[i_ j_ Me,.map (o_ b)],a_ (cI x)] w fun e w'=>dD w b m (iI Me m x.id (cU x)) x.id (cI x) 112 e w':=by
 have HF:Hid (fe w ((w.alloc (c_ #[i_ j_ Me,.map (o_ b)] 144)).alloc (c_ (cI x) 112)) w.heap.size (w.heap.size+1) b m Me (cI x) 112 144):=fe.start w h Me _ _ _;have HW:Hid ((Lit.int j_ x.id).wf=true∧ ¬ w.heap.size+1=b∧m.length≤1048576):=⟨hw,by have:=h.lt; omega,hm⟩
 have HI:Hid (gX ((w.alloc (c_ #[i_ j_ Me,.map (o_ b)] 144)).alloc (c_ (cI x) 112)) x):=hf.below ((((Kp _ w).alloc (Ki _) _)).alloc (by simp) _);have hmn:=nr;have hmr:=tq;obtain ⟨s0,s1⟩:=HF.I.cells;obtain ⟨c0,c1,c2⟩:=kJ HF.I.bx;clear h hw hf hm;unfold cI at *
 go_enter func117,ntmps117
 go_wp2_with fail;clear s0 s1 c0 c1 c2;obtain ⟨vA,hA⟩: ∃ v,(cz m x.id).isSome=v:=⟨_,rfl⟩
 obtain ⟨vB,F6⟩: ∃ v,decide (Me≤(m.length:Int))=v:=⟨_,rfl⟩
 obtain ⟨vC,hC⟩: ∃ v,cv x.id 1 1000=v:=⟨_,rfl⟩
 obtain ⟨vD,hD⟩: ∃ v,cU x=v:=⟨_,rfl⟩
 have HL:Hid (iI Me m x.id (cU x)=(!vA && !vB && vC && vD)∧(vA=false→cz m x.id=n_)):=⟨pi hA F6 hC hD,fun e=>PX.1 (PY.1 (hA.trans e))⟩
 have HA:Hid (Ending.returned (b_ (cz m x.id).isSome)=r_ (b_ vA)):=al hA;have HC:Hid (Ending.returned (b_ (cv x.id 1 1000))=r_ (b_ vC)):=al hC;have HD:Hid (Ending.returned (b_ (cU x))=r_ (b_ vD)):=al hD;clear hA hC hD;refine aT (rP w b m Me x) ZcR (ii HF.I.drew (HI.I.below (Kp _ _).drew)) ?_
 iterate 3 (refine agj ?_)
 (refine cl (i_ j_ x.id) 277 #[a_ #[i_ j_ x.id,b_ x.shown,t_ x.text]] ?_ ?_ ?_; (intro w0 hS0; obtain ⟨⟨q0,q1,q2,q3,q4,q5⟩,hH⟩:=hS0; go_simp; try with_reducible rfl); (intro w0 hS0; refine (iq x w0).mono ?_; rintro e w2 ⟨rfl,hb2⟩; exact ⟨rfl,ii (hS0.2.1.I.below hb2) (hS0.2.2.I.below hb2)⟩); simp only [pt,sb,s0,s1])
 (refine cl (b_ vA) 156 #[a_ #[i_ j_ Me,.map (o_ b)],i_ j_ x.id] ?_ ?_ ?_; (intro w0 hS0; obtain ⟨⟨q0,q1,q2,q3,q4,q5⟩,hH⟩:=hS0; go_simp; try with_reducible rfl); (intro w0 hS0; refine (qM Me b m x.id w0 hS0.2.1.I.mp HW.I.1).mono ?_; rintro e w2 ⟨rfl,hb2⟩; exact ⟨HA.I,ii (hS0.2.1.I.below hb2) (hS0.2.2.I.below hb2)⟩); simp only [pt,sb,s0,s1])
 (refine agj ?_)
 rcases vA.eq_false_or_eq_true with rfl | rfl
 focus iterate 6 (refine nl ?_; simp only [pt,sb,s0,s1])
 rotate_left
 focus iterate 6 (refine agj ?_)
 all_goals iterate 2 (refine agj ?_)
 rcases vB.eq_false_or_eq_true with rfl | rfl
 focus iterate 5 (refine nl ?_; simp only [pt,sb,s0,s1])
 rotate_left
 focus
  iterate 2 (refine agj ?_)
  (refine cl (i_ j_ x.id) 277 #[a_ #[i_ j_ x.id,b_ x.shown,t_ x.text]] ?_ ?_ ?_; (intro w0 hS0; obtain ⟨⟨q0,q1,q2,q3,q4,q5⟩,hH⟩:=hS0; go_simp; try with_reducible rfl); (intro w0 hS0; refine (iq x w0).mono ?_; rintro e w2 ⟨rfl,hb2⟩; exact ⟨rfl,ii (hS0.2.1.I.below hb2) (hS0.2.2.I.below hb2)⟩); simp only [pt,sb,s0,s1])
  (refine cl (b_ vC) 153 #[i_ j_ x.id] ?_ ?_ ?_; (intro w0 hS0; obtain ⟨⟨q0,q1,q2,q3,q4,q5⟩,hH⟩:=hS0; go_simp; try with_reducible rfl); (intro w0 hS0; refine (eW x.id w0).mono ?_; rintro e w2 ⟨rfl,rfl⟩; exact ⟨HC.I,hS0⟩); simp only [pt,sb,s0,s1])
  (refine agj ?_)
 rotate_left
 focus iterate 5 (refine nl ?_; simp only [pt,sb,s0,s1])
 all_goals iterate 2 (refine agj ?_)
 rotate_right
 rcases vC.eq_false_or_eq_true with rfl | rfl
 focus
  iterate 2 (refine agj ?_)
  (refine cl (b_ vD) 278 #[a_ #[i_ j_ x.id,b_ x.shown,t_ x.text]] ?_ ?_ ?_; (intro w0 hS0; obtain ⟨⟨q0,q1,q2,q3,q4,q5⟩,hH⟩:=hS0; go_simp; try with_reducible rfl); (intro w0 hS0; refine (wd x w0 hS0.2.2.I).mono ?_; rintro e w2 ⟨rfl,hb2⟩; exact ⟨HD.I,ii (hS0.2.1.I.below hb2) (hS0.2.2.I.below hb2)⟩); simp only [pt,sb,s0,s1])
  (refine agj ?_)
 rotate_left
 focus iterate 4 (refine nl ?_; simp only [pt,sb,s0,s1])
 rotate_left
 focus iterate 4 (refine nl ?_; simp only [pt,sb,s0,s1])
 rotate_left
 focus iterate 4 (refine nl ?_; simp only [pt,sb,s0,s1])
 rotate_left
 all_goals (refine agj ?_)
 all_goals refine bk ZcR ?_ _
 all_goals intro w1 cm
 rcases vD.eq_false_or_eq_true with rfl | rfl;rotate_left
 iterate 4
  exact ZaR
 go_wp2_with fail;refine eD (rP w b m Me x) 5 ZcR (ii cm.2.1.I.drew (cm.2.2.I.below (Kp _ _).drew)) ?_
 iterate 4 (refine ly 6 (v:= ?_) (o_ _) rfl rfl ZcR (fun _ _ _ h=>h) (bV ZcR ?_) ?_; rotate_left; (intro w0 hS0; obtain ⟨⟨q0,q1,q2,q3,q4,q5⟩,hH⟩:=hS0; go_simp; try with_reducible rfl); simp only [pt,sb,s0,s1])
 refine ly 6 (v:=i_ j_ x.id) (o_ _) rfl rfl ZcR (fun _ _ _ h=>h) (iZ (f:=277) (args:= #[a_ #[i_ j_ x.id,b_ x.shown,t_ x.text]]) ZcR ?_ ?_) ?_
 ·exact ZcD
 ·intro w0 hS0
  refine (iq x w0).mono ?_;rintro e w2 ⟨rfl,hb2⟩;exact ⟨rfl,ii (hS0.2.1.I.below hb2) (hS0.2.2.I.below hb2)⟩
 simp only [pt,sb,s0,s1];refine fL rfl ZcR ZcR ZcR ?_;intro w1 cm;obtain ⟨w2,hput,hend⟩:=cm.2.1.I.put (by omega) underlying142 HW.I.1 (HL.I.2 (by trivial)) HW.I.2.2 HW.I.2.1;have HE:Hid (dD w b m true x.id (cI x) 112 (r_ (b_ true)) w2):=hend;exact Zao
end Go.Proofs.YtnlbiglljiopmaaGreatDoor

namespace Go.Proofs.YtnlbiglljiopmaaGreatDoor
open Go.RowKit
attribute [local go_sem ↓] Kc Kd
def qq (w:w_) (b:Nat) (m:df) (Me:Int) (x:au) (w':w_):Prop:=(w'.cell? ⟨w.heap.size,0,n_⟩=o_ (i_ j_ Me)∧w'.cell? ⟨w.heap.size,1,n_⟩=o_ (.map (o_ b))∧(∀ ty,(Builtin.len_ #[147] ty #[.map (o_ b)]).run J3 w'= .ok (i_ j_ (m.length:Int)) w')∧w'.cell? ⟨w.heap.size+1,0,n_⟩=o_ (i_ j_ x.id)∧w'.cell? ⟨w.heap.size+1,1,n_⟩=o_ (i_ j_ x.max)∧w'.cell? ⟨w.heap.size+1,2,n_⟩=o_ (s_ x.ak x.Ma.length x.aq))∧Hid (fe w w' w.heap.size (w.heap.size+1) b m Me (bQ x) 114 149)∧Hid (fM w' x)
theorem gB {w w':w_} {b:Nat} {m:df} {Me:Int} {x:au} (h:fe w w' w.heap.size (w.heap.size+1) b m Me (bQ x) 114 149) (hf:fM w' x):qq w b m Me x w':=
 ⟨⟨h.cells.1,h.cells.2,fun ty=>h.mp.len underlying147 ty,ia h.bx⟩,h,hf⟩
theorem pV (Me:Int) (b:Nat) (m:df) (x:au) (w:w_) (h:cF w b m) (hw:(Lit.int j_ x.id).wf=true) (hm:m.length≤1048576) (hf:fM w x):
  k_ J3 118 #[a_ #[i_ j_ Me,.map (o_ b)],a_ (bQ x)] w fun e w'=>dD w b m (iI Me m x.id (ct x.toci)) x.id (bQ x) 114 e w':=by
 have HF:Hid (fe w ((w.alloc (c_ #[i_ j_ Me,.map (o_ b)] 149)).alloc (c_ (bQ x) 114)) w.heap.size (w.heap.size+1) b m Me (bQ x) 114 149):=fe.start w h Me _ _ _;have HW:Hid ((Lit.int j_ x.id).wf=true∧ ¬ w.heap.size+1=b∧m.length≤1048576):=⟨hw,by have:=h.lt; omega,hm⟩
 have HI:Hid (fM ((w.alloc (c_ #[i_ j_ Me,.map (o_ b)] 149)).alloc (c_ (bQ x) 114)) x):=hf.below ((((Kp _ w).alloc (Ki _) _)).alloc (by simp) _);have hmn:=mc;have hmr:=se;obtain ⟨s0,s1⟩:=HF.I.cells;obtain ⟨c0,c1,c2⟩:=ia HF.I.bx;clear h hw hf hm;unfold bQ at *
 go_enter func118,ntmps118
 go_wp2_with fail;clear s0 s1 c0 c1 c2;obtain ⟨vA,hA⟩: ∃ v,(cz m x.id).isSome=v:=⟨_,rfl⟩
 obtain ⟨vB,F6⟩: ∃ v,decide (Me≤(m.length:Int))=v:=⟨_,rfl⟩
 obtain ⟨vC,hC⟩: ∃ v,cv x.id 1 1000=v:=⟨_,rfl⟩
 obtain ⟨vD,hD⟩: ∃ v,ct x.toci=v:=⟨_,rfl⟩
 have HL:Hid (iI Me m x.id (ct x.toci)=(!vA && !vB && vC && vD)∧(vA=false→cz m x.id=n_)):=⟨pi hA F6 hC hD,fun e=>PX.1 (PY.1 (hA.trans e))⟩
 have HA:Hid (Ending.returned (b_ (cz m x.id).isSome)=r_ (b_ vA)):=al hA;have HC:Hid (Ending.returned (b_ (cv x.id 1 1000))=r_ (b_ vC)):=al hC;have HD:Hid (Ending.returned (b_ (ct x.toci))=r_ (b_ vD)):=al hD;clear hA hC hD;refine aT (qq w b m Me x) ZcR (gB HF.I.drew (HI.I.below (Kp _ _).drew)) ?_
 iterate 3 (refine agj ?_)
 (refine cl (i_ j_ x.id) 280 #[a_ #[i_ j_ x.id,i_ j_ x.max,s_ x.ak x.Ma.length x.aq]] ?_ ?_ ?_; (intro w0 hS0; obtain ⟨⟨q0,q1,q2,q3,q4,q5⟩,hH⟩:=hS0; go_simp; try with_reducible rfl); (intro w0 hS0; refine (gP x w0).mono ?_; rintro e w2 ⟨rfl,hb2⟩; exact ⟨rfl,gB (hS0.2.1.I.below hb2) (hS0.2.2.I.below hb2)⟩); simp only [pt,sb,s0,s1])
 (refine cl (b_ vA) 157 #[a_ #[i_ j_ Me,.map (o_ b)],i_ j_ x.id] ?_ ?_ ?_; (intro w0 hS0; obtain ⟨⟨q0,q1,q2,q3,q4,q5⟩,hH⟩:=hS0; go_simp; try with_reducible rfl); (intro w0 hS0; refine (mE Me b m x.id w0 hS0.2.1.I.mp HW.I.1).mono ?_; rintro e w2 ⟨rfl,hb2⟩; exact ⟨HA.I,gB (hS0.2.1.I.below hb2) (hS0.2.2.I.below hb2)⟩); simp only [pt,sb,s0,s1])
 (refine agj ?_)
 rcases vA.eq_false_or_eq_true with rfl | rfl
 focus iterate 6 (refine nl ?_; simp only [pt,sb,s0,s1])
 rotate_left
 focus iterate 6 (refine agj ?_)
 all_goals iterate 2 (refine agj ?_)
 rcases vB.eq_false_or_eq_true with rfl | rfl
 focus iterate 5 (refine nl ?_; simp only [pt,sb,s0,s1])
 rotate_left
 focus
  iterate 2 (refine agj ?_)
  (refine cl (i_ j_ x.id) 280 #[a_ #[i_ j_ x.id,i_ j_ x.max,s_ x.ak x.Ma.length x.aq]] ?_ ?_ ?_; (intro w0 hS0; obtain ⟨⟨q0,q1,q2,q3,q4,q5⟩,hH⟩:=hS0; go_simp; try with_reducible rfl); (intro w0 hS0; refine (gP x w0).mono ?_; rintro e w2 ⟨rfl,hb2⟩; exact ⟨rfl,gB (hS0.2.1.I.below hb2) (hS0.2.2.I.below hb2)⟩); simp only [pt,sb,s0,s1])
  (refine cl (b_ vC) 153 #[i_ j_ x.id] ?_ ?_ ?_; (intro w0 hS0; obtain ⟨⟨q0,q1,q2,q3,q4,q5⟩,hH⟩:=hS0; go_simp; try with_reducible rfl); (intro w0 hS0; refine (eW x.id w0).mono ?_; rintro e w2 ⟨rfl,rfl⟩; exact ⟨HC.I,hS0⟩); simp only [pt,sb,s0,s1])
  (refine agj ?_)
 rotate_left
 focus iterate 5 (refine nl ?_; simp only [pt,sb,s0,s1])
 all_goals iterate 2 (refine agj ?_)
 rotate_right
 rcases vC.eq_false_or_eq_true with rfl | rfl
 focus
  iterate 2 (refine agj ?_)
  (refine cl (b_ vD) 281 #[a_ #[i_ j_ x.id,i_ j_ x.max,s_ x.ak x.Ma.length x.aq]] ?_ ?_ ?_; (intro w0 hS0; obtain ⟨⟨q0,q1,q2,q3,q4,q5⟩,hH⟩:=hS0; go_simp; try with_reducible rfl); (intro w0 hS0; refine (Sr x w0 hS0.2.2.I).mono ?_; rintro e w2 ⟨rfl,hb2⟩; exact ⟨HD.I,gB (hS0.2.1.I.below hb2) (hS0.2.2.I.below hb2)⟩); simp only [pt,sb,s0,s1])
  (refine agj ?_)
 rotate_left
 focus iterate 4 (refine nl ?_; simp only [pt,sb,s0,s1])
 rotate_left
 focus iterate 4 (refine nl ?_; simp only [pt,sb,s0,s1])
 rotate_left
 focus iterate 4 (refine nl ?_; simp only [pt,sb,s0,s1])
 rotate_left
 all_goals (refine agj ?_)
 all_goals refine bk ZcR ?_ _
 all_goals intro w1 cm
 rcases vD.eq_false_or_eq_true with rfl | rfl;rotate_left
 iterate 4
  exact ZaR
 go_wp2_with fail;refine eD (qq w b m Me x) 5 ZcR (gB cm.2.1.I.drew (cm.2.2.I.below (Kp _ _).drew)) ?_
 iterate 4 (refine ly 6 (v:= ?_) (o_ _) rfl rfl ZcR (fun _ _ _ h=>h) (bV ZcR ?_) ?_; rotate_left; (intro w0 hS0; obtain ⟨⟨q0,q1,q2,q3,q4,q5⟩,hH⟩:=hS0; go_simp; try with_reducible rfl); simp only [pt,sb,s0,s1])
 refine ly 6 (v:=i_ j_ x.id) (o_ _) rfl rfl ZcR (fun _ _ _ h=>h) (iZ (f:=280) (args:= #[a_ #[i_ j_ x.id,i_ j_ x.max,s_ x.ak x.Ma.length x.aq]]) ZcR ?_ ?_) ?_
 ·exact ZcD
 ·intro w0 hS0
  refine (gP x w0).mono ?_;rintro e w2 ⟨rfl,hb2⟩;exact ⟨rfl,gB (hS0.2.1.I.below hb2) (hS0.2.2.I.below hb2)⟩
 simp only [pt,sb,s0,s1];refine fL rfl ZcR ZcR ZcR ?_;intro w1 cm;obtain ⟨w2,hput,hend⟩:=cm.2.1.I.put (by omega) underlying147 HW.I.1 (HL.I.2 (by trivial)) HW.I.2.2 HW.I.2.1;have HE:Hid (dD w b m true x.id (bQ x) 114 (r_ (b_ true)) w2):=hend;exact Zao
end Go.Proofs.YtnlbiglljiopmaaGreatDoor

namespace Go.Proofs.YtnlbiglljiopmaaGreatDoor
open Go.RowKit
attribute [local go_sem ↓] Kc Kd
def vk (w:w_) (b:Nat) (m:df) (Me:Int) (x:aM) (w':w_):Prop:=(w'.cell? ⟨w.heap.size,0,n_⟩=o_ (i_ j_ Me)∧w'.cell? ⟨w.heap.size,1,n_⟩=o_ (.map (o_ b))∧(∀ ty,(Builtin.len_ #[152] ty #[.map (o_ b)]).run J3 w'= .ok (i_ j_ (m.length:Int)) w')∧w'.cell? ⟨w.heap.size+1,0,n_⟩=o_ (i_ j_ x.id)∧w'.cell? ⟨w.heap.size+1,1,n_⟩=o_ (b_ x.I)∧w'.cell? ⟨w.heap.size+1,2,n_⟩=o_ (b_ x.Mf)∧w'.cell? ⟨w.heap.size+1,3,n_⟩=o_ (i_ j_ x.max)∧w'.cell? ⟨w.heap.size+1,4,n_⟩=o_ (s_ x.ak x.Ma.length x.aq))∧Hid (fe w w' w.heap.size (w.heap.size+1) b m Me (cW x) 116 154)∧Hid (jf w' x)
theorem iW {w w':w_} {b:Nat} {m:df} {Me:Int} {x:aM} (h:fe w w' w.heap.size (w.heap.size+1) b m Me (cW x) 116 154) (hf:jf w' x):vk w b m Me x w':=
 ⟨⟨h.cells.1,h.cells.2,fun ty=>h.mp.len underlying152 ty,gE h.bx⟩,h,hf⟩
theorem tb (Me:Int) (b:Nat) (m:df) (x:aM) (w:w_) (h:cF w b m) (hw:(Lit.int j_ x.id).wf=true) (hm:m.length≤1048576) (hf:jf w x):
  k_ J3 119 #[a_ #[i_ j_ Me,.map (o_ b)],a_ (cW x)] w fun e w'=>dD w b m (iI Me m x.id (dj x.todS)) x.id (cW x) 116 e w':=by
 have HF:Hid (fe w ((w.alloc (c_ #[i_ j_ Me,.map (o_ b)] 154)).alloc (c_ (cW x) 116)) w.heap.size (w.heap.size+1) b m Me (cW x) 116 154):=fe.start w h Me _ _ _;have HW:Hid ((Lit.int j_ x.id).wf=true∧ ¬ w.heap.size+1=b∧m.length≤1048576):=⟨hw,by have:=h.lt; omega,hm⟩
 have HI:Hid (jf ((w.alloc (c_ #[i_ j_ Me,.map (o_ b)] 154)).alloc (c_ (cW x) 116)) x):=hf.below ((((Kp _ w).alloc (Ki _) _)).alloc (by simp) _);have hmn:=nY;have hmr:=vZ;obtain ⟨s0,s1⟩:=HF.I.cells;obtain ⟨c0,c1,c2,c3,c4⟩:=gE HF.I.bx;clear h hw hf hm;unfold cW at *
 go_enter func119,ntmps119
 go_wp2_with fail;clear s0 s1 c0 c1 c2 c3 c4;obtain ⟨vA,hA⟩: ∃ v,(cz m x.id).isSome=v:=⟨_,rfl⟩
 obtain ⟨vB,F6⟩: ∃ v,decide (Me≤(m.length:Int))=v:=⟨_,rfl⟩
 obtain ⟨vC,hC⟩: ∃ v,cv x.id 1 1000=v:=⟨_,rfl⟩
 obtain ⟨vD,hD⟩: ∃ v,dj x.todS=v:=⟨_,rfl⟩
 have HL:Hid (iI Me m x.id (dj x.todS)=(!vA && !vB && vC && vD)∧(vA=false→cz m x.id=n_)):=⟨pi hA F6 hC hD,fun e=>PX.1 (PY.1 (hA.trans e))⟩
 have HA:Hid (Ending.returned (b_ (cz m x.id).isSome)=r_ (b_ vA)):=al hA;have HC:Hid (Ending.returned (b_ (cv x.id 1 1000))=r_ (b_ vC)):=al hC;have HD:Hid (Ending.returned (b_ (dj x.todS))=r_ (b_ vD)):=al hD;clear hA hC hD;refine aT (vk w b m Me x) ZcR (iW HF.I.drew (HI.I.below (Kp _ _).drew)) ?_
 iterate 3 (refine agj ?_)
 (refine cl (i_ j_ x.id) 284 #[a_ #[i_ j_ x.id,b_ x.I,b_ x.Mf,i_ j_ x.max,s_ x.ak x.Ma.length x.aq]] ?_ ?_ ?_; (intro w0 hS0; obtain ⟨⟨q0,q1,q2,q3,q4,q5,q6,q7⟩,hH⟩:=hS0; go_simp; try with_reducible rfl); (intro w0 hS0; refine (iN x w0).mono ?_; rintro e w2 ⟨rfl,hb2⟩; exact ⟨rfl,iW (hS0.2.1.I.below hb2) (hS0.2.2.I.below hb2)⟩); simp only [pt,sb,s0,s1])
 (refine cl (b_ vA) 158 #[a_ #[i_ j_ Me,.map (o_ b)],i_ j_ x.id] ?_ ?_ ?_; (intro w0 hS0; obtain ⟨⟨q0,q1,q2,q3,q4,q5,q6,q7⟩,hH⟩:=hS0; go_simp; try with_reducible rfl); (intro w0 hS0; refine (Bb Me b m x.id w0 hS0.2.1.I.mp HW.I.1).mono ?_; rintro e w2 ⟨rfl,hb2⟩; exact ⟨HA.I,iW (hS0.2.1.I.below hb2) (hS0.2.2.I.below hb2)⟩); simp only [pt,sb,s0,s1])
 (refine agj ?_)
 rcases vA.eq_false_or_eq_true with rfl | rfl
 focus iterate 6 (refine nl ?_; simp only [pt,sb,s0,s1])
 rotate_left
 focus iterate 6 (refine agj ?_)
 all_goals iterate 2 (refine agj ?_)
 rcases vB.eq_false_or_eq_true with rfl | rfl
 focus iterate 5 (refine nl ?_; simp only [pt,sb,s0,s1])
 rotate_left
 focus
  iterate 2 (refine agj ?_)
  (refine cl (i_ j_ x.id) 284 #[a_ #[i_ j_ x.id,b_ x.I,b_ x.Mf,i_ j_ x.max,s_ x.ak x.Ma.length x.aq]] ?_ ?_ ?_; (intro w0 hS0; obtain ⟨⟨q0,q1,q2,q3,q4,q5,q6,q7⟩,hH⟩:=hS0; go_simp; try with_reducible rfl); (intro w0 hS0; refine (iN x w0).mono ?_; rintro e w2 ⟨rfl,hb2⟩; exact ⟨rfl,iW (hS0.2.1.I.below hb2) (hS0.2.2.I.below hb2)⟩); simp only [pt,sb,s0,s1])
  (refine cl (b_ vC) 153 #[i_ j_ x.id] ?_ ?_ ?_; (intro w0 hS0; obtain ⟨⟨q0,q1,q2,q3,q4,q5,q6,q7⟩,hH⟩:=hS0; go_simp; try with_reducible rfl); (intro w0 hS0; refine (eW x.id w0).mono ?_; rintro e w2 ⟨rfl,rfl⟩; exact ⟨HC.I,hS0⟩); simp only [pt,sb,s0,s1])
  (refine agj ?_)
 rotate_left
 focus iterate 5 (refine nl ?_; simp only [pt,sb,s0,s1])
 all_goals iterate 2 (refine agj ?_)
 rotate_right
 rcases vC.eq_false_or_eq_true with rfl | rfl
 focus
  iterate 2 (refine agj ?_)
  (refine cl (b_ vD) 285 #[a_ #[i_ j_ x.id,b_ x.I,b_ x.Mf,i_ j_ x.max,s_ x.ak x.Ma.length x.aq]] ?_ ?_ ?_; (intro w0 hS0; obtain ⟨⟨q0,q1,q2,q3,q4,q5,q6,q7⟩,hH⟩:=hS0; go_simp; try with_reducible rfl); (intro w0 hS0; refine (wG x w0 hS0.2.2.I).mono ?_; rintro e w2 ⟨rfl,hb2⟩; exact ⟨HD.I,iW (hS0.2.1.I.below hb2) (hS0.2.2.I.below hb2)⟩); simp only [pt,sb,s0,s1])
  (refine agj ?_)
 rotate_left
 focus iterate 4 (refine nl ?_; simp only [pt,sb,s0,s1])
 rotate_left
 focus iterate 4 (refine nl ?_; simp only [pt,sb,s0,s1])
 rotate_left
 focus iterate 4 (refine nl ?_; simp only [pt,sb,s0,s1])
 rotate_left
 all_goals (refine agj ?_)
 all_goals refine bk ZcR ?_ _
 all_goals intro w1 cm
 rcases vD.eq_false_or_eq_true with rfl | rfl;rotate_left
 iterate 4
  exact ZaR
 go_wp2_with fail;refine eD (vk w b m Me x) 5 ZcR (iW cm.2.1.I.drew (cm.2.2.I.below (Kp _ _).drew)) ?_
 iterate 4 (refine ly 6 (v:= ?_) (o_ _) rfl rfl ZcR (fun _ _ _ h=>h) (bV ZcR ?_) ?_; rotate_left; (intro w0 hS0; obtain ⟨⟨q0,q1,q2,q3,q4,q5,q6,q7⟩,hH⟩:=hS0; go_simp; try with_reducible rfl); simp only [pt,sb,s0,s1])
 refine ly 6 (v:=i_ j_ x.id) (o_ _) rfl rfl ZcR (fun _ _ _ h=>h) (iZ (f:=284) (args:= #[a_ #[i_ j_ x.id,b_ x.I,b_ x.Mf,i_ j_ x.max,s_ x.ak x.Ma.length x.aq]]) ZcR ?_ ?_) ?_
 ·intro w0 hS0
  obtain ⟨⟨q0,q1,q2,q3,q4,q5,q6,q7⟩,hH⟩:=hS0
  exact wl
 ·intro w0 hS0
  refine (iN x w0).mono ?_;rintro e w2 ⟨rfl,hb2⟩;exact ⟨rfl,iW (hS0.2.1.I.below hb2) (hS0.2.2.I.below hb2)⟩
 simp only [pt,sb,s0,s1];refine fL rfl ZcR ZcR ZcR ?_;intro w1 cm;obtain ⟨w2,hput,hend⟩:=cm.2.1.I.put (by omega) underlying152 HW.I.1 (HL.I.2 (by trivial)) HW.I.2.2 HW.I.2.1;have HE:Hid (dD w b m true x.id (cW x) 116 (r_ (b_ true)) w2):=hend;exact Zao
end Go.Proofs.YtnlbiglljiopmaaGreatDoor
