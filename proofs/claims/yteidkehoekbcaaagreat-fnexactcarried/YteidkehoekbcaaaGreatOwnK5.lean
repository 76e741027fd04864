/- What the proof leans on, part 5. -/
import Derived.Test.YteidkehoekbcaaaGreatOwnK4
set_option maxRecDepth 100000
set_option maxHeartbeats 8000000
open Array renaming getElem?_eq_some_iff->J2
open Bool renaming and_eq_true->J7
open Go renaming frozen_of_row->Ko,heap_alloc_new->Kj
open Go.Proofs.Tryz renaming func287->RP,ntmps287->RQ,prog->J3
open Go.RowKit.Below renaming heap_setCell->K6,refl->Kp
open List renaming getElem?_eq_some_iff->Lj,length_map->KG,length_take->Lk,map_cons->Lt,mem_cons->Kt,mem_cons_of_mem->LB,mem_map->Lr,nodup_cons->Lp
open List.Perm renaming refl->RA
open Nat renaming le_refl->Ki
open Option.some renaming inj->KC

namespace Go.Proofs.YteidkehoekbcaaaGreat
section
open Go.RowKit Go.Maps
section
variable {α:Type} {vs:α→Array Value} {num:α→Int} {T:TypeId}
def RW (num:α→Int) (l:List (α × Nat)):df:=l.map fun p=>(num p.1,p.2)
structure Shelf (vs:α→Array Value) (num:α→Int) (T:TypeId) (w:World) (base b:Nat) (l:List (α × Nat)):Prop where
 map:cF w b (RW num l)
 box: ∀ p∈l,w.heap[p.2]? =some (.cells (vs p.1) T (0,0))
 nodup:(b :: l.map (·.2)).Nodup
 low: ∀ g∈b :: l.map (·.2),base≤g
theorem Shelf.lt {w:World} {base b:Nat} {l:List (α × Nat)} (h:Shelf vs num T w base b l): ∀ g∈b :: l.map (·.2),g < w.heap.size:=fun g hg=>by
 rcases Kt.1 hg with rfl | hg
 ·exact h.map.lt
 ·obtain ⟨p,hp,rfl⟩:=Lr.1 hg
  exact (J2.1 (h.box p hp)).1
theorem Shelf.same {w w':World} {base b:Nat} {l:List (α × Nat)} (h:Shelf vs num T w base b l) (hs: ∀ g∈b :: l.map (·.2),w'.heap[g]? =w.heap[g]?):Shelf vs num T w' base b l:=
 ⟨h.map.same (hs b (by simp)),fun p hp=>(hs p.2 (LB _ (Lr.2 ⟨p,hp,rfl⟩))).trans (h.box p hp),h.nodup,h.low⟩
theorem Shelf.below {w w':World} {base b:Nat} {l:List (α × Nat)} (h:Shelf vs num T w base b l) (hb:Below w.heap.size w w'):Shelf vs num T w' base b l:=h.same fun g hg=>hb.block g (h.lt g hg)
theorem Shelf.lower {w:World} {base base' b:Nat} {l:List (α × Nat)} (h:Shelf vs num T w base b l) (hb:base'≤base):Shelf vs num T w base' b l:=⟨h.map,h.box,h.nodup,fun g hg=>Nat.le_trans hb (h.low g hg)⟩
theorem Shelf.none {w:World} {base b:Nat} (hb:w.heap[b]? =some (.map #[] 0)) (hl:base≤b):Shelf vs num T w base b [] :=
 ⟨cF.Hh hb,(fun p hp=>by cases hp),by simp,fun g hg=>by simp at hg; subst hg; exact hl⟩
def fc (num:α→Int) (p:α × Nat):List (α × Nat)→List (α × Nat)
 | [] => [p]
 | y :: r=>if num p.1 < num y.1 then p :: y :: r else y :: fc num p r
theorem EE (p:α × Nat) (l:List (α × Nat)):RW num (fc num p l)=oK (num p.1,p.2) (RW num l):=by
 induction l with
 | nil=>rfl
 | cons y r ih=>
  simp only [fc,RW,Lt,oK] at ih ⊢
  split
  ·rfl
  ·simp only [Lt,ih]
theorem lC (p:α × Nat) (l:List (α × Nat)):(fc num p l).Perm (p :: l):=by
 induction l with
 | nil=>exact RA _
 | cons y r ih=>
  unfold fc
  split
  ·exact RA _
  ·exact (List.Perm.cons y ih).trans (List.Perm.swap p y r)
theorem Er {p:α × Nat} {l:List (α × Nat)} (h: ∀ q∈l,num q.1 < num p.1):fc num p l=l ++ [p] :=by
 induction l with
 | nil=>rfl
 | cons y r ih=>
  have:=h y (by simp)
  unfold fc;rw [if_neg (by omega),ih (fun q hq=>h q (by simp [hq]))];rfl
theorem bZ (l:List (α × Nat)):(RW num l).length=l.length:=by simp [RW]
theorem Shelf.lay {w w':World} {base b:Nat} {l:List (α × Nat)} {x:α} {e:Ending} (h:Shelf vs num T w base b l) (hb:base≤w.heap.size) (hl:dD w b (RW num l) true (num x) (vs x) T e w'):
  ∃ g,w.heap.size≤g∧Shelf vs num T w' base b (fc num (x,g) l)∧w.grownBy w' (some b):=by
 obtain ⟨-,-,h3⟩:=hl;obtain ⟨g,hg,lD,hmap,hgr⟩:=h3 rfl;have hpm:((fc num (x,g) l).map (·.2)).Perm (g :: l.map (·.2)):=(lC (num:=num) (x,g) l).map (·.2);refine ⟨g,hg,⟨?_,fun p hp=> ?_,?_,fun k hk=> ?_⟩,hgr⟩
 ·rw [EE]; exact hmap
 ·rcases Kt.1 ((lC (num:=num) (x,g) l).mem_iff.1 hp) with rfl | hp
  ·exact lD
  ·have hne: ¬ p.2=b:=fun e=>by
    have:=(Lp.1 h.nodup).1
    exact this (Lr.2 ⟨p,hp,e⟩)
   exact (hgr.block p.2 (h.lt p.2 (LB _ (Lr.2 ⟨p,hp,rfl⟩))) (fun e=>hne (KC e))).trans (h.box p hp)
 ·refine ((List.Perm.cons b hpm).nodup_iff).2 ?_
  refine ((List.Perm.swap g b (l.map (·.2))).nodup_iff).2 ?_;refine Lp.2 ⟨fun hm=> ?_,h.nodup⟩
  have:=h.lt g hm
  omega
 ·rcases Kt.1 hk with rfl | hk
  ·exact h.low k (by simp)
  ·rcases Kt.1 (hpm.mem_iff.1 hk) with rfl | hk
   ·omega
   ·exact h.low k (LB _ hk)
def jN (vs:α→Array Value) (num:α→Int) (T:TypeId) (w:World) (Me:Int) (ok:Bool) (list:List α) (e:Ending) (w':World):Prop:=
 Below w.heap.size w w'∧((ok=false∧e= .returned (.tuple #[.agg #[.int .i64 0,.map none],.bool false]))∨
  (ok=true∧ ∃ b l,e= .returned (.tuple #[.agg #[.int .i64 Me,.map (some b)],.bool true])∧l.map (·.1)=list∧Shelf vs num T w' w.heap.size b l))
structure eS (vs:α→Array Value) (num:α→Int) (T TS:TypeId) (w wr:World) (Me:Int) (l:List (α × Nat)):Prop where
 res:wr.heap[w.heap.size]? =some (.cells #[.int .i64 0,.map none] TS (0,0))
 var:wr.heap[w.heap.size+1+1]? =some (.cells #[.int .i64 Me,.map (some (w.heap.size+1))] TS (0,0))
 eh:Shelf vs num T wr (w.heap.size+1) (w.heap.size+1) l
 cd:Below w.heap.size w wr
theorem eS.below {TS:TypeId} {w wr w':World} {Me:Int} {l:List (α × Nat)} (h:eS vs num T TS w wr Me l) (hb:Below wr.heap.size wr w'):eS vs num T TS w w' Me l:=
 ⟨(hb.block _ (J2.1 h.res).1).trans h.res,(hb.block _ (J2.1 h.var).1).trans h.var,h.eh.below hb,h.cd.trans (hb.mono h.cd.size)⟩
theorem eS.start (TS:TypeId) (w:World) (Me:Int):eS vs num T TS w (((w.alloc (.cells #[.int .i64 0,.map none] TS)).alloc (.map #[] 0)).alloc (.cells #[.int .i64 Me,.map (some (w.heap.size+1))] TS)) Me [] :=by
 have b1:Below w.heap.size w (w.alloc (.cells #[.int .i64 0,.map none] TS)):=(Kp _ _).alloc (Ki _) _;have b2:=b1.alloc b1.size (.map #[] 0);have b3:=b2.alloc b2.size (.cells #[.int .i64 Me,.map (some (w.heap.size+1))] TS);refine ⟨?_,?_,Shelf.none ?_ (by omega),b3⟩
 ·rw [PU (by simp; omega),PU (by simp),Kj]
 ·have:=Kj ((w.alloc (.cells #[.int .i64 0,.map none] TS)).alloc (.map #[] 0)) (.cells #[.int .i64 Me,.map (some (w.heap.size+1))] TS)
  simpa using this
 ·rw [PU (by simp)]
  exact heap_alloc2_new _ _ _
theorem eS.cells {TS:TypeId} {w wr:World} {Me:Int} {l:List (α × Nat)} (h:eS vs num T TS w wr Me l):
  wr.cell? ⟨w.heap.size,0,none⟩=some (.int .i64 0)∧wr.cell? ⟨w.heap.size,1,none⟩=some (.map none)∧wr.cell? ⟨w.heap.size+1+1,0,none⟩=some (.int .i64 Me)∧wr.cell? ⟨w.heap.size+1+1,1,none⟩=some (.map (some (w.heap.size+1)))∧wr.frozen? ⟨w.heap.size,0,none⟩=false∧wr.frozen? ⟨w.heap.size,1,none⟩=false:=by
 have h1:=h.res;have h2:=h.var;refine ⟨by simp [World.cell?,h1],by simp [World.cell?,h1],by simp [World.cell?,h2],by simp [World.cell?,h2],Ko _ _ _ _ _ h1,Ko _ _ _ _ _ h1⟩
theorem eS.lay {TS:TypeId} {w wr w':World} {Me:Int} {l:List (α × Nat)} {x:α} {e:Ending} (h:eS vs num T TS w wr Me l) (hl:dD wr (w.heap.size+1) (RW num l) true (num x) (vs x) T e w') (hr: ∀ q∈l,num q.1 < num x):
  ∃ g,eS vs num T TS w w' Me (l ++ [(x,g)]):=by
 obtain ⟨g,hg,hs,hgr⟩:=h.eh.lay (by have:=(J2.1 h.var).1; omega) hl;rw [Er hr] at hs;refine ⟨g,(hgr.block _ (J2.1 h.res).1 (by simp)).trans h.res,(hgr.block _ (J2.1 h.var).1 (by simp)).trans h.var,hs,?_⟩;exact h.cd.trans ⟨hgr.os,hgr.tape,hgr.output,hgr.size,fun k hk=>hgr.block k (by have:=h.cd.size; omega) (fun e=>by have:=KC e; omega)⟩
theorem xq {ok:α→Bool} : ∀ {l:List α} {last:Int},aw num ok last l=true→last≤bW num last l∧ ∀ y∈l,num y≤bW num last l
 | [],last,_=>⟨Int.le_refl _,fun y hy=>by cases hy⟩
 | x :: r,last,h=>by
  simp only [aw,J7,decide_eq_true_eq] at h;obtain ⟨h1,h2⟩:=xq h.2;simp only [bW];refine ⟨by omega,fun y hy=> ?_⟩;rcases Kt.1 hy with rfl | hy
  ·exact h1
  ·exact h2 y hy
theorem jB {ok:α→Bool} {l:List (α × Nat)} {list:List α} {last:Int} {x:α} (hm:l.map (·.1)=list) (h:aw num ok last list=true) (hx:bW num last list < num x): ∀ q∈l,num q.1 < num x:=fun q hq=>by
 have:=(xq h).2 q.1 (by rw [← hm]; exact Lr.2 ⟨q,hq,rfl⟩)
 omega
theorem Ej {l:List (α × Nat)} {x:α} (h: ∀ q∈l,num q.1 < num x):cz (RW num l) (num x)=none:=by
 rw [qA];intro hm;simp only [RW,List.map_map,Lr] at hm;obtain ⟨q,hq,e⟩:=hm
 have:=h q hq
 simp only [Function.comp] at e;omega
theorem iC {ok:α→Bool} {list:List α} {k:Nat} {x:α} {Me:Int} {l:List (α × Nat)} (hx:list[k]? =some x) (hm:l.map (·.1)=list.take k) (oC:aw num ok 0 (list.take k)=true) (hlt:bW num 0 (list.take k) < num x) (h:iI Me (RW num l) (num x) (ok x)=false):
  (aw num ok 0 list && decide ((list.length:Int)≤max Me 0))=false:=by
 have hk:k < list.length:=(Lj.1 hx).1;have hn:=Ej (jB hm oC hlt);have hlen:l.length=k:=by
  have:=congrArg List.length hm
  simp only [KG,Lk] at this;omega
 simp only [iI,hn,bZ,hlen] at h;by_cases h1:(k:Int) < Me
 ·have:aw num ok 0 list=false:=bS hx (fun hh=>by
   rw [hh.1,hh.2.2,decide_eq_true h1] at h;simp at h)
  rw [this]; rfl
 ·have:decide ((list.length:Int)≤max Me 0)=false:=decide_eq_false (by omega)
  rw [this,Bool.and_false]
theorem gM {ok:α→Bool} {list:List α} {k:Nat} {x:α} {Me:Int} {l:List (α × Nat)} (hx:list[k]? =some x) (hm:l.map (·.1)=list.take k) (oC:aw num ok 0 (list.take k)=true) (hlt:bW num 0 (list.take k) < num x) (h:iI Me (RW num l) (num x) (ok x)=true):
  aw num ok 0 (list.take (k+1))=true∧((k+1:Nat):Int)≤max Me 0:=by
 have hlen:l.length=k:=by
  have:=congrArg List.length hm
  have hk:k < list.length:=(Lj.1 hx).1;simp only [KG,Lk] at this;omega
 simp only [iI,J7,decide_eq_true_eq,bZ,hlen] at h;exact ⟨ed oC hx h.1.2 hlt h.2,by omega⟩
theorem eS.lu {TS:TypeId} {w wr:World} {Me:Int} {l:List (α × Nat)} (h:eS vs num T TS w wr Me l) (v0 v1:Value):Shelf vs num T ((wr.setCell ⟨w.heap.size,0,none⟩ v0).setCell ⟨w.heap.size,1,none⟩ v1) w.heap.size (w.heap.size+1) l∧Below w.heap.size w ((wr.setCell ⟨w.heap.size,0,none⟩ v0).setCell ⟨w.heap.size,1,none⟩ v1):=by
 refine ⟨(h.eh.same fun g hg=> ?_).lower (by omega),(h.cd.setCell (Ki _) _).setCell (Ki _) _⟩
 have:=h.eh.low g hg
 rw [K6 _ _ _ _ (by show g≠w.heap.size; omega),K6 _ _ _ _ (by show g≠w.heap.size; omega)]
end
end
section
open Go.RowKit
attribute [local go_sem ↓] Go.wp_at_zero Go.wp_at_succ
def aX (x:ao):Array Value:= #[.int .i64 x.id,.int .i64 x.RX,.slice x.aY x.prog.length x.bH,.int .i64 x.Md,.int .i64 x.pc,.int .i64 x.left,.int .i64 x.Mg,.int .i64 x.on,.string x.held,.string x.got,.int .i64 x.code,.int .i64 x.RU]
def eL (w:World) (x:ao):Prop:=x.dX∧Row w x.aY (fk.flat x.prog)
theorem eL.below {w w':World} {x:ao} (h:eL w x) (hb:Below w.heap.size w w'):eL w' x:=⟨h.1,h.2.below hb⟩
theorem bo {W:World} {X:Nat} {x:ao} (h:W.heap[X]? =some (.cells (aX x) 148 (0,0))):W.cell? ⟨X,0,none⟩=some (.int .i64 x.id)∧W.cell? ⟨X,1,none⟩=some (.int .i64 x.RX)∧W.cell? ⟨X,2,none⟩=some (.slice x.aY x.prog.length x.bH)∧W.cell? ⟨X,3,none⟩=some (.int .i64 x.Md)∧W.cell? ⟨X,4,none⟩=some (.int .i64 x.pc)∧W.cell? ⟨X,5,none⟩=some (.int .i64 x.left)∧W.cell? ⟨X,6,none⟩=some (.int .i64 x.Mg)∧W.cell? ⟨X,7,none⟩=some (.int .i64 x.on)∧W.cell? ⟨X,8,none⟩=some (.string x.held)∧W.cell? ⟨X,9,none⟩=some (.string x.got)∧W.cell? ⟨X,10,none⟩=some (.int .i64 x.code)∧W.cell? ⟨X,11,none⟩=some (.int .i64 x.RU):=by
 unfold aX at h;simp [World.cell?,h]
theorem iK (x:ao) (w:World):Calls J3 260 #[.agg (aX x)] w fun e w'=>e= .returned (.int .i64 x.id)∧Below w.heap.size w w':=by
 unfold aX
 go_enter Tryz.func260,Tryz.ntmps260
 go_wp2;go_ret;exact ⟨rfl,(Kp _ _).alloc (Ki _) _⟩
theorem ob (v : Value) (w : World) : Sem.run J3 (method 475 148 v "loop.example/g00313/impl.number") w = .ok (260, v) w := by kernel_rfl
theorem uB (v : Value) (w : World) : Sem.run J3 (method 475 148 v "loop.example/g00313/impl.right") w = .ok (261, v) w := by kernel_rfl
theorem oD (w:World):(zeroValue 244).run J3 w= .ok (.pointer none) w:=by kernel_rfl
theorem BP (Me:Int) (b:Nat) (m:df) (id:Int) (w:World) (h:cF w b m) (hw:(Lit.int .i64 id).wf=true):
  Calls J3 230 #[.agg #[.int .i64 Me,.map (some b)],.int .i64 id] w fun e w'=>e= .returned (.bool (cz m id).isSome)∧Below w.heap.size w w':=by
 have hlk:=(h.below ((Kp _ w).alloc (Ki _) (.cells #[.int .i64 Me,.map (some b)] 163))).look Tryz.underlying161 (oD _) hw true;simp only [if_true] at hlk;clear h hw
 go_enter Tryz.func230,Tryz.ntmps230
 go_wp2;go_ret;exact ⟨rfl,(Kp _ _).alloc (Ki _) _⟩
theorem kb (t:Int) (w:World):Calls J3 266 #[.int .i64 t] w fun e w'=>e= .returned (.bool (cv t 1 2000000000))∧w'=w:=by
 by_cases h1:1≤t
 ·by_cases h2:t≤2000000000
  ·go_enter Tryz.func266,Tryz.ntmps266
   go_wp2;go_ret;exact ⟨al (eB h1 h2).symm,rfl⟩
  ·go_enter Tryz.func266,Tryz.ntmps266
   go_wp2;go_ret;exact ⟨al (kR (by omega)).symm,rfl⟩
 ·go_enter Tryz.func266,Tryz.ntmps266
  go_wp2;go_ret;exact ⟨al (mA (by omega)).symm,rfl⟩
theorem kn (x:ao) (w:World) (hl:x.prog.length≤1048576):Calls J3 259 #[.agg (aX x)] w fun e w'=>e= .returned (.bool (dU x.toaD))∧Below w.heap.size w w':=by
 unfold aX;have e1:wrap64 (x.prog.length:Int)=x.prog.length:=by unfold wrap64; omega
 by_cases h1:0≤x.pc
 ·by_cases h2:x.pc < (x.prog.length:Int)
  ·have HV:Hid (dU x.toaD=true):=eB h1 (by omega)
   go_enter Tryz.func259,Tryz.ntmps259
   go_wp2;go_ret;exact ⟨al HV.I.symm,(Kp _ _).alloc (Ki _) _⟩
  ·have HV:Hid (dU x.toaD=false):=kR (by omega)
   go_enter Tryz.func259,Tryz.ntmps259
   go_wp2;go_ret;exact ⟨al HV.I.symm,(Kp _ _).alloc (Ki _) _⟩
 ·have HV:Hid (dU x.toaD=false):=mA (by omega)
  go_enter Tryz.func259,Tryz.ntmps259
  go_wp2;go_ret;exact ⟨al HV.I.symm,(Kp _ _).alloc (Ki _) _⟩
theorem xm {x:aD} (h:dU x=true): ∃ k:Nat,x.pc=k∧k < x.prog.length∧x.prog[k]? =some (opAt x):=by
 have:=bz.1 h
 refine ⟨x.pc.toNat,by omega,by omega,?_⟩;unfold opAt;rw [List.getElem?_eq_getElem (by omega)];rfl
theorem CP (x:ao) (w:World) (hf:eL w x) (h:dU x.toaD=true):Calls J3 265 #[.agg (aX x)] w fun e w'=>e= .returned (.bool (jJ x.toaD))∧Below w.heap.size w w':=by
 obtain ⟨k,hk,hkl,hop⟩:=xm h;have b1:Below w.heap.size w (w.alloc (.cells (aX x) 148)):=(Kp _ _).alloc (Ki _) _;obtain ⟨g,hg,c0,c1,c2,c3⟩:=Jm (hf.2.below b1) hop;have HL:Hid (jJ x.toaD=if (opAt x.toaD).1=1 then decide (0≤x.left) && decide (x.left < (opAt x.toaD).2.1) else decide (x.left=0)):=rfl;have i0:(0:Int)≤(k:Int):=by omega
 have i1:(k:Int) < (x.prog.length:Int):=by omega
 clear h hop hf;generalize opAt x.toaD=o at *;obtain ⟨⟨id,RX,prog,Md,pc,left,Mg,on,held,got,code,RU⟩,aY,bH⟩:=x;simp only at hk hg i1 HL;subst hk hg;unfold aX at *;simp only at *;by_cases h1:o.1=1
 ·have Jt:Hid (jJ ⟨id,RX,prog,Md,k,left,Mg,on,held,got,code,RU⟩=(decide (0≤left) && decide (left < o.2.1))):=HL.I.trans (if_pos h1)
  have h1':(o.1 == 1)=true:=by simp [h1]
  clear h1 HL;by_cases h2:0≤left
  ·by_cases h3:left < o.2.1
   all_goals
    go_enter Tryz.func265,Tryz.ntmps265
    go_wp2;go_ret;exact ⟨al (by rw [Jt.I]; simp [h2,h3]),by go_grown⟩
  ·go_enter Tryz.func265,Tryz.ntmps265
   go_wp2;go_ret;exact ⟨al (by rw [Jt.I,decide_eq_false (by omega)]; rfl),by go_grown⟩
 ·have Jt:Hid (jJ ⟨id,RX,prog,Md,k,left,Mg,on,held,got,code,RU⟩=decide (left=0)):=HL.I.trans (if_neg h1)
  have h1':(o.1 == 1)=false:=by simp [h1]
  clear h1 HL
  go_enter Tryz.func265,Tryz.ntmps265
  go_wp2;go_ret;exact ⟨al (by rw [Jt.I]; by_cases h:left=0 <;> simp [h]),by go_grown⟩
def bQ (x:au):Array Value:= #[.int .i64 x.id,.int .i64 x.max,.slice x.ak x.Ma.length x.aq]
def fM (w:World) (x:au):Prop:=fT w x.ak x.Ma
theorem fM.below {w w':World} {x:au} (h:fM w x) (hb:Below w.heap.size w w'):fM w' x:=fT.below h hb
theorem ia {W:World} {X:Nat} {x:au} (h:W.heap[X]? =some (.cells (bQ x) 160 (0,0))):W.cell? ⟨X,0,none⟩=some (.int .i64 x.id)∧W.cell? ⟨X,1,none⟩=some (.int .i64 x.max)∧W.cell? ⟨X,2,none⟩=some (.slice x.ak x.Ma.length x.aq):=by
 unfold bQ at h;simp [World.cell?,h]
theorem gP (x:au) (w:World):Calls J3 271 #[.agg (bQ x)] w fun e w'=>e= .returned (.int .i64 x.id)∧Below w.heap.size w w':=by
 unfold bQ
 go_enter Tryz.func271,Tryz.ntmps271
 go_wp2;go_ret;exact ⟨rfl,(Kp _ _).alloc (Ki _) _⟩
theorem mc (v : Value) (w : World) : Sem.run J3 (method 475 160 v "loop.example/g00313/impl.number") w = .ok (271, v) w := by kernel_rfl
theorem se (v : Value) (w : World) : Sem.run J3 (method 475 160 v "loop.example/g00313/impl.right") w = .ok (272, v) w := by kernel_rfl
theorem pS (w:World):(zeroValue 256).run J3 w= .ok (.pointer none) w:=by kernel_rfl
theorem mE (Me:Int) (b:Nat) (m:df) (id:Int) (w:World) (h:cF w b m) (hw:(Lit.int .i64 id).wf=true):
  Calls J3 235 #[.agg #[.int .i64 Me,.map (some b)],.int .i64 id] w fun e w'=>e= .returned (.bool (cz m id).isSome)∧Below w.heap.size w w':=by
 have hlk:=(h.below ((Kp _ w).alloc (Ki _) (.cells #[.int .i64 Me,.map (some b)] 175))).look Tryz.underlying173 (pS _) hw true;simp only [if_true] at hlk;clear h hw
 go_enter Tryz.func235,Tryz.ntmps235
 go_wp2;go_ret;exact ⟨rfl,(Kp _ _).alloc (Ki _) _⟩
theorem Sr (x:au) (w:World) (hf:fM w x):Calls J3 272 #[.agg (bQ x)] w fun e w'=>e= .returned (.bool (ct x.toci))∧Below w.heap.size w w':=by
 have HF:Hid (fM w x):=hf;clear hf;unfold bQ
 go_enter Tryz.func272,Tryz.ntmps272
 go_wp2_with fail;refine (oy x.ak x.Ma x.aq x.max _ (fT.below HF.I ((Kp _ _).alloc (Ki _) _))).mono ?_;rintro e w1 ⟨rfl,hw1⟩;subst hw1;go_wp2;go_ret;exact ⟨rfl,(Kp _ _).alloc (Ki _) _⟩
def cW (x:aM):Array Value:= #[.int .i64 x.id,.bool x.I,.bool x.Mf,.int .i64 x.max,.slice x.ak x.Ma.length x.aq]
def jf (w:World) (x:aM):Prop:=fT w x.ak x.Ma
theorem jf.below {w w':World} {x:aM} (h:jf w x) (hb:Below w.heap.size w w'):jf w' x:=fT.below h hb
theorem gE {W:World} {X:Nat} {x:aM} (h:W.heap[X]? =some (.cells (cW x) 85 (0,0))):W.cell? ⟨X,0,none⟩=some (.int .i64 x.id)∧W.cell? ⟨X,1,none⟩=some (.bool x.I)∧W.cell? ⟨X,2,none⟩=some (.bool x.Mf)∧W.cell? ⟨X,3,none⟩=some (.int .i64 x.max)∧W.cell? ⟨X,4,none⟩=some (.slice x.ak x.Ma.length x.aq):=by
 unfold cW at h;simp [World.cell?,h]
theorem iN (x:aM) (w:World):Calls J3 254 #[.agg (cW x)] w fun e w'=>e= .returned (.int .i64 x.id)∧Below w.heap.size w w':=by
 unfold cW
 go_enter Tryz.func254,Tryz.ntmps254
 go_wp2;go_ret;exact ⟨rfl,(Kp _ _).alloc (Ki _) _⟩
theorem nY (v : Value) (w : World) : Sem.run J3 (method 475 85 v "loop.example/g00313/impl.number") w = .ok (254, v) w := by kernel_rfl
theorem vZ (v : Value) (w : World) : Sem.run J3 (method 475 85 v "loop.example/g00313/impl.right") w = .ok (255, v) w := by kernel_rfl
theorem sK (w:World):(zeroValue 203).run J3 w= .ok (.pointer none) w:=by kernel_rfl
theorem Bb (Me:Int) (b:Nat) (m:df) (id:Int) (w:World) (h:cF w b m) (hw:(Lit.int .i64 id).wf=true):
  Calls J3 236 #[.agg #[.int .i64 Me,.map (some b)],.int .i64 id] w fun e w'=>e= .returned (.bool (cz m id).isSome)∧Below w.heap.size w w':=by
 have hlk:=(h.below ((Kp _ w).alloc (Ki _) (.cells #[.int .i64 Me,.map (some b)] 178))).look Tryz.underlying176 (sK _) hw true;simp only [if_true] at hlk;clear h hw
 go_enter Tryz.func236,Tryz.ntmps236
 go_wp2;go_ret;exact ⟨rfl,(Kp _ _).alloc (Ki _) _⟩
theorem wG (x:aM) (w:World) (hf:jf w x):Calls J3 255 #[.agg (cW x)] w fun e w'=>e= .returned (.bool (dj x.todS))∧Below w.heap.size w w':=by
 have HF:Hid (jf w x):=hf;clear hf;obtain ⟨⟨id,I,Mf,max,Ma⟩,ak,aq⟩:=x;unfold cW;cases hp:(cv max 1 5 && dJ Ma max) with
 | false=>
  have HP:Hid ((cv max 1 5 && dJ Ma max)=false):=hp;clear hp
  go_enter Tryz.func255,Tryz.ntmps255
  go_wp2_with fail;refine (oy ak Ma aq max _ (fT.below HF.I ((Kp _ _).alloc (Ki _) _))).mono ?_;rintro e w1 ⟨rfl,hw1⟩;rw [HP.I];subst hw1;go_wp2;go_ret;exact ⟨al (zS HP.I).symm,(Kp _ _).alloc (Ki _) _⟩
 | true=>
  have HP:Hid ((cv max 1 5 && dJ Ma max)=true):=hp;clear hp;by_cases h1:max=1
  all_goals
   have HM:Hid (decide (max=1)=(max == 1)):=by show decide (max=1)=(max == 1); by_cases h:max=1 <;> simp [h]
   have h1':(max == 1)=decide (max=1):=HM.I.symm;cases Mf
  all_goals
   have HV:Hid (∀ q,dj ⟨id,I,q,max,Ma⟩=(q || decide (max=1))):=Cu HP.I;simp only [h1,decide_true,decide_false] at h1';clear h1
   go_enter Tryz.func255,Tryz.ntmps255
   go_wp2_with fail;refine (oy ak Ma aq max _ (fT.below HF.I ((Kp _ _).alloc (Ki _) _))).mono ?_;rintro e w1 ⟨rfl,hw1⟩;rw [HP.I];subst hw1;go_wp2;go_ret;exact ⟨al (by rw [HV.I,HM.I]; simp [h1']),(Kp _ _).alloc (Ki _) _⟩
def eH (x:bD):Array Value:= #[.int .i64 x.id,.int .i64 x.n,.int .i64 x.max]
def kU (_:World) (_:bD):Prop:=True
theorem kU.below {w w':World} {x:bD} (_:kU w x) (_:Below w.heap.size w w'):kU w' x:=trivial
theorem gm {W:World} {X:Nat} {x:bD} (h:W.heap[X]? =some (.cells (eH x) 184 (0,0))):W.cell? ⟨X,0,none⟩=some (.int .i64 x.id)∧W.cell? ⟨X,1,none⟩=some (.int .i64 x.n)∧W.cell? ⟨X,2,none⟩=some (.int .i64 x.max):=by
 unfold eH at h;simp [World.cell?,h]
theorem jv (x:bD) (w:World):Calls J3 280 #[.agg (eH x)] w fun e w'=>e= .returned (.int .i64 x.id)∧Below w.heap.size w w':=by
 unfold eH
 go_enter Tryz.func280,Tryz.ntmps280
 go_wp2;go_ret;exact ⟨rfl,(Kp _ _).alloc (Ki _) _⟩
theorem pb (v : Value) (w : World) : Sem.run J3 (method 475 184 v "loop.example/g00313/impl.number") w = .ok (280, v) w := by kernel_rfl
theorem wW (v : Value) (w : World) : Sem.run J3 (method 475 184 v "loop.example/g00313/impl.right") w = .ok (281, v) w := by kernel_rfl
theorem vU (w:World):(zeroValue 247).run J3 w= .ok (.pointer none) w:=by kernel_rfl
theorem tZ (Me:Int) (b:Nat) (m:df) (id:Int) (w:World) (h:cF w b m) (hw:(Lit.int .i64 id).wf=true):
  Calls J3 232 #[.agg #[.int .i64 Me,.map (some b)],.int .i64 id] w fun e w'=>e= .returned (.bool (cz m id).isSome)∧Below w.heap.size w w':=by
 have hlk:=(h.below ((Kp _ w).alloc (Ki _) (.cells #[.int .i64 Me,.map (some b)] 166))).look Tryz.underlying164 (vU _) hw true;simp only [if_true] at hlk;clear h hw
 go_enter Tryz.func232,Tryz.ntmps232
 go_wp2;go_ret;exact ⟨rfl,(Kp _ _).alloc (Ki _) _⟩
theorem ye (x:bD) (w:World) (_:kU w x):Calls J3 281 #[.agg (eH x)] w fun e w'=>e= .returned (.bool (gw x))∧Below w.heap.size w w':=by
 unfold eH;by_cases h1:1≤x.max
 ·by_cases h2:x.max≤1000
  ·by_cases h3:0≤x.n
   ·by_cases h4:x.n≤x.max
    all_goals
     go_enter Tryz.func281,Tryz.ntmps281
     go_wp2;go_ret;exact ⟨al (by simp [gw,cv, *] <;> omega),(Kp _ _).alloc (Ki _) _⟩
   ·go_enter Tryz.func281,Tryz.ntmps281
    go_wp2;go_ret;exact ⟨al (by simp [gw,cv, *] <;> omega),(Kp _ _).alloc (Ki _) _⟩
  ·go_enter Tryz.func281,Tryz.ntmps281
   go_wp2;go_ret;exact ⟨al (by simp [gw,cv, *] <;> omega),(Kp _ _).alloc (Ki _) _⟩
 ·go_enter Tryz.func281,Tryz.ntmps281
  go_wp2;go_ret;exact ⟨al (by simp [gw,cv, *] <;> omega),(Kp _ _).alloc (Ki _) _⟩
def cG (x:aB):Array Value:= #[.int .i64 x.id,.bool x.up]
def ix (_:World) (_:aB):Prop:=True
theorem ix.below {w w':World} {x:aB} (_:ix w x) (_:Below w.heap.size w w'):ix w' x:=trivial
theorem kF {W:World} {X:Nat} {x:aB} (h:W.heap[X]? =some (.cells (cG x) 187 (0,0))):W.cell? ⟨X,0,none⟩=some (.int .i64 x.id)∧W.cell? ⟨X,1,none⟩=some (.bool x.up):=by
 unfold cG at h;simp [World.cell?,h]
theorem iw (x:aB) (w:World):Calls J3 283 #[.agg (cG x)] w fun e w'=>e= .returned (.int .i64 x.id)∧Below w.heap.size w w':=by
 unfold cG
 go_enter Tryz.func283,Tryz.ntmps283
 go_wp2;go_ret;exact ⟨rfl,(Kp _ _).alloc (Ki _) _⟩
theorem mT (v : Value) (w : World) : Sem.run J3 (method 475 187 v "loop.example/g00313/impl.number") w = .ok (283, v) w := by kernel_rfl
theorem tp (v : Value) (w : World) : Sem.run J3 (method 475 187 v "loop.example/g00313/impl.right") w = .ok (284, v) w := by kernel_rfl
theorem rE (w:World):(zeroValue 250).run J3 w= .ok (.pointer none) w:=by kernel_rfl
theorem rj (Me:Int) (b:Nat) (m:df) (id:Int) (w:World) (h:cF w b m) (hw:(Lit.int .i64 id).wf=true):
  Calls J3 233 #[.agg #[.int .i64 Me,.map (some b)],.int .i64 id] w fun e w'=>e= .returned (.bool (cz m id).isSome)∧Below w.heap.size w w':=by
 have hlk:=(h.below ((Kp _ w).alloc (Ki _) (.cells #[.int .i64 Me,.map (some b)] 169))).look Tryz.underlying167 (rE _) hw true;simp only [if_true] at hlk;clear h hw
 go_enter Tryz.func233,Tryz.ntmps233
 go_wp2;go_ret;exact ⟨rfl,(Kp _ _).alloc (Ki _) _⟩
theorem tX (x:aB) (w:World) (_:ix w x):Calls J3 284 #[.agg (cG x)] w fun e w'=>e= .returned (.bool (ey x))∧Below w.heap.size w w':=by
 unfold cG
 go_enter Tryz.func284,Tryz.ntmps284
 go_wp2;go_ret;exact ⟨rfl,(Kp _ _).alloc (Ki _) _⟩
def cI (x:az):Array Value:= #[.int .i64 x.id,.bool x.shown,.string x.text]
def gX (_:World) (x:az):Prop:=x.text.size≤1048576
theorem gX.below {w w':World} {x:az} (h:gX w x) (_:Below w.heap.size w w'):gX w' x:=h
theorem kJ {W:World} {X:Nat} {x:az} (h:W.heap[X]? =some (.cells (cI x) 190 (0,0))):W.cell? ⟨X,0,none⟩=some (.int .i64 x.id)∧W.cell? ⟨X,1,none⟩=some (.bool x.shown)∧W.cell? ⟨X,2,none⟩=some (.string x.text):=by
 unfold cI at h;simp [World.cell?,h]
theorem iq (x:az) (w:World):Calls J3 286 #[.agg (cI x)] w fun e w'=>e= .returned (.int .i64 x.id)∧Below w.heap.size w w':=by
 unfold cI
 go_enter Tryz.func286,Tryz.ntmps286
 go_wp2;go_ret;exact ⟨rfl,(Kp _ _).alloc (Ki _) _⟩
theorem nr (v : Value) (w : World) : Sem.run J3 (method 475 190 v "loop.example/g00313/impl.number") w = .ok (286, v) w := by kernel_rfl
theorem tq (v : Value) (w : World) : Sem.run J3 (method 475 190 v "loop.example/g00313/impl.right") w = .ok (287, v) w := by kernel_rfl
theorem qW (w:World):(zeroValue 253).run J3 w= .ok (.pointer none) w:=by kernel_rfl
theorem qM (Me:Int) (b:Nat) (m:df) (id:Int) (w:World) (h:cF w b m) (hw:(Lit.int .i64 id).wf=true):
  Calls J3 234 #[.agg #[.int .i64 Me,.map (some b)],.int .i64 id] w fun e w'=>e= .returned (.bool (cz m id).isSome)∧Below w.heap.size w w':=by
 have hlk:=(h.below ((Kp _ w).alloc (Ki _) (.cells #[.int .i64 Me,.map (some b)] 172))).look Tryz.underlying170 (qW _) hw true;simp only [if_true] at hlk;clear h hw
 go_enter Tryz.func234,Tryz.ntmps234
 go_wp2;go_ret;exact ⟨rfl,(Kp _ _).alloc (Ki _) _⟩
theorem wd (x:az) (w:World) (hf:gX w x):Calls J3 287 #[.agg (cI x)] w fun e w'=>e= .returned (.bool (cU x))∧Below w.heap.size w w':=by
 have HF:Hid (gX w x):=hf;clear hf;unfold cI;obtain ⟨id,shown,text⟩:=x;cases hp:bw text with
 | false=>
  have HP:Hid (bw text=false):=hp;clear hp
  go_enter RP,RQ
  go_wp2_with fail;refine (iM text _ HF.I).mono ?_;rintro e w1 ⟨rfl,hw1⟩;rw [HP.I];subst hw1;go_wp2;go_ret;exact ⟨al (by simp [cU,HP.I]),(Kp _ _).alloc (Ki _) _⟩
 | true=>
  have HP:Hid (bw text=true):=hp;clear hp;by_cases hes:text.toList= []
  all_goals
   have hes':([] =text.toList)=(text.toList= []):=propext ⟨fun h=>h.symm,fun h=>h.symm⟩;cases shown
  all_goals
   go_enter RP,RQ
   go_wp2_with fail;refine (iM text _ HF.I).mono ?_;rintro e w1 ⟨rfl,hw1⟩;rw [HP.I];subst hw1;go_wp2;go_ret;exact ⟨al (by simp [cU,HP.I,bI,hes]),(Kp _ _).alloc (Ki _) _⟩
end
section
open Go.RowKit
theorem pi {Me:Int} {m:df} {id:Int} {ok vA vB vC vD:Bool} (hA:(cz m id).isSome=vA) (hB:decide (Me≤(m.length:Int))=vB) (hC:cv id 1 1000=vC) (hD:ok=vD):iI Me m id ok=(!vA && !vB && vC && vD):=by
 subst hA hB hC hD;have e:decide ((m.length:Int) < Me)= !decide (Me≤(m.length:Int)):=by
  by_cases h:Me≤(m.length:Int)
  ·simp [h]
  ·simp [h,Int.not_le.1 h]
 simp [iI,e]
end
end Go.Proofs.YteidkehoekbcaaaGreat
