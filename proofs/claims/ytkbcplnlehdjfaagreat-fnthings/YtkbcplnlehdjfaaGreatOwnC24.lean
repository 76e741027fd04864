/- What the proof leans on, part 24: StB, ProcOfI, LawX, StoppedS, OpenT, StartedS, WkPure, OpenF. -/
import Derived.Test.YtkbcplnlehdjfaaGreatOwnC2
import Derived.Test.YtkbcplnlehdjfaaGreatOwnC5
import Derived.Test.YtkbcplnlehdjfaaGreatOwnC19
import Derived.Test.YtkbcplnlehdjfaaGreatOwnC20
import Derived.Test.YtkbcplnlehdjfaaGreatOwnC21
import Derived.Test.YtkbcplnlehdjfaaGreatOwnC22
import Derived.Test.YtkbcplnlehdjfaaGreatOwnC23
import Derived.Deep.MidRow
set_option maxRecDepth 100000
set_option maxHeartbeats 8000000
open Array renaming getElem?_eq_some_iff->J2
open Bool renaming and_eq_true->J7,false_eq_true->J5
open Function renaming comp_def->Ls
open Go renaming heap_alloc2_new->Kq,heap_alloc_new->Kj,heap_alloc_old->Km,setRow_other->KH,wp_at_succ->Kd,wp_at_zero->Kc
open Go.Proofs.Tryz renaming prog->J3
open Go.RowKit.Below renaming refl->Kp
open Go.World renaming ownsRow_nil->Ke
open List renaming filterMap_cons->LH,filter_cons->LN,find?_cons->LL,getElem?_eq_some_iff->Lj,getElem?_map->Kk,length_set->LI,map_cons->Lt,mem_append->Kg,mem_append_left->Lz,mem_append_right->Ly,mem_cons->Kt,mem_cons_of_mem->LB,mem_filterMap->Lq,mem_map->Lr,mem_of_getElem?->KA,nodup_append->Kf,nodup_cons->Lp,pairwise_cons->LM
open Nat renaming le_refl->Ki,zero_le->Ky
open Option renaming map_eq_some_iff->Kw
open Option.some renaming inj->KC,injEq->LF

namespace Go.Proofs.YtkbcplnlehdjfaaGreat
section
open Go.RowKit
def ce (id:Int) (f:aD→aD) (l:List aD):List aD:=l.map fun x=>if x.id=id then f x else x
def hU (p:aE) (id:Int) (ok:aD→Bool) (f:aD→aD) (nx:Int):Option aE:=
 if bK p then match p.L8.find? (fun x=>decide (x.id=id)) with
  | some y=>if ok y then some { p with next:=nx,L8:=ce id f p.L8 } else none
  | none=>none
 else none
def cN:aE:=⟨0,0,[],[],[],[],[],[]⟩
def gI (w:World) (r:Option aE) (e:Ending) (w':World):Prop:= ∃ q:af,e= .returned (.tuple #[.agg q.cells,.bool r.isSome])∧ap w' w.heap.size q∧q.pure=r.getD cN∧Below w.heap.size w w'
theorem Ai (w:World) (base:Nat):ap w base ⟨0,0,[],none,0,[],none,0,[],none,0,[],none,0,[],none,0,[],none,0⟩:=
 ⟨Ke _ _ _ _,Ke _ _ _ _,Ke _ _ _ _,Ke _ _ _ _,Ke _ _ _ _,Ke _ _ _ _,(fun x hx=>by cases hx),(fun x hx=>by cases hx),(fun x hx=>by cases hx),by simp [af.Mc,blk]⟩
theorem ca {w w':World} {r:Option aE} (h:r=none) (hb:Below w.heap.size w w'):gI w r (.returned (.tuple #[.agg ar,.bool false])) w':=by
 subst h;exact ⟨_,rfl,Ai _ _,rfl,hb⟩
theorem vO {p:aE} {id nx:Int} {ok:aD→Bool} {f:aD→aD} (h:bK p=false):hU p id ok f nx=none:=by simp [hU,h]
theorem tg {p:aE} {id nx:Int} {ok:aD→Bool} {f:aD→aD} (h:p.L8.find? (fun x=>decide (x.id=id))=none):hU p id ok f nx=none:=by
 unfold hU
 split
 ·rw [h]
 ·rfl
theorem sx {p:aE} {id nx:Int} {ok:aD→Bool} {f:aD→aD} {y:aD} (h:p.L8.find? (fun x=>decide (x.id=id))=some y) (ho:ok y=false):hU p id ok f nx=none:=by
 unfold hU
 split
 ·rw [h]; simp [ho]
 ·rfl
theorem tT {p:aE} {id nx:Int} {ok:aD→Bool} {f:aD→aD} {y:aD} (hp:bK p=true) (h:p.L8.find? (fun x=>decide (x.id=id))=some y) (ho:ok y=true):hU p id ok f nx=some { p with next:=nx,L8:=ce id f p.L8 } :=by
 unfold hU;rw [if_pos hp,h];simp [ho]
theorem db {α:Type} {num:α→Int} {ok:α→Bool} : ∀ {l:List α} {last:Int},aw num ok last l=true→(∀ x∈l,last < num x)∧l.Pairwise (fun x y=>num x < num y)
 | [],_,_=>⟨(fun x hx=>by cases hx),List.Pairwise.nil⟩
 | x :: r,last,h=>by
  simp only [aw,J7,decide_eq_true_eq] at h;obtain ⟨h1,h2⟩:=db h.2;refine ⟨fun y hy=> ?_,List.Pairwise.cons (fun y hy=>h1 y hy) h2⟩;rcases Kt.1 hy with rfl | hy
  ·exact h.1.1.2
  ·have:=h1 y hy; have:=h.1.1.2; omega
theorem rp {l:List aD} {f:aD→aD} {id:Int} {n:Nat} {y:aD} (hr:l.Pairwise (fun x y=>x.id < y.id)) (hn:l[n]? =some y) (hy:y.id=id):ce id f l=l.set n (f y):=by
 induction l generalizing n with
 | nil=>simp at hn
 | cons x r ih=>
  obtain ⟨h1,h2⟩:=LM.1 hr;cases n with
  | zero=>
   simp only [List.getElem?_cons_zero,LF] at hn;subst hn;have e:ce id f r=r:=by
    unfold ce
    conv=>rhs; rw [← List.map_id r]
    refine List.map_congr_left fun z hz=> ?_
    rw [if_neg (by have:=h1 z hz; omega)];rfl
   simp only [List.set_cons_zero]
   show (if x.id=id then f x else x) :: ce id f r=_
   rw [if_pos hy,e]
  | succ n=>
   simp only [List.getElem?_cons_succ] at hn;have hlt:=h1 y (KA hn);simp only [List.set_cons_succ]
   show (if x.id=id then f x else x) :: ce id f r=_
   rw [if_neg (by omega),ih h2 hn]
theorem sc {p:aE} (h:bK p=true):p.L8.Pairwise (fun x y=>x.id < y.id):=(db ((ch _).1 h).L8).2
def GM (x:aD):Prop:=(x.prog.length≤1048576∧(∀ o∈x.prog,o.2.2.2.size≤1048576)∧x.held.size≤1048576∧x.got.size≤1048576)∧(Lit.int .i64 x.id).wf=true∧(Lit.int .i64 x.on).wf=true∧(Lit.int .i64 x.since).wf=true
theorem IZ {p:aE} (h:bK p=true):(Lit.int .i64 p.next).wf=true:=by
 have h2:=bz.1 ((ch _).1 h).next;have e1:IntKind.min .i64≤0:=by decide
 have e2:2000000000≤IntKind.max .i64:=by decide
 simp only [Lit.wf,J7,decide_eq_true_eq];omega
theorem hY:cN.Small:=⟨Ky _,Ky _,Ky _,Ky _,Ky _,Ky _,(fun x hx=>by cases hx),(fun x hx=>by cases hx),(fun x hx=>by cases hx),(fun x hx=>by cases hx),(fun x hx=>by cases hx),(fun x hx=>by cases hx)⟩
theorem qQ {p:aE} {id nx:Int} {ok:aD→Bool} {f:aD→aD} :(hU p id ok f nx).getD cN=cN∨bK p=true∧(hU p id ok f nx).getD cN= { p with next:=nx,L8:=ce id f p.L8 } :=by
 unfold hU
 split
 ·rename_i hp
  split
  ·split
   ·exact .inr ⟨hp,rfl⟩
   ·exact .inl rfl
  ·exact .inl rfl
 ·exact .inl rfl
theorem zJ {p:aE} {id nx:Int} {ok:aD→Bool} {f:aD→aD} (h:p.Small) (hf:bK p=true→ ∀ y∈p.L8,GM y→GM (f y)):((hU p id ok f nx).getD cN).Small:=by
 rcases qQ (p:=p) (id:=id) (nx:=nx) (ok:=ok) (f:=f) with e | ⟨hp,e⟩
 ·rw [e]; exact hY
 ·rw [e]
  refine ⟨by simpa [ce] using h.dl,h.fx,h.cD,h.cC,h.cb,h.dH,fun x hx=> ?_,h.aj,h.L9,h.ag,h.ae,h.ai⟩;obtain ⟨y,hy,rfl⟩:=Lr.1 hx
  split
  ·exact hf hp y hy (h.L8 y hy)
  ·exact h.L8 y hy
theorem ap.kB {w:World} {base n j gs:Nat} {q:af} {x y:ao} {vs:List Value} (h:ap w base q) (hx:q.L8[n]? =some x) (ha:q.aN=some ⟨gs,0,none⟩) (hy:y.prog=x.prog∧y.aY=x.aY∧y.bH=x.bH)
  (hj:j+vs.length≤12) (h1: ∀ r,r < vs.length→(bg.vals y)[j+r]? =vs[r]?) (h2: ∀ r,r < 12→ ¬ (j≤r∧r < j+vs.length)→(bg.vals y)[r]? =(bg.vals x)[r]?):
  ap (bn w gs (n * 12+j) vs) base ({ q with L8:=q.L8.set n y } :af)∧aI w (bn w gs (n * 12+j) vs) [gs] ∧({ q with L8:=q.L8.set n y } :af).Mc=q.Mc:=by
 have hn:n < q.L8.length:=(Lj.1 hx).1;have hsp:=kL hx;have hset:q.L8.set n y=q.L8.take n ++ y :: q.L8.drop (n+1):=by rw [List.set_eq_take_append_cons_drop,if_pos hn]
 have hl:(q.L8.take n).length=n:=by rw [List.length_take]; omega
 have hkb:aI w (bn w gs (n * 12+j) vs) [gs] :=aI.set _ (by simp);have ho:=h.L8;rw [ha] at ho;obtain ⟨g,hg,hrow⟩:=bl.fX (K:=bg) ho (by omega);cases hg;rw [hsp] at hrow;have h5:=bl.part (K:=bg) (x:=x) (y:=y) (j:=j) (vs:=vs) hrow hj h1 h2;rw [hl,show bg.n=12 from rfl,← hset] at h5;have h6:=h5.owns;have hki:(q.L8.set n y).filterMap aR.bt=q.L8.filterMap aR.bt:=by
  rw [hset]
  conv=>rhs; rw [hsp]
  have e:aR.bt y=aR.bt x:=by show y.aY.map (·.block)=x.aY.map (·.block); rw [hy.2.1]
  simp only [List.filterMap_append,LH,e]
 have hmx:aR.cO w base y:=by
  have h7:=h.eI x (KA hx)
  show w.ownsRow base _ 4 (.slice y.aY y.prog.length y.bH) y.prog.length (fk.flat y.prog)
  rw [hy.1,hy.2.1,hy.2.2];exact h7
 have EI: ∀ z∈q.L8,∀ b,aR.bt z=some b→b≠gs:=fun z hz b hb e=>by
  have h8:=h.nodup;rw [af.Mc,ha] at h8;have h9:=(Kf.1 h8).2.2 gs (by simp [blk]) b (Lz _ (Lq.2 ⟨z,hz,hb⟩));exact h9 e.symm
 have hsame: ∀ b,b≠gs→(bn w gs (n * 12+j) vs).heap[b]? =w.heap[b]? :=fun b hb=>de _ hb
 have hm: ∀ z∈q.L8.set n y,aR.cO (bn w gs (n * 12+j) vs) base z:=fun z hz=>by
  rcases List.mem_or_eq_of_mem_set hz with hz | rfl
  ·exact (h.eI z hz).same fun b hb=>hsame b (EI z hz b hb)
  ·refine hmx.same fun b hb=>hsame b (EI x (KA hx) b ?_)
   rw [← hb]
   show x.aY.map (·.block)=z.aY.map (·.block)
   rw [hy.2.1]
 have ht:=h.As (w':=bn w gs (n * 12+j) vs) (l:=q.L8.set n y) (by rw [ha]; rw [LI] at h6; exact h6) (by simp) hm hki (hkb.mono (by simp [ha,blk]));exact ⟨ht.1,hkb,ht.2⟩
end
section
open Go.RowKit Go.Maps
attribute [local go_sem ↓] Kc Kd
theorem nK (id:Int): ∀ (l:List aD) (k:Nat),(place (l.map (·.id)) id k= -1∧l.find? (fun x=>decide (x.id=id))=none)∨ ∃ n x,place (l.map (·.id)) id k=((k+n:Nat):Int)∧l[n]? =some x∧l.find? (fun x=>decide (x.id=id))=some x
 | [],k=> .inl ⟨rfl,rfl⟩
 | x :: r,k=>by
  by_cases h:x.id=id
  ·refine .inr ⟨0,x,?_,rfl,by simp [h]⟩
   simp [place,h]
  ·rcases nK id r (k+1) with ⟨h1,h2⟩ | ⟨n,y,h1,h2,h3⟩
   ·exact .inl ⟨by simp only [Lt,place]; rw [if_neg h]; exact h1,by simp only [LL,h,decide_false]; exact h2⟩
   ·refine .inr ⟨n+1,y,?_,h2,by simp only [LL,h,decide_false]; exact h3⟩
    simp only [Lt,place];rw [if_neg h,h1];omega
end
section
open Go.RowKit
theorem Di {α:Type} {N:gd α} {w w':World} {base:Nat} {x:α} (h:N.cO w base x) (hb:Below w.heap.size w w'):N.cO w' base x:=h.same fun g hk=>hb.block g (h.lt hk).2
def Az (p:af) (w W:World):Prop:=W.heap[w.heap.size]? =some (.cells p.cells 73 (0,0))∧Below w.heap.size w W
def o8 (W:World) (X b:Nat) (q:af):Prop:=av W X q∧ap W b q
def rT (W:World) (X b:Nat) (x:ao):Prop:=jx W X x∧aR.cO W b x
section
variable {p q:af} {x:ao} {w W W':World} {X b:Nat} {bs:List Nat}
theorem Az.below (h:Az p w W) (hb:Below W.heap.size W W'):Az p w W':=⟨(hb.block _ (J2.1 h.1).1).trans h.1,h.2.trans (hb.mono h.2.size)⟩
theorem Az.kept (h:Az p w W) (hk:aI W W' bs) (hs: ∀ g∈bs,w.heap.size < g):Az p w W':=⟨(hk.same _ (J2.1 h.1).1 fun hm=>by have:=hs _ hm; omega).trans h.1,h.2.trans (hk.below h.2.size fun g hg=>by have:=hs g hg; omega)⟩
theorem o8.below (h:o8 W X b q) (hb:Below W.heap.size W W'):o8 W' X b q:=⟨h.1.below hb,h.2.below hb⟩
theorem o8.kept (h:o8 W X b q) (hk:aI W W' bs) (hs:X∉bs) (ho: ∀ g∈q.Mc,g∉bs):o8 W' X b q:=⟨(hk.same _ (J2.1 h.1).1 hs).trans h.1,h.2.same fun g hg=>hk.same g (h.2.lt g hg).2 (ho g hg)⟩
theorem rT.below (h:rT W X b x) (hb:Below W.heap.size W W'):rT W' X b x:=⟨h.1.below hb,Di h.2 hb⟩
theorem rT.kept (h:rT W X b x) (hk:aI W W' bs) (hs:X∉bs) (ho: ∀ g∈blk x.aY,g∉bs):rT W' X b x:=⟨(hk.same _ (J2.1 h.1).1 hs).trans h.1,h.2.same fun g hg=>hk.same g (h.2.lt hg).2 (ho g (fZ.2 hg))⟩
theorem av.lt {W:World} {X:Nat} {q:af} (h:av W X q):X < W.heap.size:=(J2.1 h).1
theorem jx.lt {W:World} {X:Nat} {x:ao} (h:jx W X x):X < W.heap.size:=(J2.1 h).1
end
end
section
open Go.RowKit Go.Maps
attribute [local go_sem ↓] Kc Kd
def j7 (y:aD):aD:=⟨y.id,y.prio,y.prog,0,0,0,0,0,rM,y.got,y.code,0⟩
def sW (y:ao):ao:=⟨j7 y.toaD,y.aY,y.bH⟩
theorem mN (x:ao) (w:World):Calls J3 100 #[.agg x.row] w fun e w'=>e= .returned (.agg #[.int .i64 x.id,.int .i64 x.prio,.slice x.aY x.prog.length x.bH,.int .i64 0,.int .i64 0,.int .i64 0,.int .i64 0,.int .i64 0,.string ⟨#[]⟩,.string x.got,.int .i64 x.code,.int .i64 0])∧Below w.heap.size w w':=by
 have HB:Hid (Below w.heap.size w ((w.alloc (.cells x.row 43)).alloc (.cells cE 43))∧((w.alloc (.cells x.row 43)).alloc (.cells cE 43)).heap[w.heap.size+1]? =some (.cells cE 43 (0,0))):=⟨((Kp _ _).alloc (Ki _) _).alloc (by simp) _,Kq _ _ _⟩
 go_enter Tryz.func100,Tryz.ntmps100
 go_wp2_with (refine wpList_store_row rfl 43 (Operand.tmp 2) (Operand.tmp 13) rfl (w.heap.size+1) _ _ #[.int .i64 x.id,.int .i64 x.prio,.slice x.aY x.prog.length x.bH,.int .i64 0,.int .i64 0,.int .i64 0,.int .i64 0,.int .i64 0,.string ⟨#[]⟩,.string x.got,.int .i64 x.code,.int .i64 0] rfl rfl HB.out.2 (by kernel_rfl) rfl (by kernel_rfl) ?_);refine bodyPost_ret (v:= .agg #[.int .i64 x.id,.int .i64 x.prio,.slice x.aY x.prog.length x.bH,.int .i64 0,.int .i64 0,.int .i64 0,.int .i64 0,.int .i64 0,.string ⟨#[]⟩,.string x.got,.int .i64 x.code,.int .i64 0]) (results_cell_row Tryz.results100 _ _ (w.heap.size+1) _ _ (0,0) _ rfl (setRow_heap _ _ _ _ _ _ HB.out.2) Tryz.underlying43 rfl (by kernel_rfl)) rfl ?_;exact ⟨rfl,below_setRow HB.out.1 (by omega) _⟩
def Ba (O gs n:Nat) (q:af) (x:ao) (w':World):Prop:=w'.cell? ⟨O,2,none⟩=some (.slice (some ⟨gs,0,none⟩) q.L8.length q.aW)∧w'.cell? ⟨gs,n * 12,none⟩=some (.int .i64 x.id)∧w'.cell? ⟨gs,n * 12+1,none⟩=some (.int .i64 x.prio)∧w'.cell? ⟨gs,n * 12+2,none⟩=some (.slice x.aY x.prog.length x.bH)∧w'.cell? ⟨gs,n * 12+3,none⟩=some (.int .i64 x.Md)∧w'.cell? ⟨gs,n * 12+4,none⟩=some (.int .i64 x.pc)∧w'.cell? ⟨gs,n * 12+5,none⟩=some (.int .i64 x.left)∧w'.cell? ⟨gs,n * 12+6,none⟩=some (.int .i64 x.Mg)∧w'.cell? ⟨gs,n * 12+7,none⟩=some (.int .i64 x.on)∧w'.cell? ⟨gs,n * 12+8,none⟩=some (.string x.held)∧w'.cell? ⟨gs,n * 12+9,none⟩=some (.string x.got)∧w'.cell? ⟨gs,n * 12+10,none⟩=some (.int .i64 x.code)∧w'.cell? ⟨gs,n * 12+11,none⟩=some (.int .i64 x.since)
end
section
open Go.RowKit Go.Maps
def aZ.ju (S:aZ) (g:Nat) (f:ao→ao) (nx:Int):aZ:= { S with q:= { S.q with next:=nx },lp:=sU g f S.lp }
theorem GW {g:Nat} {f:ao→ao} (hf: ∀ x,aR.bt (f x)=aR.bt x) (l:List (ao × Nat)):kids aR (sU g f l)=kids aR l:=by
 induction l with
 | nil=>rfl
 | cons p r ih=>
  have e:(sU g f (p :: r))=(if p.2=g then (f p.1,p.2) else p) :: sU g f r:=rfl;simp only [kids,LH] at ih ⊢;rw [e];simp only [LH];by_cases h:p.2=g
  ·simp only [h,if_true,hf]
   rw [ih]
  ·simp only [h,if_false]
   rw [ih]
theorem cJ.ju {w w':World} {base o g:Nat} {S:aZ} {f:ao→ao} {nx:Int} (h:cJ w base o S) (hf: ∀ x,(f x).id=x.id∧(f x).prog=x.prog∧(f x).aY=x.aY∧(f x).bH=x.bH)
  (hc: ∀ p∈S.lp,p.2=g→w'.heap[g]? =some (.cells (aX (f p.1)) 43 (0,0))) (hg:g∈S.lp.map (·.2)) (ho:fa w' o { S.q with next:=nx }) (hs: ∀ b,b≠g→b≠o→w'.heap[b]? =w.heap[b]?):cJ w' base o (S.ju g f nx):=by
 have iH: ∀ x,aR.bt (f x)=aR.bt x:=fun x=>by show (f x).aY.map (·.block)=x.aY.map (·.block); rw [(hf x).2.2.1]
 have hn:=h.nodup;have hno:=(Lp.1 hn).1;have yD:=(Kf.1 (Lp.1 hn).2)
 have jQ:=yD.1;unfold aZ.boxes at jQ;have hin: ∀ b,b∈S.boxes∨b∈S.kids→b≠o:=fun b hb e=>hno (by rw [← e]; exact Kg.2 hb)
 have hp:=Kf.1 jQ;have l9:g∈S.q.bp :: S.lp.map (·.2):=LB _ hg;have hgr: ∀ b,b∈((S.q.bs :: S.ls.map (·.2)) ++ ((S.q.be :: S.le.map (·.2)) ++ ((S.q.bb :: S.lb.map (·.2)) ++ ((S.q.bf :: S.lf.map (·.2)) ++ (S.q.bq :: S.lq.map (·.2))))))→b≠g:=fun b hb e=>hp.2.2 g l9 b hb e.symm
 have EI: ∀ b∈S.kids,b≠g:=fun b hb e=>yD.2.2 g (by unfold aZ.boxes; exact Lz _ l9) b hb e.symm
 have hbp:S.q.bp≠g:=fun e=>by
  have:=(Lp.1 hp.1).1
  rw [e] at this;exact this hg
 have lW: ∀ b,b∈(S.q.bp :: S.lp.map (·.2))→b≠o:=fun b hb=>hin b (.inl (by unfold aZ.boxes; exact Lz _ hb))
 have hbr: ∀ b,b∈((S.q.bs :: S.ls.map (·.2)) ++ ((S.q.be :: S.le.map (·.2)) ++ ((S.q.bb :: S.lb.map (·.2)) ++ ((S.q.bf :: S.lf.map (·.2)) ++ (S.q.bq :: S.lq.map (·.2))))))→w'.heap[b]? =w.heap[b]? :=fun b hb=>hs b (hgr b hb) (hin b (.inl (by unfold aZ.boxes; exact Ly _ hb)))
 have hkk: ∀ b∈S.kids,w'.heap[b]? =w.heap[b]? :=fun b hb=>hs b (EI b hb) (hin b (.inr hb))
 have hmem: ∀ (b:Nat),(b∈kids aR S.lp∨b∈kids aC S.lf∨b∈kids aU S.lq)→b∈S.kids:=fun b hb=>by simp only [aZ.kids,Kg]; exact hb
 refine ⟨ho,h.L8.sU (fun p _ _=>(hf p.1).1) hc (hs _ hbp (lW _ (by simp))) (fun b hb hne=>hs b hne (lW b (LB _ hb))),h.aj.same fun b hb=>hbr b (Lz _ hb),h.L9.same fun b hb=>hbr b (Ly _ (Lz _ hb)),h.ag.same fun b hb=>hbr b (Ly _ (Ly _ (Lz _ hb))),h.ae.same fun b hb=>hbr b (Ly _ (Ly _ (Ly _ (Lz _ hb)))),h.ai.same fun b hb=>hbr b (Ly _ (Ly _ (Ly _ (Ly _ hb)))),fun p hp'=> ?_,fun p hp'=>(h.eE p hp').same fun b hb=>hkk b (hmem b (.inr (.inl (Lq.2 ⟨p,hp',hb⟩)))),fun p hp'=>(h.eR p hp').same fun b hb=>hkk b (hmem b (.inr (.inr (Lq.2 ⟨p,hp',hb⟩)))),?_,h.low⟩
 ·obtain ⟨r,hr,rfl⟩:=yy.1 hp'
  have hm:aR.cO w' base r.1:=(h.eI r hr).same fun b hb=>hkk b (hmem b (.inl (Lq.2 ⟨r,hr,hb⟩)))
  split
  ·show w'.ownsRow base _ 4 (.slice (f r.1).aY (f r.1).prog.length (f r.1).bH) (f r.1).prog.length (fk.flat (f r.1).prog)
   rw [(hf r.1).2.1,(hf r.1).2.2.1,(hf r.1).2.2.2];exact hm
  ·exact hm
 ·have e1:(S.ju g f nx).boxes=S.boxes:=by simp only [aZ.boxes,aZ.ju,qb]
  have e2:(S.ju g f nx).kids=S.kids:=by simp only [aZ.kids,aZ.ju,GW iH]
  rw [e1,e2];exact hn
end
section
open Go.RowKit Go.Maps
attribute [local go_sem ↓] Kc Kd
def kD (p:aE) (id:Int):Option aE:=hU p id (fun y=>decide (y.Md=0) && !decide (p.next=1000000000)) (fun y=> { y with Md:=1,since:=p.next }) (p.next+1)
theorem Bk (q:af) (n base:Nat) (x:ao) (w:World) (h:ap w base q) (hb:base≤w.heap.size) (hx:q.L8[n]? =some x) (hn:0≤q.next∧q.next≤1000000000):
  Calls J3 98 #[.agg q.cells,.int .i64 n] w fun e w'=> ∃ q2:af,e= .returned (.agg q2.cells)∧q2= { q with next:=q.next+1,L8:=q.L8.set n { x with since:=q.next } } ∧ap w' base q2∧Below base w w':=by
 obtain ⟨gs,ha,hat⟩:=cn h.at.1 hx;have hb1:Below w.heap.size w ((w.alloc (.cells (q.L6 gs) 32)).alloc (.cells ar 32)):=((Kp _ _).alloc (Ki _) _).alloc (by simp) _;have hnl:n < q.L8.length:=(Lj.1 hx).1;have HB:Hid (av ((w.alloc (.cells (q.L6 gs) 32)).alloc (.cells ar 32)) w.heap.size q∧ap ((w.alloc (.cells (q.L6 gs) 32)).alloc (.cells ar 32)) base q∧Below w.heap.size w ((w.alloc (.cells (q.L6 gs) 32)).alloc (.cells ar 32))∧((w.alloc (.cells (q.L6 gs) 32)).alloc (.cells ar 32)).heap[w.heap.size+1]? =some (.cells ar 32 (0,0))∧q.L8[n]? =some x∧q.aN=some ⟨gs,0,none⟩∧base≤w.heap.size∧gs < w.heap.size∧base≤gs):=by
  have h5:=cf h.L8 (g:=gs) (by rw [ha]; simp [blk]);exact ⟨by unfold av; rw [ha]; exact (Km _ _ (by simp)).trans (Kj _ _),h.below hb1,hb1,Kq _ _ _,hx,ha,hb,h5.2,h5.1⟩
 obtain ⟨m0,m1,m2,m3,m4,m5,m6,m7⟩:=HB.out.1.cells;rw [ha] at m2;obtain ⟨⟨u,pe⟩,f11⟩:(∃ u,((w.alloc (.cells (q.L6 gs) 32)).alloc (.cells ar 32)).cell? ⟨gs,n * 12+11,none⟩=some u)∧((w.alloc (.cells (q.L6 gs) 32)).alloc (.cells ar 32)).frozen? ⟨gs,n * 12+11,none⟩=false:=by
  obtain ⟨g,hg,hrow⟩:=bl.fX (K:=bg) HB.out.2.1.L8 (by omega);rw [ha] at hg;cases hg;exact ⟨⟨_,(hrow.cell hx (r:=11) (by decide)).1⟩,(hrow.cell hx (r:=11) (by decide)).2⟩
 have j0:(0:Int)≤(n:Int):=by omega
 have j1:(n:Int) < (q.L8.length:Int):=by omega
 obtain ⟨hn0,hn1⟩:=hn;have h5:=HB.out.2.1.kB (n:=n) (j:=11) (x:=x) (y:= { x with since:=q.next }) (vs:= [.int .i64 q.next]) hx ha ⟨rfl,rfl,rfl⟩ (by show 11+1≤12; omega) (fun r hr=>by match r,hr with | 0,_=>rfl) (fun r hr hn=>by match r,hr,hn with | 0,_,_=>rfl | 1,_,_=>rfl | 2,_,_=>rfl | 3,_,_=>rfl | 4,_,_=>rfl | 5,_,_=>rfl | 6,_,_=>rfl | 7,_,_=>rfl | 8,_,_=>rfl | 9,_,_=>rfl | 10,_,_=>rfl | 11,_,hn=>exact absurd ⟨by omega,by show 11 < 11+1; omega⟩ hn);simp only [bn] at h5;have HS:Hid (ap (((w.alloc (.cells (q.L6 gs) 32)).alloc (.cells ar 32)).setCell ⟨gs,n * 12+11,none⟩ (.int .i64 q.next)) base ({ q with L8:=q.L8.set n { x with since:=q.next } } :af)∧Below base w (((w.alloc (.cells (q.L6 gs) 32)).alloc (.cells ar 32)).setCell ⟨gs,n * 12+11,none⟩ (.int .i64 q.next))∧av (((w.alloc (.cells (q.L6 gs) 32)).alloc (.cells ar 32)).setCell ⟨gs,n * 12+11,none⟩ (.int .i64 q.next)) w.heap.size q∧(((w.alloc (.cells (q.L6 gs) 32)).alloc (.cells ar 32)).setCell ⟨gs,n * 12+11,none⟩ (.int .i64 q.next)).heap[w.heap.size+1]? =some (.cells ar 32 (0,0))):=by
  have hg:=HB.out.2.2.2.2.2.2;refine ⟨h5.1,(hb1.mono hb).trans (h5.2.1.below (by have:=hb1.size; omega) (by simp; omega)),(aH (by omega)).trans HB.out.1,(aH (by omega)).trans HB.out.2.2.2.1⟩
 have hq8:(af.cells q)=(q.L6 gs):=by unfold af.cells; rw [ha]
 rw [hq8];have hbks:=h5.2.2;have hlt0: ∀ g∈q.Mc,g < w.heap.size:=fun g hg=>(h.lt g hg).2
 have HBK:Hid (∀ g∈({ q with L8:=q.L8.set n { x with since:=q.next } } :af).Mc,g < w.heap.size):=fun g hg=>hlt0 g (by rw [← hbks]; exact hg)
 have k1:(((w.alloc (.cells (q.L6 gs) 32)).alloc (.cells ar 32)).setCell ⟨gs,n * 12+11,none⟩ (.int .i64 q.next)).cell? ⟨w.heap.size,1,none⟩=some (.int .i64 q.next):=by have h6:=HS.out.2.2.1; unfold av at h6; simp only [World.cell?,h6]; rfl
 have k1f:(((w.alloc (.cells (q.L6 gs) 32)).alloc (.cells ar 32)).setCell ⟨gs,n * 12+11,none⟩ (.int .i64 q.next)).frozen? ⟨w.heap.size,1,none⟩=false:=frozen_of_row _ _ _ _ _ HS.out.2.2.1;clear h hb hx hb1 h5 hat ha hq8
 go_enter Tryz.func98,Tryz.ntmps98
 have HT:Hid (((((w.alloc (.cells (q.L6 gs) 32)).alloc (.cells ar 32)).setCell ⟨gs,n * 12+11,none⟩ (.int .i64 q.next)).setCell ⟨w.heap.size,1,none⟩ (.int .i64 (q.next+1))).heap[w.heap.size+1]? =some (.cells ar 32 (0,0))∧ap ((((w.alloc (.cells (q.L6 gs) 32)).alloc (.cells ar 32)).setCell ⟨gs,n * 12+11,none⟩ (.int .i64 q.next)).setCell ⟨w.heap.size,1,none⟩ (.int .i64 (q.next+1))) base ({ q with L8:=q.L8.set n { x with since:=q.next } } :af)∧Below base w ((((w.alloc (.cells (q.L6 gs) 32)).alloc (.cells ar 32)).setCell ⟨gs,n * 12+11,none⟩ (.int .i64 q.next)).setCell ⟨w.heap.size,1,none⟩ (.int .i64 (q.next+1)))):=by
  have hg:=HB.out.2.2.2.2.2.2;have hbl: ∀ g∈({ q with L8:=q.L8.set n { x with since:=q.next } } :af).Mc,g≠w.heap.size:=fun g hg2 e=>by rw [hbks] at hg2; have:=hlt0 g hg2; omega
  exact ⟨(aH (by omega)).trans HS.out.2.2.2,HS.out.1.same fun g hg2=>aH (hbl g hg2),bP HS.out.2.1 (by omega)⟩
 clear hbks hlt0;go_wp2_with (refine ec 4 16 (w.heap.size+1) #[.int .i64 q.id,.int .i64 (q.next+1),.slice (some ⟨gs,0,none⟩) q.L8.length q.aW,.slice q.bc q.aj.length q.bF,.slice q.ay q.L9.length q.aO,.slice q.ax q.ag.length q.aP,.slice q.am q.ae.length q.aG,.slice q.aK q.ai.length q.aV] HT.out.1 ?_);refine gZ Tryz.results98 (w.heap.size+1) #[.int .i64 q.id,.int .i64 (q.next+1),.slice (some ⟨gs,0,none⟩) q.L8.length q.aW,.slice q.bc q.aj.length q.bF,.slice q.ay q.L9.length q.aO,.slice q.ax q.ag.length q.aP,.slice q.am q.ae.length q.aG,.slice q.aK q.ai.length q.aV] HT.out.1 ?_;have hg:=HB.out.2.2.2.2.2.2;have rN: ∀ g∈({ q with L8:=q.L8.set n { x with since:=q.next } } :af).Mc,g≠w.heap.size+1:=fun g hg2 e=>by have:=HBK.out g hg2; omega
 have ho:=HT.out.2.1.same (w':=((((w.alloc (.cells (q.L6 gs) 32)).alloc (.cells ar 32)).setCell ⟨gs,n * 12+11,none⟩ (.int .i64 q.next)).setCell ⟨w.heap.size,1,none⟩ (.int .i64 (q.next+1))).setRow (w.heap.size+1) #[.int .i64 q.id,.int .i64 (q.next+1),.slice (some ⟨gs,0,none⟩) q.L8.length q.aW,.slice q.bc q.aj.length q.bF,.slice q.ay q.L9.length q.aO,.slice q.ax q.ag.length q.aP,.slice q.am q.ae.length q.aG,.slice q.aK q.ai.length q.aV]) fun g hg2=>KH _ _ _ _ (rN g hg2)
 refine ⟨_,?_,rfl,⟨ho.L8,ho.aj,ho.L9,ho.ag,ho.ae,ho.ai,ho.eI,ho.eE,ho.eR,ho.nodup⟩,below_setRow HT.out.2.2 (by omega) _⟩;simp only [af.cells,LI,HB.out.2.2.2.2.2.1]
theorem tK (p:af) (id:Int) (w:World) (hf:p.Fit) (hs: ∀ x∈p.L8,x.dX) (h:af.At w p):
  Calls J3 49 #[.agg p.cells,.int .i64 id] w fun e w'=>gI w (kD p.pure id) e w':=by
 have HB:Hid (av ((w.alloc (.cells p.row 32)).alloc (.cells ar 32)) w.heap.size p∧af.At ((w.alloc (.cells p.row 32)).alloc (.cells ar 32)) p∧Below w.heap.size w ((w.alloc (.cells p.row 32)).alloc (.cells ar 32))∧((w.alloc (.cells p.row 32)).alloc (.cells ar 32)).heap[w.heap.size+1]? =some (.cells ar 32 (0,0))):=by
  have b1:Below w.heap.size w ((w.alloc (.cells p.row 32)).alloc (.cells ar 32)):=((Kp _ _).alloc (Ki _) _).alloc (by simp) _;exact ⟨(Km _ _ (by simp)).trans (Kj _ _),h.below b1,b1,Kq _ _ _⟩
 have fl:Hid (p.Fit∧ ∀ x∈p.L8,x.dX):=⟨hf,hs⟩
 have hpl:=hf.short.L8;clear h hf hs;obtain ⟨m0,m1,m2,m3,m4,m5,m6,m7⟩:=HB.out.1.cells;unfold af.cells
 go_enter Tryz.func49,Tryz.ntmps49
 go_wp2_with fail;generalize (w.alloc (.cells p.row 32)).alloc (.cells ar 32)=W at *;clear m0 m1 m2 m3 m4 m5 m6 m7;refine (lS p id W hpl HB.out.2.1).mono ?_;rintro e W1 ⟨rfl,hb⟩;replace HB:Hid (av W1 w.heap.size p∧af.At W1 p∧Below w.heap.size w W1∧W1.heap[w.heap.size+1]? =some (.cells ar 32 (0,0))):=⟨HB.out.1.below hb,HB.out.2.1.below hb,HB.out.2.2.1.trans (hb.mono HB.out.2.2.1.size),(hb.block _ (J2.1 HB.out.2.2.2).1).trans HB.out.2.2.2⟩
 clear hb;obtain ⟨m0,m1,m2,m3,m4,m5,m6,m7⟩:=HB.out.1.cells;have hpf:=nK id p.pure.L8 0;rw [show p.pure.L8.map (·.id)=p.L8.map (·.id) by simp [af.pure,Ls]] at hpf;have Gh:Hid (_):=hpf;clear hpf;generalize place (p.L8.map (·.id)) id 0=z at *;go_wp2_with fail;clear m0 m1 m2 m3 m4 m5 m6 m7;refine (eV p W1 fl.out.1 fl.out.2 HB.out.2.1).mono ?_;rintro e W2 ⟨rfl,hb⟩;replace HB:Hid (av W2 w.heap.size p∧af.At W2 p∧Below w.heap.size w W2∧W2.heap[w.heap.size+1]? =some (.cells ar 32 (0,0))):=⟨HB.out.1.below hb,HB.out.2.1.below hb,HB.out.2.2.1.trans (hb.mono HB.out.2.2.1.size),(hb.block _ (J2.1 HB.out.2.2.2).1).trans HB.out.2.2.2⟩
 clear hb;obtain ⟨m0,m1,m2,m3,m4,m5,m6,m7⟩:=HB.out.1.cells;cases h4:bK p.pure
 ·have HN:Hid (kD p.pure id=none):=vO h4
  clear h4;go_wp2_with (refine ec 4 32 (w.heap.size+1) ar HB.out.2.2.2 ?_);refine mG Tryz.results49 (w.heap.size+1) ar (.bool false) HB.out.2.2.2 ?_;exact ca HN.out (below_setRow HB.out.2.2.1 (by omega) _)
 have H4:Hid (bK p.pure=true):=h4;clear h4;rcases Gh.out with ⟨hz,hnf⟩ | ⟨n,y0,hz,hn,Dc⟩
 ·have HN:Hid (kD p.pure id=none):=tg hnf
  subst hz;clear hnf Gh;go_wp2_with (refine ec 4 32 (w.heap.size+1) ar HB.out.2.2.2 ?_);refine mG Tryz.results49 (w.heap.size+1) ar (.bool false) HB.out.2.2.2 ?_;exact ca HN.out (below_setRow HB.out.2.2.1 (by omega) _)
 rw [Nat.zero_add] at hz;subst hz;have hnl:n < p.L8.length:=by have h5:=(Lj.1 hn).1; simpa [af.pure] using h5
 have dz:decide ((n:Int) < 0)=false:=decide_eq_false (by omega);obtain ⟨x0,hx0,hxy⟩: ∃ x,p.L8[n]? =some x∧x.toaD=y0:=by
  have h5:(p.L8.map (·.toaD))[n]? =some y0:=hn;rw [Kk,Kw] at h5;exact h5
 subst hxy;have HY:Hid (p.pure.L8[n]? =some x0.toaD∧p.pure.L8.find? (fun x=>decide (x.id=id))=some x0.toaD):=⟨hn,Dc⟩
 obtain ⟨gp,hap,Gn⟩:=cn HB.out.2.1.1 hx0;rw [hap] at m2;have wg:Hid (p.aN=some ⟨gp,0,none⟩):=hap;have d3:=Gn.2.2.2.1;clear hn Dc Gh hx0 Gn hap;have j0:(0:Int)≤(n:Int):=by omega
 have j1:(n:Int) < (p.L8.length:Int):=by omega
 by_cases hst:x0.Md=0
 ·by_cases hnx:p.next=1000000000
  ·have HN:Hid (kD p.pure id=none):=sx HY.out.2 (by have e:p.pure.next=1000000000:=hnx; simp [e])
   have e1:(x0.Md != 0)=false:=by simp [hst]
   have e2:(p.next == 1000000000)=true:=by simp [hnx]
   clear hst hnx;go_wp2_with (refine ec 4 32 (w.heap.size+1) ar HB.out.2.2.2 ?_);refine mG Tryz.results49 (w.heap.size+1) ar (.bool false) HB.out.2.2.2 ?_;exact ca HN.out (below_setRow HB.out.2.2.1 (by omega) _)
  have HN:Hid (kD p.pure id=some { p.pure with next:=p.next+1,L8:=ce id (fun y:aD=> { y with Md:=1,since:=p.next }) p.pure.L8 }):=tT H4.out HY.out.2 (by have e:x0.toaD.Md=0:=hst; have e2: ¬ p.pure.next=1000000000:=hnx; simp [e,e2]);have e1:(x0.Md != 0)=false:=by simp [hst]
  have e2:(p.next == 1000000000)=false:=by simp [hnx]
  clear hst hnx;go_wp2_with fail;clear m0 m1 m2 m3 m4 m5 m6 m7 d3 e1 e2;have Mb:=fR p W2 fl.out.1 fl.out.2 HB.out.2.1;rw [show af.cells p=(p.L6 gp) by unfold af.cells; rw [wg.out]] at Mb;refine Mb.mono ?_;clear Mb;rintro e W3 ⟨q,rfl,hown,gn,hb3⟩;obtain ⟨x,hx,hxy⟩: ∃ x,q.L8[n]? =some x∧x.toaD=x0.toaD:=by
   have h5:(q.L8.map (·.toaD))[n]? =some x0.toaD:=by have h6:=HY.out.1; rw [← gn] at h6; exact h6
   rw [Kk,Kw] at h5;exact h5
  obtain ⟨gs,ha,hat⟩:=cn hown.at.1 hx;have hnq:n < q.L8.length:=(Lj.1 hx).1;have hgs:=cf hown.L8 (g:=gs) (by rw [ha]; simp [blk]);have hb4:Below W3.heap.size W3 (W3.alloc (.cells (q.L6 gs) 32)):=(Kp _ _).alloc (Ki _) _;obtain ⟨⟨u,c3⟩,f3⟩:(∃ u,(W3.alloc (.cells (q.L6 gs) 32)).cell? ⟨gs,n * 12+3,none⟩=some u)∧(W3.alloc (.cells (q.L6 gs) 32)).frozen? ⟨gs,n * 12+3,none⟩=false:=by
   obtain ⟨g,hg,hrow⟩:=bl.fX (K:=bg) (hown.below hb4).L8 (by omega);rw [ha] at hg;cases hg;exact ⟨⟨_,(hrow.cell hx (r:=3) (by decide)).1⟩,(hrow.cell hx (r:=3) (by decide)).2⟩
  have h5:=(hown.below hb4).kB (n:=n) (j:=3) (x:=x) (y:= { x with Md:=1 }) (vs:= [.int .i64 1]) hx ha ⟨rfl,rfl,rfl⟩ (by decide) (fun r hr=>by match r,hr with | 0,_=>rfl) (fun r hr hn=>by match r,hr,hn with | 0,_,_=>rfl | 1,_,_=>rfl | 2,_,_=>rfl | 3,_,hn=>exact absurd ⟨by omega,by decide⟩ hn | 4,_,_=>rfl | 5,_,_=>rfl | 6,_,_=>rfl | 7,_,_=>rfl | 8,_,_=>rfl | 9,_,_=>rfl | 10,_,_=>rfl | 11,_,_=>rfl);simp only [bn] at h5;have oX:w.heap.size+1 < W2.heap.size:=(J2.1 HB.out.2.2.2).1;have Ix:=hb3.size;have HS:Hid (ap ((W3.alloc (.cells (q.L6 gs) 32)).setCell ⟨gs,n * 12+3,none⟩ (.int .i64 1)) W2.heap.size ({ q with L8:=q.L8.set n { x with Md:=1 } } :af)∧av ((W3.alloc (.cells (q.L6 gs) 32)).setCell ⟨gs,n * 12+3,none⟩ (.int .i64 1)) W3.heap.size q∧Below w.heap.size w ((W3.alloc (.cells (q.L6 gs) 32)).setCell ⟨gs,n * 12+3,none⟩ (.int .i64 1))∧((W3.alloc (.cells (q.L6 gs) 32)).setCell ⟨gs,n * 12+3,none⟩ (.int .i64 1)).heap[w.heap.size+1]? =some (.cells ar 32 (0,0))∧({ q with L8:=q.L8.set n { x with Md:=1 } } :af).L8[n]? =some { x with Md:=1 } ∧af.cells ({ q with L8:=q.L8.set n { x with Md:=1 } } :af)=(q.L6 gs)∧W2.heap.size≤((W3.alloc (.cells (q.L6 gs) 32)).setCell ⟨gs,n * 12+3,none⟩ (.int .i64 1)).heap.size∧q.pure=p.pure∧x.toaD=x0.toaD):=by
   refine ⟨h5.1,?_,?_,?_,by simp [hnq],by simp only [af.cells,LI,ha],?_,gn,hxy⟩
   ·refine (aH (by omega)).trans ?_
    rw [ha];exact Kj _ _
   ·exact bP (HB.out.2.2.1.trans ((hb3.alloc Ix _).mono HB.out.2.2.1.size)) (by omega)
   ·exact (aH (by omega)).trans ((hb4.block _ (by omega)).trans ((hb3.block _ oX).trans HB.out.2.2.2))
   ·have:=hb4.size; rw [show (((W3.alloc (.cells (q.L6 gs) 32)).setCell ⟨gs,n * 12+3,none⟩ (.int .i64 1))).heap.size=_ from fH [_]]; omega
  obtain ⟨k0,k1,k2,k3,k4,k5,k6,k7⟩:=HS.out.2.1.cells;rw [ha] at k2;have jq:(n:Int) < (q.L8.length:Int):=by omega
  rw [show af.cells q=(q.L6 gs) by unfold af.cells; rw [ha]];clear hown gn hb3 hx hxy ha hat hgs hb4 h5 Ix;go_wp2_with fail;clear k0 k1 k2 k3 k4 k5 k6 k7 c3 f3;generalize (W3.alloc (.cells (q.L6 gs) 32)).setCell ⟨gs,n * 12+3,none⟩ (.int .i64 1)=W5 at *;have hnx:0≤q.next∧q.next≤1000000000:=by have h6:=bz.1 ((ch _).1 H4.out).next; rw [← HS.out.2.2.2.2.2.2.2.1] at h6; have h7:q.pure.next=q.next:=rfl; omega
  have Mb:=Bk ({ q with L8:=q.L8.set n { x with Md:=1 } } :af) n W2.heap.size { x with Md:=1 } W5 HS.out.1 HS.out.2.2.2.2.2.2.1 HS.out.2.2.2.2.1 hnx;rw [HS.out.2.2.2.2.2.1] at Mb;refine Mb.mono ?_;clear Mb;rintro e W6 ⟨q2,rfl,pv,DU,jQ⟩;have H6:Hid (ap W6 W2.heap.size q2∧Below w.heap.size w W6∧W6.heap[w.heap.size+1]? =some (.cells ar 32 (0,0))∧q2.pure= { p.pure with next:=p.next+1,L8:=ce id (fun y:aD=> { y with Md:=1,since:=p.next }) p.pure.L8 } ∧w.heap.size+1 < W2.heap.size):=by
   refine ⟨DU,HS.out.2.2.1.trans (jQ.mono (by omega)),(jQ.block _ oX).trans HS.out.2.2.2.1,?_,oX⟩;have hpp:=HS.out.2.2.2.2.2.2.2.1;have hid:x0.toaD.id=id:=by have h7:=List.find?_some HY.out.2; simpa using h7
   rw [rp (sc H4.out) HY.out.1 hid];have hnn:q.next=p.next:=congrArg aE.next hpp;have hpr:q.L8.map (·.toaD)=p.pure.L8:=congrArg aE.L8 hpp;have hxx:=HS.out.2.2.2.2.2.2.2.2;subst pv
   show ({ q.pure with next:=q.next+1,L8:=((q.L8.set n { x with Md:=1 }).set n { { x with Md:=1 } with since:=q.next }).map (·.toaD) } :aE)=_
   rw [List.set_set,List.map_set,hpr,hpp,hnn,← hxx]
  clear pv DU jQ HS hnx;go_wp2_with (refine ec 4 42 (w.heap.size+1) (af.cells q2) H6.out.2.2.1 ?_);refine mG Tryz.results49 (w.heap.size+1) (af.cells q2) (.bool true) H6.out.2.2.1 ?_;rw [HN.out];have hl:=H6.out.2.2.2.2;exact ⟨q2,rfl,(H6.out.1.lower (by omega)).same fun g hg=>KH _ _ _ _ (by have:=(H6.out.1.lt g hg).1; omega),H6.out.2.2.2.1,below_setRow H6.out.2.1 (by omega) _⟩
 ·have HN:Hid (kD p.pure id=none):=sx HY.out.2 (by have e: ¬ x0.toaD.Md=0:=hst; simp [e])
  have e1:(x0.Md != 0)=true:=by simp [hst]
  clear hst;go_wp2_with (refine ec 4 32 (w.heap.size+1) ar HB.out.2.2.2 ?_);refine mG Tryz.results49 (w.heap.size+1) ar (.bool false) HB.out.2.2.2 ?_;exact ca HN.out (below_setRow HB.out.2.2.1 (by omega) _)
end
section
variable {α:Type} (ah:α→α→Bool)
def qV (r:Option α) (x:α):Option α:=match r with
 | none=>some x
 | some b=>if ah x b then some x else some b
def oa (l:List α):Option α:=l.foldl (qV ah) none
theorem qy (l:List α) (x:α):oa ah (l ++ [x])=qV ah (oa ah l) x:=by simp [oa]
theorem EO {r:Option α} {x y:α} (h:qV ah r x=some y):y=x∨r=some y:=by
 unfold qV at h
 split at h
 ·exact .inl (KC h).symm
 ·split at h
  ·exact .inl (KC h).symm
  ·exact .inr h
theorem zZ: ∀ (l:List α) (r:Option α) {y:α},l.foldl (qV ah) r=some y→y∈l∨r=some y
 | [],_,_,h=> .inr h
 | x :: l,r,y,h=>by
  rcases zZ l (qV ah r x) h with h1 | h1
  ·exact .inl (by simp [h1])
  ·rcases EO ah h1 with h2 | h2
   ·exact .inl (by simp [h2])
   ·exact .inr h2
theorem Fg {l:List α} {y:α} (h:oa ah l=some y):y∈l:=(zZ ah l none h).elim id (fun e=>by cases e)
theorem C8 (r:Option α) (x:α): ∃ y,qV ah r x=some y:=by
 unfold qV
 split
 ·exact ⟨_,rfl⟩
 ·split <;> exact ⟨_,rfl⟩
theorem CZ {l:List α} (h:oa ah l=none):l= [] :=by
 rcases List.eq_nil_or_concat l with e | ⟨l',x,e⟩
 ·exact e
 ·subst e
  rw [List.concat_eq_append,qy] at h;obtain ⟨y,hy⟩:=C8 ah (oa ah l') x;rw [hy] at h;cases h
def eN (f:α→Bool) (l:List α) (k:Nat) (i:Int):Prop:=match oa ah ((l.take k).filter f) with
 | none=>i= -1
 | some x=> ∃ n:Nat,i=n∧n < k∧l[n]? =some x
variable {f:α→Bool} {l:List α} {k:Nat} {i:Int} {x:α}
theorem eN.start (f:α→Bool) (l:List α):eN ah f l 0 (-1):=by simp [eN,oa]
theorem qm (hx:l[k]? =some x):(l.take (k+1)).filter f=(l.take k).filter f ++ (if f x then [x] else []):=by
 have h:l.take (k+1)=l.take k ++ [x] :=by rw [List.take_add_one,hx]; rfl
 rw [h,List.filter_append];by_cases h:f x=true <;> simp [h]
variable {ah}
theorem eN.skip (h:eN ah f l k i) (hx:l[k]? =some x) (hf:f x=false):eN ah f l (k+1) i:=by
 unfold eN at h ⊢;rw [qm hx,hf];simp only [J5,if_false,List.append_nil]
 split at h
 ·exact h
 ·obtain ⟨n,h1,h2,h3⟩:=h
  exact ⟨n,h1,by omega,h3⟩
theorem eN.first (h:eN ah f l k i) (hi:i < 0) (hx:l[k]? =some x) (hf:f x=true):eN ah f l (k+1) k:=by
 unfold eN at h ⊢;rw [qm hx,hf];simp only [if_true];rw [qy]
 split at h
 ·rename_i e
  rw [e];exact ⟨k,rfl,by omega,hx⟩
 ·obtain ⟨n,h1,_⟩:=h
  omega
theorem eN.got (h:eN ah f l k i) (hi: ¬ i < 0): ∃ (n:Nat) (y:α),i=n∧n < k∧l[n]? =some y∧oa ah ((l.take k).filter f)=some y:=by
 unfold eN at h
 split at h
 ·omega
 ·rename_i y e
  obtain ⟨n,h1,h2,h3⟩:=h;exact ⟨n,y,h1,h2,h3,e⟩
theorem eN.none' (h:eN ah f l k i) (hi:i < 0):oa ah ((l.take k).filter f)=none:=by
 unfold eN at h
 split at h
 ·assumption
 ·obtain ⟨n,h1,_⟩:=h
  omega
theorem eN.next {n:Nat} {y:α} (hn:n < k) (hy:l[n]? =some y) (he:oa ah ((l.take k).filter f)=some y) (hx:l[k]? =some x) (hf:f x=true):eN ah f l (k+1) (if ah x y then (k:Int) else (n:Int)):=by
 unfold eN;rw [qm hx,hf];simp only [if_true];rw [qy,he];simp only [qV];by_cases ha:ah x y=true
 ·simp only [ha,if_true]
  exact ⟨k,rfl,by omega,hx⟩
 ·simp only [ha,J5,if_false]
  exact ⟨n,rfl,by omega,hy⟩
end
def og (now:Int) (x:aD):Bool:=decide (2≤x.Md) && cv x.Mg 1 now
def l8 (a b:aD):Bool:=decide (a.Mg < b.Mg)
def lF (now:Int) (l:List aD):List aD:=l.filter (og now)
def lZ (now:Int) (l:List aD):Option aD:=oa l8 (lF now l)
def jM (code:Int) (x:aD):aD:= { x with code:=code,Md:=1,pc:=x.pc+1,left:=0,Mg:=0,on:=0,held:=rM }
def jT (code:Int) (x:aD):aD:=if x.pc+1=x.prog.length then j7 (jM code x) else jM code x
def iY (nx code:Int) (x:aD):aD:=if x.pc+1=x.prog.length then j7 (jM code x) else { jM code x with since:=nx }
def gf (nx:Int) (x:aD):Int:=if x.pc+1=x.prog.length then nx else nx+1
def mL (x:aD):Int:=if x.Md=2 then 0 else 2
def gu (p:aE) (x:aD):aE:= { p with next:=gf p.next x,L8:=ce x.id (iY p.next (mL x)) p.L8 }
def oO (now:Int):Nat→aE→aE
 | 0,p=>p
 | n+1,p=>match lZ now p.L8 with
  | none=>p
  | some x=>oO now n (gu p x)
def gj (now:Int) (p:aE):aE:=oO now (lF now p.L8).length p
theorem rD (nx code:Int) (x:aD):(iY nx code x).id=x.id∧(iY nx code x).prog=x.prog:=by
 unfold iY
 split <;> exact ⟨rfl,rfl⟩
theorem E7 (now nx code:Int) (x:aD):og now (iY nx code x)=false:=by
 unfold iY og
 split <;> simp [j7,jM]
theorem qB {f:aD→aD} {id:Int} : ∀ {l:List aD},(∀ y∈l,y.id≠id)→ce id f l=l
 | [],_=>rfl
 | y :: r,h=>by
  have h1:ce id f r=r:=qB fun z hz=>h z (LB _ hz)
  simp only [ce,Lt] at h1 ⊢;rw [if_neg (h y (by simp)),h1]
theorem Bg {now:Int} {f:aD→aD} {x:aD} (hf:og now (f x)=false) (hx:og now x=true): ∀ {l:List aD},l.Pairwise (fun x y=>x.id < y.id)→x∈l→(lF now (ce x.id f l)).length+1=(lF now l).length
 | [],_,h=>by cases h
 | y :: r,hr,h=>by
  rw [LM] at hr;by_cases e:y=x
  ·subst e
   have h2:ce y.id f (y :: r)=f y :: r:=by
    have h3:ce y.id f r=r:=qB fun z hz e=>by have:=hr.1 z hz; omega
    simp only [ce,Lt,if_true] at h3 ⊢;rw [h3]
   rw [h2];simp [lF,hf,hx]
  ·have hm:x∈r:=by
    rcases Kt.1 h with h1 | h1
    ·exact absurd h1.symm e
    ·exact h1
   have h4:=Bg hf hx hr.2 hm;have h5: ¬ y.id=x.id:=by have:=hr.1 x hm; omega
   have h6:ce x.id f (y :: r)=y :: ce x.id f r:=by simp [ce,h5]
   rw [h6];unfold lF at h4 ⊢;by_cases hy:og now y=true
   ·simp only [LN,hy,if_true,List.length_cons]; omega
   ·simp only [LN,hy,J5,if_false]; exact h4
theorem rW {f:aD→aD} {id:Int} (hf: ∀ x,(f x).id=x.id) {l:List aD} (h:l.Pairwise (fun x y=>x.id < y.id)):(ce id f l).Pairwise (fun x y=>x.id < y.id):=by
 unfold ce;rw [List.pairwise_map];refine h.imp fun {a b} hab=> ?_
 have e: ∀ z:aD,(if z.id=id then f z else z).id=z.id:=fun z=>by split <;> simp [hf]
 rw [e,e];exact hab
theorem Gs {f:aD→aD} {id:Int} {l:List aD} {y:aD} (h:y∈ce id f l):y∈l∨ ∃ x∈l,y=f x:=by
 obtain ⟨z,hz,e⟩:=Lr.1 h;by_cases h1:z.id=id
 ·exact .inr ⟨z,hz,by rw [← e,if_pos h1]⟩
 ·exact .inl (by rw [if_neg h1] at e; exact e ▸ hz)
structure Wk (now:Int) (p:aE):Prop where
 kW:p.L8.Pairwise (fun x y=>x.id < y.id)
 op: ∀ x∈p.L8,2≤x.Md→0≤x.pc∧x.pc < x.prog.length
 room:1≤p.next∧p.next+(lF now p.L8).length≤1000000000
 low:p.L8.length≤6
theorem Wk.mem {now:Int} {p:aE} {x:aD} (h:lZ now p.L8=some x):x∈p.L8∧og now x=true:=by
 have h1:=Fg l8 h;exact List.mem_filter.1 h1
theorem Wk.step {now:Int} {p:aE} {x:aD} (h:Wk now p) (hx:lZ now p.L8=some x):Wk now (gu p x)∧(lF now (gu p x).L8).length+1=(lF now p.L8).length:=by
 obtain ⟨hm,hd⟩:=Wk.mem hx;have h1:=Bg (E7 now p.next (mL x) x) hd h.kW hm;refine ⟨⟨rW (fun y=>(rD _ _ y).1) h.kW,fun y hy hs=> ?_,?_,?_⟩,h1⟩
 ·rcases Gs hy with h2 | ⟨z,_,rfl⟩
  ·exact h.op y h2 hs
  ·unfold iY at hs
   split at hs <;> simp [j7,jM] at hs
 ·have h2:=h.room
  have h3:(gu p x).next≤p.next+1∧p.next≤(gu p x).next:=by
   show gf p.next x≤_∧_≤gf p.next x
   unfold gf
   split <;> omega
  have h4:(lF now (gu p x).L8).length+1=(lF now p.L8).length:=h1;omega
 ·show (ce _ _ p.L8).length≤6
  simpa [ce] using h.low
theorem Co {now:Int} {p:aE} (h:lZ now p.L8=none):gj now p=p:=by
 unfold gj;rw [CZ l8 h];rfl
theorem vn {now:Int} {p:aE} {x:aD} (h:Wk now p) (hx:lZ now p.L8=some x):gj now p=gj now (gu p x):=by
 have h1:=(h.step hx).2;unfold gj;rw [← h1];simp only [oO,hx]
theorem Wk.of {now:Int} {p:aE} (h:aQ p) (hn:p.next≤999999980):Wk now p:=by
 have h1:=(db h.L8).2;refine ⟨h1,fun x hx hs=> ?_,?_,h.dl⟩
 ·have h2:=(cK h.L8 x hx).2
  simp only [cH,J7] at h2;have h3:=h2.1.1.2;unfold bO at h3;have h4:dU x=true:=by
   split at h3
   ·omega
   ·split at h3
    ·omega
    ·split at h3
     ·simp only [J7] at h3; exact h3.1.1.1.1
     ·split at h3
      ·simp only [J7] at h3; exact h3.1.1
      ·split at h3
       ·simp only [J7] at h3; exact h3.1.1.1
       ·cases h3
  have h5:=bz.1 h4;omega
 ·have h2:=bz.1 h.next
  have h3:(lF now p.L8).length≤p.L8.length:=List.length_filter_le _ _;have h4:=h.dl;omega
section
open Go.RowKit Go.Maps
attribute [local go_sem ↓] Kc Kd
theorem xX {z:Int} (h:cv z 1 1000=true):(Lit.int .i64 z).wf=true:=by
 have h2:=bz.1 h;have e1:IntKind.min .i64≤0:=by decide
 have e2:100000≤IntKind.max .i64:=by decide
 simp only [Lit.wf,J7,decide_eq_true_eq];omega
theorem iB {S:aZ} (h:aQ S.pure):S.Fits:=by
 refine ⟨?_,?_,?_,?_,?_,?_,?_,?_,?_,?_,?_,?_⟩
 ·have h5:=h.dl
  have h6:S.pure.L8.length=S.lp.length:=by simp [aZ.pure]
  omega
 ·intro p hp
  obtain ⟨r,hr,rfl⟩:=Lr.1 hp;exact xX (cK h.L8 (r.1.toaD) (Lr.2 ⟨r,hr,rfl⟩)).1
 ·have h5:=h.fx
  have h6:S.pure.aj.length=S.ls.length:=by simp [aZ.pure]
  omega
 ·intro p hp
  obtain ⟨r,hr,rfl⟩:=Lr.1 hp;exact xX (cK h.aj (r.1) (Lr.2 ⟨r,hr,rfl⟩)).1
 ·have h5:=h.cD
  have h6:S.pure.L9.length=S.le.length:=by simp [aZ.pure]
  omega
 ·intro p hp
  obtain ⟨r,hr,rfl⟩:=Lr.1 hp;exact xX (cK h.L9 (r.1) (Lr.2 ⟨r,hr,rfl⟩)).1
 ·have h5:=h.cC
  have h6:S.pure.ag.length=S.lb.length:=by simp [aZ.pure]
  omega
 ·intro p hp
  obtain ⟨r,hr,rfl⟩:=Lr.1 hp;exact xX (cK h.ag (r.1) (Lr.2 ⟨r,hr,rfl⟩)).1
 ·have h5:=h.cb
  have h6:S.pure.ae.length=S.lf.length:=by simp [aZ.pure]
  omega
 ·intro p hp
  obtain ⟨r,hr,rfl⟩:=Lr.1 hp;exact xX (cK h.ae (r.1.toci) (Lr.2 ⟨r,hr,rfl⟩)).1
 ·have h5:=h.dH
  have h6:S.pure.ai.length=S.lq.length:=by simp [aZ.pure]
  omega
 ·intro p hp
  obtain ⟨r,hr,rfl⟩:=Lr.1 hp;exact xX (cK h.ai (r.1.todS) (Lr.2 ⟨r,hr,rfl⟩)).1
end
end Go.Proofs.YtkbcplnlehdjfaaGreat
