/- What the proof leans on, part 27. -/
import Derived.Test.YtkbcplnlehdjfaaGreatOwnP25
import Derived.Test.YtkbcplnlehdjfaaGreatOwnP26
set_option maxRecDepth 100000
set_option maxHeartbeats 8000000
open Array renaming getElem?_eq_some_iff->J2
open Bool renaming and_eq_true->J7
open Go renaming bodyPost_ret->KT,setRow_heap->KU
open Go.Proofs.Tryz renaming underlying43->Qi
open Go.World renaming ownsRow_nil->Ke
open List renaming find?_cons->LL,map_cons->Lt,mem_of_getElem?->KA
open Nat renaming zero_le->Ky
open Option.some renaming injEq->LF

namespace Go.Proofs.YtkbcplnlehdjfaaGreat
section
open Go.RowKit
theorem Di {α:Type} {N:gd α} {w w':World} {base:Nat} {x:α} (h:N.cO w base x) (hb:Below w.heap.size w w'):N.cO w' base x:=h.same fun g hk=>hb.block g (h.lt hk).2
def Az (p:af) (w W:World):Prop:=W.heap[w.heap.size]? =some (.cells p.cells 73 (0,0))∧Below w.heap.size w W
def o8 (W:World) (X b:Nat) (q:af):Prop:=av W X q∧ap W b q
def rT (W:World) (X b:Nat) (x:ao):Prop:=jx W X x∧aR.cO W b x
section
variable {p q:af} {x:ao} {w W W':World} {X b:Nat} {bs:List Nat}
theorem Az.below (h:Az p w W) (hb:Below W.heap.size W W'):Az p w W':=⟨(hb.block _ (J2.1 h.1).1).trans h.1,h.2.trans (hb.mono h.2.size)⟩
theorem Az.kept (h:Az p w W) (hk:aI W W' bs) (hs: ∀ g∈bs,w.heap.size < g):Az p w W':=⟨(hk.same _ (J2.1 h.1).1 fun hm=>by have:=hs _ hm; omega).trans h.1,h.2.trans (hk.below h.2.size fun g hg=>by have:=hs g hg; omega)⟩
theorem o8.below (h:o8 W X b q) (hb:Below W.heap.size W W'):o8 W' X b q:=⟨h.1.below hb,h.2.below hb⟩
theorem o8.kept (h:o8 W X b q) (hk:aI W W' bs) (hs:X∉bs) (ho: ∀ g∈q.Mc,g∉bs):o8 W' X b q:=⟨(hk.same _ (J2.1 h.1).1 hs).trans h.1,h.2.same fun g hg=>hk.same g (h.2.lt g hg).2 (ho g hg)⟩
theorem rT.below (h:rT W X b x) (hb:Below W.heap.size W W'):rT W' X b x:=⟨h.1.below hb,Di h.2 hb⟩
theorem rT.kept (h:rT W X b x) (hk:aI W W' bs) (hs:X∉bs) (ho: ∀ g∈blk x.aY,g∉bs):rT W' X b x:=⟨(hk.same _ (J2.1 h.1).1 hs).trans h.1,h.2.same fun g hg=>hk.same g (h.2.lt hg).2 (ho g (fZ.2 hg))⟩
theorem av.lt {W:World} {X:Nat} {q:af} (h:av W X q):X < W.heap.size:=(J2.1 h).1
theorem jx.lt {W:World} {X:Nat} {x:ao} (h:jx W X x):X < W.heap.size:=(J2.1 h).1
end
def ce (id:Int) (f:aD→aD) (l:List aD):List aD:=l.map fun x=>if x.id=id then f x else x
def hU (p:aE) (id:Int) (ok:aD→Bool) (f:aD→aD) (nx:Int):Option aE:=
 if bK p then match p.L8.find? (fun x=>decide (x.id=id)) with
  | some y=>if ok y then some { p with next:=nx,L8:=ce id f p.L8 } else none
  | none=>none
 else none
def cN:aE:=⟨0,0,[],[],[],[],[],[]⟩
def gI (w:World) (r:Option aE) (e:Ending) (w':World):Prop:= ∃ q:af,e= .returned (.tuple #[.agg q.cells,.bool r.isSome])∧ap w' w.heap.size q∧q.pure=r.getD cN∧Below w.heap.size w w'
theorem Ai (w:World) (base:Nat):ap w base ⟨0,0,[],none,0,[],none,0,[],none,0,[],none,0,[],none,0,[],none,0⟩:=
 ⟨Ke _ _ _ _,Ke _ _ _ _,Ke _ _ _ _,Ke _ _ _ _,Ke _ _ _ _,Ke _ _ _ _,(fun x hx=>by cases hx),(fun x hx=>by cases hx),(fun x hx=>by cases hx),by simp [af.Mc,blk]⟩
theorem ca {w w':World} {r:Option aE} (h:r=none) (hb:Below w.heap.size w w'):gI w r (.returned (.tuple #[.agg ar,.bool false])) w':=by
 subst h;exact ⟨_,rfl,Ai _ _,rfl,hb⟩
theorem vO {p:aE} {id nx:Int} {ok:aD→Bool} {f:aD→aD} (h:bK p=false):hU p id ok f nx=none:=by simp [hU,h]
theorem tg {p:aE} {id nx:Int} {ok:aD→Bool} {f:aD→aD} (h:p.L8.find? (fun x=>decide (x.id=id))=none):hU p id ok f nx=none:=by
 unfold hU
 split
 ·rw [h]
 ·rfl
theorem sx {p:aE} {id nx:Int} {ok:aD→Bool} {f:aD→aD} {y:aD} (h:p.L8.find? (fun x=>decide (x.id=id))=some y) (ho:ok y=false):hU p id ok f nx=none:=by
 unfold hU
 split
 ·rw [h]; simp [ho]
 ·rfl
theorem tT {p:aE} {id nx:Int} {ok:aD→Bool} {f:aD→aD} {y:aD} (hp:bK p=true) (h:p.L8.find? (fun x=>decide (x.id=id))=some y) (ho:ok y=true):hU p id ok f nx=some { p with next:=nx,L8:=ce id f p.L8 } :=by
 unfold hU;rw [if_pos hp,h];simp [ho]
theorem db {α:Type} {num:α→Int} {ok:α→Bool} : ∀ {l:List α} {last:Int},aw num ok last l=true→(∀ x∈l,last < num x)∧l.Pairwise (fun x y=>num x < num y)
 | [],_,_=>⟨(fun x hx=>by cases hx),List.Pairwise.nil⟩
 | x :: r,last,h=>by
  simp only [aw,J7,decide_eq_true_eq] at h;obtain ⟨h1,h2⟩:=db h.2;refine ⟨fun y hy=> ?_,List.Pairwise.cons (fun y hy=>h1 y hy) h2⟩;rcases List.mem_cons.1 hy with rfl | hy
  ·exact h.1.1.2
  ·have:=h1 y hy; have:=h.1.1.2; omega
theorem rp {l:List aD} {f:aD→aD} {id:Int} {n:Nat} {y:aD} (hr:l.Pairwise (fun x y=>x.id < y.id)) (hn:l[n]? =some y) (hy:y.id=id):ce id f l=l.set n (f y):=by
 induction l generalizing n with
 | nil=>simp at hn
 | cons x r ih=>
  obtain ⟨h1,h2⟩:=List.pairwise_cons.1 hr;cases n with
  | zero=>
   simp only [List.getElem?_cons_zero,LF] at hn;subst hn;have e:ce id f r=r:=by
    unfold ce
    conv=>rhs; rw [← List.map_id r]
    refine List.map_congr_left fun z hz=> ?_
    rw [if_neg (by have:=h1 z hz; omega)];rfl
   simp only [List.set_cons_zero]
   show (if x.id=id then f x else x) :: ce id f r=_
   rw [if_pos hy,e]
  | succ n=>
   simp only [List.getElem?_cons_succ] at hn;have hlt:=h1 y (KA hn);simp only [List.set_cons_succ]
   show (if x.id=id then f x else x) :: ce id f r=_
   rw [if_neg (by omega),ih h2 hn]
theorem sc {p:aE} (h:bK p=true):p.L8.Pairwise (fun x y=>x.id < y.id):=(db ((ch _).1 h).L8).2
def GM (x:aD):Prop:=(x.prog.length≤1048576∧(∀ o∈x.prog,o.2.2.2.size≤1048576)∧x.held.size≤1048576∧x.got.size≤1048576)∧(Lit.int .i64 x.id).wf=true∧(Lit.int .i64 x.on).wf=true∧(Lit.int .i64 x.RU).wf=true
theorem IZ {p:aE} (h:bK p=true):(Lit.int .i64 p.next).wf=true:=by
 have h2:=bz.1 ((ch _).1 h).next;have e1:IntKind.min .i64≤0:=by decide
 have e2:2000000000≤IntKind.max .i64:=by decide
 simp only [Lit.wf,J7,decide_eq_true_eq];omega
theorem hY:cN.Small:=⟨Ky _,Ky _,Ky _,Ky _,Ky _,Ky _,(fun x hx=>by cases hx),(fun x hx=>by cases hx),(fun x hx=>by cases hx),(fun x hx=>by cases hx),(fun x hx=>by cases hx),(fun x hx=>by cases hx)⟩
theorem qQ {p:aE} {id nx:Int} {ok:aD→Bool} {f:aD→aD} :(hU p id ok f nx).getD cN=cN∨bK p=true∧(hU p id ok f nx).getD cN= { p with next:=nx,L8:=ce id f p.L8 } :=by
 unfold hU
 split
 ·rename_i hp
  split
  ·split
   ·exact .inr ⟨hp,rfl⟩
   ·exact .inl rfl
  ·exact .inl rfl
 ·exact .inl rfl
theorem zJ {p:aE} {id nx:Int} {ok:aD→Bool} {f:aD→aD} (h:p.Small) (hf:bK p=true→ ∀ y∈p.L8,GM y→GM (f y)):((hU p id ok f nx).getD cN).Small:=by
 rcases qQ (p:=p) (id:=id) (nx:=nx) (ok:=ok) (f:=f) with e | ⟨hp,e⟩
 ·rw [e]; exact hY
 ·rw [e]
  refine ⟨by simpa [ce] using h.dl,h.fx,h.cD,h.cC,h.cb,h.dH,fun x hx=> ?_,h.aj,h.L9,h.ag,h.ae,h.ai⟩;obtain ⟨y,hy,rfl⟩:=List.mem_map.1 hx
  split
  ·exact hf hp y hy (h.L8 y hy)
  ·exact h.L8 y hy
theorem ap.kB {w:World} {base n j gs:Nat} {q:af} {x y:ao} {vs:List Value} (h:ap w base q) (hx:q.L8[n]? =some x) (ha:q.aN=some ⟨gs,0,none⟩) (hy:y.prog=x.prog∧y.aY=x.aY∧y.bH=x.bH)
  (hj:j+vs.length≤12) (h1: ∀ r,r < vs.length→(bg.vals y)[j+r]? =vs[r]?) (h2: ∀ r,r < 12→ ¬ (j≤r∧r < j+vs.length)→(bg.vals y)[r]? =(bg.vals x)[r]?):
  ap (bn w gs (n * 12+j) vs) base ({ q with L8:=q.L8.set n y } :af)∧aI w (bn w gs (n * 12+j) vs) [gs] ∧({ q with L8:=q.L8.set n y } :af).Mc=q.Mc:=by
 have hn:n < q.L8.length:=(List.getElem?_eq_some_iff.1 hx).1;have hsp:=kL hx;have hset:q.L8.set n y=q.L8.take n ++ y :: q.L8.drop (n+1):=by rw [List.set_eq_take_append_cons_drop,if_pos hn]
 have hl:(q.L8.take n).length=n:=by rw [List.length_take]; omega
 have hkb:aI w (bn w gs (n * 12+j) vs) [gs] :=aI.set _ (by simp);have ho:=h.L8;rw [ha] at ho;obtain ⟨g,hg,hrow⟩:=bl.fX (K:=bg) ho (by omega);cases hg;rw [hsp] at hrow;have h5:=bl.part (K:=bg) (x:=x) (y:=y) (j:=j) (vs:=vs) hrow hj h1 h2;rw [hl,show bg.n=12 from rfl,← hset] at h5;have h6:=h5.owns;have hki:(q.L8.set n y).filterMap aR.bt=q.L8.filterMap aR.bt:=by
  rw [hset]
  conv=>rhs; rw [hsp]
  have e:aR.bt y=aR.bt x:=by show y.aY.map (·.block)=x.aY.map (·.block); rw [hy.2.1]
  simp only [List.filterMap_append,List.filterMap_cons,e]
 have Pp:aR.cO w base y:=by
  have h7:=h.eI x (KA hx)
  show w.ownsRow base _ 4 (.slice y.aY y.prog.length y.bH) y.prog.length (fk.flat y.prog)
  rw [hy.1,hy.2.1,hy.2.2];exact h7
 have EI: ∀ z∈q.L8,∀ b,aR.bt z=some b→b≠gs:=fun z hz b hb e=>by
  have h8:=h.nodup;rw [af.Mc,ha] at h8;have h9:=(List.nodup_append.1 h8).2.2 gs (by simp [blk]) b (List.mem_append_left _ (List.mem_filterMap.2 ⟨z,hz,hb⟩));exact h9 e.symm
 have hsame: ∀ b,b≠gs→(bn w gs (n * 12+j) vs).heap[b]? =w.heap[b]? :=fun b hb=>de _ hb
 have hm: ∀ z∈q.L8.set n y,aR.cO (bn w gs (n * 12+j) vs) base z:=fun z hz=>by
  rcases List.mem_or_eq_of_mem_set hz with hz | rfl
  ·exact (h.eI z hz).same fun b hb=>hsame b (EI z hz b hb)
  ·refine Pp.same fun b hb=>hsame b (EI x (KA hx) b ?_)
   rw [← hb]
   show x.aY.map (·.block)=z.aY.map (·.block)
   rw [hy.2.1]
 have ht:=h.As (w':=bn w gs (n * 12+j) vs) (l:=q.L8.set n y) (by rw [ha]; rw [List.length_set] at h6; exact h6) (by simp) hm hki (hkb.mono (by simp [ha,blk]));exact ⟨ht.1,hkb,ht.2⟩
end
section
open Go.RowKit Go.Maps
attribute [local go_sem ↓] Go.wp_at_zero Go.wp_at_succ
def uK:aD:=⟨0,0,[],0,0,0,0,0,rM,rM,0,0⟩
def ew (p:aE) (id:Int):Option aD:=if bK p then p.L8.find? (fun x=>decide (x.id=id)) else none
def wb (w:World) (r:Option aD) (e:Ending) (w':World):Prop:= ∃ x:ao,e= .returned (.tuple #[.agg (aX x),.bool r.isSome])∧aR.cO w' w.heap.size x∧x.toaD=r.getD uK∧Below w.heap.size w w'
theorem l7 {w w':World} {r:Option aD} (h:r=none) (hb:Below w.heap.size w w'):wb w r (.returned (.tuple #[.agg cE,.bool false])) w':=by
 subst h;exact ⟨⟨uK,none,0⟩,rfl,Ke _ _ _ _,rfl,hb⟩
theorem ui {p:aE} {id:Int} (h:bK p=false):ew p id=none:=by simp [ew,h]
theorem nK (id:Int): ∀ (l:List aD) (k:Nat),(place (l.map (·.id)) id k= -1∧l.find? (fun x=>decide (x.id=id))=none)∨ ∃ n x,place (l.map (·.id)) id k=((k+n:Nat):Int)∧l[n]? =some x∧l.find? (fun x=>decide (x.id=id))=some x
 | [],k=> .inl ⟨rfl,rfl⟩
 | x :: r,k=>by
  by_cases h:x.id=id
  ·refine .inr ⟨0,x,?_,rfl,by simp [h]⟩
   simp [place,h]
  ·rcases nK id r (k+1) with ⟨h1,h2⟩ | ⟨n,y,h1,h2,h3⟩
   ·exact .inl ⟨by simp only [Lt,place]; rw [if_neg h]; exact h1,by simp only [LL,h,decide_false]; exact h2⟩
   ·refine .inr ⟨n+1,y,?_,h2,by simp only [LL,h,decide_false]; exact h3⟩
    simp only [Lt,place];rw [if_neg h,h1];omega
theorem E0 (id:Int) (lp:List (ao × Nat)):cz (RW (fun x:ao=>x.id) lp) id=(lp.find? (fun p=>decide (p.1.id=id))).map (·.2):=by
 unfold cz RW;rw [List.find?_map,Option.map_map];have e:((fun p:Int × Nat=>p.1 == id) ∘ fun p:ao × Nat=>(p.1.id,p.2))=fun p=>decide (p.1.id=id):=by
  funext p
  show (p.1.id == id)=_
  rw [Bool.beq_eq_decide_eq]
 rw [e];rfl
theorem Fj (id:Int) (lp:List (ao × Nat)):(lp.map fun p=>p.1.toaD).find? (fun x=>decide (x.id=id))=(lp.find? (fun p=>decide (p.1.id=id))).map (fun p=>p.1.toaD):=by
 rw [List.find?_map];rfl
theorem uN (p:af) (id:Int) (w:World) (hid:(Lit.int .i64 id).wf=true) (hg:p.Good w):
  Calls Tryz.prog 30 #[.agg p.cells,.int .i64 id] w fun e w'=>wb w (ew p.pure id) e w':=by
 have HB:Hid (p.Good ((w.alloc (.cells p.row 32)).alloc (.cells cE 43))∧Below w.heap.size w ((w.alloc (.cells p.row 32)).alloc (.cells cE 43))∧((w.alloc (.cells p.row 32)).alloc (.cells cE 43)).heap[w.heap.size+1]? =some (.cells cE 43 (0,0))∧av ((w.alloc (.cells p.row 32)).alloc (.cells cE 43)) w.heap.size p∧(Lit.int .i64 id).wf=true):=by
  have b1:Below w.heap.size w ((w.alloc (.cells p.row 32)).alloc (.cells cE 43)):=((Below.refl _ _).alloc (Nat.le_refl _) _).alloc (by simp) _;exact ⟨hg.below b1,b1,heap_alloc2_new _ _ _,(PU (by simp)).trans (heap_alloc_new _ _),hid⟩
 clear hg hid;obtain ⟨m0,m1,m2,m3,m4,m5,m6,m7⟩:=HB.I.2.2.2.1.cells;unfold af.cells
 go_enter Tryz.func30,Tryz.ntmps30
 go_wp2_with fail;generalize (w.alloc (.cells p.row 32)).alloc (.cells cE 43)=W at *;clear m0 m1 m2 m3 m4 m5 m6 m7;refine (iO p W HB.I.1).mono ?_;rintro e w1 ⟨hb1,⟨hno,rfl⟩ | ⟨fm,o,S,rfl,hat,gn⟩⟩
 ·have HZ:Hid (Below w.heap.size w w1∧w1.heap[w.heap.size+1]? =some (.cells cE 43 (0,0))∧True):=⟨HB.I.2.1.trans (hb1.mono HB.I.2.1.size),(hb1.block _ (J2.1 HB.I.2.2.1).1).trans HB.I.2.2.1,trivial⟩
  have HN:Hid (ew p.pure id=none):=ui (dL hno);clear hb1 hno
  dsimp only
  repeat (first | (go_big_may; refine wpList_store_row rfl 43 (Operand.tmp 4) (Operand.tmp 16) rfl (w.heap.size+1) _ _ cE rfl rfl HZ.I.2.1 (by kernel_rfl) rfl (by kernel_rfl) ?_) | go_values | go_skip | go_guarded | go_step | go_upon | go_back)
  refine KT (v:= .tuple #[.agg cE,.bool false]) (bL Tryz.results30 _ _ (w.heap.size+1) _ _ _ _ (by rfl) (KU _ _ _ _ _ _ HZ.I.2.1) Qi rfl (by kernel_rfl)) rfl ?_;exact l7 HN.I (below_setRow HZ.I.1 (by omega) _)
 have HZ:Hid (Below w.heap.size w w1∧w1.heap[w.heap.size+1]? =some (.cells cE 43 (0,0))∧aQ S.pure∧cJ w1 W.heap.size o S∧S.pure=p.pure∧w.heap.size+1 < W.heap.size):=⟨HB.I.2.1.trans (hb1.mono HB.I.2.1.size),(hb1.block _ (J2.1 HB.I.2.2.1).1).trans HB.I.2.2.1,by rw [gn]; exact fm,hat,gn,(J2.1 HB.I.2.2.1).1⟩
 have c3:w1.cell? ⟨o,3,none⟩=some (.map (some S.q.bp)):=hat.opn.cell 3;have hlk:=hat.L8.map.look Tryz.underlying108 (oD w1) HB.I.2.2.2.2 true;have td:ew p.pure id=(S.lp.find? (fun p=>decide (p.1.id=id))).map (fun p=>p.1.toaD):=by
  rw [← gn];simp only [ew,fP HZ.I.2.2.1,if_true];exact Fj id S.lp
 rw [E0] at hlk;simp only [if_true] at hlk;clear hb1 fm hat gn;cases Dc:S.lp.find? (fun p=>decide (p.1.id=id)) with
 | none=>
  rw [Dc] at hlk td;simp only [Option.map_none,qz,Option.isSome_none] at hlk;have HN:Hid (ew p.pure id=none):=td;clear Dc td;go_wp2_with (refine wpList_store_row rfl 43 (Operand.tmp 4) (Operand.tmp 29) rfl (w.heap.size+1) _ _ cE rfl rfl HZ.I.2.1 (by kernel_rfl) rfl (by kernel_rfl) ?_);refine KT (v:= .tuple #[.agg cE,.bool false]) (bL Tryz.results30 _ _ (w.heap.size+1) _ _ _ _ (by rfl) (KU _ _ _ _ _ _ HZ.I.2.1) Qi rfl (by kernel_rfl)) rfl ?_;exact l7 HN.I (below_setRow HZ.I.1 (by omega) _)
 | some r=>
  obtain ⟨x,g⟩:=r;rw [Dc] at hlk td;simp only [Option.map_some,qz,dt,Option.isSome_some] at hlk;have hm:(x,g)∈S.lp:=List.mem_of_find?_eq_some Dc;have HN:Hid (ew p.pure id=some x.toaD∧aR.cO w1 W.heap.size x):=⟨td,HZ.I.2.2.2.1.eI (x,g) hm⟩
  obtain ⟨d0,d1,d2,d3,d4,d5,d6,d7,d8,d9,tH,tS⟩:=bo (HZ.I.2.2.2.1.L8.box (x,g) hm);clear Dc td hm;go_wp2_with (refine wpList_store_row rfl 43 (Operand.tmp 4) (Operand.tmp 32) rfl (w.heap.size+1) _ _ x.row rfl rfl HZ.I.2.1 (by kernel_rfl) rfl (by kernel_rfl) ?_);refine KT (v:= .tuple #[.agg x.row,.bool true]) (bL Tryz.results30 _ _ (w.heap.size+1) _ _ _ _ (by rfl) (KU _ _ _ _ _ _ HZ.I.2.1) Qi rfl (by kernel_rfl)) rfl ?_;rw [HN.I.1];have hWs:=HZ.I.2.2.2.2.2;exact ⟨x,rfl,(HN.I.2.low (by omega)).same fun g hk=>setRow_other _ _ _ _ (by have:=(HN.I.2.lt hk).1; omega),rfl,below_setRow HZ.I.1 (by omega) _⟩
end
end Go.Proofs.YtkbcplnlehdjfaaGreat
