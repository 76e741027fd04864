/- What the proof leans on, part 23: StB, ProcOfI, LawX, StoppedS, OpenT, StartedS. -/
import Derived.Test.YtkbcplnlehdjfaaGreatOwnB2
import Derived.Test.YtkbcplnlehdjfaaGreatOwnB5
import Derived.Test.YtkbcplnlehdjfaaGreatOwnB19
import Derived.Test.YtkbcplnlehdjfaaGreatOwnB20
import Derived.Test.YtkbcplnlehdjfaaGreatOwnB21
import Derived.Test.YtkbcplnlehdjfaaGreatOwnB22
import Derived.Deep.MidRow
set_option maxRecDepth 100000
set_option maxHeartbeats 8000000

namespace Go.Proofs.YtkbcplnlehdjfaaGreat
open Go.RowKit
def ce (id:Int) (f:aD→aD) (l:List aD):List aD:=l.map fun x=>if x.id=id then f x else x
def hU (p:aE) (id:Int) (ok:aD→Bool) (f:aD→aD) (nx:Int):Option aE:=
 if bK p then match p.procs.find? (fun x=>decide (x.id=id)) with
  | some y=>if ok y then some { p with next:=nx,procs:=ce id f p.procs } else none
  | none=>none
 else none
def cN:aE:=⟨0,0,[],[],[],[],[],[]⟩
def gI (w:World) (r:Option aE) (e:Ending) (w':World):Prop:= ∃ q:af,e= .returned (.tuple #[.agg q.cells,.bool r.isSome])∧ap w' w.heap.size q∧q.pure=r.getD cN∧Below w.heap.size w w'
theorem Ai (w:World) (base:Nat):ap w base ⟨0,0,[],none,0,[],none,0,[],none,0,[],none,0,[],none,0,[],none,0⟩:=
 ⟨World.ownsRow_nil _ _ _ _,World.ownsRow_nil _ _ _ _,World.ownsRow_nil _ _ _ _,World.ownsRow_nil _ _ _ _,World.ownsRow_nil _ _ _ _,World.ownsRow_nil _ _ _ _,(fun x hx=>by cases hx),(fun x hx=>by cases hx),(fun x hx=>by cases hx),by simp [af.blocks,blk]⟩
theorem ca {w w':World} {r:Option aE} (h:r=none) (hb:Below w.heap.size w w'):gI w r (.returned (.tuple #[.agg ar,.bool false])) w':=by
 subst h
 exact ⟨_,rfl,Ai _ _,rfl,hb⟩
theorem vO {p:aE} {id nx:Int} {ok:aD→Bool} {f:aD→aD} (h:bK p=false):hU p id ok f nx=none:=by simp [hU,h]
theorem tg {p:aE} {id nx:Int} {ok:aD→Bool} {f:aD→aD} (h:p.procs.find? (fun x=>decide (x.id=id))=none):hU p id ok f nx=none:=by
 unfold hU
 split
 ·rw [h]
 ·rfl
theorem sx {p:aE} {id nx:Int} {ok:aD→Bool} {f:aD→aD} {y:aD} (h:p.procs.find? (fun x=>decide (x.id=id))=some y) (ho:ok y=false):hU p id ok f nx=none:=by
 unfold hU
 split
 ·rw [h]; simp [ho]
 ·rfl
theorem tT {p:aE} {id nx:Int} {ok:aD→Bool} {f:aD→aD} {y:aD} (hp:bK p=true) (h:p.procs.find? (fun x=>decide (x.id=id))=some y) (ho:ok y=true):hU p id ok f nx=some { p with next:=nx,procs:=ce id f p.procs } :=by
 unfold hU
 rw [if_pos hp,h]
 simp [ho]
theorem db {α:Type} {num:α→Int} {ok:α→Bool} : ∀ {l:List α} {last:Int},aw num ok last l=true→(∀ x∈l,last < num x)∧l.Pairwise (fun x y=>num x < num y)
 | [],_,_=>⟨(fun x hx=>by cases hx),List.Pairwise.nil⟩
 | x :: r,last,h=>by
  simp only [aw,Bool.and_eq_true,decide_eq_true_eq] at h
  obtain ⟨h1,h2⟩:=db h.2
  refine ⟨fun y hy=> ?_,List.Pairwise.cons (fun y hy=>h1 y hy) h2⟩
  rcases List.mem_cons.1 hy with rfl | hy
  ·exact h.1.1.2
  ·have:=h1 y hy; have:=h.1.1.2; omega
theorem rp {l:List aD} {f:aD→aD} {id:Int} {n:Nat} {y:aD} (hr:l.Pairwise (fun x y=>x.id < y.id)) (hn:l[n]? =some y) (hy:y.id=id):ce id f l=l.set n (f y):=by
 induction l generalizing n with
 | nil=>simp at hn
 | cons x r ih=>
  obtain ⟨h1,h2⟩:=List.pairwise_cons.1 hr
  cases n with
  | zero=>
   simp only [List.getElem?_cons_zero,Option.some.injEq] at hn
   subst hn
   have e:ce id f r=r:=by
    unfold ce
    conv=>rhs; rw [← List.map_id r]
    refine List.map_congr_left fun z hz=> ?_
    rw [if_neg (by have:=h1 z hz; omega)]
    rfl
   simp only [List.set_cons_zero]
   show (if x.id=id then f x else x) :: ce id f r=_
   rw [if_pos hy,e]
  | succ n=>
   simp only [List.getElem?_cons_succ] at hn
   have hlt:=h1 y (List.mem_of_getElem? hn)
   simp only [List.set_cons_succ]
   show (if x.id=id then f x else x) :: ce id f r=_
   rw [if_neg (by omega),ih h2 hn]
theorem sc {p:aE} (h:bK p=true):p.procs.Pairwise (fun x y=>x.id < y.id):=(db ((ch _).1 h).procs).2
def GM (x:aD):Prop:=(x.prog.length≤1048576∧(∀ o∈x.prog,o.2.2.2.size≤1048576)∧x.held.size≤1048576∧x.got.size≤1048576)∧(Lit.int .i64 x.id).wf=true∧(Lit.int .i64 x.on).wf=true∧(Lit.int .i64 x.since).wf=true
theorem IZ {p:aE} (h:bK p=true):(Lit.int .i64 p.next).wf=true:=by
 have h2:=bz.1 ((ch _).1 h).next
 have e1:IntKind.min .i64≤0:=by decide
 have e2:2000000000≤IntKind.max .i64:=by decide
 simp only [Lit.wf,Bool.and_eq_true,decide_eq_true_eq]
 omega
theorem hY:cN.Small:=⟨Nat.zero_le _,Nat.zero_le _,Nat.zero_le _,Nat.zero_le _,Nat.zero_le _,Nat.zero_le _,(fun x hx=>by cases hx),(fun x hx=>by cases hx),(fun x hx=>by cases hx),(fun x hx=>by cases hx),(fun x hx=>by cases hx),(fun x hx=>by cases hx)⟩
theorem qQ {p:aE} {id nx:Int} {ok:aD→Bool} {f:aD→aD} :(hU p id ok f nx).getD cN=cN∨bK p=true∧(hU p id ok f nx).getD cN= { p with next:=nx,procs:=ce id f p.procs } :=by
 unfold hU
 split
 ·rename_i hp
  split
  ·split
   ·exact .inr ⟨hp,rfl⟩
   ·exact .inl rfl
  ·exact .inl rfl
 ·exact .inl rfl
theorem zJ {p:aE} {id nx:Int} {ok:aD→Bool} {f:aD→aD} (h:p.Small) (hf:bK p=true→ ∀ y∈p.procs,GM y→GM (f y)):((hU p id ok f nx).getD cN).Small:=by
 rcases qQ (p:=p) (id:=id) (nx:=nx) (ok:=ok) (f:=f) with e | ⟨hp,e⟩
 ·rw [e]; exact hY
 ·rw [e]
  refine ⟨by simpa [ce] using h.dl,h.fx,h.cD,h.cC,h.cb,h.dH,fun x hx=> ?_,h.aj,h.events,h.ag,h.ae,h.ai⟩
  obtain ⟨y,hy,rfl⟩:=List.mem_map.1 hx
  split
  ·exact hf hp y hy (h.procs y hy)
  ·exact h.procs y hy
theorem ap.kB {w:World} {base n j gs:Nat} {q:af} {x y:ao} {vs:List Value} (h:ap w base q) (hx:q.procs[n]? =some x) (ha:q.aN=some ⟨gs,0,none⟩) (hy:y.prog=x.prog∧y.aY=x.aY∧y.bH=x.bH)
  (hj:j+vs.length≤12) (h1: ∀ r,r < vs.length→(bg.vals y)[j+r]? =vs[r]?) (h2: ∀ r,r < 12→ ¬ (j≤r∧r < j+vs.length)→(bg.vals y)[r]? =(bg.vals x)[r]?):
  ap (bn w gs (n * 12+j) vs) base ({ q with procs:=q.procs.set n y } :af)∧aI w (bn w gs (n * 12+j) vs) [gs] ∧({ q with procs:=q.procs.set n y } :af).blocks=q.blocks:=by
 have hn:n < q.procs.length:=(List.getElem?_eq_some_iff.1 hx).1
 have hsp:=kL hx
 have hset:q.procs.set n y=q.procs.take n ++ y :: q.procs.drop (n+1):=by rw [List.set_eq_take_append_cons_drop,if_pos hn]
 have hl:(q.procs.take n).length=n:=by rw [List.length_take]; omega
 have hkb:aI w (bn w gs (n * 12+j) vs) [gs] :=aI.set _ (by simp)
 have ho:=h.procs
 rw [ha] at ho
 obtain ⟨g,hg,hrow⟩:=bl.fX (K:=bg) ho (by omega)
 cases hg
 rw [hsp] at hrow
 have h5:=bl.part (K:=bg) (x:=x) (y:=y) (j:=j) (vs:=vs) hrow hj h1 h2
 rw [hl,show bg.n=12 from rfl,← hset] at h5
 have h6:=h5.owns
 have hki:(q.procs.set n y).filterMap aR.bt=q.procs.filterMap aR.bt:=by
  rw [hset]
  conv=>rhs; rw [hsp]
  have e:aR.bt y=aR.bt x:=by show y.aY.map (·.block)=x.aY.map (·.block); rw [hy.2.1]
  simp only [List.filterMap_append,List.filterMap_cons,e]
 have hmx:aR.cO w base y:=by
  have h7:=h.eI x (List.mem_of_getElem? hx)
  show w.ownsRow base _ 4 (.slice y.aY y.prog.length y.bH) y.prog.length (fk.flat y.prog)
  rw [hy.1,hy.2.1,hy.2.2]
  exact h7
 have EI: ∀ z∈q.procs,∀ b,aR.bt z=some b→b≠gs:=fun z hz b hb e=>by
  have h8:=h.nodup
  rw [af.blocks,ha] at h8
  have h9:=(List.nodup_append.1 h8).2.2 gs (by simp [blk]) b (List.mem_append_left _ (List.mem_filterMap.2 ⟨z,hz,hb⟩))
  exact h9 e.symm
 have hsame: ∀ b,b≠gs→(bn w gs (n * 12+j) vs).heap[b]? =w.heap[b]? :=fun b hb=>de _ hb
 have hm: ∀ z∈q.procs.set n y,aR.cO (bn w gs (n * 12+j) vs) base z:=fun z hz=>by
  rcases List.mem_or_eq_of_mem_set hz with hz | rfl
  ·exact (h.eI z hz).same fun b hb=>hsame b (EI z hz b hb)
  ·refine hmx.same fun b hb=>hsame b (EI x (List.mem_of_getElem? hx) b ?_)
   rw [← hb]
   show x.aY.map (·.block)=z.aY.map (·.block)
   rw [hy.2.1]
 have ht:=h.As (w':=bn w gs (n * 12+j) vs) (l:=q.procs.set n y) (by rw [ha]; rw [List.length_set] at h6; exact h6) (by simp) hm hki (hkb.mono (by simp [ha,blk]))
 exact ⟨ht.1,hkb,ht.2⟩
end Go.Proofs.YtkbcplnlehdjfaaGreat
namespace Go.Proofs.YtkbcplnlehdjfaaGreat
open Go.RowKit Go.Maps
attribute [local go_sem ↓] Go.wp_at_zero Go.wp_at_succ
def uK:aD:=⟨0,0,[],0,0,0,0,0,rM,rM,0,0⟩
def ew (p:aE) (id:Int):Option aD:=if bK p then p.procs.find? (fun x=>decide (x.id=id)) else none
def wb (w:World) (r:Option aD) (e:Ending) (w':World):Prop:= ∃ x:ao,e= .returned (.tuple #[.agg (aX x),.bool r.isSome])∧aR.cO w' w.heap.size x∧x.toaD=r.getD uK∧Below w.heap.size w w'
theorem l7 {w w':World} {r:Option aD} (h:r=none) (hb:Below w.heap.size w w'):wb w r (.returned (.tuple #[.agg cE,.bool false])) w':=by
 subst h
 exact ⟨⟨uK,none,0⟩,rfl,World.ownsRow_nil _ _ _ _,rfl,hb⟩
theorem ui {p:aE} {id:Int} (h:bK p=false):ew p id=none:=by simp [ew,h]
theorem nK (id:Int): ∀ (l:List aD) (k:Nat),(place (l.map (·.id)) id k= -1∧l.find? (fun x=>decide (x.id=id))=none)∨ ∃ n x,place (l.map (·.id)) id k=((k+n:Nat):Int)∧l[n]? =some x∧l.find? (fun x=>decide (x.id=id))=some x
 | [],k=> .inl ⟨rfl,rfl⟩
 | x :: r,k=>by
  by_cases h:x.id=id
  ·refine .inr ⟨0,x,?_,rfl,by simp [h]⟩
   simp [place,h]
  ·rcases nK id r (k+1) with ⟨h1,h2⟩ | ⟨n,y,h1,h2,h3⟩
   ·exact .inl ⟨by simp only [List.map_cons,place]; rw [if_neg h]; exact h1,by simp only [List.find?_cons,h,decide_false]; exact h2⟩
   ·refine .inr ⟨n+1,y,?_,h2,by simp only [List.find?_cons,h,decide_false]; exact h3⟩
    simp only [List.map_cons,place]
    rw [if_neg h,h1]
    omega
theorem E0 (id:Int) (lp:List (ao × Nat)):cz (keysOf (fun x:ao=>x.id) lp) id=(lp.find? (fun p=>decide (p.1.id=id))).map (·.2):=by
 unfold cz keysOf
 rw [List.find?_map,Option.map_map]
 have e:((fun p:Int × Nat=>p.1 == id) ∘ fun p:ao × Nat=>(p.1.id,p.2))=fun p=>decide (p.1.id=id):=by
  funext p
  show (p.1.id == id)=_
  rw [Bool.beq_eq_decide_eq]
 rw [e]
 rfl
theorem Fj (id:Int) (lp:List (ao × Nat)):(lp.map fun p=>p.1.toaD).find? (fun x=>decide (x.id=id))=(lp.find? (fun p=>decide (p.1.id=id))).map (fun p=>p.1.toaD):=by
 rw [List.find?_map]
 rfl
theorem uN (p:af) (id:Int) (w:World) (hid:(Lit.int .i64 id).wf=true) (hg:p.Good w):
  Calls Tryz.prog 30 #[.agg p.cells,.int .i64 id] w fun e w'=>wb w (ew p.pure id) e w':=by
 have HB:Hid (p.Good ((w.alloc (.cells p.row 32)).alloc (.cells cE 43))∧Below w.heap.size w ((w.alloc (.cells p.row 32)).alloc (.cells cE 43))∧((w.alloc (.cells p.row 32)).alloc (.cells cE 43)).heap[w.heap.size+1]? =some (.cells cE 43 (0,0))∧av ((w.alloc (.cells p.row 32)).alloc (.cells cE 43)) w.heap.size p∧(Lit.int .i64 id).wf=true):=by
  have b1:Below w.heap.size w ((w.alloc (.cells p.row 32)).alloc (.cells cE 43)):=((Below.refl _ _).alloc (Nat.le_refl _) _).alloc (by simp) _
  exact ⟨hg.below b1,b1,heap_alloc2_new _ _ _,(heap_alloc_old _ _ (by simp)).trans (heap_alloc_new _ _),hid⟩
 clear hg hid
 obtain ⟨m0,m1,m2,m3,m4,m5,m6,m7⟩:=HB.out.2.2.2.1.cells
 unfold af.cells
 go_enter Tryz.func30,Tryz.ntmps30
 go_wp2_with fail
 generalize (w.alloc (.cells p.row 32)).alloc (.cells cE 43)=W at *
 clear m0 m1 m2 m3 m4 m5 m6 m7
 refine (iO p W HB.out.1).mono ?_
 rintro e w1 ⟨hb1,⟨hno,rfl⟩ | ⟨fm,o,S,rfl,hat,gn⟩⟩
 ·have HZ:Hid (Below w.heap.size w w1∧w1.heap[w.heap.size+1]? =some (.cells cE 43 (0,0))∧True):=⟨HB.out.2.1.trans (hb1.mono HB.out.2.1.size),(hb1.block _ (Array.getElem?_eq_some_iff.1 HB.out.2.2.1).1).trans HB.out.2.2.1,trivial⟩
  have HN:Hid (ew p.pure id=none):=ui (dL hno)
  clear hb1 hno
  dsimp only
  repeat (first | (go_big_may; refine wpList_store_row rfl 43 (Operand.tmp 4) (Operand.tmp 16) rfl (w.heap.size+1) _ _ cE rfl rfl HZ.out.2.1 (by kernel_rfl) rfl (by kernel_rfl) ?_) | go_values | go_skip | go_guarded | go_step | go_upon | go_back)
  refine bodyPost_ret (v:= .tuple #[.agg cE,.bool false]) (bL Tryz.results30 _ _ (w.heap.size+1) _ _ _ _ (by rfl) (setRow_heap _ _ _ _ _ _ HZ.out.2.1) Tryz.underlying43 rfl (by kernel_rfl)) rfl ?_
  exact l7 HN.out (below_setRow HZ.out.1 (by omega) _)
 have HZ:Hid (Below w.heap.size w w1∧w1.heap[w.heap.size+1]? =some (.cells cE 43 (0,0))∧aQ S.pure∧cJ w1 W.heap.size o S∧S.pure=p.pure∧w.heap.size+1 < W.heap.size):=⟨HB.out.2.1.trans (hb1.mono HB.out.2.1.size),(hb1.block _ (Array.getElem?_eq_some_iff.1 HB.out.2.2.1).1).trans HB.out.2.2.1,by rw [gn]; exact fm,hat,gn,(Array.getElem?_eq_some_iff.1 HB.out.2.2.1).1⟩
 have c3:w1.cell? ⟨o,3,none⟩=some (.map (some S.q.bp)):=hat.opn.cell 3
 have hlk:=hat.procs.map.look Tryz.underlying108 (oD w1) HB.out.2.2.2.2 true
 have td:ew p.pure id=(S.lp.find? (fun p=>decide (p.1.id=id))).map (fun p=>p.1.toaD):=by
  rw [← gn]
  simp only [ew,fP HZ.out.2.2.1,if_true]
  exact Fj id S.lp
 rw [E0] at hlk
 simp only [if_true] at hlk
 clear hb1 fm hat gn
 cases Dc:S.lp.find? (fun p=>decide (p.1.id=id)) with
 | none=>
  rw [Dc] at hlk td
  simp only [Option.map_none,qz,Option.isSome_none] at hlk
  have HN:Hid (ew p.pure id=none):=td
  clear Dc td
  go_wp2_with (refine wpList_store_row rfl 43 (Operand.tmp 4) (Operand.tmp 29) rfl (w.heap.size+1) _ _ cE rfl rfl HZ.out.2.1 (by kernel_rfl) rfl (by kernel_rfl) ?_)
  refine bodyPost_ret (v:= .tuple #[.agg cE,.bool false]) (bL Tryz.results30 _ _ (w.heap.size+1) _ _ _ _ (by rfl) (setRow_heap _ _ _ _ _ _ HZ.out.2.1) Tryz.underlying43 rfl (by kernel_rfl)) rfl ?_
  exact l7 HN.out (below_setRow HZ.out.1 (by omega) _)
 | some r=>
  obtain ⟨x,g⟩:=r
  rw [Dc] at hlk td
  simp only [Option.map_some,qz,dt,Option.isSome_some] at hlk
  have hm:(x,g)∈S.lp:=List.mem_of_find?_eq_some Dc
  have HN:Hid (ew p.pure id=some x.toaD∧aR.cO w1 W.heap.size x):=⟨td,HZ.out.2.2.2.1.eI (x,g) hm⟩
  obtain ⟨d0,d1,d2,d3,d4,d5,d6,d7,d8,d9,tH,tS⟩:=bo (HZ.out.2.2.2.1.procs.box (x,g) hm)
  clear Dc td hm
  go_wp2_with (refine wpList_store_row rfl 43 (Operand.tmp 4) (Operand.tmp 32) rfl (w.heap.size+1) _ _ x.row rfl rfl HZ.out.2.1 (by kernel_rfl) rfl (by kernel_rfl) ?_)
  refine bodyPost_ret (v:= .tuple #[.agg x.row,.bool true]) (bL Tryz.results30 _ _ (w.heap.size+1) _ _ _ _ (by rfl) (setRow_heap _ _ _ _ _ _ HZ.out.2.1) Tryz.underlying43 rfl (by kernel_rfl)) rfl ?_
  rw [HN.out.1]
  have hWs:=HZ.out.2.2.2.2.2
  exact ⟨x,rfl,(HN.out.2.low (by omega)).same fun g hk=>setRow_other _ _ _ _ (by have:=(HN.out.2.lt hk).1; omega),rfl,below_setRow HZ.out.1 (by omega) _⟩
end Go.Proofs.YtkbcplnlehdjfaaGreat
namespace Go.Proofs.YtkbcplnlehdjfaaGreat
open Go.RowKit
theorem Di {α:Type} {N:gd α} {w w':World} {base:Nat} {x:α} (h:N.cO w base x) (hb:Below w.heap.size w w'):N.cO w' base x:=h.same fun g hk=>hb.block g (h.lt hk).2
def Az (p:af) (w W:World):Prop:=W.heap[w.heap.size]? =some (.cells p.cells 73 (0,0))∧Below w.heap.size w W
def o8 (W:World) (X b:Nat) (q:af):Prop:=av W X q∧ap W b q
def rT (W:World) (X b:Nat) (x:ao):Prop:=jx W X x∧aR.cO W b x
section
variable {p q:af} {x:ao} {w W W':World} {X b:Nat} {bs:List Nat}
theorem Az.below (h:Az p w W) (hb:Below W.heap.size W W'):Az p w W':=⟨(hb.block _ (Array.getElem?_eq_some_iff.1 h.1).1).trans h.1,h.2.trans (hb.mono h.2.size)⟩
theorem Az.kept (h:Az p w W) (hk:aI W W' bs) (hs: ∀ g∈bs,w.heap.size < g):Az p w W':=⟨(hk.same _ (Array.getElem?_eq_some_iff.1 h.1).1 fun hm=>by have:=hs _ hm; omega).trans h.1,h.2.trans (hk.below h.2.size fun g hg=>by have:=hs g hg; omega)⟩
theorem o8.below (h:o8 W X b q) (hb:Below W.heap.size W W'):o8 W' X b q:=⟨h.1.below hb,h.2.below hb⟩
theorem o8.kept (h:o8 W X b q) (hk:aI W W' bs) (hs:X∉bs) (ho: ∀ g∈q.blocks,g∉bs):o8 W' X b q:=⟨(hk.same _ (Array.getElem?_eq_some_iff.1 h.1).1 hs).trans h.1,h.2.same fun g hg=>hk.same g (h.2.lt g hg).2 (ho g hg)⟩
theorem rT.below (h:rT W X b x) (hb:Below W.heap.size W W'):rT W' X b x:=⟨h.1.below hb,Di h.2 hb⟩
theorem rT.kept (h:rT W X b x) (hk:aI W W' bs) (hs:X∉bs) (ho: ∀ g∈blk x.aY,g∉bs):rT W' X b x:=⟨(hk.same _ (Array.getElem?_eq_some_iff.1 h.1).1 hs).trans h.1,h.2.same fun g hg=>hk.same g (h.2.lt hg).2 (ho g (fZ.2 hg))⟩
theorem av.lt {W:World} {X:Nat} {q:af} (h:av W X q):X < W.heap.size:=(Array.getElem?_eq_some_iff.1 h).1
theorem jx.lt {W:World} {X:Nat} {x:ao} (h:jx W X x):X < W.heap.size:=(Array.getElem?_eq_some_iff.1 h).1
end
end Go.Proofs.YtkbcplnlehdjfaaGreat
namespace Go.Proofs.YtkbcplnlehdjfaaGreat
open Go.RowKit Go.Maps
attribute [local go_sem ↓] Go.wp_at_zero Go.wp_at_succ
def j7 (y:aD):aD:=⟨y.id,y.prio,y.prog,0,0,0,0,0,rM,y.got,y.code,0⟩
def sW (y:ao):ao:=⟨j7 y.toaD,y.aY,y.bH⟩
theorem mN (x:ao) (w:World):Calls Tryz.prog 100 #[.agg x.row] w fun e w'=>e= .returned (.agg #[.int .i64 x.id,.int .i64 x.prio,.slice x.aY x.prog.length x.bH,.int .i64 0,.int .i64 0,.int .i64 0,.int .i64 0,.int .i64 0,.string ⟨#[]⟩,.string x.got,.int .i64 x.code,.int .i64 0])∧Below w.heap.size w w':=by
 have HB:Hid (Below w.heap.size w ((w.alloc (.cells x.row 43)).alloc (.cells cE 43))∧((w.alloc (.cells x.row 43)).alloc (.cells cE 43)).heap[w.heap.size+1]? =some (.cells cE 43 (0,0))):=⟨((Below.refl _ _).alloc (Nat.le_refl _) _).alloc (by simp) _,heap_alloc2_new _ _ _⟩
 go_enter Tryz.func100,Tryz.ntmps100
 go_wp2_with (refine wpList_store_row rfl 43 (Operand.tmp 2) (Operand.tmp 13) rfl (w.heap.size+1) _ _ #[.int .i64 x.id,.int .i64 x.prio,.slice x.aY x.prog.length x.bH,.int .i64 0,.int .i64 0,.int .i64 0,.int .i64 0,.int .i64 0,.string ⟨#[]⟩,.string x.got,.int .i64 x.code,.int .i64 0] rfl rfl HB.out.2 (by kernel_rfl) rfl (by kernel_rfl) ?_)
 refine bodyPost_ret (v:= .agg #[.int .i64 x.id,.int .i64 x.prio,.slice x.aY x.prog.length x.bH,.int .i64 0,.int .i64 0,.int .i64 0,.int .i64 0,.int .i64 0,.string ⟨#[]⟩,.string x.got,.int .i64 x.code,.int .i64 0]) (results_cell_row Tryz.results100 _ _ (w.heap.size+1) _ _ (0,0) _ rfl (setRow_heap _ _ _ _ _ _ HB.out.2) Tryz.underlying43 rfl (by kernel_rfl)) rfl ?_
 exact ⟨rfl,below_setRow HB.out.1 (by omega) _⟩
def Ba (O gs n:Nat) (q:af) (x:ao) (w':World):Prop:=w'.cell? ⟨O,2,none⟩=some (.slice (some ⟨gs,0,none⟩) q.procs.length q.aW)∧w'.cell? ⟨gs,n * 12,none⟩=some (.int .i64 x.id)∧w'.cell? ⟨gs,n * 12+1,none⟩=some (.int .i64 x.prio)∧w'.cell? ⟨gs,n * 12+2,none⟩=some (.slice x.aY x.prog.length x.bH)∧w'.cell? ⟨gs,n * 12+3,none⟩=some (.int .i64 x.state)∧w'.cell? ⟨gs,n * 12+4,none⟩=some (.int .i64 x.pc)∧w'.cell? ⟨gs,n * 12+5,none⟩=some (.int .i64 x.left)∧w'.cell? ⟨gs,n * 12+6,none⟩=some (.int .i64 x.wake)∧w'.cell? ⟨gs,n * 12+7,none⟩=some (.int .i64 x.on)∧w'.cell? ⟨gs,n * 12+8,none⟩=some (.string x.held)∧w'.cell? ⟨gs,n * 12+9,none⟩=some (.string x.got)∧w'.cell? ⟨gs,n * 12+10,none⟩=some (.int .i64 x.code)∧w'.cell? ⟨gs,n * 12+11,none⟩=some (.int .i64 x.since)
end Go.Proofs.YtkbcplnlehdjfaaGreat
namespace Go.Proofs.YtkbcplnlehdjfaaGreat
open Go.RowKit Go.Maps
def aZ.ju (S:aZ) (g:Nat) (f:ao→ao) (nx:Int):aZ:= { S with q:= { S.q with next:=nx },lp:=sU g f S.lp }
theorem GW {g:Nat} {f:ao→ao} (hf: ∀ x,aR.bt (f x)=aR.bt x) (l:List (ao × Nat)):kids aR (sU g f l)=kids aR l:=by
 induction l with
 | nil=>rfl
 | cons p r ih=>
  have e:(sU g f (p :: r))=(if p.2=g then (f p.1,p.2) else p) :: sU g f r:=rfl
  simp only [kids,List.filterMap_cons] at ih ⊢
  rw [e]
  simp only [List.filterMap_cons]
  by_cases h:p.2=g
  ·simp only [h,if_true,hf]
   rw [ih]
  ·simp only [h,if_false]
   rw [ih]
theorem cJ.ju {w w':World} {base o g:Nat} {S:aZ} {f:ao→ao} {nx:Int} (h:cJ w base o S) (hf: ∀ x,(f x).id=x.id∧(f x).prog=x.prog∧(f x).aY=x.aY∧(f x).bH=x.bH)
  (hc: ∀ p∈S.lp,p.2=g→w'.heap[g]? =some (.cells (aX (f p.1)) 43 (0,0))) (hg:g∈S.lp.map (·.2)) (ho:fa w' o { S.q with next:=nx }) (hs: ∀ b,b≠g→b≠o→w'.heap[b]? =w.heap[b]?):cJ w' base o (S.ju g f nx):=by
 have iH: ∀ x,aR.bt (f x)=aR.bt x:=fun x=>by show (f x).aY.map (·.block)=x.aY.map (·.block); rw [(hf x).2.2.1]
 have hn:=h.nodup
 have hno:=(List.nodup_cons.1 hn).1
 have yD:=(List.nodup_append.1 (List.nodup_cons.1 hn).2)
 have jQ:=yD.1
 unfold aZ.boxes at jQ
 have hin: ∀ b,b∈S.boxes∨b∈S.kids→b≠o:=fun b hb e=>hno (by rw [← e]; exact List.mem_append.2 hb)
 have hp:=List.nodup_append.1 jQ
 have l9:g∈S.q.bp :: S.lp.map (·.2):=List.mem_cons_of_mem _ hg
 have hgr: ∀ b,b∈((S.q.bs :: S.ls.map (·.2)) ++ ((S.q.be :: S.le.map (·.2)) ++ ((S.q.bb :: S.lb.map (·.2)) ++ ((S.q.bf :: S.lf.map (·.2)) ++ (S.q.bq :: S.lq.map (·.2))))))→b≠g:=fun b hb e=>hp.2.2 g l9 b hb e.symm
 have EI: ∀ b∈S.kids,b≠g:=fun b hb e=>yD.2.2 g (by unfold aZ.boxes; exact List.mem_append_left _ l9) b hb e.symm
 have hbp:S.q.bp≠g:=fun e=>by
  have:=(List.nodup_cons.1 hp.1).1
  rw [e] at this
  exact this hg
 have lW: ∀ b,b∈(S.q.bp :: S.lp.map (·.2))→b≠o:=fun b hb=>hin b (.inl (by unfold aZ.boxes; exact List.mem_append_left _ hb))
 have hbr: ∀ b,b∈((S.q.bs :: S.ls.map (·.2)) ++ ((S.q.be :: S.le.map (·.2)) ++ ((S.q.bb :: S.lb.map (·.2)) ++ ((S.q.bf :: S.lf.map (·.2)) ++ (S.q.bq :: S.lq.map (·.2))))))→w'.heap[b]? =w.heap[b]? :=fun b hb=>hs b (hgr b hb) (hin b (.inl (by unfold aZ.boxes; exact List.mem_append_right _ hb)))
 have hkk: ∀ b∈S.kids,w'.heap[b]? =w.heap[b]? :=fun b hb=>hs b (EI b hb) (hin b (.inr hb))
 have hmem: ∀ (b:Nat),(b∈kids aR S.lp∨b∈kids aC S.lf∨b∈kids aU S.lq)→b∈S.kids:=fun b hb=>by simp only [aZ.kids,List.mem_append]; exact hb
 refine ⟨ho,h.procs.sU (fun p _ _=>(hf p.1).1) hc (hs _ hbp (lW _ (by simp))) (fun b hb hne=>hs b hne (lW b (List.mem_cons_of_mem _ hb))),h.aj.same fun b hb=>hbr b (List.mem_append_left _ hb),h.events.same fun b hb=>hbr b (List.mem_append_right _ (List.mem_append_left _ hb)),h.ag.same fun b hb=>hbr b (List.mem_append_right _ (List.mem_append_right _ (List.mem_append_left _ hb))),h.ae.same fun b hb=>hbr b (List.mem_append_right _ (List.mem_append_right _ (List.mem_append_right _ (List.mem_append_left _ hb)))),h.ai.same fun b hb=>hbr b (List.mem_append_right _ (List.mem_append_right _ (List.mem_append_right _ (List.mem_append_right _ hb)))),fun p hp'=> ?_,fun p hp'=>(h.eE p hp').same fun b hb=>hkk b (hmem b (.inr (.inl (List.mem_filterMap.2 ⟨p,hp',hb⟩)))),fun p hp'=>(h.eR p hp').same fun b hb=>hkk b (hmem b (.inr (.inr (List.mem_filterMap.2 ⟨p,hp',hb⟩)))),?_,h.low⟩
 ·obtain ⟨r,hr,rfl⟩:=yy.1 hp'
  have hm:aR.cO w' base r.1:=(h.eI r hr).same fun b hb=>hkk b (hmem b (.inl (List.mem_filterMap.2 ⟨r,hr,hb⟩)))
  split
  ·show w'.ownsRow base _ 4 (.slice (f r.1).aY (f r.1).prog.length (f r.1).bH) (f r.1).prog.length (fk.flat (f r.1).prog)
   rw [(hf r.1).2.1,(hf r.1).2.2.1,(hf r.1).2.2.2]
   exact hm
  ·exact hm
 ·have e1:(S.ju g f nx).boxes=S.boxes:=by simp only [aZ.boxes,aZ.ju,qb]
  have e2:(S.ju g f nx).kids=S.kids:=by simp only [aZ.kids,aZ.ju,GW iH]
  rw [e1,e2]
  exact hn
end Go.Proofs.YtkbcplnlehdjfaaGreat
namespace Go.Proofs.YtkbcplnlehdjfaaGreat
open Go.RowKit Go.Maps
attribute [local go_sem ↓] Go.wp_at_zero Go.wp_at_succ
def kD (p:aE) (id:Int):Option aE:=hU p id (fun y=>decide (y.state=0) && !decide (p.next=1000000000)) (fun y=> { y with state:=1,since:=p.next }) (p.next+1)
theorem Bk (q:af) (n base:Nat) (x:ao) (w:World) (h:ap w base q) (hb:base≤w.heap.size) (hx:q.procs[n]? =some x) (hn:0≤q.next∧q.next≤1000000000):
  Calls Tryz.prog 98 #[.agg q.cells,.int .i64 n] w fun e w'=> ∃ q2:af,e= .returned (.agg q2.cells)∧q2= { q with next:=q.next+1,procs:=q.procs.set n { x with since:=q.next } } ∧ap w' base q2∧Below base w w':=by
 obtain ⟨gs,ha,hat⟩:=cn h.at.1 hx
 have hb1:Below w.heap.size w ((w.alloc (.cells #[.int .i64 q.id,.int .i64 q.next,.slice (some ⟨gs,0,none⟩) q.procs.length q.aW,.slice q.bc q.aj.length q.bF,.slice q.ay q.events.length q.aO,.slice q.ax q.ag.length q.aP,.slice q.am q.ae.length q.aG,.slice q.aK q.ai.length q.aV] 32)).alloc (.cells ar 32)):=((Below.refl _ _).alloc (Nat.le_refl _) _).alloc (by simp) _
 have hnl:n < q.procs.length:=(List.getElem?_eq_some_iff.1 hx).1
 have HB:Hid (av ((w.alloc (.cells #[.int .i64 q.id,.int .i64 q.next,.slice (some ⟨gs,0,none⟩) q.procs.length q.aW,.slice q.bc q.aj.length q.bF,.slice q.ay q.events.length q.aO,.slice q.ax q.ag.length q.aP,.slice q.am q.ae.length q.aG,.slice q.aK q.ai.length q.aV] 32)).alloc (.cells ar 32)) w.heap.size q∧ap ((w.alloc (.cells #[.int .i64 q.id,.int .i64 q.next,.slice (some ⟨gs,0,none⟩) q.procs.length q.aW,.slice q.bc q.aj.length q.bF,.slice q.ay q.events.length q.aO,.slice q.ax q.ag.length q.aP,.slice q.am q.ae.length q.aG,.slice q.aK q.ai.length q.aV] 32)).alloc (.cells ar 32)) base q∧Below w.heap.size w ((w.alloc (.cells #[.int .i64 q.id,.int .i64 q.next,.slice (some ⟨gs,0,none⟩) q.procs.length q.aW,.slice q.bc q.aj.length q.bF,.slice q.ay q.events.length q.aO,.slice q.ax q.ag.length q.aP,.slice q.am q.ae.length q.aG,.slice q.aK q.ai.length q.aV] 32)).alloc (.cells ar 32))∧((w.alloc (.cells #[.int .i64 q.id,.int .i64 q.next,.slice (some ⟨gs,0,none⟩) q.procs.length q.aW,.slice q.bc q.aj.length q.bF,.slice q.ay q.events.length q.aO,.slice q.ax q.ag.length q.aP,.slice q.am q.ae.length q.aG,.slice q.aK q.ai.length q.aV] 32)).alloc (.cells ar 32)).heap[w.heap.size+1]? =some (.cells ar 32 (0,0))∧q.procs[n]? =some x∧q.aN=some ⟨gs,0,none⟩∧base≤w.heap.size∧gs < w.heap.size∧base≤gs):=by
  have h5:=cf h.procs (g:=gs) (by rw [ha]; simp [blk])
  exact ⟨by unfold av; rw [ha]; exact (heap_alloc_old _ _ (by simp)).trans (heap_alloc_new _ _),h.below hb1,hb1,heap_alloc2_new _ _ _,hx,ha,hb,h5.2,h5.1⟩
 obtain ⟨m0,m1,m2,m3,m4,m5,m6,m7⟩:=HB.out.1.cells
 rw [ha] at m2
 obtain ⟨⟨u,pe⟩,f11⟩:(∃ u,((w.alloc (.cells #[.int .i64 q.id,.int .i64 q.next,.slice (some ⟨gs,0,none⟩) q.procs.length q.aW,.slice q.bc q.aj.length q.bF,.slice q.ay q.events.length q.aO,.slice q.ax q.ag.length q.aP,.slice q.am q.ae.length q.aG,.slice q.aK q.ai.length q.aV] 32)).alloc (.cells ar 32)).cell? ⟨gs,n * 12+11,none⟩=some u)∧((w.alloc (.cells #[.int .i64 q.id,.int .i64 q.next,.slice (some ⟨gs,0,none⟩) q.procs.length q.aW,.slice q.bc q.aj.length q.bF,.slice q.ay q.events.length q.aO,.slice q.ax q.ag.length q.aP,.slice q.am q.ae.length q.aG,.slice q.aK q.ai.length q.aV] 32)).alloc (.cells ar 32)).frozen? ⟨gs,n * 12+11,none⟩=false:=by
  obtain ⟨g,hg,hrow⟩:=bl.fX (K:=bg) HB.out.2.1.procs (by omega)
  rw [ha] at hg
  cases hg
  exact ⟨⟨_,(hrow.cell hx (r:=11) (by decide)).1⟩,(hrow.cell hx (r:=11) (by decide)).2⟩
 have j0:(0:Int)≤(n:Int):=by omega
 have j1:(n:Int) < (q.procs.length:Int):=by omega
 obtain ⟨hn0,hn1⟩:=hn
 have h5:=HB.out.2.1.kB (n:=n) (j:=11) (x:=x) (y:= { x with since:=q.next }) (vs:= [.int .i64 q.next]) hx ha ⟨rfl,rfl,rfl⟩ (by show 11+1≤12; omega) (fun r hr=>by match r,hr with | 0,_=>rfl) (fun r hr hn=>by match r,hr,hn with | 0,_,_=>rfl | 1,_,_=>rfl | 2,_,_=>rfl | 3,_,_=>rfl | 4,_,_=>rfl | 5,_,_=>rfl | 6,_,_=>rfl | 7,_,_=>rfl | 8,_,_=>rfl | 9,_,_=>rfl | 10,_,_=>rfl | 11,_,hn=>exact absurd ⟨by omega,by show 11 < 11+1; omega⟩ hn)
 simp only [bn] at h5
 have HS:Hid (ap (((w.alloc (.cells #[.int .i64 q.id,.int .i64 q.next,.slice (some ⟨gs,0,none⟩) q.procs.length q.aW,.slice q.bc q.aj.length q.bF,.slice q.ay q.events.length q.aO,.slice q.ax q.ag.length q.aP,.slice q.am q.ae.length q.aG,.slice q.aK q.ai.length q.aV] 32)).alloc (.cells ar 32)).setCell ⟨gs,n * 12+11,none⟩ (.int .i64 q.next)) base ({ q with procs:=q.procs.set n { x with since:=q.next } } :af)∧Below base w (((w.alloc (.cells #[.int .i64 q.id,.int .i64 q.next,.slice (some ⟨gs,0,none⟩) q.procs.length q.aW,.slice q.bc q.aj.length q.bF,.slice q.ay q.events.length q.aO,.slice q.ax q.ag.length q.aP,.slice q.am q.ae.length q.aG,.slice q.aK q.ai.length q.aV] 32)).alloc (.cells ar 32)).setCell ⟨gs,n * 12+11,none⟩ (.int .i64 q.next))∧av (((w.alloc (.cells #[.int .i64 q.id,.int .i64 q.next,.slice (some ⟨gs,0,none⟩) q.procs.length q.aW,.slice q.bc q.aj.length q.bF,.slice q.ay q.events.length q.aO,.slice q.ax q.ag.length q.aP,.slice q.am q.ae.length q.aG,.slice q.aK q.ai.length q.aV] 32)).alloc (.cells ar 32)).setCell ⟨gs,n * 12+11,none⟩ (.int .i64 q.next)) w.heap.size q∧(((w.alloc (.cells #[.int .i64 q.id,.int .i64 q.next,.slice (some ⟨gs,0,none⟩) q.procs.length q.aW,.slice q.bc q.aj.length q.bF,.slice q.ay q.events.length q.aO,.slice q.ax q.ag.length q.aP,.slice q.am q.ae.length q.aG,.slice q.aK q.ai.length q.aV] 32)).alloc (.cells ar 32)).setCell ⟨gs,n * 12+11,none⟩ (.int .i64 q.next)).heap[w.heap.size+1]? =some (.cells ar 32 (0,0))):=by
  have hg:=HB.out.2.2.2.2.2.2
  refine ⟨h5.1,(hb1.mono hb).trans (h5.2.1.below (by have:=hb1.size; omega) (by simp; omega)),(aH (by omega)).trans HB.out.1,(aH (by omega)).trans HB.out.2.2.2.1⟩
 have hq8:(af.cells q)= #[.int .i64 q.id,.int .i64 q.next,.slice (some ⟨gs,0,none⟩) q.procs.length q.aW,.slice q.bc q.aj.length q.bF,.slice q.ay q.events.length q.aO,.slice q.ax q.ag.length q.aP,.slice q.am q.ae.length q.aG,.slice q.aK q.ai.length q.aV] :=by unfold af.cells; rw [ha]
 rw [hq8]
 have hbks:=h5.2.2
 have hlt0: ∀ g∈q.blocks,g < w.heap.size:=fun g hg=>(h.lt g hg).2
 have HBK:Hid (∀ g∈({ q with procs:=q.procs.set n { x with since:=q.next } } :af).blocks,g < w.heap.size):=fun g hg=>hlt0 g (by rw [← hbks]; exact hg)
 have k1:(((w.alloc (.cells #[.int .i64 q.id,.int .i64 q.next,.slice (some ⟨gs,0,none⟩) q.procs.length q.aW,.slice q.bc q.aj.length q.bF,.slice q.ay q.events.length q.aO,.slice q.ax q.ag.length q.aP,.slice q.am q.ae.length q.aG,.slice q.aK q.ai.length q.aV] 32)).alloc (.cells ar 32)).setCell ⟨gs,n * 12+11,none⟩ (.int .i64 q.next)).cell? ⟨w.heap.size,1,none⟩=some (.int .i64 q.next):=by have h6:=HS.out.2.2.1; unfold av at h6; simp only [World.cell?,h6]; rfl
 have k1f:(((w.alloc (.cells #[.int .i64 q.id,.int .i64 q.next,.slice (some ⟨gs,0,none⟩) q.procs.length q.aW,.slice q.bc q.aj.length q.bF,.slice q.ay q.events.length q.aO,.slice q.ax q.ag.length q.aP,.slice q.am q.ae.length q.aG,.slice q.aK q.ai.length q.aV] 32)).alloc (.cells ar 32)).setCell ⟨gs,n * 12+11,none⟩ (.int .i64 q.next)).frozen? ⟨w.heap.size,1,none⟩=false:=frozen_of_row _ _ _ _ _ HS.out.2.2.1
 clear h hb hx hb1 h5 hat ha hq8
 go_enter Tryz.func98,Tryz.ntmps98
 have HT:Hid (((((w.alloc (.cells #[.int .i64 q.id,.int .i64 q.next,.slice (some ⟨gs,0,none⟩) q.procs.length q.aW,.slice q.bc q.aj.length q.bF,.slice q.ay q.events.length q.aO,.slice q.ax q.ag.length q.aP,.slice q.am q.ae.length q.aG,.slice q.aK q.ai.length q.aV] 32)).alloc (.cells ar 32)).setCell ⟨gs,n * 12+11,none⟩ (.int .i64 q.next)).setCell ⟨w.heap.size,1,none⟩ (.int .i64 (q.next+1))).heap[w.heap.size+1]? =some (.cells ar 32 (0,0))∧ap ((((w.alloc (.cells #[.int .i64 q.id,.int .i64 q.next,.slice (some ⟨gs,0,none⟩) q.procs.length q.aW,.slice q.bc q.aj.length q.bF,.slice q.ay q.events.length q.aO,.slice q.ax q.ag.length q.aP,.slice q.am q.ae.length q.aG,.slice q.aK q.ai.length q.aV] 32)).alloc (.cells ar 32)).setCell ⟨gs,n * 12+11,none⟩ (.int .i64 q.next)).setCell ⟨w.heap.size,1,none⟩ (.int .i64 (q.next+1))) base ({ q with procs:=q.procs.set n { x with since:=q.next } } :af)∧Below base w ((((w.alloc (.cells #[.int .i64 q.id,.int .i64 q.next,.slice (some ⟨gs,0,none⟩) q.procs.length q.aW,.slice q.bc q.aj.length q.bF,.slice q.ay q.events.length q.aO,.slice q.ax q.ag.length q.aP,.slice q.am q.ae.length q.aG,.slice q.aK q.ai.length q.aV] 32)).alloc (.cells ar 32)).setCell ⟨gs,n * 12+11,none⟩ (.int .i64 q.next)).setCell ⟨w.heap.size,1,none⟩ (.int .i64 (q.next+1)))):=by
  have hg:=HB.out.2.2.2.2.2.2
  have hbl: ∀ g∈({ q with procs:=q.procs.set n { x with since:=q.next } } :af).blocks,g≠w.heap.size:=fun g hg2 e=>by rw [hbks] at hg2; have:=hlt0 g hg2; omega
  exact ⟨(aH (by omega)).trans HS.out.2.2.2,HS.out.1.same fun g hg2=>aH (hbl g hg2),bP HS.out.2.1 (by omega)⟩
 clear hbks hlt0
 go_wp2_with (refine ec 4 16 (w.heap.size+1) #[.int .i64 q.id,.int .i64 (q.next+1),.slice (some ⟨gs,0,none⟩) q.procs.length q.aW,.slice q.bc q.aj.length q.bF,.slice q.ay q.events.length q.aO,.slice q.ax q.ag.length q.aP,.slice q.am q.ae.length q.aG,.slice q.aK q.ai.length q.aV] HT.out.1 ?_)
 refine gZ Tryz.results98 (w.heap.size+1) #[.int .i64 q.id,.int .i64 (q.next+1),.slice (some ⟨gs,0,none⟩) q.procs.length q.aW,.slice q.bc q.aj.length q.bF,.slice q.ay q.events.length q.aO,.slice q.ax q.ag.length q.aP,.slice q.am q.ae.length q.aG,.slice q.aK q.ai.length q.aV] HT.out.1 ?_
 have hg:=HB.out.2.2.2.2.2.2
 have rN: ∀ g∈({ q with procs:=q.procs.set n { x with since:=q.next } } :af).blocks,g≠w.heap.size+1:=fun g hg2 e=>by have:=HBK.out g hg2; omega
 have ho:=HT.out.2.1.same (w':=((((w.alloc (.cells #[.int .i64 q.id,.int .i64 q.next,.slice (some ⟨gs,0,none⟩) q.procs.length q.aW,.slice q.bc q.aj.length q.bF,.slice q.ay q.events.length q.aO,.slice q.ax q.ag.length q.aP,.slice q.am q.ae.length q.aG,.slice q.aK q.ai.length q.aV] 32)).alloc (.cells ar 32)).setCell ⟨gs,n * 12+11,none⟩ (.int .i64 q.next)).setCell ⟨w.heap.size,1,none⟩ (.int .i64 (q.next+1))).setRow (w.heap.size+1) #[.int .i64 q.id,.int .i64 (q.next+1),.slice (some ⟨gs,0,none⟩) q.procs.length q.aW,.slice q.bc q.aj.length q.bF,.slice q.ay q.events.length q.aO,.slice q.ax q.ag.length q.aP,.slice q.am q.ae.length q.aG,.slice q.aK q.ai.length q.aV]) fun g hg2=>setRow_other _ _ _ _ (rN g hg2)
 refine ⟨_,?_,rfl,⟨ho.procs,ho.aj,ho.events,ho.ag,ho.ae,ho.ai,ho.eI,ho.eE,ho.eR,ho.nodup⟩,below_setRow HT.out.2.2 (by omega) _⟩
 simp only [af.cells,List.length_set,HB.out.2.2.2.2.2.1]
theorem tK (p:af) (id:Int) (w:World) (hf:p.Fit) (hs: ∀ x∈p.procs,x.dX) (h:af.At w p):
  Calls Tryz.prog 49 #[.agg p.cells,.int .i64 id] w fun e w'=>gI w (kD p.pure id) e w':=by
 have HB:Hid (av ((w.alloc (.cells p.row 32)).alloc (.cells ar 32)) w.heap.size p∧af.At ((w.alloc (.cells p.row 32)).alloc (.cells ar 32)) p∧Below w.heap.size w ((w.alloc (.cells p.row 32)).alloc (.cells ar 32))∧((w.alloc (.cells p.row 32)).alloc (.cells ar 32)).heap[w.heap.size+1]? =some (.cells ar 32 (0,0))):=by
  have b1:Below w.heap.size w ((w.alloc (.cells p.row 32)).alloc (.cells ar 32)):=((Below.refl _ _).alloc (Nat.le_refl _) _).alloc (by simp) _
  exact ⟨(heap_alloc_old _ _ (by simp)).trans (heap_alloc_new _ _),h.below b1,b1,heap_alloc2_new _ _ _⟩
 have fl:Hid (p.Fit∧ ∀ x∈p.procs,x.dX):=⟨hf,hs⟩
 have hpl:=hf.short.procs
 clear h hf hs
 obtain ⟨m0,m1,m2,m3,m4,m5,m6,m7⟩:=HB.out.1.cells
 unfold af.cells
 go_enter Tryz.func49,Tryz.ntmps49
 go_wp2_with fail
 generalize (w.alloc (.cells p.row 32)).alloc (.cells ar 32)=W at *
 clear m0 m1 m2 m3 m4 m5 m6 m7
 refine (lS p id W hpl HB.out.2.1).mono ?_
 rintro e W1 ⟨rfl,hb⟩
 replace HB:Hid (av W1 w.heap.size p∧af.At W1 p∧Below w.heap.size w W1∧W1.heap[w.heap.size+1]? =some (.cells ar 32 (0,0))):=⟨HB.out.1.below hb,HB.out.2.1.below hb,HB.out.2.2.1.trans (hb.mono HB.out.2.2.1.size),(hb.block _ (Array.getElem?_eq_some_iff.1 HB.out.2.2.2).1).trans HB.out.2.2.2⟩
 clear hb
 obtain ⟨m0,m1,m2,m3,m4,m5,m6,m7⟩:=HB.out.1.cells
 have hpf:=nK id p.pure.procs 0
 rw [show p.pure.procs.map (·.id)=p.procs.map (·.id) by simp [af.pure,Function.comp_def]] at hpf
 have Gh:Hid (_):=hpf
 clear hpf
 generalize place (p.procs.map (·.id)) id 0=z at *
 go_wp2_with fail
 clear m0 m1 m2 m3 m4 m5 m6 m7
 refine (eV p W1 fl.out.1 fl.out.2 HB.out.2.1).mono ?_
 rintro e W2 ⟨rfl,hb⟩
 replace HB:Hid (av W2 w.heap.size p∧af.At W2 p∧Below w.heap.size w W2∧W2.heap[w.heap.size+1]? =some (.cells ar 32 (0,0))):=⟨HB.out.1.below hb,HB.out.2.1.below hb,HB.out.2.2.1.trans (hb.mono HB.out.2.2.1.size),(hb.block _ (Array.getElem?_eq_some_iff.1 HB.out.2.2.2).1).trans HB.out.2.2.2⟩
 clear hb
 obtain ⟨m0,m1,m2,m3,m4,m5,m6,m7⟩:=HB.out.1.cells
 cases h4:bK p.pure
 ·have HN:Hid (kD p.pure id=none):=vO h4
  clear h4
  go_wp2_with (refine ec 4 32 (w.heap.size+1) ar HB.out.2.2.2 ?_)
  refine mG Tryz.results49 (w.heap.size+1) ar (.bool false) HB.out.2.2.2 ?_
  exact ca HN.out (below_setRow HB.out.2.2.1 (by omega) _)
 have H4:Hid (bK p.pure=true):=h4
 clear h4
 rcases Gh.out with ⟨hz,hnf⟩ | ⟨n,y0,hz,hn,Dc⟩
 ·have HN:Hid (kD p.pure id=none):=tg hnf
  subst hz
  clear hnf Gh
  go_wp2_with (refine ec 4 32 (w.heap.size+1) ar HB.out.2.2.2 ?_)
  refine mG Tryz.results49 (w.heap.size+1) ar (.bool false) HB.out.2.2.2 ?_
  exact ca HN.out (below_setRow HB.out.2.2.1 (by omega) _)
 rw [Nat.zero_add] at hz
 subst hz
 have hnl:n < p.procs.length:=by have h5:=(List.getElem?_eq_some_iff.1 hn).1; simpa [af.pure] using h5
 have dz:decide ((n:Int) < 0)=false:=decide_eq_false (by omega)
 obtain ⟨x0,hx0,hxy⟩: ∃ x,p.procs[n]? =some x∧x.toaD=y0:=by
  have h5:(p.procs.map (·.toaD))[n]? =some y0:=hn
  rw [List.getElem?_map,Option.map_eq_some_iff] at h5
  exact h5
 subst hxy
 have HY:Hid (p.pure.procs[n]? =some x0.toaD∧p.pure.procs.find? (fun x=>decide (x.id=id))=some x0.toaD):=⟨hn,Dc⟩
 obtain ⟨gp,hap,Gn⟩:=cn HB.out.2.1.1 hx0
 rw [hap] at m2
 have wg:Hid (p.aN=some ⟨gp,0,none⟩):=hap
 have d3:=Gn.2.2.2.1
 clear hn Dc Gh hx0 Gn hap
 have j0:(0:Int)≤(n:Int):=by omega
 have j1:(n:Int) < (p.procs.length:Int):=by omega
 by_cases hst:x0.state=0
 ·by_cases hnx:p.next=1000000000
  ·have HN:Hid (kD p.pure id=none):=sx HY.out.2 (by have e:p.pure.next=1000000000:=hnx; simp [e])
   have e1:(x0.state != 0)=false:=by simp [hst]
   have e2:(p.next == 1000000000)=true:=by simp [hnx]
   clear hst hnx
   go_wp2_with (refine ec 4 32 (w.heap.size+1) ar HB.out.2.2.2 ?_)
   refine mG Tryz.results49 (w.heap.size+1) ar (.bool false) HB.out.2.2.2 ?_
   exact ca HN.out (below_setRow HB.out.2.2.1 (by omega) _)
  have HN:Hid (kD p.pure id=some { p.pure with next:=p.next+1,procs:=ce id (fun y:aD=> { y with state:=1,since:=p.next }) p.pure.procs }):=tT H4.out HY.out.2 (by have e:x0.toaD.state=0:=hst; have e2: ¬ p.pure.next=1000000000:=hnx; simp [e,e2])
  have e1:(x0.state != 0)=false:=by simp [hst]
  have e2:(p.next == 1000000000)=false:=by simp [hnx]
  clear hst hnx
  go_wp2_with fail
  clear m0 m1 m2 m3 m4 m5 m6 m7 d3 e1 e2
  have hcall:=fR p W2 fl.out.1 fl.out.2 HB.out.2.1
  rw [show af.cells p= #[.int .i64 p.id,.int .i64 p.next,.slice (some ⟨gp,0,none⟩) p.procs.length p.aW,.slice p.bc p.aj.length p.bF,.slice p.ay p.events.length p.aO,.slice p.ax p.ag.length p.aP,.slice p.am p.ae.length p.aG,.slice p.aK p.ai.length p.aV] by unfold af.cells; rw [wg.out]] at hcall
  refine hcall.mono ?_
  clear hcall
  rintro e W3 ⟨q,rfl,hown,gn,hb3⟩
  obtain ⟨x,hx,hxy⟩: ∃ x,q.procs[n]? =some x∧x.toaD=x0.toaD:=by
   have h5:(q.procs.map (·.toaD))[n]? =some x0.toaD:=by have h6:=HY.out.1; rw [← gn] at h6; exact h6
   rw [List.getElem?_map,Option.map_eq_some_iff] at h5
   exact h5
  obtain ⟨gs,ha,hat⟩:=cn hown.at.1 hx
  have hnq:n < q.procs.length:=(List.getElem?_eq_some_iff.1 hx).1
  have hgs:=cf hown.procs (g:=gs) (by rw [ha]; simp [blk])
  have hb4:Below W3.heap.size W3 (W3.alloc (.cells #[.int .i64 q.id,.int .i64 q.next,.slice (some ⟨gs,0,none⟩) q.procs.length q.aW,.slice q.bc q.aj.length q.bF,.slice q.ay q.events.length q.aO,.slice q.ax q.ag.length q.aP,.slice q.am q.ae.length q.aG,.slice q.aK q.ai.length q.aV] 32)):=(Below.refl _ _).alloc (Nat.le_refl _) _
  obtain ⟨⟨u,c3⟩,f3⟩:(∃ u,(W3.alloc (.cells #[.int .i64 q.id,.int .i64 q.next,.slice (some ⟨gs,0,none⟩) q.procs.length q.aW,.slice q.bc q.aj.length q.bF,.slice q.ay q.events.length q.aO,.slice q.ax q.ag.length q.aP,.slice q.am q.ae.length q.aG,.slice q.aK q.ai.length q.aV] 32)).cell? ⟨gs,n * 12+3,none⟩=some u)∧(W3.alloc (.cells #[.int .i64 q.id,.int .i64 q.next,.slice (some ⟨gs,0,none⟩) q.procs.length q.aW,.slice q.bc q.aj.length q.bF,.slice q.ay q.events.length q.aO,.slice q.ax q.ag.length q.aP,.slice q.am q.ae.length q.aG,.slice q.aK q.ai.length q.aV] 32)).frozen? ⟨gs,n * 12+3,none⟩=false:=by
   obtain ⟨g,hg,hrow⟩:=bl.fX (K:=bg) (hown.below hb4).procs (by omega)
   rw [ha] at hg
   cases hg
   exact ⟨⟨_,(hrow.cell hx (r:=3) (by decide)).1⟩,(hrow.cell hx (r:=3) (by decide)).2⟩
  have h5:=(hown.below hb4).kB (n:=n) (j:=3) (x:=x) (y:= { x with state:=1 }) (vs:= [.int .i64 1]) hx ha ⟨rfl,rfl,rfl⟩ (by decide) (fun r hr=>by match r,hr with | 0,_=>rfl) (fun r hr hn=>by match r,hr,hn with | 0,_,_=>rfl | 1,_,_=>rfl | 2,_,_=>rfl | 3,_,hn=>exact absurd ⟨by omega,by decide⟩ hn | 4,_,_=>rfl | 5,_,_=>rfl | 6,_,_=>rfl | 7,_,_=>rfl | 8,_,_=>rfl | 9,_,_=>rfl | 10,_,_=>rfl | 11,_,_=>rfl)
  simp only [bn] at h5
  have oX:w.heap.size+1 < W2.heap.size:=(Array.getElem?_eq_some_iff.1 HB.out.2.2.2).1
  have Ix:=hb3.size
  have HS:Hid (ap ((W3.alloc (.cells #[.int .i64 q.id,.int .i64 q.next,.slice (some ⟨gs,0,none⟩) q.procs.length q.aW,.slice q.bc q.aj.length q.bF,.slice q.ay q.events.length q.aO,.slice q.ax q.ag.length q.aP,.slice q.am q.ae.length q.aG,.slice q.aK q.ai.length q.aV] 32)).setCell ⟨gs,n * 12+3,none⟩ (.int .i64 1)) W2.heap.size ({ q with procs:=q.procs.set n { x with state:=1 } } :af)∧av ((W3.alloc (.cells #[.int .i64 q.id,.int .i64 q.next,.slice (some ⟨gs,0,none⟩) q.procs.length q.aW,.slice q.bc q.aj.length q.bF,.slice q.ay q.events.length q.aO,.slice q.ax q.ag.length q.aP,.slice q.am q.ae.length q.aG,.slice q.aK q.ai.length q.aV] 32)).setCell ⟨gs,n * 12+3,none⟩ (.int .i64 1)) W3.heap.size q∧Below w.heap.size w ((W3.alloc (.cells #[.int .i64 q.id,.int .i64 q.next,.slice (some ⟨gs,0,none⟩) q.procs.length q.aW,.slice q.bc q.aj.length q.bF,.slice q.ay q.events.length q.aO,.slice q.ax q.ag.length q.aP,.slice q.am q.ae.length q.aG,.slice q.aK q.ai.length q.aV] 32)).setCell ⟨gs,n * 12+3,none⟩ (.int .i64 1))∧((W3.alloc (.cells #[.int .i64 q.id,.int .i64 q.next,.slice (some ⟨gs,0,none⟩) q.procs.length q.aW,.slice q.bc q.aj.length q.bF,.slice q.ay q.events.length q.aO,.slice q.ax q.ag.length q.aP,.slice q.am q.ae.length q.aG,.slice q.aK q.ai.length q.aV] 32)).setCell ⟨gs,n * 12+3,none⟩ (.int .i64 1)).heap[w.heap.size+1]? =some (.cells ar 32 (0,0))∧({ q with procs:=q.procs.set n { x with state:=1 } } :af).procs[n]? =some { x with state:=1 } ∧af.cells ({ q with procs:=q.procs.set n { x with state:=1 } } :af)= #[.int .i64 q.id,.int .i64 q.next,.slice (some ⟨gs,0,none⟩) q.procs.length q.aW,.slice q.bc q.aj.length q.bF,.slice q.ay q.events.length q.aO,.slice q.ax q.ag.length q.aP,.slice q.am q.ae.length q.aG,.slice q.aK q.ai.length q.aV] ∧W2.heap.size≤((W3.alloc (.cells #[.int .i64 q.id,.int .i64 q.next,.slice (some ⟨gs,0,none⟩) q.procs.length q.aW,.slice q.bc q.aj.length q.bF,.slice q.ay q.events.length q.aO,.slice q.ax q.ag.length q.aP,.slice q.am q.ae.length q.aG,.slice q.aK q.ai.length q.aV] 32)).setCell ⟨gs,n * 12+3,none⟩ (.int .i64 1)).heap.size∧q.pure=p.pure∧x.toaD=x0.toaD):=by
   refine ⟨h5.1,?_,?_,?_,by simp [hnq],by simp only [af.cells,List.length_set,ha],?_,gn,hxy⟩
   ·refine (aH (by omega)).trans ?_
    rw [ha]
    exact heap_alloc_new _ _
   ·exact bP (HB.out.2.2.1.trans ((hb3.alloc Ix _).mono HB.out.2.2.1.size)) (by omega)
   ·exact (aH (by omega)).trans ((hb4.block _ (by omega)).trans ((hb3.block _ oX).trans HB.out.2.2.2))
   ·have:=hb4.size; rw [show (((W3.alloc (.cells #[.int .i64 q.id,.int .i64 q.next,.slice (some ⟨gs,0,none⟩) q.procs.length q.aW,.slice q.bc q.aj.length q.bF,.slice q.ay q.events.length q.aO,.slice q.ax q.ag.length q.aP,.slice q.am q.ae.length q.aG,.slice q.aK q.ai.length q.aV] 32)).setCell ⟨gs,n * 12+3,none⟩ (.int .i64 1))).heap.size=_ from fH [_]]; omega
  obtain ⟨k0,k1,k2,k3,k4,k5,k6,k7⟩:=HS.out.2.1.cells
  rw [ha] at k2
  have jq:(n:Int) < (q.procs.length:Int):=by omega
  rw [show af.cells q= #[.int .i64 q.id,.int .i64 q.next,.slice (some ⟨gs,0,none⟩) q.procs.length q.aW,.slice q.bc q.aj.length q.bF,.slice q.ay q.events.length q.aO,.slice q.ax q.ag.length q.aP,.slice q.am q.ae.length q.aG,.slice q.aK q.ai.length q.aV] by unfold af.cells; rw [ha]]
  clear hown gn hb3 hx hxy ha hat hgs hb4 h5 Ix
  go_wp2_with fail
  clear k0 k1 k2 k3 k4 k5 k6 k7 c3 f3
  generalize (W3.alloc (.cells #[.int .i64 q.id,.int .i64 q.next,.slice (some ⟨gs,0,none⟩) q.procs.length q.aW,.slice q.bc q.aj.length q.bF,.slice q.ay q.events.length q.aO,.slice q.ax q.ag.length q.aP,.slice q.am q.ae.length q.aG,.slice q.aK q.ai.length q.aV] 32)).setCell ⟨gs,n * 12+3,none⟩ (.int .i64 1)=W5 at *
  have hnx:0≤q.next∧q.next≤1000000000:=by have h6:=bz.1 ((ch _).1 H4.out).next; rw [← HS.out.2.2.2.2.2.2.2.1] at h6; have h7:q.pure.next=q.next:=rfl; omega
  have hcall:=Bk ({ q with procs:=q.procs.set n { x with state:=1 } } :af) n W2.heap.size { x with state:=1 } W5 HS.out.1 HS.out.2.2.2.2.2.2.1 HS.out.2.2.2.2.1 hnx
  rw [HS.out.2.2.2.2.2.1] at hcall
  refine hcall.mono ?_
  clear hcall
  rintro e W6 ⟨q2,rfl,pv,DU,jQ⟩
  have H6:Hid (ap W6 W2.heap.size q2∧Below w.heap.size w W6∧W6.heap[w.heap.size+1]? =some (.cells ar 32 (0,0))∧q2.pure= { p.pure with next:=p.next+1,procs:=ce id (fun y:aD=> { y with state:=1,since:=p.next }) p.pure.procs } ∧w.heap.size+1 < W2.heap.size):=by
   refine ⟨DU,HS.out.2.2.1.trans (jQ.mono (by omega)),(jQ.block _ oX).trans HS.out.2.2.2.1,?_,oX⟩
   have hpp:=HS.out.2.2.2.2.2.2.2.1
   have hid:x0.toaD.id=id:=by have h7:=List.find?_some HY.out.2; simpa using h7
   rw [rp (sc H4.out) HY.out.1 hid]
   have hnn:q.next=p.next:=congrArg aE.next hpp
   have hpr:q.procs.map (·.toaD)=p.pure.procs:=congrArg aE.procs hpp
   have hxx:=HS.out.2.2.2.2.2.2.2.2
   subst pv
   show ({ q.pure with next:=q.next+1,procs:=((q.procs.set n { x with state:=1 }).set n { { x with state:=1 } with since:=q.next }).map (·.toaD) } :aE)=_
   rw [List.set_set,List.map_set,hpr,hpp,hnn,← hxx]
  clear pv DU jQ HS hnx
  go_wp2_with (refine ec 4 42 (w.heap.size+1) (af.cells q2) H6.out.2.2.1 ?_)
  refine mG Tryz.results49 (w.heap.size+1) (af.cells q2) (.bool true) H6.out.2.2.1 ?_
  rw [HN.out]
  have hl:=H6.out.2.2.2.2
  exact ⟨q2,rfl,(H6.out.1.lower (by omega)).same fun g hg=>setRow_other _ _ _ _ (by have:=(H6.out.1.lt g hg).1; omega),H6.out.2.2.2.1,below_setRow H6.out.2.1 (by omega) _⟩
 ·have HN:Hid (kD p.pure id=none):=sx HY.out.2 (by have e: ¬ x0.toaD.state=0:=hst; simp [e])
  have e1:(x0.state != 0)=true:=by simp [hst]
  clear hst
  go_wp2_with (refine ec 4 32 (w.heap.size+1) ar HB.out.2.2.2 ?_)
  refine mG Tryz.results49 (w.heap.size+1) ar (.bool false) HB.out.2.2.2 ?_
  exact ca HN.out (below_setRow HB.out.2.2.1 (by omega) _)
end Go.Proofs.YtkbcplnlehdjfaaGreat
