/- What the proof leans on, part 20. -/
import Derived.Test.YtkbcplnlehdjfaaGreatOwnP19
set_option maxRecDepth 100000
set_option maxHeartbeats 8000000
open Bool renaming and_eq_true->J7
open Function renaming comp_def->Ls
open Go renaming heap_alloc_new->Kj
open Go.RowKit.Below renaming refl->Kp
open List renaming all_eq_true->PZ,map_map->Lv
open Nat renaming le_refl->Ki,lt_of_lt_of_le->Kn

namespace Go.Proofs.YtkbcplnlehdjfaaGreat
open Go.RowKit Go.Maps
structure aZ where
 q:ol
 lp:List (ao × Nat)
 ls:List (bD × Nat)
 le:List (aB × Nat)
 lb:List (az × Nat)
 lf:List (au × Nat)
 lq:List (aM × Nat)
def aZ.pure (S:aZ):aE:=⟨S.q.id,S.q.next,S.lp.map (·.1.toaD),S.ls.map (·.1),S.le.map (·.1),S.lb.map (·.1),S.lf.map (·.1.toci),S.lq.map (·.1.todS)⟩
def aZ.boxes (S:aZ):List Nat:=(S.q.bp :: S.lp.map (·.2)) ++ ((S.q.bs :: S.ls.map (·.2)) ++ ((S.q.be :: S.le.map (·.2)) ++ ((S.q.bb :: S.lb.map (·.2)) ++ ((S.q.bf :: S.lf.map (·.2)) ++ (S.q.bq :: S.lq.map (·.2))))))
def aZ.kids (S:aZ):List Nat:=YtkbcplnlehdjfaaGreat.kids aR S.lp ++ (YtkbcplnlehdjfaaGreat.kids aC S.lf ++ YtkbcplnlehdjfaaGreat.kids aU S.lq)
structure cJ (w:World) (base o:Nat) (S:aZ):Prop where
 opn:fa w o S.q
 L8:Shelf aX (fun x:ao=>x.id) 43 w base S.q.bp S.lp
 aj:Shelf eH (fun x:bD=>x.id) 49 w base S.q.bs S.ls
 L9:Shelf cG (fun x:aB=>x.id) 138 w base S.q.be S.le
 ag:Shelf cI (fun x:az=>x.id) 141 w base S.q.bb S.lb
 ae:Shelf bQ (fun x:au=>x.id) 144 w base S.q.bf S.lf
 ai:Shelf cW (fun x:aM=>x.id) 61 w base S.q.bq S.lq
 eI: ∀ p∈S.lp,aR.cO w base p.1
 eE: ∀ p∈S.lf,aC.cO w base p.1
 eR: ∀ p∈S.lq,aU.cO w base p.1
 nodup:(o :: (S.boxes ++ S.kids)).Nodup
 low:base≤o
section
variable {α:Type} {vs:α→Array Value} {num:α→Int} {T:TypeId}
def ip (vs:α→Array Value) (num:α→Int) (T:TypeId) (W:World) (lo hi:Nat) (Me:Int) (ok:Bool) (list:List α) (m:Int) (mb:Option Nat):Prop:=
 ok=true→m=Me∧ ∃ b l,mb=some b∧l.map (·.1)=list∧Shelf vs num T W lo b l∧ ∀ g∈b :: l.map (·.2),g < hi
theorem ip.below {W W':World} {lo hi:Nat} {Me:Int} {ok:Bool} {list:List α} {m:Int} {mb:Option Nat} (h:ip vs num T W lo hi Me ok list m mb) (hb:Below W.heap.size W W'):ip vs num T W' lo hi Me ok list m mb:=fun e=>by
 obtain ⟨h1,b,l,h2,h3,h4,h5⟩:=h e;exact ⟨h1,b,l,h2,h3,h4.below hb,h5⟩
theorem jN.res {w w':World} {Me:Int} {ok:Bool} {list:List α} {e:Ending} (h:jN vs num T w Me ok list e w'):
  ∃ (okv:Bool) (m:Int) (mb:Option Nat),e= .returned (.tuple #[.agg #[.int .i64 m,.map mb],.bool okv])∧okv=ok∧Below w.heap.size w w'∧ip vs num T w' w.heap.size w'.heap.size Me okv list m mb:=by
 obtain ⟨hb,⟨h1,h2⟩ | ⟨h1,b,l,h2,h3,h4⟩⟩:=h
 ·exact ⟨false,0,none,h2,h1.symm,hb,fun e=>by cases e⟩
 ·exact ⟨true,Me,some b,h2,h1.symm,hb,fun _=>⟨rfl,b,l,rfl,h3,h4,h4.lt⟩⟩
end
structure xW (w wr:World) (p:af) (l:List (Nat × Int × Option Nat)):Prop where
 cd:Below w.heap.size w wr
 part:av wr w.heap.size p
 shs: ∀ q∈l,∃ t,wr.heap[q.1]? =some (.cells #[.int .i64 q.2.1,.map q.2.2] t (0,0))
theorem xW.start (w:World) (p:af):xW w (w.alloc (.cells p.cells 32)) p [] :=
 ⟨(Kp _ _).alloc (Ki _) _,Kj _ _,fun q hq=>absurd hq (by simp)⟩
theorem xW.below {w wr w':World} {p:af} {l:List (Nat × Int × Option Nat)} (h:xW w wr p l) (hb:Below wr.heap.size wr w'):xW w w' p l:=
 ⟨h.cd.trans (hb.mono h.cd.size),h.part.below hb,fun q hq=>by
  obtain ⟨t,h1⟩:=h.shs q hq;exact ⟨t,(hb.block _ (Array.getElem?_eq_some_iff.1 h1).1).trans h1⟩⟩
theorem xW.push {w wr w1:World} {p:af} {m:Int} {mb:Option Nat} {l:List (Nat × Int × Option Nat)} (h:xW w wr p l) (hb:Below wr.heap.size wr w1) (t:TypeId):
  xW w (w1.alloc (.cells #[.int .i64 m,.map mb] t)) p ((w1.heap.size,m,mb) :: l):=by
 have h1:=h.below hb;have h2:Below w1.heap.size w1 (w1.alloc (.cells #[.int .i64 m,.map mb] t)):=(Kp _ _).alloc (Ki _) _;have h3:=h1.below h2;refine ⟨h3.cd,h3.part,fun q hq=> ?_⟩;rcases List.mem_cons.1 hq with rfl | hq
 ·exact ⟨t,Kj _ _⟩
 ·exact h3.shs q hq
theorem xW.c0 {w wr:World} {p:af} {l:List (Nat × Int × Option Nat)} (h:xW w wr p l) {B:Nat} {m:Int} {mb:Option Nat} (hq:(B,m,mb)∈l):wr.cell? ⟨B,0,none⟩=some (.int .i64 m):=by
 obtain ⟨t,h1⟩:=h.shs _ hq;simp only at h1;simp [World.cell?,h1]
theorem xW.c1 {w wr:World} {p:af} {l:List (Nat × Int × Option Nat)} (h:xW w wr p l) {B:Nat} {m:Int} {mb:Option Nat} (hq:(B,m,mb)∈l):wr.cell? ⟨B,1,none⟩=some (.map mb):=by
 obtain ⟨t,h1⟩:=h.shs _ hq;simp only at h1;simp [World.cell?,h1]
structure af.Good (w:World) (p:af):Prop where
 at':af.At w p
 short:p.dX
 L8: ∀ x∈p.L8,x.dX∧x.Wf
 aj: ∀ x∈p.aj,(Lit.int .i64 x.id).wf=true
 L9: ∀ x∈p.L9,(Lit.int .i64 x.id).wf=true
 ag: ∀ x∈p.ag,(Lit.int .i64 x.id).wf=true∧x.text.size≤1048576
 ae: ∀ x∈p.ae,(Lit.int .i64 x.id).wf=true∧x.Ma.length≤1048576∧ ∀ s∈x.Ma,s.size≤1048576
 ai: ∀ x∈p.ai,(Lit.int .i64 x.id).wf=true∧x.Ma.length≤1048576∧ ∀ s∈x.Ma,s.size≤1048576
 D9: ∀ x∈p.L8,∀ g,aR.bt x=some g→g < w.heap.size
 xO: ∀ x∈p.ae,∀ g,aC.bt x=some g→g < w.heap.size
 lowPort: ∀ x∈p.ai,∀ g,aU.bt x=some g→g < w.heap.size
theorem af.Good.below {w w':World} {p:af} (h:p.Good w) (hb:Below w.heap.size w w'):p.Good w':=⟨h.at'.below hb,h.short,h.L8,h.aj,h.L9,h.ag,h.ae,h.ai,fun x hx g hk=>Kn (h.D9 x hx g hk) hb.size,fun x hx g hk=>Kn (h.xO x hx g hk) hb.size,fun x hx g hk=>Kn (h.lowPort x hx g hk) hb.size⟩
theorem af.Good.DH {w:World} {p:af} (h:p.Good w): ∀ x∈p.L8,eL w x:=fun x hx=>⟨(h.L8 x hx).1,h.at'.1.2 x hx (x.aY,fk.flat x.prog) (by simp [bg])⟩
theorem af.Good.fitSem {w:World} {p:af} (_:p.Good w): ∀ x∈p.aj,kU w x:=fun _ _=>trivial
theorem af.Good.Gq {w:World} {p:af} (_:p.Good w): ∀ x∈p.L9,ix w x:=fun _ _=>trivial
theorem af.Good.FU {w:World} {p:af} (h:p.Good w): ∀ x∈p.ag,gX w x:=fun x hx=>(h.ag x hx).2
theorem af.Good.xl {w:World} {p:af} (h:p.Good w): ∀ x∈p.ae,fM w x:=fun x hx=>⟨(h.ae x hx).2.1,(h.ae x hx).2.2,h.at'.2.2.2.2.1.2 x hx (x.ak,bT.flat x.Ma) (by simp [bm])⟩
theorem af.Good.D4 {w:World} {p:af} (h:p.Good w): ∀ x∈p.ai,jf w x:=fun x hx=>⟨(h.ai x hx).2.1,(h.ai x hx).2.2,h.at'.2.2.2.2.2.2 x hx (x.ak,bT.flat x.Ma) (by simp [bX])⟩
theorem af.Good.wfProc {w:World} {p:af} (h:p.Good w): ∀ x∈p.L8,(Lit.int .i64 x.id).wf=true:=fun x hx=>(h.L8 x hx).2.id
theorem af.Good.wfSem {w:World} {p:af} (h:p.Good w): ∀ x∈p.aj,(Lit.int .i64 x.id).wf=true:=h.aj
theorem af.Good.IA {w:World} {p:af} (h:p.Good w): ∀ x∈p.L9,(Lit.int .i64 x.id).wf=true:=h.L9
theorem af.Good.I9 {w:World} {p:af} (h:p.Good w): ∀ x∈p.ag,(Lit.int .i64 x.id).wf=true:=fun x hx=>(h.ag x hx).1
theorem af.Good.Gr {w:World} {p:af} (h:p.Good w): ∀ x∈p.ae,(Lit.int .i64 x.id).wf=true:=fun x hx=>(h.ae x hx).1
theorem af.Good.wfPort {w:World} {p:af} (h:p.Good w): ∀ x∈p.ai,(Lit.int .i64 x.id).wf=true:=fun x hx=>(h.ai x hx).1
/-! ### What each test says of the partition -/
def sl (p:af):Bool:=aw (fun x:ao=>x.id) (fun x:ao=>cH x.toaD) 0 p.L8 && decide ((p.L8.length:Int)≤max 6 0)
theorem qt (p:af):sl p=true↔(aw (·.id) cH 0 p.pure.L8=true∧p.pure.L8.length≤6):=by
 have e:aw (·.id) cH 0 p.pure.L8=aw (fun x:ao=>x.id) (fun x:ao=>cH x.toaD) 0 p.L8:=jL _ _ _ _ _;have e2:p.pure.L8.length=p.L8.length:=by simp [af.pure]
 rw [e,e2];unfold sl;rw [J7,decide_eq_true_iff];constructor
 ·intro h; exact ⟨h.1,by omega⟩
 ·intro h; exact ⟨h.1,by omega⟩
def BQ (p:af):Bool:=aw (fun x:bD=>x.id) (fun x:bD=>gw x) 0 p.aj && decide ((p.aj.length:Int)≤max 5 0)
theorem xt (p:af):BQ p=true↔(aw (·.id) gw 0 p.pure.aj=true∧p.pure.aj.length≤5):=by
 have e:p.pure.aj=p.aj:=rfl;rw [e];unfold BQ;rw [J7,decide_eq_true_iff];constructor
 ·intro h; exact ⟨h.1,by omega⟩
 ·intro h; exact ⟨h.1,by omega⟩
def qS (p:af):Bool:=aw (fun x:aB=>x.id) (fun x:aB=>ey x) 0 p.L9 && decide ((p.L9.length:Int)≤max 5 0)
theorem sJ (p:af):qS p=true↔(aw (·.id) ey 0 p.pure.L9=true∧p.pure.L9.length≤5):=by
 have e:p.pure.L9=p.L9:=rfl;rw [e];unfold qS;rw [J7,decide_eq_true_iff];constructor
 ·intro h; exact ⟨h.1,by omega⟩
 ·intro h; exact ⟨h.1,by omega⟩
def rK (p:af):Bool:=aw (fun x:az=>x.id) (fun x:az=>cU x) 0 p.ag && decide ((p.ag.length:Int)≤max 5 0)
theorem tn (p:af):rK p=true↔(aw (·.id) cU 0 p.pure.ag=true∧p.pure.ag.length≤5):=by
 have e:p.pure.ag=p.ag:=rfl;rw [e];unfold rK;rw [J7,decide_eq_true_iff];constructor
 ·intro h; exact ⟨h.1,by omega⟩
 ·intro h; exact ⟨h.1,by omega⟩
def oH (p:af):Bool:=aw (fun x:au=>x.id) (fun x:au=>ct x.toci) 0 p.ae && decide ((p.ae.length:Int)≤max 5 0)
theorem rA (p:af):oH p=true↔(aw (·.id) ct 0 p.pure.ae=true∧p.pure.ae.length≤5):=by
 have e:aw (·.id) ct 0 p.pure.ae=aw (fun x:au=>x.id) (fun x:au=>ct x.toci) 0 p.ae:=jL _ _ _ _ _;have e2:p.pure.ae.length=p.ae.length:=by simp [af.pure]
 rw [e,e2];unfold oH;rw [J7,decide_eq_true_iff];constructor
 ·intro h; exact ⟨h.1,by omega⟩
 ·intro h; exact ⟨h.1,by omega⟩
def vI (p:af):Bool:=aw (fun x:aM=>x.id) (fun x:aM=>dj x.todS) 0 p.ai && decide ((p.ai.length:Int)≤max 5 0)
theorem uv (p:af):vI p=true↔(aw (·.id) dj 0 p.pure.ai=true∧p.pure.ai.length≤5):=by
 have e:aw (·.id) dj 0 p.pure.ai=aw (fun x:aM=>x.id) (fun x:aM=>dj x.todS) 0 p.ai:=jL _ _ _ _ _;have e2:p.pure.ai.length=p.ai.length:=by simp [af.pure]
 rw [e,e2];unfold vI;rw [J7,decide_eq_true_iff];constructor
 ·intro h; exact ⟨h.1,by omega⟩
 ·intro h; exact ⟨h.1,by omega⟩
theorem mem_keys {α:Type} {num:α→Int} {l:List (α × Nat)} (k:Int):(cz (RW num l) k).isSome=decide (k∈(l.map (·.1)).map num):=by
 rw [ry];simp only [RW,Lv,Ls]
theorem BV {p:af} {ls:List (bD × Nat)} {le:List (aB × Nat)} {lb:List (az × Nat)} {lf:List (au × Nat)} (hs:ls.map (·.1)=p.aj) (he:le.map (·.1)=p.L9) (hb:lb.map (·.1)=p.ag) (hf:lf.map (·.1)=p.ae) (x:ao) (hx:cH x.toaD=true):
  fw (RW (fun x:bD=>x.id) ls) (RW (fun x:aB=>x.id) le) (RW (fun x:az=>x.id) lb) (RW (fun x:au=>x.id) lf) x=dG p.pure x.toaD:=by
 have hst:0≤x.Md∧x.Md≤7:=by
  have h1:bO x.toaD=true:=by
   simp only [cH,J7] at hx;exact hx.2
  have h2:cv x.Md 0 7=true:=by
   cases h:cv x.Md 0 7 with
   | true=>rfl
   | false=>rw [xQ h] at h1; cases h1
  exact bz.1 h2
 have eF:p.pure.ae.map (·.id)=p.ae.map (·.id):=by simp [af.pure,Ls]
 unfold fw dG hasB;simp only [mem_keys,hs,he,hb,hf,eF];have e1:p.pure.aj=p.aj:=rfl;have e2:p.pure.L9=p.L9:=rfl;have e3:p.pure.ag=p.ag:=rfl;rw [e1,e2,e3];by_cases h3:x.Md=3
 ·simp [h3]
 by_cases h4:x.Md=4
 ·simp [h4]
 by_cases h5:x.Md=5
 ·simp [h5]
 by_cases h6:x.Md=6
 ·simp [h6]
 by_cases h7:x.Md=7
 ·simp [h7]
 have h8: ¬ 3≤x.Md:=by omega
 simp [h3,h4,h5,h6,h7,h8]
theorem FV {p:af} {lp:List (ao × Nat)} {ls:List (bD × Nat)} {le:List (aB × Nat)} {lb:List (az × Nat)} {lf:List (au × Nat)} (hp:lp.map (·.1)=p.L8) (hs:ls.map (·.1)=p.aj) (he:le.map (·.1)=p.L9) (hb:lb.map (·.1)=p.ag) (hf:lf.map (·.1)=p.ae) (hok:sl p=true):
  (lp.all fun q=>fw (RW (fun x:bD=>x.id) ls) (RW (fun x:aB=>x.id) le) (RW (fun x:az=>x.id) lb) (RW (fun x:au=>x.id) lf) q.1)=p.pure.L8.all (dG p.pure):=by
 have e:p.pure.L8=lp.map fun q=>q.1.toaD:=by
  show p.L8.map (·.toaD)=_
  rw [← hp,Lv];rfl
 rw [e,List.all_map];have hall: ∀ q∈lp,cH q.1.toaD=true:=fun q hq=>by
  have h1:=((qt p).1 hok).1;refine (cK h1 q.1.toaD ?_).2;rw [e];exact List.mem_map.2 ⟨q,hq,rfl⟩
 rw [Bool.eq_iff_iff,PZ,PZ];constructor
 ·intro h q hq
  have:=h q hq
  rw [BV hs he hb hf q.1 (hall q hq)] at this;exact this
 ·intro h q hq
  rw [BV hs he hb hf q.1 (hall q hq)];exact h q hq
theorem B6 {p:af} {lp:List (ao × Nat)} {next:Int} (hp:lp.map (·.1)=p.L8):km next lp↔nQ next p.pure.L8:=by
 have e:p.pure.L8=lp.map fun q=>q.1.toaD:=by
  show p.L8.map (·.toaD)=_
  rw [← hp,Lv];rfl
 rw [e];rfl
theorem FI {p:af} (h1:sl p=true) (h2:BQ p=true) (h3:qS p=true) (h4:rK p=true) (h5:oH p=true) (h6:vI p=true) (h7:1≤p.id∧p.id≤6) (h8:1≤p.next∧p.next≤1000000000) (h9:nQ p.next p.pure.L8) (h10:p.pure.L8.all (dG p.pure)=true):aQ p.pure:=by
 rw [qt] at h1;rw [xt] at h2;rw [sJ] at h3;rw [tn] at h4;rw [rA] at h5;rw [uv] at h6;exact (i5 _).1 ⟨bz.2 h7,bz.2 h8,h1.2,h2.2,h3.2,h4.2,h5.2,h6.2,h1.1,h2.1,h3.1,h4.1,h5.1,h6.1,h9,h10⟩
theorem Ay {p:af} (h:sl p=false): ¬ aQ p.pure:=fun hr=>by
 have h0:=(i5 _).2 hr
 have:=(qt p).2 ⟨h0.L8,h0.dl⟩
 rw [h] at this;cases this
theorem C1 {p:af} (h:BQ p=false): ¬ aQ p.pure:=fun hr=>by
 have h0:=(i5 _).2 hr
 have:=(xt p).2 ⟨h0.aj,h0.fx⟩
 rw [h] at this;cases this
theorem yL {p:af} (h:qS p=false): ¬ aQ p.pure:=fun hr=>by
 have h0:=(i5 _).2 hr
 have:=(sJ p).2 ⟨h0.L9,h0.cD⟩
 rw [h] at this;cases this
theorem zr {p:af} (h:rK p=false): ¬ aQ p.pure:=fun hr=>by
 have h0:=(i5 _).2 hr
 have:=(tn p).2 ⟨h0.ag,h0.cC⟩
 rw [h] at this;cases this
theorem wD {p:af} (h:oH p=false): ¬ aQ p.pure:=fun hr=>by
 have h0:=(i5 _).2 hr
 have:=(rA p).2 ⟨h0.ae,h0.cb⟩
 rw [h] at this;cases this
theorem Ae {p:af} (h:vI p=false): ¬ aQ p.pure:=fun hr=>by
 have h0:=(i5 _).2 hr
 have:=(uv p).2 ⟨h0.ai,h0.dH⟩
 rw [h] at this;cases this
theorem xx {p:af} (h: ¬ (1≤p.id∧p.id≤6)): ¬ aQ p.pure:=fun hr=>h (bz.1 hr.id)
theorem tf {p:af} (h: ¬ (1≤p.next∧p.next≤1000000000)): ¬ aQ p.pure:=fun hr=>h (bz.1 hr.next)
theorem yV {p:af} (h: ¬ nQ p.next p.pure.L8): ¬ aQ p.pure:=fun hr=>h ((i5 _).2 hr).turns
theorem zA {p:af} (h:p.pure.L8.all (dG p.pure)=false): ¬ aQ p.pure:=fun hr=>by
 have:=((i5 _).2 hr).waits
 rw [h] at this;cases this
def Hp (w:World) (p:aE) (e:Ending) (w':World):Prop:=
 Below w.heap.size w w'∧((¬ aQ p∧e= .returned (.tuple #[.pointer none,.bool false]))∨(aQ p∧ ∃ o S,e= .returned (.tuple #[.pointer (some ⟨o,0,none⟩),.bool true])∧cJ w' w.heap.size o S∧S.pure=p))
end Go.Proofs.YtkbcplnlehdjfaaGreat
