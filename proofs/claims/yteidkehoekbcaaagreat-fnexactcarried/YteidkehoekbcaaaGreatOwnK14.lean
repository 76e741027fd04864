/- What the proof leans on, part 14. -/
import Derived.Test.YteidkehoekbcaaaGreatOwnK13
import Derived.Deep.CutRange
set_option maxRecDepth 100000
set_option maxHeartbeats 8000000
open Array renaming getElem?_eq_some_iff->J2
open Bool renaming and_eq_true->J7
open Function renaming comp_def->Ls
open Go renaming heap_alloc_new->Kj
open Go.IntKind renaming wrap_i64->K8
open Go.Proofs.Tryz renaming prog->J3
open Go.RowKit.Below renaming refl->Kp
open List renaming all_eq_true->PZ,getElem?_eq_getElem->Kz,getElem?_eq_some_iff->Lj,getElem?_map->Kk,length_map->KG,map_map->Lv,mem_cons->Kt,mem_of_getElem?->KA,take_of_length_le->KF
open Nat renaming le_refl->Ki,lt_of_lt_of_le->Kn,zero_add->Li,zero_le->Ky

namespace Go.Proofs.YteidkehoekbcaaaGreat
section
open Go.RowKit Go.Maps
structure aZ where
 q:ol
 lp:List (ao × Nat)
 ls:List (bD × Nat)
 le:List (aB × Nat)
 lb:List (az × Nat)
 lf:List (au × Nat)
 lq:List (aM × Nat)
def aZ.pure (S:aZ):aE:=⟨S.q.id,S.q.next,S.lp.map (·.1.toaD),S.ls.map (·.1),S.le.map (·.1),S.lb.map (·.1),S.lf.map (·.1.toci),S.lq.map (·.1.todS)⟩
def aZ.boxes (S:aZ):List Nat:=(S.q.bp :: S.lp.map (·.2)) ++ ((S.q.bs :: S.ls.map (·.2)) ++ ((S.q.be :: S.le.map (·.2)) ++ ((S.q.bb :: S.lb.map (·.2)) ++ ((S.q.bf :: S.lf.map (·.2)) ++ (S.q.bq :: S.lq.map (·.2))))))
def aZ.kids (S:aZ):List Nat:=YteidkehoekbcaaaGreat.kids aR S.lp ++ (YteidkehoekbcaaaGreat.kids aC S.lf ++ YteidkehoekbcaaaGreat.kids aU S.lq)
structure cJ (w:World) (base o:Nat) (S:aZ):Prop where
 opn:fa w o S.q
 L8:Shelf aX (fun x:ao=>x.id) 148 w base S.q.bp S.lp
 aj:Shelf eH (fun x:bD=>x.id) 184 w base S.q.bs S.ls
 L9:Shelf cG (fun x:aB=>x.id) 187 w base S.q.be S.le
 ag:Shelf cI (fun x:az=>x.id) 190 w base S.q.bb S.lb
 ae:Shelf bQ (fun x:au=>x.id) 160 w base S.q.bf S.lf
 ai:Shelf cW (fun x:aM=>x.id) 85 w base S.q.bq S.lq
 eI: ∀ p∈S.lp,aR.cO w base p.1
 eE: ∀ p∈S.lf,aC.cO w base p.1
 eR: ∀ p∈S.lq,aU.cO w base p.1
 nodup:(o :: (S.boxes ++ S.kids)).Nodup
 low:base≤o
section
variable {α:Type} {vs:α→Array Value} {num:α→Int} {T:TypeId}
def ip (vs:α→Array Value) (num:α→Int) (T:TypeId) (W:World) (lo hi:Nat) (Me:Int) (ok:Bool) (list:List α) (m:Int) (mb:Option Nat):Prop:=
 ok=true→m=Me∧ ∃ b l,mb=some b∧l.map (·.1)=list∧Shelf vs num T W lo b l∧ ∀ g∈b :: l.map (·.2),g < hi
theorem ip.below {W W':World} {lo hi:Nat} {Me:Int} {ok:Bool} {list:List α} {m:Int} {mb:Option Nat} (h:ip vs num T W lo hi Me ok list m mb) (hb:Below W.heap.size W W'):ip vs num T W' lo hi Me ok list m mb:=fun e=>by
 obtain ⟨h1,b,l,h2,h3,h4,h5⟩:=h e;exact ⟨h1,b,l,h2,h3,h4.below hb,h5⟩
theorem jN.res {w w':World} {Me:Int} {ok:Bool} {list:List α} {e:Ending} (h:jN vs num T w Me ok list e w'):
  ∃ (okv:Bool) (m:Int) (mb:Option Nat),e= .returned (.tuple #[.agg #[.int .i64 m,.map mb],.bool okv])∧okv=ok∧Below w.heap.size w w'∧ip vs num T w' w.heap.size w'.heap.size Me okv list m mb:=by
 obtain ⟨hb,⟨h1,h2⟩ | ⟨h1,b,l,h2,h3,h4⟩⟩:=h
 ·exact ⟨false,0,none,h2,h1.symm,hb,fun e=>by cases e⟩
 ·exact ⟨true,Me,some b,h2,h1.symm,hb,fun _=>⟨rfl,b,l,rfl,h3,h4,h4.lt⟩⟩
end
structure xW (w wr:World) (p:af) (l:List (Nat × Int × Option Nat)):Prop where
 cd:Below w.heap.size w wr
 part:av wr w.heap.size p
 shs: ∀ q∈l,∃ t,wr.heap[q.1]? =some (.cells #[.int .i64 q.2.1,.map q.2.2] t (0,0))
theorem xW.start (w:World) (p:af):xW w (w.alloc (.cells p.cells 48)) p [] :=
 ⟨(Kp _ _).alloc (Ki _) _,Kj _ _,fun q hq=>absurd hq (by simp)⟩
theorem xW.below {w wr w':World} {p:af} {l:List (Nat × Int × Option Nat)} (h:xW w wr p l) (hb:Below wr.heap.size wr w'):xW w w' p l:=
 ⟨h.cd.trans (hb.mono h.cd.size),h.part.below hb,fun q hq=>by
  obtain ⟨t,h1⟩:=h.shs q hq;exact ⟨t,(hb.block _ (J2.1 h1).1).trans h1⟩⟩
theorem xW.push {w wr w1:World} {p:af} {m:Int} {mb:Option Nat} {l:List (Nat × Int × Option Nat)} (h:xW w wr p l) (hb:Below wr.heap.size wr w1) (t:TypeId):
  xW w (w1.alloc (.cells #[.int .i64 m,.map mb] t)) p ((w1.heap.size,m,mb) :: l):=by
 have h1:=h.below hb;have h2:Below w1.heap.size w1 (w1.alloc (.cells #[.int .i64 m,.map mb] t)):=(Kp _ _).alloc (Ki _) _;have h3:=h1.below h2;refine ⟨h3.cd,h3.part,fun q hq=> ?_⟩;rcases Kt.1 hq with rfl | hq
 ·exact ⟨t,Kj _ _⟩
 ·exact h3.shs q hq
theorem xW.c0 {w wr:World} {p:af} {l:List (Nat × Int × Option Nat)} (h:xW w wr p l) {B:Nat} {m:Int} {mb:Option Nat} (hq:(B,m,mb)∈l):wr.cell? ⟨B,0,none⟩=some (.int .i64 m):=by
 obtain ⟨t,h1⟩:=h.shs _ hq;simp only at h1;simp [World.cell?,h1]
theorem xW.c1 {w wr:World} {p:af} {l:List (Nat × Int × Option Nat)} (h:xW w wr p l) {B:Nat} {m:Int} {mb:Option Nat} (hq:(B,m,mb)∈l):wr.cell? ⟨B,1,none⟩=some (.map mb):=by
 obtain ⟨t,h1⟩:=h.shs _ hq;simp only at h1;simp [World.cell?,h1]
structure af.Good (w:World) (p:af):Prop where
 at':af.At w p
 short:p.dX
 L8: ∀ x∈p.L8,x.dX∧x.Wf
 aj: ∀ x∈p.aj,(Lit.int .i64 x.id).wf=true
 L9: ∀ x∈p.L9,(Lit.int .i64 x.id).wf=true
 ag: ∀ x∈p.ag,(Lit.int .i64 x.id).wf=true∧x.text.size≤1048576
 ae: ∀ x∈p.ae,(Lit.int .i64 x.id).wf=true∧x.Ma.length≤1048576∧ ∀ s∈x.Ma,s.size≤1048576
 ai: ∀ x∈p.ai,(Lit.int .i64 x.id).wf=true∧x.Ma.length≤1048576∧ ∀ s∈x.Ma,s.size≤1048576
 D9: ∀ x∈p.L8,∀ g,aR.bt x=some g→g < w.heap.size
 xO: ∀ x∈p.ae,∀ g,aC.bt x=some g→g < w.heap.size
 lowPort: ∀ x∈p.ai,∀ g,aU.bt x=some g→g < w.heap.size
theorem af.Good.below {w w':World} {p:af} (h:p.Good w) (hb:Below w.heap.size w w'):p.Good w':=⟨h.at'.below hb,h.short,h.L8,h.aj,h.L9,h.ag,h.ae,h.ai,fun x hx g hk=>Kn (h.D9 x hx g hk) hb.size,fun x hx g hk=>Kn (h.xO x hx g hk) hb.size,fun x hx g hk=>Kn (h.lowPort x hx g hk) hb.size⟩
theorem af.Good.DH {w:World} {p:af} (h:p.Good w): ∀ x∈p.L8,eL w x:=fun x hx=>⟨(h.L8 x hx).1,h.at'.1.2 x hx (x.aY,fk.flat x.prog) (by simp [bg])⟩
theorem af.Good.fitSem {w:World} {p:af} (_:p.Good w): ∀ x∈p.aj,kU w x:=fun _ _=>trivial
theorem af.Good.Gq {w:World} {p:af} (_:p.Good w): ∀ x∈p.L9,ix w x:=fun _ _=>trivial
theorem af.Good.FU {w:World} {p:af} (h:p.Good w): ∀ x∈p.ag,gX w x:=fun x hx=>(h.ag x hx).2
theorem af.Good.xl {w:World} {p:af} (h:p.Good w): ∀ x∈p.ae,fM w x:=fun x hx=>⟨(h.ae x hx).2.1,(h.ae x hx).2.2,h.at'.2.2.2.2.1.2 x hx (x.ak,bT.flat x.Ma) (by simp [bm])⟩
theorem af.Good.D4 {w:World} {p:af} (h:p.Good w): ∀ x∈p.ai,jf w x:=fun x hx=>⟨(h.ai x hx).2.1,(h.ai x hx).2.2,h.at'.2.2.2.2.2.2 x hx (x.ak,bT.flat x.Ma) (by simp [bX])⟩
theorem af.Good.wfProc {w:World} {p:af} (h:p.Good w): ∀ x∈p.L8,(Lit.int .i64 x.id).wf=true:=fun x hx=>(h.L8 x hx).2.id
theorem af.Good.wfSem {w:World} {p:af} (h:p.Good w): ∀ x∈p.aj,(Lit.int .i64 x.id).wf=true:=h.aj
theorem af.Good.IA {w:World} {p:af} (h:p.Good w): ∀ x∈p.L9,(Lit.int .i64 x.id).wf=true:=h.L9
theorem af.Good.I9 {w:World} {p:af} (h:p.Good w): ∀ x∈p.ag,(Lit.int .i64 x.id).wf=true:=fun x hx=>(h.ag x hx).1
theorem af.Good.Gr {w:World} {p:af} (h:p.Good w): ∀ x∈p.ae,(Lit.int .i64 x.id).wf=true:=fun x hx=>(h.ae x hx).1
theorem af.Good.wfPort {w:World} {p:af} (h:p.Good w): ∀ x∈p.ai,(Lit.int .i64 x.id).wf=true:=fun x hx=>(h.ai x hx).1
/-! ### What each test says of the partition -/
def sl (p:af):Bool:=aw (fun x:ao=>x.id) (fun x:ao=>cH x.toaD) 0 p.L8 && decide ((p.L8.length:Int)≤max 6 0)
theorem qt (p:af):sl p=true↔(aw (·.id) cH 0 p.pure.L8=true∧p.pure.L8.length≤6):=by
 have e:aw (·.id) cH 0 p.pure.L8=aw (fun x:ao=>x.id) (fun x:ao=>cH x.toaD) 0 p.L8:=jL _ _ _ _ _;have e2:p.pure.L8.length=p.L8.length:=by simp [af.pure]
 rw [e,e2];unfold sl;rw [J7,decide_eq_true_iff];constructor
 ·intro h; exact ⟨h.1,by omega⟩
 ·intro h; exact ⟨h.1,by omega⟩
def BQ (p:af):Bool:=aw (fun x:bD=>x.id) (fun x:bD=>gw x) 0 p.aj && decide ((p.aj.length:Int)≤max 5 0)
theorem xt (p:af):BQ p=true↔(aw (·.id) gw 0 p.pure.aj=true∧p.pure.aj.length≤5):=by
 have e:p.pure.aj=p.aj:=rfl;rw [e];unfold BQ;rw [J7,decide_eq_true_iff];constructor
 ·intro h; exact ⟨h.1,by omega⟩
 ·intro h; exact ⟨h.1,by omega⟩
def qS (p:af):Bool:=aw (fun x:aB=>x.id) (fun x:aB=>ey x) 0 p.L9 && decide ((p.L9.length:Int)≤max 5 0)
theorem sJ (p:af):qS p=true↔(aw (·.id) ey 0 p.pure.L9=true∧p.pure.L9.length≤5):=by
 have e:p.pure.L9=p.L9:=rfl;rw [e];unfold qS;rw [J7,decide_eq_true_iff];constructor
 ·intro h; exact ⟨h.1,by omega⟩
 ·intro h; exact ⟨h.1,by omega⟩
def rK (p:af):Bool:=aw (fun x:az=>x.id) (fun x:az=>cU x) 0 p.ag && decide ((p.ag.length:Int)≤max 5 0)
theorem tn (p:af):rK p=true↔(aw (·.id) cU 0 p.pure.ag=true∧p.pure.ag.length≤5):=by
 have e:p.pure.ag=p.ag:=rfl;rw [e];unfold rK;rw [J7,decide_eq_true_iff];constructor
 ·intro h; exact ⟨h.1,by omega⟩
 ·intro h; exact ⟨h.1,by omega⟩
def oH (p:af):Bool:=aw (fun x:au=>x.id) (fun x:au=>ct x.toci) 0 p.ae && decide ((p.ae.length:Int)≤max 5 0)
theorem rA (p:af):oH p=true↔(aw (·.id) ct 0 p.pure.ae=true∧p.pure.ae.length≤5):=by
 have e:aw (·.id) ct 0 p.pure.ae=aw (fun x:au=>x.id) (fun x:au=>ct x.toci) 0 p.ae:=jL _ _ _ _ _;have e2:p.pure.ae.length=p.ae.length:=by simp [af.pure]
 rw [e,e2];unfold oH;rw [J7,decide_eq_true_iff];constructor
 ·intro h; exact ⟨h.1,by omega⟩
 ·intro h; exact ⟨h.1,by omega⟩
def vI (p:af):Bool:=aw (fun x:aM=>x.id) (fun x:aM=>dj x.todS) 0 p.ai && decide ((p.ai.length:Int)≤max 5 0)
theorem uv (p:af):vI p=true↔(aw (·.id) dj 0 p.pure.ai=true∧p.pure.ai.length≤5):=by
 have e:aw (·.id) dj 0 p.pure.ai=aw (fun x:aM=>x.id) (fun x:aM=>dj x.todS) 0 p.ai:=jL _ _ _ _ _;have e2:p.pure.ai.length=p.ai.length:=by simp [af.pure]
 rw [e,e2];unfold vI;rw [J7,decide_eq_true_iff];constructor
 ·intro h; exact ⟨h.1,by omega⟩
 ·intro h; exact ⟨h.1,by omega⟩
theorem mem_keys {α:Type} {num:α→Int} {l:List (α × Nat)} (k:Int):(cz (RW num l) k).isSome=decide (k∈(l.map (·.1)).map num):=by
 rw [ry];simp only [RW,Lv,Ls]
theorem BV {p:af} {ls:List (bD × Nat)} {le:List (aB × Nat)} {lb:List (az × Nat)} {lf:List (au × Nat)} (hs:ls.map (·.1)=p.aj) (he:le.map (·.1)=p.L9) (hb:lb.map (·.1)=p.ag) (hf:lf.map (·.1)=p.ae) (x:ao) (hx:cH x.toaD=true):
  fw (RW (fun x:bD=>x.id) ls) (RW (fun x:aB=>x.id) le) (RW (fun x:az=>x.id) lb) (RW (fun x:au=>x.id) lf) x=dG p.pure x.toaD:=by
 have hst:0≤x.Md∧x.Md≤7:=by
  have h1:bO x.toaD=true:=by
   simp only [cH,J7] at hx;exact hx.2
  have h2:cv x.Md 0 7=true:=by
   cases h:cv x.Md 0 7 with
   | true=>rfl
   | false=>rw [xQ h] at h1; cases h1
  exact bz.1 h2
 have eF:p.pure.ae.map (·.id)=p.ae.map (·.id):=by simp [af.pure,Ls]
 unfold fw dG hasB;simp only [mem_keys,hs,he,hb,hf,eF];have e1:p.pure.aj=p.aj:=rfl;have e2:p.pure.L9=p.L9:=rfl;have e3:p.pure.ag=p.ag:=rfl;rw [e1,e2,e3];by_cases h3:x.Md=3
 ·simp [h3]
 by_cases h4:x.Md=4
 ·simp [h4]
 by_cases h5:x.Md=5
 ·simp [h5]
 by_cases h6:x.Md=6
 ·simp [h6]
 by_cases h7:x.Md=7
 ·simp [h7]
 have h8: ¬ 3≤x.Md:=by omega
 simp [h3,h4,h5,h6,h7,h8]
theorem FV {p:af} {lp:List (ao × Nat)} {ls:List (bD × Nat)} {le:List (aB × Nat)} {lb:List (az × Nat)} {lf:List (au × Nat)} (hp:lp.map (·.1)=p.L8) (hs:ls.map (·.1)=p.aj) (he:le.map (·.1)=p.L9) (hb:lb.map (·.1)=p.ag) (hf:lf.map (·.1)=p.ae) (hok:sl p=true):
  (lp.all fun q=>fw (RW (fun x:bD=>x.id) ls) (RW (fun x:aB=>x.id) le) (RW (fun x:az=>x.id) lb) (RW (fun x:au=>x.id) lf) q.1)=p.pure.L8.all (dG p.pure):=by
 have e:p.pure.L8=lp.map fun q=>q.1.toaD:=by
  show p.L8.map (·.toaD)=_
  rw [← hp,Lv];rfl
 rw [e,List.all_map];have hall: ∀ q∈lp,cH q.1.toaD=true:=fun q hq=>by
  have h1:=((qt p).1 hok).1;refine (cK h1 q.1.toaD ?_).2;rw [e];exact List.mem_map.2 ⟨q,hq,rfl⟩
 rw [Bool.eq_iff_iff,PZ,PZ];constructor
 ·intro h q hq
  have:=h q hq
  rw [BV hs he hb hf q.1 (hall q hq)] at this;exact this
 ·intro h q hq
  rw [BV hs he hb hf q.1 (hall q hq)];exact h q hq
theorem B6 {p:af} {lp:List (ao × Nat)} {next:Int} (hp:lp.map (·.1)=p.L8):km next lp↔nQ next p.pure.L8:=by
 have e:p.pure.L8=lp.map fun q=>q.1.toaD:=by
  show p.L8.map (·.toaD)=_
  rw [← hp,Lv];rfl
 rw [e];rfl
theorem FI {p:af} (h1:sl p=true) (h2:BQ p=true) (h3:qS p=true) (h4:rK p=true) (h5:oH p=true) (h6:vI p=true) (h7:1≤p.id∧p.id≤6) (h8:1≤p.next∧p.next≤1000000000) (h9:nQ p.next p.pure.L8) (h10:p.pure.L8.all (dG p.pure)=true):aQ p.pure:=by
 rw [qt] at h1;rw [xt] at h2;rw [sJ] at h3;rw [tn] at h4;rw [rA] at h5;rw [uv] at h6;exact (i5 _).1 ⟨bz.2 h7,bz.2 h8,h1.2,h2.2,h3.2,h4.2,h5.2,h6.2,h1.1,h2.1,h3.1,h4.1,h5.1,h6.1,h9,h10⟩
theorem Ay {p:af} (h:sl p=false): ¬ aQ p.pure:=fun hr=>by
 have h0:=(i5 _).2 hr
 have:=(qt p).2 ⟨h0.L8,h0.dl⟩
 rw [h] at this;cases this
theorem C1 {p:af} (h:BQ p=false): ¬ aQ p.pure:=fun hr=>by
 have h0:=(i5 _).2 hr
 have:=(xt p).2 ⟨h0.aj,h0.fx⟩
 rw [h] at this;cases this
theorem yL {p:af} (h:qS p=false): ¬ aQ p.pure:=fun hr=>by
 have h0:=(i5 _).2 hr
 have:=(sJ p).2 ⟨h0.L9,h0.cD⟩
 rw [h] at this;cases this
theorem zr {p:af} (h:rK p=false): ¬ aQ p.pure:=fun hr=>by
 have h0:=(i5 _).2 hr
 have:=(tn p).2 ⟨h0.ag,h0.cC⟩
 rw [h] at this;cases this
theorem wD {p:af} (h:oH p=false): ¬ aQ p.pure:=fun hr=>by
 have h0:=(i5 _).2 hr
 have:=(rA p).2 ⟨h0.ae,h0.cb⟩
 rw [h] at this;cases this
theorem Ae {p:af} (h:vI p=false): ¬ aQ p.pure:=fun hr=>by
 have h0:=(i5 _).2 hr
 have:=(uv p).2 ⟨h0.ai,h0.dH⟩
 rw [h] at this;cases this
theorem xx {p:af} (h: ¬ (1≤p.id∧p.id≤6)): ¬ aQ p.pure:=fun hr=>h (bz.1 hr.id)
theorem tf {p:af} (h: ¬ (1≤p.next∧p.next≤1000000000)): ¬ aQ p.pure:=fun hr=>h (bz.1 hr.next)
theorem yV {p:af} (h: ¬ nQ p.next p.pure.L8): ¬ aQ p.pure:=fun hr=>h ((i5 _).2 hr).turns
theorem zA {p:af} (h:p.pure.L8.all (dG p.pure)=false): ¬ aQ p.pure:=fun hr=>by
 have:=((i5 _).2 hr).waits
 rw [h] at this;cases this
def Hp (w:World) (p:aE) (e:Ending) (w':World):Prop:=
 Below w.heap.size w w'∧((¬ aQ p∧e= .returned (.tuple #[.pointer none,.bool false]))∨(aQ p∧ ∃ o S,e= .returned (.tuple #[.pointer (some ⟨o,0,none⟩),.bool true])∧cJ w' w.heap.size o S∧S.pure=p))
end
section
open Go.RowKit Go.Maps
attribute [local go_sem ↓] Go.wp_at_zero Go.wp_at_succ
structure eA.Fit (k:eA):Prop where
 Ts:k.fn.length≤1048576
 sC:k.parts.length≤1048576
 w8:k.eC.length≤1048576
 win: ∀ j,-9223372036854775808≤sz k.fn j∧sz k.fn j≤9223372036854775807
 parts: ∀ p∈k.parts,p.Fit∧ ∀ x∈p.L8,x.dX
def n0 (ps:List af) (part port:Int):Int:=match hP (·.id) part ps with
 | none=> -1
 | some p=>place (p.ai.map (·.id)) port 0
theorem Ua (k:eA) (id:Int) (w:World) (hl:k.parts.length≤1048576) (h:eA.At w k):
  Calls J3 45 #[.agg k.row,.int .i64 id] w fun e w'=>e= .returned (.int .i64 (place (k.parts.map (·.id)) id 0))∧Below w.heap.size w w':=by
 have S:=aA (dr.first h);clear h
 go_enter Tryz.func45,Tryz.ntmps45
 go_wp2_with fail;generalize w.alloc (.cells k.row 37)=W at *;obtain ⟨-,-,-,q,-⟩:=S.I.box.cells
 go_loop [5] (fun i=> ∃ n:Nat,n≤k.parts.length∧i= .int .i64 n∧Hid (id∉(k.parts.map (·.id)).take n)) (fun i=>k.parts.length - (Go.RowKit.intOf i).toNat)
 case atStart=>exact ⟨0,Ky _,rfl,(by simp:id∉(k.parts.map (·.id)).take 0)⟩
 case round=>
  obtain ⟨n,hn,rfl,HA⟩:=hrel;by_cases hlt:n < k.parts.length
  ·have i0:(0:Int)≤(n:Int):=by omega
   have i1:(n:Int) < (k.parts.length:Int):=by omega
   obtain ⟨x,hx⟩: ∃ x,k.parts[n]? =some x:=⟨_,Kz hlt⟩
   have HX:Hid ((k.parts.map (·.id))[n]? =some x.id):=by show _=_; rw [Kk,hx]; rfl
   obtain ⟨g,ha,hat,-⟩:=ic S.I.MT.parts hx;have c0:=hat.1;rw [ha] at q;clear hat hx;by_cases hc:x.id=id
   ·have HC:Hid (x.id=id):=hc
    have h1:(x.id == id)=true:=by simp [hc]
    clear hc;go_wp2;go_ret;exact ⟨ck (ku HA.I HX.I HC.I).symm,S.I.low⟩
   ·have HC:Hid (¬ x.id=id):=hc
    have h1:(x.id == id)=false:=by simp [hc]
    clear hc;go_wp2
    go_round
    case rel=>exact ⟨n+1,by omega,by go_num,nh HA.I HX.I HC.I⟩
    case measure=>simp [Go.RowKit.intOf]; omega
  ·have i1: ¬ (n:Int) < (k.parts.length:Int):=by omega
   go_wp2;go_ret;exact ⟨ck (jg HA.I (by rw [KG]; omega)).symm,S.I.low⟩
theorem TB (k:eA) (part port:Int) (w:World) (hf:k.Fit) (h:eA.At w k):
  Calls J3 37 #[.agg k.row,.int .i64 part,.int .i64 port] w fun e w'=>e= .returned (.tuple #[.int .i64 (place (k.parts.map (·.id)) part 0),.int .i64 (n0 k.parts part port)])∧Below w.heap.size w w':=by
 have S:=aA (dr.first h);have HF:=aA hf;clear h hf
 go_enter Tryz.func37,Tryz.ntmps37
 go_upto_region 1 with fail;generalize w.alloc (.cells k.row 37)=W at *;have Mb:=Ua k part W HF.I.sC S.I.MT;obtain ⟨q0,q1,q2,q3,q4⟩:=S.I.box.cells;go_wp2_with fail;clear q0 q1 q2 q3 q4;refine Mb.mono ?_;clear Mb;rintro e W1 ⟨rfl,hb⟩;replace S:=aA (S.I.below hb);clear hb;rcases ua (num:=fun x:af=>x.id) part k.parts 0 with ⟨e1,e2⟩ | ⟨n,p,e1,hp,-,e2⟩
 ·have HE:Hid (n0 k.parts part port= -1):=by show n0 _ _ _=_; unfold n0; rw [e2]
  rw [e1];have H1:=aA e1;clear e1 e2;go_wp2;go_ret2;exact ⟨by rw [HE.I,H1.I]; rfl,S.I.low⟩
 have HE:Hid (n0 k.parts part port=place (p.ai.map (·.id)) port 0):=by show n0 _ _ _=_; unfold n0; rw [e2]
 rw [Li] at e1;rw [e1];have H1:=aA e1;have hn:=(Lj.1 hp).1;have hl:=HF.I.sC;have i0:(0:Int)≤(n:Int):=by omega
 have i1:(n:Int) < (k.parts.length:Int):=by omega
 have i2: ¬ (n:Int) < 0:=by omega
 obtain ⟨g,ha,⟨c0,c1,c2,c3,c4,c5,c6,c7⟩,hat⟩:=ic S.I.MT.parts hp;have Mb:=uV p port W1 (HF.I.parts p (KA hp)).1.short.ai hat;unfold af.cells at Mb;obtain ⟨-,-,-,q3,-⟩:=S.I.box.cells;rw [ha] at q3;clear e1 e2 hp ha hat;go_wp2_with fail;clear c0 c1 c2 c3 c4 c5 c6 c7 q3;refine Mb.mono ?_;clear Mb;rintro e W2 ⟨rfl,hb⟩;replace S:=aA (S.I.below hb);clear hb;go_wp2;go_ret2;exact ⟨by rw [HE.I,H1.I]; rfl,S.I.low⟩
theorem Ty {k:eA} {part port:Int} (h:n0 k.parts part port < 0):endP (k.parts.map (·.pure)) part port=none:=by
 unfold n0 at h;have e:hP (·.id) part (k.parts.map (·.pure))=(hP (·.id) part k.parts).map (·.pure):=by unfold hP; rw [List.find?_map]; rfl
 unfold endP;rw [e]
 split at h
 ·rename_i h1
  rw [h1];rfl
 ·rename_i p h1
  rw [h1]
  show hP (·.id) port p.pure.ai=none
  have e2:hP (·.id) port p.pure.ai=(hP (·.id) port p.ai).map (·.todS):=by unfold hP af.pure; rw [List.find?_map]; rfl
  rcases ua (num:=fun x:aM=>x.id) port p.ai 0 with ⟨-,h2⟩ | ⟨n,x,h2,-⟩
  ·rw [e2,h2]
   rfl
  ·rw [h2] at h
   omega
theorem Tw {k:eA} {part port:Int} (h: ¬ n0 k.parts part port < 0): ∃ n p m x,place (k.parts.map (·.id)) part 0=(n:Nat)∧k.parts[n]? =some p∧p.id=part∧n0 k.parts part port=(m:Nat)∧p.ai[m]? =some x∧endP (k.parts.map (·.pure)) part port=some x.todS:=by
 have e:hP (·.id) part (k.parts.map (·.pure))=(hP (·.id) part k.parts).map (·.pure):=by unfold hP; rw [List.find?_map]; rfl
 unfold n0 at h ⊢;rcases ua (num:=fun x:af=>x.id) part k.parts 0 with ⟨-,e2⟩ | ⟨n,p,e1,hp,hi,e2⟩
 ·rw [e2] at h
  exact absurd (show (-1:Int) < 0 by decide) h
 ·rw [e2] at h ⊢
  rcases ua (num:=fun x:aM=>x.id) port p.ai 0 with ⟨h1,-⟩ | ⟨m,x,h1,h2,-,h3⟩
  ·exact absurd (show place (p.ai.map (·.id)) port 0 < 0 by rw [h1]; decide) h
  ·rw [Li] at e1 h1
   refine ⟨n,p,m,x,e1,hp,hi,h1,h2,?_⟩;unfold endP;rw [e,e2]
   show hP (·.id) port p.pure.ai=_
   have e4:hP (·.id) port p.pure.ai=(hP (·.id) port p.ai).map (·.todS):=by unfold hP af.pure; rw [List.find?_map]; rfl
   rw [e4,h3];rfl
theorem Vx {ps:List aE} {c:eQ} {q r:dS} (h1:endP ps c.src c.ga=some q) (h2:endP ps c.dst c.hI=some r):pa ps c=(!decide (c.src=c.dst) && q.I && !r.I && (q.Mf == r.Mf))∧zo ps c=q.Mf:=by
 unfold pa zo;rw [h1,h2];exact ⟨rfl,rfl⟩
theorem Uu {ps:List aE} {c:eQ} (h:endP ps c.src c.ga=none∨endP ps c.dst c.hI=none):pa ps c=false:=by
 unfold pa;rcases h with h | h
 ·rw [h]
 ·rw [h]
  split <;> simp_all
theorem Td {l:List eQ} {i j:Nat} {d:eQ} (hd:l[i]? =some d) (h:i < j):d∈l.take j:=by
 have:(l.take j)[i]? =some d:=by rw [List.getElem?_take_of_lt h]; exact hd
 exact KA this
theorem HJ {l:List eQ} {i:Nat} {d:eQ} {f:eQ→Bool} (hd:l[i]? =some d) (h:(l.take i).any f=false):(l.take (i+1)).any f=f d:=by
 rw [cj hd,List.any_append,h];simp
structure bA (w:World) (X:Nat) (k:eA) (B:List (Nat × eQ)) (W:World):Prop where
 ks:dr w X k W
 box: ∀ x∈B,W.heap[x.1]? =some (.cells (nx x.2) 80 (0,0))
section
variable {w W W2:World} {X:Nat} {k:eA} {B:List (Nat × eQ)} {c:eQ} {y:Nat × eQ}
theorem bA.below (h:bA w X k B W) (hb:Below W.heap.size W W2):bA w X k B W2:=⟨h.ks.below hb,fun x hx=>(hb.block _ (J2.1 (h.box x hx)).1).trans (h.box x hx)⟩
theorem bA.put (h:bA w X k B W):bA w X k ((W.heap.size,c) :: B) (W.alloc (.cells (nx c) 80)):=by
 have hz:Below W.heap.size W (W.alloc (.cells (nx c) 80)):=(Kp _ _).alloc (Ki _) _;exact ⟨(h.below hz).ks,fun x hx=>(Kt.1 hx).elim (fun e=>by rw [e]; exact Kj _ _) ((h.below hz).box x)⟩
theorem bA.less (h:bA w X k (y :: B) W):bA w X k B W:=⟨h.ks,fun x hx=>h.box x (List.mem_cons_of_mem _ hx)⟩
theorem bA.cells (h:bA w X k B W) {Y:Nat} (hy:(Y,c)∈B):W.cell? ⟨Y,0,none⟩=some (.int .i64 c.src)∧W.cell? ⟨Y,1,none⟩=some (.int .i64 c.ga)∧W.cell? ⟨Y,2,none⟩=some (.int .i64 c.dst)∧W.cell? ⟨Y,3,none⟩=some (.int .i64 c.hI):=by
 have h1:=h.box (Y,c) hy;simp [World.cell?,h1]
end
theorem m8 {k:kd} (h: ¬ (cv k.now 0 500000000=true∧E4 k.major k.fn=true∧k.parts.length≤6∧k.eC.length≤10∧aw (·.id) bK 0 k.parts=true∧fA k.parts [] k.eC=true)):eP k=false:=by
 cases hb:eP k with
 | false=>rfl
 | true=>
  simp only [eP,J7,decide_eq_true_eq] at hb;exact absurd ⟨hb.1.1.1.1.1,hb.1.1.1.1.2,hb.1.1.1.2,hb.1.1.2,hb.1.2,hb.2⟩ h
theorem gx {k:eA} (h:fA k.pure.parts [] k.eC=false):eP k.pure=false:=m8 fun hh=>by rw [show fA k.pure.parts [] k.pure.eC=false from h] at hh; cases hh.2.2.2.2.2
theorem Ui {k:kd} (h1:cv k.now 0 500000000=true) (h2:E4 k.major k.fn=true) (h3:k.parts.length≤6) (h4:k.eC.length≤10) (h5:aw (·.id) bK 0 k.parts=true) (h6:fA k.parts [] k.eC=true):eP k=true:=by
 simp [eP,h1,h2,h3,h4,h5,h6]
theorem FO (k:eA) (g:Nat) (w:World) (hf:k.Fit) (hg:k.vb=some ⟨g,0,none⟩∧g < w.heap.size) (h:eA.At w k):
  Calls J3 9 #[.agg k.row] w fun e w'=>e= .returned (.bool (eP k.pure))∧Below w.heap.size w w':=by
 have S:=aA (dr.first h);have HF:=aA hf;have HG:=aA hg;have HW:Hid (lT (w.alloc (.cells k.row 37)) g k.fn.length (sz k.fn)):=Uq (by simp; omega) (by rw [← hg.1]; exact S.I.MT.fn);clear h hf hg
 go_enter Tryz.func9,Tryz.ntmps9
 go_upto_region 1 with fail;generalize w.alloc (.cells k.row 37)=W at *;obtain ⟨q0,q1,q2,q3,q4⟩:=S.I.box.cells;rw [HG.I.1] at q2;go_wp2_with fail;refine (dx k.now 0 500000000 _).mono ?_;rintro e w9 ⟨rfl,mW⟩;rw [mW];clear mW w9;cases h1:cv k.now 0 500000000
 ·have HN:Hid (eP k.pure=false):=m8 fun hh=>by have:=hh.1; rw [show k.pure.now=k.now from rfl,h1] at this; cases this
  clear h1;go_wp2;go_ret;exact ⟨al HN.I.symm,S.I.low⟩
 have H1:=aA h1;clear h1;have Mb:=Tc k.major g k.fn.length k.Te (sz k.fn) W HF.I.Ts HF.I.win HW.I;go_wp2_with fail;refine Mb.mono ?_;clear Mb HW;clear q0 q1 q2 q3 q4;rintro e W1 ⟨rfl,hb⟩;replace S:=aA (S.I.below hb);clear hb;obtain ⟨-,-,-,q3,q4⟩:=S.I.box.cells;cases h2:nn k.major k.fn.length (sz k.fn)
 ·have HN:Hid (eP k.pure=false):=m8 fun hh=>by have:=hh.2.1; rw [show E4 k.pure.major k.pure.fn=_ from h2] at this; cases this
  clear h2;go_wp2;go_ret;exact ⟨al HN.I.symm,S.I.low⟩
 have H2:Hid (E4 k.pure.major k.pure.fn=true):=h2;clear h2;by_cases h3:(6:Int) < (k.parts.length:Int)
 ·have HN:Hid (eP k.pure=false):=m8 fun hh=>by have:=hh.2.2.1; simp only [eA.pure,KG] at this; omega
  go_wp2;go_ret;exact ⟨al HN.I.symm,S.I.low⟩
 by_cases h4:(10:Int) < (k.eC.length:Int)
 ·have HN:Hid (eP k.pure=false):=m8 fun hh=>by have:=hh.2.2.2.1; simp only [eA.pure] at this; omega
  go_wp2;go_ret;exact ⟨al HN.I.symm,S.I.low⟩
 have H3:Hid (k.pure.parts.length≤6∧k.pure.eC.length≤10):=by show _∧_; simp only [eA.pure,KG]; omega
 have hpl:=HF.I.sC;have hcl:=HF.I.w8;go_wp2_with fail;clear q3 q4 h3 h4
 go_loopw [3] (fun i wr=> ∃ n:Nat,n≤k.parts.length∧i= .int .i64 n∧Hid (dr w w.heap.size k wr∧aw (·.id) bK 0 (k.pure.parts.take n)=true)) (fun i _=>k.parts.length - (Go.RowKit.intOf i).toNat)
 case atStart=>exact ⟨0,Ky _,rfl,S.I,rfl⟩
 case round=>
  clear S;obtain ⟨n,hn,rfl,S⟩:=hrel;by_cases hlt:n < k.parts.length
  ·skip
   have i0:(0:Int)≤(n:Int):=by omega
   have i1:(n:Int) < (k.parts.length:Int):=by omega
   obtain ⟨p,hp⟩: ∃ p,k.parts[n]? =some p:=⟨_,Kz hlt⟩
   have HP:Hid (k.pure.parts[n]? =some p.pure):=by show (k.parts.map (·.pure))[n]? =_; rw [Kk,hp]; rfl
   have Gh:=aA (HF.I.parts p (KA hp));obtain ⟨gs,ha,-⟩:=ic S.I.1.MT.parts hp;have HC:Hid (∀ W,dr w w.heap.size k W→W.cell? ⟨w.heap.size,3,none⟩=some (.slice (some ⟨gs,0,none⟩) k.parts.length k.sa)∧af.In W gs n p∧af.At W p):=fun W h=>by
    obtain ⟨-,-,-,q3,-⟩:=h.box.cells;obtain ⟨g2,h1,h2,h3⟩:=ic h.MT.parts hp;cases ha.symm.trans h1;rw [ha] at q3;exact ⟨q3,h2,h3⟩
   have HA:=aA ha;obtain ⟨-,-,-,q3,-⟩:=S.I.1.box.cells;clear ha hp;go_upto_region 6 with fail;clear q3;refine aT (fun W=>dr w w.heap.size k W) (by kernel_rfl) (S.I.1.below (Kp _ _).drew) ?_
   iterate 5 (refine yl (v:= ?_) ?_ ?_; rotate_left; (intro w0 hS0; obtain ⟨q3,⟨c0,c1,c2,c3,c4,c5,c6,c7⟩,-⟩:=HC.I w0 hS0; go_simp; try with_reducible rfl); simp only [pt,sb,s0,s1])
   refine cl (.bool (bK p.pure)) 36 #[.agg p.row] ?_ (fun w0 h0=>(eV p w0 Gh.I.1 Gh.I.2 (HC.I w0 h0).2.2).mono fun e w1 h=>⟨h.1,h0.below h.2⟩) ?_
   ·intro w0 hS0
    go_simp
   simp only [pt,sb,s0,s1];cases hb:bK p.pure
   ·have HN:Hid (eP k.pure=false):=m8 fun hh=>by
     have h1:=bS (last:=0) HP.I (ok:=bK) (num:=fun x:aE=>x.id) (fun hh=>by rw [hb] at hh; cases hh.2.2);rw [h1] at hh; cases hh.2.2.2.2.1
    iterate 2 (refine yl (v:= ?_) ?_ ?_; rotate_left; (intro w0 hS0; obtain ⟨q3,⟨c0,c1,c2,c3,c4,c5,c6,c7⟩,-⟩:=HC.I w0 hS0; go_simp; try with_reducible rfl); simp only [pt,sb,s0,s1])
    iterate 18 (refine nl ?_; simp only [pt,sb,s0,s1])
    refine yl (v:= ?_) ?_ ?_; rotate_left; (intro w0 hS0; obtain ⟨q3,⟨c0,c1,c2,c3,c4,c5,c6,c7⟩,-⟩:=HC.I w0 hS0; go_simp; try with_reducible rfl); simp only [pt,sb,s0,s1];refine bk (by kernel_rfl) (fun A3 NO=> ?_) _;clear hb;go_wp2;go_ret;exact ⟨al HN.I.symm,NO.low⟩
   have HB:=aA hb
   iterate 2 (refine yl (v:= ?_) ?_ ?_; rotate_left; (intro w0 hS0; obtain ⟨q3,⟨c0,c1,c2,c3,c4,c5,c6,c7⟩,-⟩:=HC.I w0 hS0; go_simp; try with_reducible rfl); simp only [pt,sb,s0,s1])
   have HI:Hid (cv p.pure.id 1 1000=true):=by have h1:=((ch _).1 hb).id; rw [bz] at h1; exact eB (by omega) (by omega)
   clear hb;by_cases hz:n=0
   ·have z0:decide (0 < n)=false:=decide_eq_false (by omega)
    have HZ:=aA hz;clear hz
    iterate 3 (refine yl (v:= ?_) ?_ ?_; rotate_left; (intro w0 hS0; obtain ⟨q3,⟨c0,c1,c2,c3,c4,c5,c6,c7⟩,-⟩:=HC.I w0 hS0; go_simp; try with_reducible rfl); simp only [pt,sb,s0,s1])
    iterate 14 (refine nl ?_; simp only [pt,sb,s0,s1])
    iterate 2 (refine yl (v:= ?_) ?_ ?_; rotate_left; (intro w0 hS0; obtain ⟨q3,⟨c0,c1,c2,c3,c4,c5,c6,c7⟩,-⟩:=HC.I w0 hS0; go_simp; try with_reducible rfl); simp only [pt,sb,s0,s1])
    refine bk (by kernel_rfl) (fun A3 NO=> ?_) _;go_wp2;go_roundw
    case rel=>exact ⟨n+1,by omega,by go_num,NO,ed S.I.2 HP.I HI.I (by have:=bz.1 HI.I; rw [HZ.I]; show (0:Int) < _; omega) HB.I⟩
    case measure=>simp [Go.RowKit.intOf]; omega
   obtain ⟨m,hm⟩: ∃ m,n=m+1:=⟨n - 1,by omega⟩
   have z0:decide (0 < n)=true:=decide_eq_true (by omega);have z1:IntKind.wrap .i64 ((n:Int) - 1)=(m:Int):=by rw [K8]; omega
   have z2:IntKind.wrap .i64 (m:Int)=(m:Int):=by rw [K8]; omega
   have hmn:m < k.parts.length:=by omega
   obtain ⟨p2,hp2⟩: ∃ p2,k.parts[m]? =some p2:=⟨_,Kz hmn⟩
   have HP2:Hid (bW (fun x:aE=>x.id) 0 (k.pure.parts.take n)=p2.id):=by rw [hm]; exact eG (num:=fun x:aE=>x.id) (show (k.parts.map (·.pure))[m]? =some p2.pure by rw [Kk,hp2]; rfl) 0
   have HC2:Hid (∀ W,dr w w.heap.size k W→W.cell? ⟨gs,m * 8,none⟩=some (.int .i64 p2.id)):=fun W h=>by
    obtain ⟨g2,h1,h2,-⟩:=ic h.MT.parts hp2;cases HA.I.symm.trans h1;exact h2.1
   clear hp2 hz hm
   iterate 3 (refine yl (v:= ?_) ?_ ?_; rotate_left; (intro w0 hS0; obtain ⟨q3,⟨c0,c1,c2,c3,c4,c5,c6,c7⟩,-⟩:=HC.I w0 hS0; go_simp; try with_reducible rfl); simp only [pt,sb,s0,s1])
   have j0:(0:Int)≤(m:Int):=by omega
   have j1:(m:Int) < (k.parts.length:Int):=by omega
   clear hmn;by_cases hi:p.id≤p2.id
   ·iterate 16 (refine yl (v:= ?_) ?_ ?_; rotate_left; (intro w0 hS0; obtain ⟨q3,⟨c0,c1,c2,c3,c4,c5,c6,c7⟩,-⟩:=HC.I w0 hS0; have d0:=HC2.I w0 hS0; go_simp; try with_reducible rfl); try simp only [pt,sb,s0,s1])
    have HN:Hid (eP k.pure=false):=m8 fun hh=>by
     have h1:=bS (last:=0) HP.I (ok:=bK) (num:=fun x:aE=>x.id) (fun hh=>by have h2:=hh.2.1; rw [HP2.I] at h2; have h3:p2.id < p.id:=h2; omega);rw [h1] at hh; cases hh.2.2.2.2.1
    refine bk (by kernel_rfl) (fun A3 NO=> ?_) _;go_wp2;go_ret;exact ⟨al HN.I.symm,NO.low⟩
   iterate 16 (refine yl (v:= ?_) ?_ ?_; rotate_left; (intro w0 hS0; obtain ⟨q3,⟨c0,c1,c2,c3,c4,c5,c6,c7⟩,-⟩:=HC.I w0 hS0; have d0:=HC2.I w0 hS0; go_simp; try with_reducible rfl); try simp only [pt,sb,s0,s1])
   refine bk (by kernel_rfl) (fun A3 NO=> ?_) _;go_wp2;go_roundw
   case rel=>exact ⟨n+1,by omega,by go_num,NO,ed S.I.2 HP.I HI.I (by rw [HP2.I]; show p2.id < p.id; omega) HB.I⟩
   case measure=>simp [Go.RowKit.intOf]; omega
  ·have i1: ¬ (n:Int) < (k.parts.length:Int):=by omega
   have HT:Hid (aw (·.id) bK 0 k.pure.parts=true):=by have h:=S.I.2; rwa [KF (by simp only [eA.pure,KG]; omega)] at h
   replace S:=aA S.I.1;obtain ⟨-,-,-,q3,-⟩:=S.I.box.cells;go_wp2_with fail;clear q3
   go_loopw [4] (fun i wr=> ∃ n:Nat,n≤k.eC.length∧i= .int .i64 n∧Hid (bA w w.heap.size k [] wr∧fA k.pure.parts [] (k.eC.take n)=true)) (fun i _=>k.eC.length - (Go.RowKit.intOf i).toNat)
   case atStart=>exact ⟨0,Ky _,rfl,⟨S.I,by simp⟩,rfl⟩
   case round=>
    clear S i1 hn;obtain ⟨j,hj,rfl,S⟩:=hrel;by_cases hlt:j < k.eC.length
    ·skip
     have i0:(0:Int)≤(j:Int):=by omega
     have i1:(j:Int) < (k.eC.length:Int):=by omega
     obtain ⟨c,hc⟩: ∃ c,k.eC[j]? =some c:=⟨_,Kz hlt⟩
     have Vn:=aA hc;have HL:=aA S.I.2;replace S:=aA S.I.1;obtain ⟨gc,ha,d0,d1,d2,d3⟩:=TH S.I.ks.MT.eC hc;have HGC:=aA ha;obtain ⟨-,-,-,-,q4⟩:=S.I.ks.box.cells;rw [ha] at q4;clear ha hc;replace S:=aA (S.I.put (c:=c));go_upto_region 12 with fail;clear d0 d1 d2 d3 q4;generalize wr.alloc (.cells (nx c) 80)=W2 at *;generalize wr.heap.size=Y at *;have Mb:=TB k c.src c.ga _ HF.I S.I.ks.MT;obtain ⟨q0,q1,q2,q3,q4⟩:=S.I.ks.box.cells;obtain ⟨o0,o1,o2,o3⟩:=S.I.cells (Y:=Y) (c:=c) (by simp);go_wp2_with fail;clear q0 q1 q2 q3 q4 o0 o1 o2 o3;refine Mb.mono ?_;clear Mb;rintro e W3 ⟨rfl,hb⟩;replace S:=aA (S.I.below hb);clear hb;go_upto_region 13 with fail;have Mb:=TB k c.dst c.hI _ HF.I S.I.ks.MT;obtain ⟨q0,q1,q2,q3,q4⟩:=S.I.ks.box.cells;obtain ⟨o0,o1,o2,o3⟩:=S.I.cells (Y:=Y) (c:=c) (by simp);go_wp2_with fail;clear q0 q1 q2 q3 q4 o0 o1 o2 o3;refine Mb.mono ?_;clear Mb;rintro e W4 ⟨rfl,hb⟩;replace S:=aA (S.I.below hb);clear hb;go_upto_region 14 with fail;by_cases h1:n0 k.parts c.src c.ga < 0
     ·as_aux_lemma=>
      have HN:Hid (eP k.pure=false):=gx (kq Vn.I (.inl (Uu (.inl (Ty h1)))));replace h1:decide (n0 k.parts c.src c.ga < 0)=true:=decide_eq_true h1;refine aT (fun W=>bA w w.heap.size k [(Y,c)] W) (by kernel_rfl) (S.I.below (Kp _ _).drew) ?_
      iterate 3 (refine yl (v:= ?_) ?_ ?_; rotate_left; (intro w0 hS0; go_simp; try with_reducible rfl); simp only [pt,sb,s0,s1])
      iterate 2 (refine nl ?_; simp only [pt,sb,s0,s1])
      iterate 2 (refine yl (v:= ?_) ?_ ?_; rotate_left; (intro w0 hS0; go_simp; try with_reducible rfl); simp only [pt,sb,s0,s1])
      iterate 3 (refine nl ?_; simp only [pt,sb,s0,s1])
      iterate 2 (refine yl (v:= ?_) ?_ ?_; rotate_left; (intro w0 hS0; go_simp; try with_reducible rfl); simp only [pt,sb,s0,s1])
      iterate 11 (refine nl ?_; simp only [pt,sb,s0,s1])
      iterate 2 (refine yl (v:= ?_) ?_ ?_; rotate_left; (intro w0 hS0; go_simp; try with_reducible rfl); simp only [pt,sb,s0,s1])
      iterate 10 (refine nl ?_; simp only [pt,sb,s0,s1])
      iterate 2 (refine yl (v:= ?_) ?_ ?_; rotate_left; (intro w0 hS0; go_simp; try with_reducible rfl); simp only [pt,sb,s0,s1])
      iterate 21 (refine nl ?_; simp only [pt,sb,s0,s1])
      iterate 1 (refine yl (v:= ?_) ?_ ?_; rotate_left; (intro w0 hS0; go_simp; try with_reducible rfl); simp only [pt,sb,s0,s1])
      clear h1;refine bk (by kernel_rfl) (fun A3 NO=> ?_) _;go_wp2;go_ret;exact ⟨al HN.I.symm,NO.ks.low⟩
     by_cases h2:n0 k.parts c.dst c.hI < 0
     ·as_aux_lemma=>
      have HN:Hid (eP k.pure=false):=gx (kq Vn.I (.inl (Uu (.inr (Ty h2)))));replace h1:decide (n0 k.parts c.src c.ga < 0)=false:=decide_eq_false h1;replace h2:decide (n0 k.parts c.dst c.hI < 0)=true:=decide_eq_true h2;refine aT (fun W=>bA w w.heap.size k [(Y,c)] W) (by kernel_rfl) (S.I.below (Kp _ _).drew) ?_
      iterate 7 (refine yl (v:= ?_) ?_ ?_; rotate_left; (intro w0 hS0; go_simp; try with_reducible rfl); simp only [pt,sb,s0,s1])
      iterate 3 (refine nl ?_; simp only [pt,sb,s0,s1])
      iterate 2 (refine yl (v:= ?_) ?_ ?_; rotate_left; (intro w0 hS0; go_simp; try with_reducible rfl); simp only [pt,sb,s0,s1])
      iterate 11 (refine nl ?_; simp only [pt,sb,s0,s1])
      iterate 2 (refine yl (v:= ?_) ?_ ?_; rotate_left; (intro w0 hS0; go_simp; try with_reducible rfl); simp only [pt,sb,s0,s1])
      iterate 10 (refine nl ?_; simp only [pt,sb,s0,s1])
      iterate 2 (refine yl (v:= ?_) ?_ ?_; rotate_left; (intro w0 hS0; go_simp; try with_reducible rfl); simp only [pt,sb,s0,s1])
      iterate 21 (refine nl ?_; simp only [pt,sb,s0,s1])
      iterate 1 (refine yl (v:= ?_) ?_ ?_; rotate_left; (intro w0 hS0; go_simp; try with_reducible rfl); simp only [pt,sb,s0,s1])
      clear h1 h2;refine bk (by kernel_rfl) (fun A3 NO=> ?_) _;go_wp2;go_ret;exact ⟨al HN.I.symm,NO.ks.low⟩
     obtain ⟨n1,p1,m1,x1,a1,hp1,pi1,b1,hx1,en1⟩:=Tw h1;obtain ⟨n2,p2,m2,x2,a2,hp2,pi2,b2,hx2,en2⟩:=Tw h2;clear h1 h2;rw [a1,a2,b1,b2];obtain ⟨dq,qk⟩:=Vx en1 en2;have HCK:Hid (pa k.pure.parts c=(!decide (c.src=c.dst) && x1.I && !x2.I && (x1.Mf == x2.Mf))):=dq;have HQK:Hid (zo k.pure.parts c=x1.Mf):=qk;clear dq qk en1 en2;obtain ⟨gs1,ha1,-,ht1⟩:=ic S.I.ks.MT.parts hp1;obtain ⟨gp1,hb1,-⟩:=lm ht1.2.2.2.2.2 hx1;obtain ⟨gs2,ha2,-,ht2⟩:=ic S.I.ks.MT.parts hp2;obtain ⟨gp2,hb2,-⟩:=lm ht2.2.2.2.2.2 hx2;cases ha1.symm.trans ha2;have HR:Hid (∀ (B:List (Nat × eQ)) (W:World),bA w w.heap.size k B W→W.cell? ⟨w.heap.size,3,none⟩=some (.slice (some ⟨gs1,0,none⟩) k.parts.length k.sa)∧W.cell? ⟨gs1,n1 * 8+7,none⟩=some (.slice (some ⟨gp1,0,none⟩) p1.ai.length p1.aV)∧W.cell? ⟨gs1,n2 * 8+7,none⟩=some (.slice (some ⟨gp2,0,none⟩) p2.ai.length p2.aV)∧W.cell? ⟨gp1,m1 * 5+1,none⟩=some (.bool x1.I)∧W.cell? ⟨gp1,m1 * 5+2,none⟩=some (.bool x1.Mf)∧W.cell? ⟨gp2,m2 * 5+1,none⟩=some (.bool x2.I)∧W.cell? ⟨gp2,m2 * 5+2,none⟩=some (.bool x2.Mf)):=fun B W h=>by
      obtain ⟨-,-,-,q3,-⟩:=h.ks.box.cells;obtain ⟨g1,e1,f1,t1⟩:=ic h.ks.MT.parts hp1;obtain ⟨g2,e2,f2,t2⟩:=ic h.ks.MT.parts hp2;cases ha1.symm.trans e1;cases ha1.symm.trans e2;obtain ⟨u1,e3,r1⟩:=lm t1.2.2.2.2.2 hx1;obtain ⟨u2,e4,r2⟩:=lm t2.2.2.2.2.2 hx2;cases hb1.symm.trans e3;cases hb2.symm.trans e4;have c1:=f1.2.2.2.2.2.2.2;have c2:=f2.2.2.2.2.2.2.2;rw [ha1] at q3;rw [hb1] at c1;rw [hb2] at c2;exact ⟨q3,c1,c2,r1.2.1,r1.2.2.1,r2.2.1,r2.2.2.1⟩
     have ln1:=(Lj.1 hp1).1;have lm1:=(Lj.1 hx1).1;have lp1:=(HF.I.parts p1 (KA hp1)).1.short.ai;have j1:(0:Int)≤(n1:Int):=by omega
     have k1:(n1:Int) < (k.parts.length:Int):=by omega
     have y1:(0:Int)≤(m1:Int):=by omega
     have z1:(m1:Int) < (p1.ai.length:Int):=by omega
     have u1:decide ((m1:Int) < 0)=false:=decide_eq_false (by omega);have ln2:=(Lj.1 hp2).1;have lm2:=(Lj.1 hx2).1;have lp2:=(HF.I.parts p2 (KA hp2)).1.short.ai;have j2:(0:Int)≤(n2:Int):=by omega
     have k2:(n2:Int) < (k.parts.length:Int):=by omega
     have y2:(0:Int)≤(m2:Int):=by omega
     have z2:(m2:Int) < (p2.ai.length:Int):=by omega
     have u2:decide ((m2:Int) < 0)=false:=decide_eq_false (by omega);have HAB:Hid ((n1=n2)↔c.src=c.dst):=by
      constructor
      ·intro e; subst e; rw [hp1] at hp2; cases hp2; exact pi1.symm.trans pi2
      ·intro e; rw [e] at a1; omega
     clear hp1 hp2 hx1 hx2 ha1 hb1 hb2 ht1 ht2 a1 a2 b1 b2 pi1 pi2 ln1 ln2 lm1 lm2 lp1 lp2;refine aT (fun W=>bA w w.heap.size k [(Y,c)] W) (by kernel_rfl) (S.I.below (Kp _ _).drew) ?_
     iterate 12 (refine yl (v:= ?_) ?_ ?_; rotate_left; (intro w0 hS0; obtain ⟨q3,g1,g2,g3,g4,g5,g6⟩:=HR.I _ w0 hS0; go_simp; try with_reducible rfl); simp only [pt,sb,s0,s1])
     cases w9:((n1:Int) == (n2:Int))
     case true=>
      as_aux_lemma=>
       have hab:n1=n2:=by simp only [beq_iff_eq] at w9; omega
       have HN:Hid (eP k.pure=false):=gx (kq Vn.I (.inl (HCK.I.trans (by simp [HAB.I.1 hab]))));clear hab
       iterate 11 (refine nl ?_; simp only [pt,sb,s0,s1])
       iterate 2 (refine yl (v:= ?_) ?_ ?_; rotate_left; (intro w0 hS0; obtain ⟨q3,g1,g2,g3,g4,g5,g6⟩:=HR.I _ w0 hS0; go_simp; try with_reducible rfl); simp only [pt,sb,s0,s1])
       iterate 10 (refine nl ?_; simp only [pt,sb,s0,s1])
       iterate 2 (refine yl (v:= ?_) ?_ ?_; rotate_left; (intro w0 hS0; obtain ⟨q3,g1,g2,g3,g4,g5,g6⟩:=HR.I _ w0 hS0; go_simp; try with_reducible rfl); simp only [pt,sb,s0,s1])
       iterate 21 (refine nl ?_; simp only [pt,sb,s0,s1])
       iterate 1 (refine yl (v:= ?_) ?_ ?_; rotate_left; (intro w0 hS0; obtain ⟨q3,g1,g2,g3,g4,g5,g6⟩:=HR.I _ w0 hS0; go_simp; try with_reducible rfl); simp only [pt,sb,s0,s1])
       refine bk (by kernel_rfl) (fun A3 NO=> ?_) _;go_wp2;go_ret;exact ⟨al HN.I.symm,NO.ks.low⟩
     have HNE:Hid (¬ c.src=c.dst):=fun e=>by have h:=HAB.I.2 e; simp [h] at w9
     iterate 13 (refine yl (v:= ?_) ?_ ?_; rotate_left; (intro w0 hS0; obtain ⟨q3,g1,g2,g3,g4,g5,g6⟩:=HR.I _ w0 hS0; go_simp; try with_reducible rfl); simp only [pt,sb,s0,s1])
     cases b1:x1.I
     case false=>
      as_aux_lemma=>
       have HN:Hid (eP k.pure=false):=gx (kq Vn.I (.inl (HCK.I.trans (by simp [b1]))))
       iterate 10 (refine nl ?_; simp only [pt,sb,s0,s1])
       iterate 2 (refine yl (v:= ?_) ?_ ?_; rotate_left; (intro w0 hS0; obtain ⟨q3,g1,g2,g3,g4,g5,g6⟩:=HR.I _ w0 hS0; go_simp; try with_reducible rfl); simp only [pt,sb,s0,s1])
       iterate 21 (refine nl ?_; simp only [pt,sb,s0,s1])
       iterate 1 (refine yl (v:= ?_) ?_ ?_; rotate_left; (intro w0 hS0; obtain ⟨q3,g1,g2,g3,g4,g5,g6⟩:=HR.I _ w0 hS0; go_simp; try with_reducible rfl); simp only [pt,sb,s0,s1])
       refine bk (by kernel_rfl) (fun A3 NO=> ?_) _;go_wp2;go_ret;exact ⟨al HN.I.symm,NO.ks.low⟩
     iterate 12 (refine yl (v:= ?_) ?_ ?_; rotate_left; (intro w0 hS0; obtain ⟨q3,g1,g2,g3,g4,g5,g6⟩:=HR.I _ w0 hS0; go_simp; try with_reducible rfl); simp only [pt,sb,s0,s1])
     cases b2:x2.I
     case true=>
      as_aux_lemma=>
       have HN:Hid (eP k.pure=false):=gx (kq Vn.I (.inl (HCK.I.trans (by simp [b2]))))
       iterate 21 (refine nl ?_; simp only [pt,sb,s0,s1])
       iterate 1 (refine yl (v:= ?_) ?_ ?_; rotate_left; (intro w0 hS0; obtain ⟨q3,g1,g2,g3,g4,g5,g6⟩:=HR.I _ w0 hS0; go_simp; try with_reducible rfl); simp only [pt,sb,s0,s1])
       refine bk (by kernel_rfl) (fun A3 NO=> ?_) _;go_wp2;go_ret;exact ⟨al HN.I.symm,NO.ks.low⟩
     iterate 22 (refine yl (v:= ?_) ?_ ?_; rotate_left; (intro w0 hS0; obtain ⟨q3,g1,g2,g3,g4,g5,g6⟩:=HR.I _ w0 hS0; go_simp; try with_reducible rfl); simp only [pt,sb,s0,s1])
     refine bk (by kernel_rfl) (fun A3 NO=> ?_) _;replace S:=aA NO;clear NO;cases b3:(x1.Mf == x2.Mf)
     case false=>
      as_aux_lemma=>
       have HN:Hid (eP k.pure=false):=gx (kq Vn.I (.inl (HCK.I.trans (by simp [b3]))));go_wp2;go_ret;exact ⟨al HN.I.symm,S.I.ks.low⟩
     have HOK:Hid (pa k.pure.parts c=true):=HCK.I.trans (by have h:=HNE.I; simp [b1,b2,b3,h])
     as_aux_lemma=>
       clear b1 b2 b3 u1 u2 w9;go_wp2_with fail
       go_loopw [10] (fun i wr=> ∃ n:Nat,n≤j∧i= .int .i64 n∧Hid (bA w w.heap.size k [(Y,c)] wr∧(k.eC.take n).any (hR k.pure.parts c)=false)) (fun i _=>j - (Go.RowKit.intOf i).toNat)
       case atStart=>exact ⟨0,Ky _,rfl,S.I,by simp⟩
       case round=>
        clear S;obtain ⟨n,hn,rfl,S⟩:=hrel;have HA:=aA S.I.2;replace S:=aA S.I.1;by_cases sR:n < j
        ·skip
         have v0:(0:Int)≤(n:Int):=by omega
         have v1:(n:Int) < (j:Int):=by omega
         have v2:(n:Int) < (k.eC.length:Int):=by omega
         obtain ⟨d,hd⟩: ∃ d,k.eC[n]? =some d:=⟨_,Kz (by omega)⟩
         have Vp:=aA hd;obtain ⟨g5,ha,d0,d1,d2,d3⟩:=TH S.I.ks.MT.eC hd;cases HGC.I.symm.trans ha;obtain ⟨-,-,-,-,q4⟩:=S.I.ks.box.cells;rw [ha] at q4;clear ha hd;replace S:=aA (S.I.put (c:=d));go_upto_region 20 with fail;clear d0 d1 d2 d3 q4 v0 v2;generalize wr.alloc (.cells (nx d) 80)=W5 at *;generalize wr.heap.size=Z at *;obtain ⟨o0,o1,o2,o3⟩:=S.I.cells (Y:=Y) (c:=c) (by simp);obtain ⟨r0,r1,r2,r3⟩:=S.I.cells (Y:=Z) (c:=d) (by simp);obtain ⟨q3,g1,-,-,g4,-,-⟩:=HR.I _ _ S.I;have VB:Hid (hR k.pure.parts c d=(decide (d.dst=c.dst) && decide (d.hI=c.hI) || decide (d.src=c.src) && decide (d.ga=c.ga) && x1.Mf)):=by show hR _ _ _=_; unfold hR; rw [HQK.I]
         cases h1:(d.dst == c.dst)
         case true=>
          have h1q:d.dst=c.dst:=by simpa using h1
          cases h2:(d.hI == c.hI)
          case true=>
           have h2q:d.hI=c.hI:=by simpa using h2
           have HN:Hid (eP k.pure=false):=gx (kq (ps:=k.pure.parts) Vn.I (.inr (List.any_eq_true.2 ⟨d,Td Vp.I sR,VB.I.trans (by simp [*])⟩)));go_wp2;go_ret;exact ⟨al HN.I.symm,S.I.ks.low⟩
          case false=>
           have h2q: ¬ d.hI=c.hI:=by simpa using h2
           cases h3:(d.src == c.src)
           case true=>
            have h3q:d.src=c.src:=by simpa using h3
            cases h4:(d.ga == c.ga)
            case true=>
             have h4q:d.ga=c.ga:=by simpa using h4
             by_cases h5:x1.Mf=true
             case pos=>
              have HN:Hid (eP k.pure=false):=gx (kq (ps:=k.pure.parts) Vn.I (.inr (List.any_eq_true.2 ⟨d,Td Vp.I sR,VB.I.trans (by simp [*])⟩)));go_wp2;go_ret;exact ⟨al HN.I.symm,S.I.ks.low⟩
             case neg=>
              replace h5:x1.Mf=false:=by simpa using h5
              have HM:Hid ((k.eC.take (n+1)).any (hR k.pure.parts c)=false):=(HJ Vp.I HA.I).trans (VB.I.trans (by simp [*]));go_wp2;go_roundw
              case rel=>exact ⟨n+1,by omega,by go_num,S.I.less,HM.I⟩
              case measure=>simp [Go.RowKit.intOf]; omega
            case false=>
             have h4q: ¬ d.ga=c.ga:=by simpa using h4
             have HM:Hid ((k.eC.take (n+1)).any (hR k.pure.parts c)=false):=(HJ Vp.I HA.I).trans (VB.I.trans (by simp [*]));go_wp2;go_roundw
             case rel=>exact ⟨n+1,by omega,by go_num,S.I.less,HM.I⟩
             case measure=>simp [Go.RowKit.intOf]; omega
           case false=>
            have h3q: ¬ d.src=c.src:=by simpa using h3
            have HM:Hid ((k.eC.take (n+1)).any (hR k.pure.parts c)=false):=(HJ Vp.I HA.I).trans (VB.I.trans (by simp [*]));go_wp2;go_roundw
            case rel=>exact ⟨n+1,by omega,by go_num,S.I.less,HM.I⟩
            case measure=>simp [Go.RowKit.intOf]; omega
         case false=>
          have h1q: ¬ d.dst=c.dst:=by simpa using h1
          cases h3:(d.src == c.src)
          case true=>
           have h3q:d.src=c.src:=by simpa using h3
           cases h4:(d.ga == c.ga)
           case true=>
            have h4q:d.ga=c.ga:=by simpa using h4
            by_cases h5:x1.Mf=true
            case pos=>
             have HN:Hid (eP k.pure=false):=gx (kq (ps:=k.pure.parts) Vn.I (.inr (List.any_eq_true.2 ⟨d,Td Vp.I sR,VB.I.trans (by simp [*])⟩)));go_wp2;go_ret;exact ⟨al HN.I.symm,S.I.ks.low⟩
            case neg=>
             replace h5:x1.Mf=false:=by simpa using h5
             have HM:Hid ((k.eC.take (n+1)).any (hR k.pure.parts c)=false):=(HJ Vp.I HA.I).trans (VB.I.trans (by simp [*]));go_wp2;go_roundw
             case rel=>exact ⟨n+1,by omega,by go_num,S.I.less,HM.I⟩
             case measure=>simp [Go.RowKit.intOf]; omega
           case false=>
            have h4q: ¬ d.ga=c.ga:=by simpa using h4
            have HM:Hid ((k.eC.take (n+1)).any (hR k.pure.parts c)=false):=(HJ Vp.I HA.I).trans (VB.I.trans (by simp [*]));go_wp2;go_roundw
            case rel=>exact ⟨n+1,by omega,by go_num,S.I.less,HM.I⟩
            case measure=>simp [Go.RowKit.intOf]; omega
          case false=>
           have h3q: ¬ d.src=c.src:=by simpa using h3
           have HM:Hid ((k.eC.take (n+1)).any (hR k.pure.parts c)=false):=(HJ Vp.I HA.I).trans (VB.I.trans (by simp [*]));go_wp2;go_roundw
           case rel=>exact ⟨n+1,by omega,by go_num,S.I.less,HM.I⟩
           case measure=>simp [Go.RowKit.intOf]; omega
        ·have v1: ¬ (n:Int) < (j:Int):=by omega
         have e:n=j:=by omega
         have HM:Hid (fA k.pure.parts [] (k.eC.take (j+1))=true):=Tz HL.I Vn.I HOK.I (by rw [← e]; exact HA.I);clear e;go_wp2;go_roundw
         case rel=>exact ⟨j+1,by omega,by go_num,S.I.less,HM.I⟩
         case measure=>simp [Go.RowKit.intOf]; omega
    ·have i1: ¬ (j:Int) < (k.eC.length:Int):=by omega
     have HY:Hid (eP k.pure=true):=Ui H1.I H2.I H3.I.1 H3.I.2 HT.I (by have h:=S.I.2; rwa [KF (by omega)] at h);obtain ⟨-,-,-,-,q4⟩:=S.I.1.ks.box.cells;go_wp2;go_ret;exact ⟨al HY.I.symm,S.I.1.ks.low⟩
end
end Go.Proofs.YteidkehoekbcaaaGreat
