/- What the proof leans on, part 16: OpenA. -/
import Derived.Test.YtkbcplnlehdjfaaGreatOwnB11
import Derived.Test.YtkbcplnlehdjfaaGreatOwnB14
import Derived.Test.YtkbcplnlehdjfaaGreatOwnB15
set_option maxRecDepth 100000
set_option maxHeartbeats 8000000

namespace Go.Proofs.YtkbcplnlehdjfaaGreat
open Go.RowKit Go.Maps
structure aZ where
 q:ol
 lp:List (ao × Nat)
 ls:List (bD × Nat)
 le:List (aB × Nat)
 lb:List (az × Nat)
 lf:List (au × Nat)
 lq:List (aM × Nat)
def aZ.pure (S:aZ):aE:=⟨S.q.id,S.q.next,S.lp.map (·.1.toaD),S.ls.map (·.1),S.le.map (·.1),S.lb.map (·.1),S.lf.map (·.1.tocj),S.lq.map (·.1.todP)⟩
def aZ.boxes (S:aZ):List Nat:=(S.q.bp :: S.lp.map (·.2)) ++ ((S.q.bs :: S.ls.map (·.2)) ++ ((S.q.be :: S.le.map (·.2)) ++ ((S.q.bb :: S.lb.map (·.2)) ++ ((S.q.bf :: S.lf.map (·.2)) ++ (S.q.bq :: S.lq.map (·.2))))))
def aZ.kids (S:aZ):List Nat:=YtkbcplnlehdjfaaGreat.kids aR S.lp ++ (YtkbcplnlehdjfaaGreat.kids aC S.lf ++ YtkbcplnlehdjfaaGreat.kids aU S.lq)
structure cI (w:World) (base o:Nat) (S:aZ):Prop where
 opn:fb w o S.q
 procs:Shelf aX (fun x:ao=>x.id) 43 w base S.q.bp S.lp
 aj:Shelf eB (fun x:bD=>x.id) 49 w base S.q.bs S.ls
 events:Shelf cG (fun x:aB=>x.id) 138 w base S.q.be S.le
 ag:Shelf cK (fun x:az=>x.id) 141 w base S.q.bb S.lb
 ae:Shelf bQ (fun x:au=>x.id) 144 w base S.q.bf S.lf
 ai:Shelf cY (fun x:aM=>x.id) 61 w base S.q.bq S.lq
 eI: ∀ p∈S.lp,aR.cO w base p.1
 eG: ∀ p∈S.lf,aC.cO w base p.1
 eR: ∀ p∈S.lq,aU.cO w base p.1
 nodup:(o :: (S.boxes ++ S.kids)).Nodup
 low:base≤o
section
variable {α:Type} {vs:α→Array Value} {num:α→Int} {T:TypeId}
def ix (vs:α→Array Value) (num:α→Int) (T:TypeId) (W:World) (lo hi:Nat) (most:Int) (ok:Bool) (list:List α) (m:Int) (mb:Option Nat):Prop:=
 ok=true→m=most∧ ∃ b l,mb=some b∧l.map (·.1)=list∧Shelf vs num T W lo b l∧ ∀ g∈b :: l.map (·.2),g < hi
theorem ix.below {W W':World} {lo hi:Nat} {most:Int} {ok:Bool} {list:List α} {m:Int} {mb:Option Nat} (h:ix vs num T W lo hi most ok list m mb) (hb:Below W.heap.size W W'):ix vs num T W' lo hi most ok list m mb:=fun e=>by
 obtain ⟨h1,b,l,h2,h3,h4,h5⟩:=h e
 exact ⟨h1,b,l,h2,h3,h4.below hb,h5⟩
theorem jG.res {w w':World} {most:Int} {ok:Bool} {list:List α} {e:Ending} (h:jG vs num T w most ok list e w'):
  ∃ (okv:Bool) (m:Int) (mb:Option Nat),e= .returned (.tuple #[.agg #[.int .i64 m,.map mb],.bool okv])∧okv=ok∧Below w.heap.size w w'∧ix vs num T w' w.heap.size w'.heap.size most okv list m mb:=by
 obtain ⟨hb,⟨h1,h2⟩ | ⟨h1,b,l,h2,h3,h4⟩⟩:=h
 ·exact ⟨false,0,none,h2,h1.symm,hb,fun e=>by cases e⟩
 ·exact ⟨true,most,some b,h2,h1.symm,hb,fun _=>⟨rfl,b,l,rfl,h3,h4,h4.lt⟩⟩
end
structure xy (w wr:World) (p:af) (l:List (Nat × Int × Option Nat)):Prop where
 cd:Below w.heap.size w wr
 part:av wr w.heap.size p
 shs: ∀ q∈l,∃ t,wr.heap[q.1]? =some (.cells #[.int .i64 q.2.1,.map q.2.2] t (0,0))
theorem xy.start (w:World) (p:af):xy w (w.alloc (.cells p.cells 32)) p [] :=
 ⟨(Below.refl _ _).alloc (Nat.le_refl _) _,heap_alloc_new _ _,fun q hq=>absurd hq (by simp)⟩
theorem xy.below {w wr w':World} {p:af} {l:List (Nat × Int × Option Nat)} (h:xy w wr p l) (hb:Below wr.heap.size wr w'):xy w w' p l:=
 ⟨h.cd.trans (hb.mono h.cd.size),h.part.below hb,fun q hq=>by
  obtain ⟨t,h1⟩:=h.shs q hq
  exact ⟨t,(hb.block _ (Array.getElem?_eq_some_iff.1 h1).1).trans h1⟩⟩
theorem xy.push {w wr w1:World} {p:af} {m:Int} {mb:Option Nat} {l:List (Nat × Int × Option Nat)} (h:xy w wr p l) (hb:Below wr.heap.size wr w1) (t:TypeId):
  xy w (w1.alloc (.cells #[.int .i64 m,.map mb] t)) p ((w1.heap.size,m,mb) :: l):=by
 have h1:=h.below hb
 have h2:Below w1.heap.size w1 (w1.alloc (.cells #[.int .i64 m,.map mb] t)):=(Below.refl _ _).alloc (Nat.le_refl _) _
 have h3:=h1.below h2
 refine ⟨h3.cd,h3.part,fun q hq=> ?_⟩
 rcases List.mem_cons.1 hq with rfl | hq
 ·exact ⟨t,heap_alloc_new _ _⟩
 ·exact h3.shs q hq
theorem xy.c0 {w wr:World} {p:af} {l:List (Nat × Int × Option Nat)} (h:xy w wr p l) {B:Nat} {m:Int} {mb:Option Nat} (hq:(B,m,mb)∈l):wr.cell? ⟨B,0,none⟩=some (.int .i64 m):=by
 obtain ⟨t,h1⟩:=h.shs _ hq
 simp only at h1
 simp [World.cell?,h1]
theorem xy.c1 {w wr:World} {p:af} {l:List (Nat × Int × Option Nat)} (h:xy w wr p l) {B:Nat} {m:Int} {mb:Option Nat} (hq:(B,m,mb)∈l):wr.cell? ⟨B,1,none⟩=some (.map mb):=by
 obtain ⟨t,h1⟩:=h.shs _ hq
 simp only at h1
 simp [World.cell?,h1]
structure af.Good (w:World) (p:af):Prop where
 at':af.At w p
 short:p.dV
 procs: ∀ x∈p.procs,x.dV∧x.Wf
 aj: ∀ x∈p.aj,(Lit.int .i64 x.id).wf=true
 events: ∀ x∈p.events,(Lit.int .i64 x.id).wf=true
 ag: ∀ x∈p.ag,(Lit.int .i64 x.id).wf=true∧x.text.size≤1048576
 ae: ∀ x∈p.ae,(Lit.int .i64 x.id).wf=true∧x.items.length≤1048576∧ ∀ s∈x.items,s.size≤1048576
 ai: ∀ x∈p.ai,(Lit.int .i64 x.id).wf=true∧x.items.length≤1048576∧ ∀ s∈x.items,s.size≤1048576
 Ed: ∀ x∈p.procs,∀ g,aR.bt x=some g→g < w.heap.size
 xH: ∀ x∈p.ae,∀ g,aC.bt x=some g→g < w.heap.size
 lowPort: ∀ x∈p.ai,∀ g,aU.bt x=some g→g < w.heap.size
theorem af.Good.below {w w':World} {p:af} (h:p.Good w) (hb:Below w.heap.size w w'):p.Good w':=⟨h.at'.below hb,h.short,h.procs,h.aj,h.events,h.ag,h.ae,h.ai,fun x hx g hk=>Nat.lt_of_lt_of_le (h.Ed x hx g hk) hb.size,fun x hx g hk=>Nat.lt_of_lt_of_le (h.xH x hx g hk) hb.size,fun x hx g hk=>Nat.lt_of_lt_of_le (h.lowPort x hx g hk) hb.size⟩
theorem af.Good.DY {w:World} {p:af} (h:p.Good w): ∀ x∈p.procs,eL w x:=fun x hx=>⟨(h.procs x hx).1,h.at'.1.2 x hx (x.aY,fg.flat x.prog) (by simp [bg])⟩
theorem af.Good.fitSem {w:World} {p:af} (_:p.Good w): ∀ x∈p.aj,kR w x:=fun _ _=>trivial
theorem af.Good.Gy {w:World} {p:af} (_:p.Good w): ∀ x∈p.events,iw w x:=fun _ _=>trivial
theorem af.Good.FN {w:World} {p:af} (h:p.Good w): ∀ x∈p.ag,gM w x:=fun x hx=>(h.ag x hx).2
theorem af.Good.xA {w:World} {p:af} (h:p.Good w): ∀ x∈p.ae,fN w x:=fun x hx=>⟨(h.ae x hx).2.1,(h.ae x hx).2.2,h.at'.2.2.2.2.1.2 x hx (x.ak,bT.flat x.items) (by simp [bn])⟩
theorem af.Good.D0 {w:World} {p:af} (h:p.Good w): ∀ x∈p.ai,jb w x:=fun x hx=>⟨(h.ai x hx).2.1,(h.ai x hx).2.2,h.at'.2.2.2.2.2.2 x hx (x.ak,bT.flat x.items) (by simp [bZ])⟩
theorem af.Good.wfProc {w:World} {p:af} (h:p.Good w): ∀ x∈p.procs,(Lit.int .i64 x.id).wf=true:=fun x hx=>(h.procs x hx).2.id
theorem af.Good.wfSem {w:World} {p:af} (h:p.Good w): ∀ x∈p.aj,(Lit.int .i64 x.id).wf=true:=h.aj
theorem af.Good.Ir {w:World} {p:af} (h:p.Good w): ∀ x∈p.events,(Lit.int .i64 x.id).wf=true:=h.events
theorem af.Good.If {w:World} {p:af} (h:p.Good w): ∀ x∈p.ag,(Lit.int .i64 x.id).wf=true:=fun x hx=>(h.ag x hx).1
theorem af.Good.Gr {w:World} {p:af} (h:p.Good w): ∀ x∈p.ae,(Lit.int .i64 x.id).wf=true:=fun x hx=>(h.ae x hx).1
theorem af.Good.wfPort {w:World} {p:af} (h:p.Good w): ∀ x∈p.ai,(Lit.int .i64 x.id).wf=true:=fun x hx=>(h.ai x hx).1
/-! ### What each test says of the partition -/
def sy (p:af):Bool:=aw (fun x:ao=>x.id) (fun x:ao=>cH x.toaD) 0 p.procs && decide ((p.procs.length:Int)≤max 6 0)
theorem p7 (p:af):sy p=true↔(aw (·.id) cH 0 p.pure.procs=true∧p.pure.procs.length≤6):=by
 have e:aw (·.id) cH 0 p.pure.procs=aw (fun x:ao=>x.id) (fun x:ao=>cH x.toaD) 0 p.procs:=jB _ _ _ _ _
 have e2:p.pure.procs.length=p.procs.length:=by simp [af.pure]
 rw [e,e2]
 unfold sy
 rw [Bool.and_eq_true,decide_eq_true_iff]
 constructor
 ·intro h; exact ⟨h.1,by omega⟩
 ·intro h; exact ⟨h.1,by omega⟩
def Bj (p:af):Bool:=aw (fun x:bD=>x.id) (fun x:bD=>gy x) 0 p.aj && decide ((p.aj.length:Int)≤max 5 0)
theorem xe (p:af):Bj p=true↔(aw (·.id) gy 0 p.pure.aj=true∧p.pure.aj.length≤5):=by
 have e:p.pure.aj=p.aj:=rfl
 rw [e]
 unfold Bj
 rw [Bool.and_eq_true,decide_eq_true_iff]
 constructor
 ·intro h; exact ⟨h.1,by omega⟩
 ·intro h; exact ⟨h.1,by omega⟩
def qP (p:af):Bool:=aw (fun x:aB=>x.id) (fun x:aB=>ey x) 0 p.events && decide ((p.events.length:Int)≤max 5 0)
theorem tj (p:af):qP p=true↔(aw (·.id) ey 0 p.pure.events=true∧p.pure.events.length≤5):=by
 have e:p.pure.events=p.events:=rfl
 rw [e]
 unfold qP
 rw [Bool.and_eq_true,decide_eq_true_iff]
 constructor
 ·intro h; exact ⟨h.1,by omega⟩
 ·intro h; exact ⟨h.1,by omega⟩
def rK (p:af):Bool:=aw (fun x:az=>x.id) (fun x:az=>cU x) 0 p.ag && decide ((p.ag.length:Int)≤max 5 0)
theorem tc (p:af):rK p=true↔(aw (·.id) cU 0 p.pure.ag=true∧p.pure.ag.length≤5):=by
 have e:p.pure.ag=p.ag:=rfl
 rw [e]
 unfold rK
 rw [Bool.and_eq_true,decide_eq_true_iff]
 constructor
 ·intro h; exact ⟨h.1,by omega⟩
 ·intro h; exact ⟨h.1,by omega⟩
def oS (p:af):Bool:=aw (fun x:au=>x.id) (fun x:au=>ct x.tocj) 0 p.ae && decide ((p.ae.length:Int)≤max 5 0)
theorem rj (p:af):oS p=true↔(aw (·.id) ct 0 p.pure.ae=true∧p.pure.ae.length≤5):=by
 have e:aw (·.id) ct 0 p.pure.ae=aw (fun x:au=>x.id) (fun x:au=>ct x.tocj) 0 p.ae:=jB _ _ _ _ _
 have e2:p.pure.ae.length=p.ae.length:=by simp [af.pure]
 rw [e,e2]
 unfold oS
 rw [Bool.and_eq_true,decide_eq_true_iff]
 constructor
 ·intro h; exact ⟨h.1,by omega⟩
 ·intro h; exact ⟨h.1,by omega⟩
def vd (p:af):Bool:=aw (fun x:aM=>x.id) (fun x:aM=>dj x.todP) 0 p.ai && decide ((p.ai.length:Int)≤max 5 0)
theorem ur (p:af):vd p=true↔(aw (·.id) dj 0 p.pure.ai=true∧p.pure.ai.length≤5):=by
 have e:aw (·.id) dj 0 p.pure.ai=aw (fun x:aM=>x.id) (fun x:aM=>dj x.todP) 0 p.ai:=jB _ _ _ _ _
 have e2:p.pure.ai.length=p.ai.length:=by simp [af.pure]
 rw [e,e2]
 unfold vd
 rw [Bool.and_eq_true,decide_eq_true_iff]
 constructor
 ·intro h; exact ⟨h.1,by omega⟩
 ·intro h; exact ⟨h.1,by omega⟩
theorem mem_keys {α:Type} {num:α→Int} {l:List (α × Nat)} (k:Int):(cy (keysOf num l) k).isSome=decide (k∈(l.map (·.1)).map num):=by
 rw [rF]
 simp only [keysOf,List.map_map,Function.comp_def]
theorem AK {p:af} {ls:List (bD × Nat)} {le:List (aB × Nat)} {lb:List (az × Nat)} {lf:List (au × Nat)} (hs:ls.map (·.1)=p.aj) (he:le.map (·.1)=p.events) (hb:lb.map (·.1)=p.ag) (hf:lf.map (·.1)=p.ae) (x:ao) (hx:cH x.toaD=true):
  ft (keysOf (fun x:bD=>x.id) ls) (keysOf (fun x:aB=>x.id) le) (keysOf (fun x:az=>x.id) lb) (keysOf (fun x:au=>x.id) lf) x=dH p.pure x.toaD:=by
 have hst:0≤x.state∧x.state≤7:=by
  have h1:bO x.toaD=true:=by
   simp only [cH,Bool.and_eq_true] at hx
   exact hx.2
  have h2:cv x.state 0 7=true:=by
   cases h:cv x.state 0 7 with
   | true=>rfl
   | false=>rw [xG h] at h1; cases h1
  exact bz.1 h2
 have eF:p.pure.ae.map (·.id)=p.ae.map (·.id):=by simp [af.pure,Function.comp_def]
 unfold ft dH hasB
 simp only [mem_keys,hs,he,hb,hf,eF]
 have e1:p.pure.aj=p.aj:=rfl
 have e2:p.pure.events=p.events:=rfl
 have e3:p.pure.ag=p.ag:=rfl
 rw [e1,e2,e3]
 by_cases h3:x.state=3
 ·simp [h3]
 by_cases h4:x.state=4
 ·simp [h4]
 by_cases h5:x.state=5
 ·simp [h5]
 by_cases h6:x.state=6
 ·simp [h6]
 by_cases h7:x.state=7
 ·simp [h7]
 have h8: ¬ 3≤x.state:=by omega
 simp [h3,h4,h5,h6,h7,h8]
theorem Gc {p:af} {lp:List (ao × Nat)} {ls:List (bD × Nat)} {le:List (aB × Nat)} {lb:List (az × Nat)} {lf:List (au × Nat)} (hp:lp.map (·.1)=p.procs) (hs:ls.map (·.1)=p.aj) (he:le.map (·.1)=p.events) (hb:lb.map (·.1)=p.ag) (hf:lf.map (·.1)=p.ae) (hok:sy p=true):
  (lp.all fun q=>ft (keysOf (fun x:bD=>x.id) ls) (keysOf (fun x:aB=>x.id) le) (keysOf (fun x:az=>x.id) lb) (keysOf (fun x:au=>x.id) lf) q.1)=p.pure.procs.all (dH p.pure):=by
 have e:p.pure.procs=lp.map fun q=>q.1.toaD:=by
  show p.procs.map (·.toaD)=_
  rw [← hp,List.map_map]
  rfl
 rw [e,List.all_map]
 have hall: ∀ q∈lp,cH q.1.toaD=true:=fun q hq=>by
  have h1:=((p7 p).1 hok).1
  refine (cJ h1 q.1.toaD ?_).2
  rw [e]
  exact List.mem_map.2 ⟨q,hq,rfl⟩
 rw [Bool.eq_iff_iff,List.all_eq_true,List.all_eq_true]
 constructor
 ·intro h q hq
  have:=h q hq
  rw [AK hs he hb hf q.1 (hall q hq)] at this
  exact this
 ·intro h q hq
  rw [AK hs he hb hf q.1 (hall q hq)]
  exact h q hq
theorem Ao {p:af} {lp:List (ao × Nat)} {next:Int} (hp:lp.map (·.1)=p.procs):kb next lp↔nK next p.pure.procs:=by
 have e:p.pure.procs=lp.map fun q=>q.1.toaD:=by
  show p.procs.map (·.toaD)=_
  rw [← hp,List.map_map]
  rfl
 rw [e]
 rfl
theorem GJ {p:af} (h1:sy p=true) (h2:Bj p=true) (h3:qP p=true) (h4:rK p=true) (h5:oS p=true) (h6:vd p=true) (h7:1≤p.id∧p.id≤6) (h8:1≤p.next∧p.next≤1000000000) (h9:nK p.next p.pure.procs) (h10:p.pure.procs.all (dH p.pure)=true):aQ p.pure:=by
 rw [p7] at h1
 rw [xe] at h2
 rw [tj] at h3
 rw [tc] at h4
 rw [rj] at h5
 rw [ur] at h6
 exact (i5 _).1 ⟨bz.2 h7,bz.2 h8,h1.2,h2.2,h3.2,h4.2,h5.2,h6.2,h1.1,h2.1,h3.1,h4.1,h5.1,h6.1,h9,h10⟩
theorem zZ {p:af} (h:sy p=false): ¬ aQ p.pure:=fun hr=>by
 have h0:=(i5 _).2 hr
 have:=(p7 p).2 ⟨h0.procs,h0.dl⟩
 rw [h] at this
 cases this
theorem Cu {p:af} (h:Bj p=false): ¬ aQ p.pure:=fun hr=>by
 have h0:=(i5 _).2 hr
 have:=(xe p).2 ⟨h0.aj,h0.fx⟩
 rw [h] at this
 cases this
theorem y8 {p:af} (h:qP p=false): ¬ aQ p.pure:=fun hr=>by
 have h0:=(i5 _).2 hr
 have:=(tj p).2 ⟨h0.events,h0.cE⟩
 rw [h] at this
 cases this
theorem yr {p:af} (h:rK p=false): ¬ aQ p.pure:=fun hr=>by
 have h0:=(i5 _).2 hr
 have:=(tc p).2 ⟨h0.ag,h0.cC⟩
 rw [h] at this
 cases this
theorem wH {p:af} (h:oS p=false): ¬ aQ p.pure:=fun hr=>by
 have h0:=(i5 _).2 hr
 have:=(rj p).2 ⟨h0.ae,h0.cb⟩
 rw [h] at this
 cases this
theorem AL {p:af} (h:vd p=false): ¬ aQ p.pure:=fun hr=>by
 have h0:=(i5 _).2 hr
 have:=(ur p).2 ⟨h0.ai,h0.dJ⟩
 rw [h] at this
 cases this
theorem xX {p:af} (h: ¬ (1≤p.id∧p.id≤6)): ¬ aQ p.pure:=fun hr=>h (bz.1 hr.id)
theorem sZ {p:af} (h: ¬ (1≤p.next∧p.next≤1000000000)): ¬ aQ p.pure:=fun hr=>h (bz.1 hr.next)
theorem yD {p:af} (h: ¬ nK p.next p.pure.procs): ¬ aQ p.pure:=fun hr=>h ((i5 _).2 hr).turns
theorem zf {p:af} (h:p.pure.procs.all (dH p.pure)=false): ¬ aQ p.pure:=fun hr=>by
 have:=((i5 _).2 hr).waits
 rw [h] at this
 cases this
def Hh (w:World) (p:aE) (e:Ending) (w':World):Prop:=
 Below w.heap.size w w'∧((¬ aQ p∧e= .returned (.tuple #[.pointer none,.bool false]))∨(aQ p∧ ∃ o S,e= .returned (.tuple #[.pointer (some ⟨o,0,none⟩),.bool true])∧cI w' w.heap.size o S∧S.pure=p))
end Go.Proofs.YtkbcplnlehdjfaaGreat
