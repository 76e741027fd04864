/- What the proof leans on, part 5. -/
import Derived.Test.YtnlbiglljiopmaaGreatDoorOwnT4
set_option linter.unusedVariables false
set_option maxRecDepth 100000
set_option maxHeartbeats 8000000
open Go.Proofs.Tryz
open Go renaming World->w_,Value->v_,Calls->k_,Addr->d_,TypeId->T_
open Go.Ending renaming returned->r_
open Go.IntKind renaming i64->j_
open Go.Obj renaming cells->c_
open Go.RowKit renaming Below->B_
open Go.Value renaming int->i_,slice->s_,bool->b_,string->t_,agg->a_,pointer->p_,tuple->u_
open Option renaming some->o_,none->n_
open Array renaming getElem?_eq_some_iff->J2,getElem?_toList->QJ
open Bool renaming and_eq_true->J7
open Function renaming comp_def->Ls
open Go renaming bodyPost_ret->KT,cell_of_row->K5,frozen_of_row->Ko,heap_alloc2_new->Kq,heap_alloc_new->Kj,run_make->aep,size_madeCells->aer,wp_at_succ->Kd,wp_at_zero->Kc
open Go.Proofs.Tryz renaming prog->J3
open Go.RowKit.Below renaming heap_setCell->K6,refl->Kp
open Go.Value.slice renaming injEq->LD
open List renaming all_eq_true->PZ,getElem?_eq_getElem->Kz,getElem?_map->Kk,getElem?_take->QW,length_append->Lf,length_map->KG,length_take->Lk,map_append->Kl,map_map->Lv,mem_append->Kg,mem_cons->Kt,mem_cons_of_mem->LB,mem_filterMap->Lq,mem_map->Lr,mem_of_getElem?->KA,nodup_append->Kf,nodup_cons->Lp,not_mem_nil->Ku,take_length->LQ,take_of_length_le->KF
open Nat renaming add_assoc->adV,le_refl->Ki,lt_of_lt_of_le->Kn,min_eq_left->ac3,mul_comm->adM,mul_le_mul->acA,mul_one->aes,succ_mul->Lh,zero_add->Li,zero_le->Ky
open Option renaming map_eq_some_iff->Kw
open Option.some renaming injEq->LF
open Prod.mk renaming injEq->Kx

namespace Go.Proofs.YtnlbiglljiopmaaGreatDoor
section
open Go.RowKit Go.Maps
structure aZ where
 q:ol
 lp:List (ao × Nat)
 ls:List (bD × Nat)
 le:List (aB × Nat)
 lb:List (az × Nat)
 lf:List (au × Nat)
 lq:List (aM × Nat)
def aZ.pure (S:aZ):aE:=⟨S.q.id,S.q.next,S.lp.map (·.1.toaD),S.ls.map (·.1),S.le.map (·.1),S.lb.map (·.1),S.lf.map (·.1.toci),S.lq.map (·.1.todS)⟩
def aZ.boxes (S:aZ):List Nat:=(S.q.bp :: S.lp.map (·.2)) ++ ((S.q.bs :: S.ls.map (·.2)) ++ ((S.q.be :: S.le.map (·.2)) ++ ((S.q.bb :: S.lb.map (·.2)) ++ ((S.q.bf :: S.lf.map (·.2)) ++ (S.q.bq :: S.lq.map (·.2))))))
def aZ.kids (S:aZ):List Nat:=YtnlbiglljiopmaaGreatDoor.kids aR S.lp ++ (YtnlbiglljiopmaaGreatDoor.kids aC S.lf ++ YtnlbiglljiopmaaGreatDoor.kids aU S.lq)
structure cJ (w:w_) (base o:Nat) (S:aZ):Prop where
 opn:fa w o S.q
 L8:Shelf aX (fun x:ao=>x.id) 100 w base S.q.bp S.lp
 aj:Shelf eH (fun x:bD=>x.id) 105 w base S.q.bs S.ls
 L9:Shelf cG (fun x:aB=>x.id) 109 w base S.q.be S.le
 ag:Shelf cI (fun x:az=>x.id) 112 w base S.q.bb S.lb
 ae:Shelf bQ (fun x:au=>x.id) 114 w base S.q.bf S.lf
 ai:Shelf cW (fun x:aM=>x.id) 116 w base S.q.bq S.lq
 eI: ∀ p∈S.lp,aR.cO w base p.1
 eE: ∀ p∈S.lf,aC.cO w base p.1
 eR: ∀ p∈S.lq,aU.cO w base p.1
 nodup:(o :: (S.boxes ++ S.kids)).Nodup
 low:base≤o
section
variable {α:Type} {vs:α→Array v_} {num:α→Int} {T:T_}
def ip (vs:α→Array v_) (num:α→Int) (T:T_) (W:w_) (lo hi:Nat) (Me:Int) (ok:Bool) (list:List α) (m:Int) (mb:Option Nat):Prop:=
 ok=true→m=Me∧ ∃ b l,mb=o_ b∧l.map (·.1)=list∧Shelf vs num T W lo b l∧ ∀ g∈b :: l.map (·.2),g < hi
theorem ip.below {W W':w_} {lo hi:Nat} {Me:Int} {ok:Bool} {list:List α} {m:Int} {mb:Option Nat} (h:ip vs num T W lo hi Me ok list m mb) (hb:B_ W.heap.size W W'):ip vs num T W' lo hi Me ok list m mb:=fun e=>by
 obtain ⟨h1,b,l,h2,h3,h4,h5⟩:=h e;exact ⟨h1,b,l,h2,h3,h4.below hb,h5⟩
theorem jN.res {w w':w_} {Me:Int} {ok:Bool} {list:List α} {e:Ending} (h:jN vs num T w Me ok list e w'):
  ∃ (okv:Bool) (m:Int) (mb:Option Nat),e=r_ (u_ #[a_ #[i_ j_ m,.map mb],b_ okv])∧okv=ok∧B_ w.heap.size w w'∧ip vs num T w' w.heap.size w'.heap.size Me okv list m mb:=by
 obtain ⟨hb,⟨h1,h2⟩ | ⟨h1,b,l,h2,h3,h4⟩⟩:=h
 ·exact ⟨false,0,n_,h2,h1.symm,hb,fun e=>by cases e⟩
 ·exact ⟨true,Me,o_ b,h2,h1.symm,hb,fun _=>⟨rfl,b,l,rfl,h3,h4,h4.lt⟩⟩
end
structure xW (w wr:w_) (p:af) (l:List (Nat × Int × Option Nat)):Prop where
 cd:B_ w.heap.size w wr
 part:av wr w.heap.size p
 shs: ∀ q∈l,∃ t,wr.heap[q.1]? =o_ (c_ #[i_ j_ q.2.1,.map q.2.2] t)
theorem xW.start (w:w_) (p:af):xW w (w.alloc (c_ p.cells 38)) p [] :=
 ⟨(Kp _ _).alloc (Ki _) _,Kj _ _,fun q hq=>absurd hq (by simp)⟩
theorem xW.below {w wr w':w_} {p:af} {l:List (Nat × Int × Option Nat)} (h:xW w wr p l) (hb:B_ wr.heap.size wr w'):xW w w' p l:=
 ⟨h.cd.trans (hb.mono h.cd.size),h.part.below hb,fun q hq=>by
  obtain ⟨t,h1⟩:=h.shs q hq;exact ⟨t,(hb.block _ (J2.1 h1).1).trans h1⟩⟩
theorem xW.push {w wr w1:w_} {p:af} {m:Int} {mb:Option Nat} {l:List (Nat × Int × Option Nat)} (h:xW w wr p l) (hb:B_ wr.heap.size wr w1) (t:T_):
  xW w (w1.alloc (c_ #[i_ j_ m,.map mb] t)) p ((w1.heap.size,m,mb) :: l):=by
 have h1:=h.below hb;have h2:B_ w1.heap.size w1 (w1.alloc (c_ #[i_ j_ m,.map mb] t)):=(Kp _ _).alloc (Ki _) _;have h3:=h1.below h2;refine ⟨h3.cd,h3.part,fun q hq=> ?_⟩;rcases Kt.1 hq with rfl | hq
 ·exact ⟨t,Kj _ _⟩
 ·exact h3.shs q hq
theorem xW.c0 {w wr:w_} {p:af} {l:List (Nat × Int × Option Nat)} (h:xW w wr p l) {B:Nat} {m:Int} {mb:Option Nat} (hq:(B,m,mb)∈l):wr.cell? ⟨B,0,n_⟩=o_ (i_ j_ m):=by
 obtain ⟨t,h1⟩:=h.shs _ hq;simp only at h1;simp [World.cell?,h1]
theorem xW.c1 {w wr:w_} {p:af} {l:List (Nat × Int × Option Nat)} (h:xW w wr p l) {B:Nat} {m:Int} {mb:Option Nat} (hq:(B,m,mb)∈l):wr.cell? ⟨B,1,n_⟩=o_ (.map mb):=by
 obtain ⟨t,h1⟩:=h.shs _ hq;simp only at h1;simp [World.cell?,h1]
structure af.Good (w:w_) (p:af):Prop where
 at':af.At w p
 short:p.dX
 L8: ∀ x∈p.L8,x.dX∧x.Wf
 aj: ∀ x∈p.aj,(Lit.int j_ x.id).wf=true
 L9: ∀ x∈p.L9,(Lit.int j_ x.id).wf=true
 ag: ∀ x∈p.ag,(Lit.int j_ x.id).wf=true∧x.text.size≤1048576
 ae: ∀ x∈p.ae,(Lit.int j_ x.id).wf=true∧x.Ma.length≤1048576∧ ∀ s∈x.Ma,s.size≤1048576
 ai: ∀ x∈p.ai,(Lit.int j_ x.id).wf=true∧x.Ma.length≤1048576∧ ∀ s∈x.Ma,s.size≤1048576
 D9: ∀ x∈p.L8,∀ g,aR.bt x=o_ g→g < w.heap.size
 xO: ∀ x∈p.ae,∀ g,aC.bt x=o_ g→g < w.heap.size
 lowPort: ∀ x∈p.ai,∀ g,aU.bt x=o_ g→g < w.heap.size
theorem af.Good.below {w w':w_} {p:af} (h:p.Good w) (hb:B_ w.heap.size w w'):p.Good w':=⟨h.at'.below hb,h.short,h.L8,h.aj,h.L9,h.ag,h.ae,h.ai,fun x hx g hk=>Kn (h.D9 x hx g hk) hb.size,fun x hx g hk=>Kn (h.xO x hx g hk) hb.size,fun x hx g hk=>Kn (h.lowPort x hx g hk) hb.size⟩
theorem af.Good.DH {w:w_} {p:af} (h:p.Good w): ∀ x∈p.L8,eL w x:=fun x hx=>⟨(h.L8 x hx).1,h.at'.1.2 x hx (x.aY,fk.flat x.prog) ZdQ⟩
theorem af.Good.fitSem {w:w_} {p:af} (_:p.Good w): ∀ x∈p.aj,kU w x:=fun _ _=>trivial
theorem af.Good.Gq {w:w_} {p:af} (_:p.Good w): ∀ x∈p.L9,ix w x:=fun _ _=>trivial
theorem af.Good.FU {w:w_} {p:af} (h:p.Good w): ∀ x∈p.ag,gX w x:=fun x hx=>(h.ag x hx).2
theorem af.Good.xl {w:w_} {p:af} (h:p.Good w): ∀ x∈p.ae,fM w x:=fun x hx=>⟨(h.ae x hx).2.1,(h.ae x hx).2.2,h.at'.2.2.2.2.1.2 x hx (x.ak,bT.flat x.Ma) ZdP⟩
theorem af.Good.D4 {w:w_} {p:af} (h:p.Good w): ∀ x∈p.ai,jf w x:=fun x hx=>⟨(h.ai x hx).2.1,(h.ai x hx).2.2,h.at'.2.2.2.2.2.2 x hx (x.ak,bT.flat x.Ma) ZdR⟩
theorem af.Good.wfProc {w:w_} {p:af} (h:p.Good w): ∀ x∈p.L8,(Lit.int j_ x.id).wf=true:=fun x hx=>(h.L8 x hx).2.id
theorem af.Good.wfSem {w:w_} {p:af} (h:p.Good w): ∀ x∈p.aj,(Lit.int j_ x.id).wf=true:=h.aj
theorem af.Good.IA {w:w_} {p:af} (h:p.Good w): ∀ x∈p.L9,(Lit.int j_ x.id).wf=true:=h.L9
theorem af.Good.I9 {w:w_} {p:af} (h:p.Good w): ∀ x∈p.ag,(Lit.int j_ x.id).wf=true:=fun x hx=>(h.ag x hx).1
theorem af.Good.Gr {w:w_} {p:af} (h:p.Good w): ∀ x∈p.ae,(Lit.int j_ x.id).wf=true:=fun x hx=>(h.ae x hx).1
theorem af.Good.wfPort {w:w_} {p:af} (h:p.Good w): ∀ x∈p.ai,(Lit.int j_ x.id).wf=true:=fun x hx=>(h.ai x hx).1
/-! ### What each test says of the partition -/
def sl (p:af):Bool:=aw (fun x:ao=>x.id) (fun x:ao=>cH x.toaD) 0 p.L8 && decide ((p.L8.length:Int)≤max 6 0)
theorem qt (p:af):sl p=true↔(aw (·.id) cH 0 p.pure.L8=true∧p.pure.L8.length≤6):=by
 have e:aw (·.id) cH 0 p.pure.L8=aw (fun x:ao=>x.id) (fun x:ao=>cH x.toaD) 0 p.L8:=jL _ _ _ _ _;have e2:p.pure.L8.length=p.L8.length:=by simp [af.pure]
 rw [e,e2];unfold sl;exact BC
def BQ (p:af):Bool:=aw (fun x:bD=>x.id) (fun x:bD=>gw x) 0 p.aj && decide ((p.aj.length:Int)≤max 5 0)
theorem xt (p:af):BQ p=true↔(aw (·.id) gw 0 p.pure.aj=true∧p.pure.aj.length≤5):=by
 have e:p.pure.aj=p.aj:=rfl;rw [e];unfold BQ;exact BC
def qS (p:af):Bool:=aw (fun x:aB=>x.id) (fun x:aB=>ey x) 0 p.L9 && decide ((p.L9.length:Int)≤max 5 0)
theorem sJ (p:af):qS p=true↔(aw (·.id) ey 0 p.pure.L9=true∧p.pure.L9.length≤5):=by
 have e:p.pure.L9=p.L9:=rfl;rw [e];unfold qS;exact BC
def rK (p:af):Bool:=aw (fun x:az=>x.id) (fun x:az=>cU x) 0 p.ag && decide ((p.ag.length:Int)≤max 5 0)
theorem tn (p:af):rK p=true↔(aw (·.id) cU 0 p.pure.ag=true∧p.pure.ag.length≤5):=by
 have e:p.pure.ag=p.ag:=rfl;rw [e];unfold rK;exact BC
def oH (p:af):Bool:=aw (fun x:au=>x.id) (fun x:au=>ct x.toci) 0 p.ae && decide ((p.ae.length:Int)≤max 5 0)
theorem rA (p:af):oH p=true↔(aw (·.id) ct 0 p.pure.ae=true∧p.pure.ae.length≤5):=by
 have e:aw (·.id) ct 0 p.pure.ae=aw (fun x:au=>x.id) (fun x:au=>ct x.toci) 0 p.ae:=jL _ _ _ _ _;have e2:p.pure.ae.length=p.ae.length:=by simp [af.pure]
 rw [e,e2];unfold oH;exact BC
def vI (p:af):Bool:=aw (fun x:aM=>x.id) (fun x:aM=>dj x.todS) 0 p.ai && decide ((p.ai.length:Int)≤max 5 0)
theorem uv (p:af):vI p=true↔(aw (·.id) dj 0 p.pure.ai=true∧p.pure.ai.length≤5):=by
 have e:aw (·.id) dj 0 p.pure.ai=aw (fun x:aM=>x.id) (fun x:aM=>dj x.todS) 0 p.ai:=jL _ _ _ _ _;have e2:p.pure.ai.length=p.ai.length:=by simp [af.pure]
 rw [e,e2];unfold vI;exact BC
theorem mem_keys {α:Type} {num:α→Int} {l:List (α × Nat)} (k:Int):(cz (RW num l) k).isSome=decide (k∈(l.map (·.1)).map num):=by
 rw [ry];simp only [RW,Lv,Ls]
theorem BV {p:af} {ls:List (bD × Nat)} {le:List (aB × Nat)} {lb:List (az × Nat)} {lf:List (au × Nat)} (hs:ls.map (·.1)=p.aj) (he:le.map (·.1)=p.L9) (hb:lb.map (·.1)=p.ag) (hf:lf.map (·.1)=p.ae) (x:ao) (hx:cH x.toaD=true):
  fw (RW (fun x:bD=>x.id) ls) (RW (fun x:aB=>x.id) le) (RW (fun x:az=>x.id) lb) (RW (fun x:au=>x.id) lf) x=dG p.pure x.toaD:=by
 have hst:0≤x.Md∧x.Md≤7:=by
  have h1:bO x.toaD=true:=by
   simp only [cH,J7] at hx;exact hx.2
  have h2:cv x.Md 0 7=true:=by
   cases h:cv x.Md 0 7 with
   | true=>rfl
   | false=>rw [xQ h] at h1; cases h1
  exact bz.1 h2
 have eF:p.pure.ae.map (·.id)=p.ae.map (·.id):=by simp [af.pure,Ls]
 unfold fw dG hasB;simp only [mem_keys,hs,he,hb,hf,eF];have e1:p.pure.aj=p.aj:=rfl;have e2:p.pure.L9=p.L9:=rfl;have e3:p.pure.ag=p.ag:=rfl;rw [e1,e2,e3];by_cases h3:x.Md=3
 ·simp [h3]
 by_cases h4:x.Md=4
 ·simp [h4]
 by_cases h5:x.Md=5
 ·simp [h5]
 by_cases h6:x.Md=6
 ·simp [h6]
 by_cases h7:x.Md=7
 ·simp [h7]
 have h8: ¬ 3≤x.Md:=by omega
 simp [h3,h4,h5,h6,h7,h8]
theorem FV {p:af} {lp:List (ao × Nat)} {ls:List (bD × Nat)} {le:List (aB × Nat)} {lb:List (az × Nat)} {lf:List (au × Nat)} (hp:lp.map (·.1)=p.L8) (hs:ls.map (·.1)=p.aj) (he:le.map (·.1)=p.L9) (hb:lb.map (·.1)=p.ag) (hf:lf.map (·.1)=p.ae) (hok:sl p=true):
  (lp.all fun q=>fw (RW (fun x:bD=>x.id) ls) (RW (fun x:aB=>x.id) le) (RW (fun x:az=>x.id) lb) (RW (fun x:au=>x.id) lf) q.1)=p.pure.L8.all (dG p.pure):=by
 have e:p.pure.L8=lp.map fun q=>q.1.toaD:=by
  show p.L8.map (·.toaD)=_
  rw [← hp,Lv];rfl
 rw [e,List.all_map];have hall: ∀ q∈lp,cH q.1.toaD=true:=fun q hq=>by
  have h1:=((qt p).1 hok).1;refine (cK h1 q.1.toaD ?_).2;rw [e];exact Lr.2 ⟨q,hq,rfl⟩
 rw [Bool.eq_iff_iff,PZ,PZ];constructor
 ·intro h q hq
  have:=h q hq
  rw [BV hs he hb hf q.1 (hall q hq)] at this;exact this
 ·intro h q hq
  rw [BV hs he hb hf q.1 (hall q hq)];exact h q hq
theorem B6 {p:af} {lp:List (ao × Nat)} {next:Int} (hp:lp.map (·.1)=p.L8):km next lp↔nQ next p.pure.L8:=by
 have e:p.pure.L8=lp.map fun q=>q.1.toaD:=by
  show p.L8.map (·.toaD)=_
  rw [← hp,Lv];rfl
 rw [e];rfl
theorem FI {p:af} (h1:sl p=true) (h2:BQ p=true) (h3:qS p=true) (h4:rK p=true) (h5:oH p=true) (h6:vI p=true) (h7:1≤p.id∧p.id≤6) (h8:1≤p.next∧p.next≤1000000000) (h9:nQ p.next p.pure.L8) (h10:p.pure.L8.all (dG p.pure)=true):aQ p.pure:=by
 rw [qt] at h1;rw [xt] at h2;rw [sJ] at h3;rw [tn] at h4;rw [rA] at h5;rw [uv] at h6;exact (i5 _).1 ⟨bz.2 h7,bz.2 h8,h1.2,h2.2,h3.2,h4.2,h5.2,h6.2,h1.1,h2.1,h3.1,h4.1,h5.1,h6.1,h9,h10⟩
theorem Ay {p:af} (h:sl p=false): ¬ aQ p.pure:=fun hr=>by
 have h0:=(i5 _).2 hr
 have:=(qt p).2 ⟨h0.L8,h0.dl⟩
 rw [h] at this;cases this
theorem C1 {p:af} (h:BQ p=false): ¬ aQ p.pure:=fun hr=>by
 have h0:=(i5 _).2 hr
 have:=(xt p).2 ⟨h0.aj,h0.fx⟩
 rw [h] at this;cases this
theorem yL {p:af} (h:qS p=false): ¬ aQ p.pure:=fun hr=>by
 have h0:=(i5 _).2 hr
 have:=(sJ p).2 ⟨h0.L9,h0.cD⟩
 rw [h] at this;cases this
theorem zr {p:af} (h:rK p=false): ¬ aQ p.pure:=fun hr=>by
 have h0:=(i5 _).2 hr
 have:=(tn p).2 ⟨h0.ag,h0.cC⟩
 rw [h] at this;cases this
theorem wD {p:af} (h:oH p=false): ¬ aQ p.pure:=fun hr=>by
 have h0:=(i5 _).2 hr
 have:=(rA p).2 ⟨h0.ae,h0.cb⟩
 rw [h] at this;cases this
theorem Ae {p:af} (h:vI p=false): ¬ aQ p.pure:=fun hr=>by
 have h0:=(i5 _).2 hr
 have:=(uv p).2 ⟨h0.ai,h0.dH⟩
 rw [h] at this;cases this
theorem xx {p:af} (h: ¬ (1≤p.id∧p.id≤6)): ¬ aQ p.pure:=fun hr=>h (bz.1 hr.id)
theorem tf {p:af} (h: ¬ (1≤p.next∧p.next≤1000000000)): ¬ aQ p.pure:=fun hr=>h (bz.1 hr.next)
theorem yV {p:af} (h: ¬ nQ p.next p.pure.L8): ¬ aQ p.pure:=fun hr=>h ((i5 _).2 hr).turns
theorem zA {p:af} (h:p.pure.L8.all (dG p.pure)=false): ¬ aQ p.pure:=fun hr=>by
 have:=((i5 _).2 hr).waits
 rw [h] at this;cases this
def Hp (w:w_) (p:aE) (e:Ending) (w':w_):Prop:=
 B_ w.heap.size w w'∧((¬ aQ p∧e=r_ (u_ #[p_ n_,b_ false]))∨(aQ p∧ ∃ o S,e=r_ (u_ #[p_ (o_ ⟨o,0,n_⟩),b_ true])∧cJ w' w.heap.size o S∧S.pure=p))
end
section
open Go.RowKit
def iD (cur:Array v_) (off:Nat):List v_→Array v_
 | [] =>cur
 | v :: r=>iD (cur.setIfInBounds off v) (off+1) r
theorem kM: ∀ (vs:List v_) (cur:Array v_) (off:Nat),(iD cur off vs).size=cur.size
 | [],_,_=>rfl
 | v :: r,cur,off=>by rw [iD,kM r]; simp
theorem lL: ∀ (vs:List v_) (cur:Array v_) (off j:Nat),j < off→(iD cur off vs)[j]? =cur[j]?
 | [],_,_,_,_=>rfl
 | v :: r,cur,off,j,h=>by
  rw [iD,lL r _ _ _ (by omega),Array.getElem?_setIfInBounds_ne (by omega)]
theorem sv: ∀ (vs:List v_) (cur:Array v_) (off j:Nat) (v:v_),off+vs.length≤cur.size→vs[j]? =o_ v→(iD cur off vs)[off+j]? =o_ v
 | [],_,_,_,_,_,h=>by simp at h
 | u :: r,cur,off,j,v,hl,h=>by
  simp only [List.length_cons] at hl;cases j with
  | zero=>
   simp only [List.getElem?_cons_zero,LF] at h;subst h;rw [iD,lL r _ _ _ (by omega)];simp [show off < cur.size by omega]
  | succ j=>
   have h':r[j]? =o_ v:=by simpa using h
   have:=sv r (cur.setIfInBounds off u) (off+1) j v ZcS h'
   rw [iD,show off+(j+1)=off+1+j by omega];exact this
theorem sN {vs:List v_} {cur:Array v_} {off:Nat} (hl:off+vs.length≤cur.size):(iD cur off vs).toList.take (off+vs.length)=cur.toList.take off ++ vs:=by
 apply List.ext_getElem?;intro j;rw [QW];by_cases h1:j < off
 ·rw [if_pos (by omega),List.getElem?_append_left ZcS,QW,if_pos h1,QJ,QJ,lL _ _ _ _ h1]
 ·by_cases h2:j < off+vs.length
  ·rw [if_pos h2,List.getElem?_append_right ZcS]
   have e:(cur.toList.take off).length=off:=by simp; omega
   rw [e];obtain ⟨d,rfl⟩: ∃ d,j=off+d:=⟨j - off,by omega⟩
   rw [show off+d - off=d by omega,QJ,Kz (by omega)];exact sv vs cur off d _ hl (Kz (by omega))
  ·rw [if_neg h2,List.getElem?_eq_none ZcS]
def bn (w:w_) (g off:Nat):List v_→w_
 | [] =>w
 | v :: r=>bn (w.setCell ⟨g,off,n_⟩ v) g (off+1) r
theorem jc: ∀ (vs:List v_) {w:w_} {g off:Nat} {cur:Array v_} {T:T_},w.heap[g]? =o_ (c_ cur T)→(bn w g off vs).heap[g]? =o_ (c_ (iD cur off vs) T)
 | [],_,_,_,_,_,h=>h
 | v :: r,w,g,off,cur,T,h=>jc r (heap_setCell_same w g off cur T v h)
theorem de: ∀ (vs:List v_) {w:w_} {g off k:Nat},¬ k=g→(bn w g off vs).heap[k]? =w.heap[k]?
 | [],_,_,_,_,_=>rfl
 | v :: r,w,_,_,k,h=>(de r h).trans (K6 w _ v k h)
theorem fH: ∀ (vs:List v_) {w:w_} {g off:Nat},(bn w g off vs).heap.size=w.heap.size
 | [],_,_,_=>rfl
 | v :: r,w,g,off=>by rw [bn,fH r]; simp [World.setCell]
theorem eU: ∀ (vs:List v_) {B:Nat} {w0 w:w_} {g off:Nat},B≤g→B_ B w0 w→B_ B w0 (bn w g off vs)
 | [],_,_,_,_,_,_,h=>h
 | v :: r,_,_,_,_,_,hB,h=>eU r hB (h.setCell hB v)
theorem iL: ∀ (vs:List v_) (w:w_) (g off:Nat),w.setCells g off vs=bn w g off vs
 | [],_,_,_=>rfl
 | v :: r,w,g,off=>iL r (w.setCell ⟨g,off,n_⟩ v) g (off+1)
theorem Bs {vs:List v_} {cur:Array v_} (h:cur.size=vs.length):iD cur 0 vs=vs.toArray:=by
 have h1:=sN (off:=0) (vs:=vs) (cur:=cur) (by omega);simp only [Li,List.take_zero,List.nil_append] at h1;have h2:(iD cur 0 vs).toList.length=vs.length:=by simp [kM,h]
 rw [KF (by omega)] at h1;exact (Array.toArray_toList (xs:=iD cur 0 vs)).symm.trans (congrArg List.toArray h1)
theorem ri {w:w_} {g:Nat} {cur:Array v_} {T:T_} {vs:List v_} (h:w.heap[g]? =o_ (c_ cur T)) (hs:cur.size=vs.length):(bn w g 0 vs).heap[g]? =o_ (c_ vs.toArray T):=by
 have:=jc (off:=0) vs h
 rwa [Bs hs] at this
theorem G7 {w:w_} {g:Nat} {cur:Array v_} {T:T_} {n:Nat} (h:w.heap[g]? =o_ (c_ cur T)) (hs:n≤cur.size):w.there g 0 n:=fun j hj=>by
 simp only [Li];refine ⟨?_,Ko _ _ _ _ _ h⟩;rw [K5 _ _ _ _ _ _ h,Array.getElem?_eq_getElem (by omega)];rfl
theorem tE (w:w_) (o1 o2 o3:Obj):(((w.alloc o1).alloc o2).alloc o3).heap[w.heap.size+1+1]? =o_ o3:=by
 have:=Kj ((w.alloc o1).alloc o2) o3
 simpa using this
theorem dR (w:w_) (o1 o2 o3:Obj):(((w.alloc o1).alloc o2).alloc o3).heap[w.heap.size]? =o_ o1∧(((w.alloc o1).alloc o2).alloc o3).heap[w.heap.size+1]? =o_ o2∧(((w.alloc o1).alloc o2).alloc o3).heap[w.heap.size+1+1]? =o_ o3∧(((w.alloc o1).alloc o2).alloc o3).heap.size=w.heap.size+1+1+1:=
 ⟨by rw [PU ZcS,PU (by simp),Kj],by rw [PU (by simp)]; exact Kq _ _ _,tE _ _ _ _,by simp⟩
theorem fg (w:w_) (o1 o2 o3:Obj):B_ w.heap.size w (((w.alloc o1).alloc o2).alloc o3):=(((Kp _ _).alloc (Ki _) _).alloc (by simp) _).alloc ZcS _
theorem cZ (w:w_) (o1 o2:Obj):((w.alloc o1).alloc o2).heap[w.heap.size]? =o_ o1∧((w.alloc o1).alloc o2).heap[w.heap.size+1]? =o_ o2:=⟨(PU (by simp)).trans (Kj _ _),Kq _ _ _⟩
theorem dT (w:w_) (o1 o2:Obj):B_ w.heap.size w ((w.alloc o1).alloc o2):=((Kp _ _).alloc (Ki _) _).alloc (by simp) _
def jZ (w:w_) (left:Int) (c:Nat) (P:Prop) (e:Ending) (w':w_):Prop:= ∃ r:Int,e=r_ (i_ j_ r)∧ -1≤r∧r≤left∧(0≤r→P∧r+c≤left)∧B_ w.heap.size w w'
theorem cT {w w':w_} {left:Int} {c:Nat} {P:Prop} (h:B_ w.heap.size w w') (h0:0≤left):jZ w left c P (r_ (i_ j_ (-1))) w':=⟨-1,rfl,by omega,by omega,fun h=>absurd h (by omega),h⟩
def g9 {α:Type} (c:α→Nat) (l:List α):Nat:=(l.map c).sum
theorem zg {α:Type} {c:α→Nat} {l:List α} {k:Nat} {x:α} (hx:l[k]? =o_ x):g9 c (l.take (k+1))=g9 c (l.take k)+c x:=by
 rw [cj hx];simp [g9]
section
variable {α:Type}
theorem nE {P:α→Prop} {l:List α} {k:Nat} {x:α} (hx:l[k]? =o_ x) (h: ∀ y∈l.take k,P y) (hp:P x): ∀ y∈l.take (k+1),P y:=fun y hy=>by
 rw [cj hx] at hy;rcases Kg.1 hy with hy | hy
 ·exact h y hy
 ·simp only [Kt,Ku,or_false] at hy
  subst hy;exact hp
theorem po {P:α→Prop} {l:List α} {k:Nat} (hk:l.length≤k) (h: ∀ y∈l.take k,P y): ∀ y∈l,P y:=by rwa [KF hk] at h
structure gb (K:Kind α) (T:T_) (w wr:w_) (len:Nat) (I:List α):Prop where
 row: ∃ cur:Array v_,wr.heap[w.heap.size]? =o_ (c_ cur T)∧cur.size=len * K.n∧cur.toList.take (I.length * K.n)=K.flat I
 cd:B_ w.heap.size w wr
variable {K:Kind α} {T:T_} {w wr w':w_} {len:Nat} {I:List α}
theorem gb.start {cs:Array v_} (hs:cs.size=len * K.n):gb K T w (w.alloc (c_ cs T)) len [] :=
 ⟨⟨cs,Kj _ _,hs,by simp [Kind.flat]⟩,(Kp _ _).alloc (Ki _) _⟩
theorem gb.below (h:gb K T w wr len I) (hb:B_ wr.heap.size wr w'):gb K T w w' len I:=by
 obtain ⟨cur,h1,h2⟩:=h.row;exact ⟨⟨cur,(hb.block _ (J2.1 h1).1).trans h1,h2⟩,h.cd.trans (hb.mono h.cd.size)⟩
theorem gb.at (h:gb K T w wr len I):(∃ u:Nat→v_,∀ j,j < len * K.n→wr.cell? ⟨w.heap.size,j,n_⟩=o_ (u j))∧ ∀ j,wr.frozen? ⟨w.heap.size,j,n_⟩=false:=by
 obtain ⟨cur,h1,h2,h3⟩:=h.row;refine ⟨⟨fun j=>cur.getD j undef,fun j hj=> ?_⟩,fun j=>Ko _ _ _ _ _ h1⟩;rw [K5 _ _ _ _ _ _ h1];simp [Array.getD,show j < cur.size by omega]
theorem gb.lt (h:gb K T w wr len I):w.heap.size < wr.heap.size:=by
 obtain ⟨cur,h1,_⟩:=h.row;exact (J2.1 h1).1
theorem gb.more (h:gb K T w wr len I) (hl:I.length < len) (x:α):gb K T w (bn wr w.heap.size (I.length * K.n) (K.vals x)) len (I ++ [x]):=by
 obtain ⟨cur,h1,h2,h3⟩:=h.row;have hle:I.length * K.n+(K.vals x).length≤cur.size:=by
  rw [K.len,h2,← Lh];exact Nat.mul_le_mul_right _ hl
 refine ⟨⟨_,jc _ h1,by rw [kM,h2],?_⟩,eU _ (Ki _) h.cd⟩
 have:=sN hle
 rw [K.len,← Lh] at this;rw [Lf,List.length_singleton];refine this.trans ?_;rw [h3,K.dc,K.GJ]
theorem gb.done (h:gb K T w wr len I) (hl:I.length=len) (hm:len≤maxLen):wr.ownsRow w.heap.size T K.n (s_ (o_ ⟨w.heap.size,0,n_⟩) len len) len (K.flat I):=by
 obtain ⟨cur,h1,h2,h3⟩:=h.row;subst hl;exact ⟨K.dM I,.inr ⟨w.heap.size,I.length,cur,rfl,Ki _,h1,Ki _,hm,h2,h3⟩⟩
end
theorem yP {B:Nat} {w w':w_} (h:B_ B w w') (n:Nat):B_ B w (w'.drewN n):=⟨h.os,h.tape,h.output,h.size,h.block⟩
theorem uH {α β:Type} {f:α→β} {l l':List α} {k:Nat} {x:α} (h:l'.map f=l.map f) (hx:l[k]? =o_ x): ∃ y,l'[k]? =o_ y∧f y=f x:=by
 have h1:(l'.map f)[k]? =(l.map f)[k]? :=by rw [h]
 rw [Kk,Kk,hx] at h1;obtain ⟨y,hy,e⟩:=Kw.1 h1;exact ⟨y,hy,e⟩
structure sd {α:Type} (N:gd α) (K:Kind α) (w w':w_) (len:Nat) (l I:List α):Prop where
 row:w'.ownsRow w.heap.size N.T K.n (s_ (o_ ⟨w.heap.size,0,n_⟩) len len) len (K.flat I)
 alike:I.map (fun x=>N.set x n_ 0)=l.map (fun x=>N.set x n_ 0)
 mine: ∀ x∈I,N.cO w' (w.heap.size+1) x
 nodup:(I.filterMap N.bt).Nodup
 cd:B_ w.heap.size w w'
structure iV {α:Type} (N:gd α) (K:Kind α) (w wr:w_) (l I:List α) (k:Nat):Prop where
 fill:gb K N.T w wr l.length I
 len:I.length=k
 alike:I.map (fun x=>N.set x n_ 0)=(l.take k).map (fun x=>N.set x n_ 0)
 mine: ∀ x∈I,N.cO wr (w.heap.size+1) x
 nodup:(I.filterMap N.bt).Nodup
section
variable {α:Type} {N:gd α} {K:Kind α} {w wr w':w_} {l I:List α} {k:Nat}
theorem iV.start (h:gb K N.T w wr l.length []):iV N K w wr l [] 0:=⟨h,rfl,rfl,(fun x hx=>by cases hx),List.nodup_nil⟩
theorem iV.below (h:iV N K w wr l I k) (hb:B_ wr.heap.size wr w'):iV N K w w' l I k:=
 ⟨h.fill.below hb,h.len,h.alike,fun x hx=>(h.mine x hx).same fun g hg=>hb.block g ((h.mine x hx).lt hg).2,h.nodup⟩
theorem iV.more {x:α} {a:Option d_} {c:Nat} (h:iV N K w w' l I k) (hlt:k < l.length) (hx:l[k]? =o_ x) (hm:N.cO w' (w.heap.size+1) (N.set x a c)) (hk: ∀ g,N.bt (N.set x a c)=o_ g→wr.heap.size≤g) (hr:iV N K w wr l I k):
  iV N K w (bn w' w.heap.size (k * K.n) (K.vals (N.set x a c))) l (I ++ [N.set x a c]) (k+1):=by
 have hf:=h.fill.more (by rw [h.len]; exact hlt) (N.set x a c);rw [h.len] at hf;refine ⟨hf,by rw [Lf,h.len]; rfl,?_,fun y hy=> ?_,?_⟩
 ·rw [cj hx,Kl,Kl,h.alike]
  simp [N.set_set]
 ·have hmy:N.cO w' (w.heap.size+1) y:=by
   rcases Kg.1 hy with hy | hy
   ·exact h.mine y hy
   ·simp only [Kt,Ku,or_false] at hy
    subst hy;exact hm
  exact hmy.same fun g hg=>de _ (by have:=(hmy.lt hg).1; omega)
 ·rw [List.filterMap_append,Kf]
  refine ⟨h.nodup,?_,fun g hg g' hg' e=> ?_⟩
  ·simp only [List.filterMap_cons,List.filterMap_nil]
   split <;> simp
  ·obtain ⟨y,hy,hky⟩:=Lq.1 hg
   obtain ⟨z,hz,hkz⟩:=Lq.1 hg';simp only [Kt,Ku,or_false] at hz;subst hz;have h1:=((hr.mine y hy).lt hky).2;have h2:=hk g' hkz;omega
theorem iV.done (h:iV N K w wr l I l.length) (hm:l.length≤maxLen):sd N K w wr l.length l I:=by
 refine ⟨h.fill.done h.len hm,?_,h.mine,h.nodup,h.fill.cd⟩
 have:=h.alike
 rwa [LQ] at this
end
theorem nP {w:w_} {base n size cap:Nat} {e:T_} {a:Option d_} {xs:List v_} (h:w.ownsRow base e size (s_ a n cap) n xs):Row w a xs:=by
 obtain ⟨a',cap',e',hr⟩:=cr h;simp only [LD] at e';rw [e'.1];exact hr
theorem cR {w w':w_} {base n size cap:Nat} {e:T_} {a:Option d_} {xs:List v_} (h:w.ownsRow base e size (s_ a n cap) n xs) (hb:B_ w.heap.size w w'):w'.ownsRow base e size (s_ a n cap) n xs:=by
 obtain ⟨hl,h2⟩:=h;refine ⟨hl,?_⟩;rcases h2 with h2 | ⟨g,c,cur,hv,h1,hg,r⟩
 ·exact .inl h2
 ·exact .inr ⟨g,c,cur,hv,h1,(hb.block g (J2.1 hg).1).trans hg,r⟩
end
section
open Go.RowKit Go.Maps
attribute [local go_sem ↓] Kc Kd
def nU (lo hi:Nat) (l:List Nat):Prop:=l.Nodup∧ ∀ g∈l,lo≤g∧g < hi
theorem nU.append {lo m m' hi:Nat} {l r:List Nat} (h1:nU lo m l) (h2:nU m' hi r) (h3:m≤m') (h4:lo≤m') (h5:m≤hi):nU lo hi (l ++ r):=by
 refine ⟨Kf.2 ⟨h1.1,h2.1,fun a ha b hb e=> ?_⟩,fun g hg=> ?_⟩
 ·have:=h1.2 a ha
  have:=h2.2 b hb
  omega
 ·rcases Kg.1 hg with hg | hg
  ·have:=h1.2 g hg
   omega
  ·have:=h2.2 g hg
   omega
theorem nU.cons {lo m hi g:Nat} {l:List Nat} (h:nU lo m l) (h1:m≤g) (h2:g < hi) (h3:lo≤g):nU lo hi (g :: l):=by
 refine ⟨Lp.2 ⟨fun hm=> ?_,h.1⟩,fun k hk=> ?_⟩
 ·have:=h.2 g hm
  omega
 ·rcases Kt.1 hk with rfl | hk
  ·omega
  ·have:=h.2 k hk
   omega
theorem eK {α:Type} {vs:α→Array v_} {num:α→Int} {T:T_} {W:w_} {lo hi b:Nat} {l:List (α × Nat)} (h:Shelf vs num T W lo b l∧ ∀ g∈b :: l.map (·.2),g < hi):nU lo hi (b :: l.map (·.2)):=
 ⟨h.1.nodup,fun g hg=>⟨h.1.low g hg,h.2 g hg⟩⟩
theorem uc {α:Type} {N:gd α} {w0 wr:w_} {base b:Nat} {l l':List (α × Nat)} (h:kG N w0 wr base b l l'):nU w0.heap.size wr.heap.size (kids N l'):=
 ⟨h.nodup,fun g hg=>by
  obtain ⟨p,hp,hk⟩:=Lq.1 hg;exact (h.mine p hp).lt hk⟩
theorem kG.Mc {α:Type} {N:gd α} {w0 wr:w_} {base b:Nat} {l l':List (α × Nat)} (h:kG N w0 wr base b l l'):l'.map (·.2)=l.map (·.2):=by
 have:=congrArg (List.map (·.2)) h.alike
 exact ZaF
def Steps (n w0 v1 w1 v2 w2 v3 w3 v4 w4 v5 w5 v6:Nat):Prop:=n≤w0∧w0≤v1∧v1 < w1∧w1≤v2∧v2 < w2∧w2≤v3∧v3 < w3∧w3≤v4∧v4 < w4∧w4≤v5∧v5 < w5∧w5≤v6
section
variable {w WO X2 X3:w_} {p:af} {b1 b2 b3 b4 b5 b6 w0 v1 w1 v2 w2 v3 w3 v4 w4 v5 w5 v6:Nat} {l1:List (ao × Nat)} {l2:List (bD × Nat)} {l3:List (aB × Nat)} {l4:List (az × Nat)} {l5:List (au × Nat)} {l6:List (aM × Nat)}
theorem vK (hs:Steps w.heap.size w0 v1 w1 v2 w2 v3 w3 v4 w4 v5 w5 v6) (ho:fa WO (v6+1) ⟨p.id,p.next,b1,b2,b3,b4,b5,b6⟩) (hb:B_ WO.heap.size WO X2)
  (h1:Shelf aX (fun x:ao=>x.id) 100 WO w0 b1 l1∧ ∀ g∈b1 :: l1.map (·.2),g < v1) (h5:Shelf bQ (fun x:au=>x.id) 114 WO w4 b5 l5∧ ∀ g∈b5 :: l5.map (·.2),g < v5) (h6:Shelf cW (fun x:aM=>x.id) 116 WO w5 b6 l6∧ ∀ g∈b6 :: l6.map (·.2),g < v6):
  mv X2 w.heap.size (v6+1) ⟨p.id,p.next,b1,b2,b3,b4,b5,b6⟩ l1 l5 l6:=by
 obtain ⟨s0,s1,s2,s3,s4,s5,s6,s7,s8,s9,s10,s11⟩:=hs;refine ⟨ho.below hb,(h1.1.below hb).lower (by omega),(h5.1.below hb).lower (by omega),(h6.1.below hb).lower (by omega),?_⟩;exact (((eK h1).append ((eK h5).append (eK h6) (by omega) (by omega) (by omega)) (by omega) (by omega) (by omega)).cons (g:=v6+1) (hi:=v6+2) (by omega) (by omega) (by omega)).1
theorem EL {X:w_} (hg:p.Good w) (hb:B_ w.heap.size w X) (hl:l1.map (·.1)=p.L8):fY aR X w.heap.size l1:=fun q hq=>by
 have hm:q.1∈p.L8:=by rw [← hl]; exact Lr.2 ⟨q,hq,rfl⟩
 exact ⟨((hg.DH q.1 hm).2).below hb,(hg.L8 q.1 hm).1.prog,fun g hk=>hg.D9 q.1 hm g hk⟩
theorem AA {X:w_} (hg:p.Good w) (hb:B_ w.heap.size w X) (hl:l5.map (·.1)=p.ae):fY aC X w.heap.size l5:=fun q hq=>by
 have hm:q.1∈p.ae:=by rw [← hl]; exact Lr.2 ⟨q,hq,rfl⟩
 exact ⟨((hg.xl q.1 hm).row).below hb,(hg.ae q.1 hm).2.1,fun g hk=>hg.xO q.1 hm g hk⟩
theorem Fo {X:w_} (hg:p.Good w) (hb:B_ w.heap.size w X) (hl:l6.map (·.1)=p.ai):fY aU X w.heap.size l6:=fun q hq=>by
 have hm:q.1∈p.ai:=by rw [← hl]; exact Lr.2 ⟨q,hq,rfl⟩
 exact ⟨((hg.D4 q.1 hm).row).below hb,(hg.ai q.1 hm).2.1,fun g hk=>hg.lowPort q.1 hm g hk⟩
theorem pureP {l l':List (ao × Nat)} (h:l'.map (fun p=>(aR.set p.1 n_ 0,p.2))=l.map (fun p=>(aR.set p.1 n_ 0,p.2))):l'.map (·.1.toaD)=l.map (·.1.toaD):=by
 have:=congrArg (List.map (·.1.toaD)) h
 exact ZaF
theorem pureF {l l':List (au × Nat)} (h:l'.map (fun p=>(aC.set p.1 n_ 0,p.2))=l.map (fun p=>(aC.set p.1 n_ 0,p.2))):l'.map (·.1.toci)=l.map (·.1.toci):=by
 have:=congrArg (List.map (·.1.toci)) h
 exact ZaF
theorem pureQ {l l':List (aM × Nat)} (h:l'.map (fun p=>(aU.set p.1 n_ 0,p.2))=l.map (fun p=>(aU.set p.1 n_ 0,p.2))):l'.map (·.1.todS)=l.map (·.1.todS):=by
 have:=congrArg (List.map (·.1.todS)) h
 exact ZaF
theorem Gp {u1 u2:w_} {l1':List (ao × Nat)} {l5':List (au × Nat)} {l6':List (aM × Nat)} (hs:Steps w.heap.size w0 v1 w1 v2 w2 v3 w3 v4 w4 v5 w5 v6) (hw:B_ w.heap.size w WO∧WO.heap.size=v6+1+1) (ho:fa WO (v6+1) ⟨p.id,p.next,b1,b2,b3,b4,b5,b6⟩) (hb:B_ WO.heap.size WO X2)
  (h1:l1.map (·.1)=p.L8∧Shelf aX (fun x:ao=>x.id) 100 WO w0 b1 l1∧ ∀ g∈b1 :: l1.map (·.2),g < v1)
  (h2:l2.map (·.1)=p.aj∧Shelf eH (fun x:bD=>x.id) 105 WO w1 b2 l2∧ ∀ g∈b2 :: l2.map (·.2),g < v2)
  (h3:l3.map (·.1)=p.L9∧Shelf cG (fun x:aB=>x.id) 109 WO w2 b3 l3∧ ∀ g∈b3 :: l3.map (·.2),g < v3)
  (h4:l4.map (·.1)=p.ag∧Shelf cI (fun x:az=>x.id) 112 WO w3 b4 l4∧ ∀ g∈b4 :: l4.map (·.2),g < v4)
  (h5:l5.map (·.1)=p.ae∧Shelf bQ (fun x:au=>x.id) 114 WO w4 b5 l5∧ ∀ g∈b5 :: l5.map (·.2),g < v5)
  (h6:l6.map (·.1)=p.ai∧Shelf cW (fun x:aM=>x.id) 116 WO w5 b6 l6∧ ∀ g∈b6 :: l6.map (·.2),g < v6)
  (o1:kG aR X2 u1 w.heap.size b1 l1 l1') (o5:kG aC u1 u2 w.heap.size b5 l5 l5') (o6:kG aU u2 X3 w.heap.size b6 l6 l6'):
  B_ w.heap.size w X3∧cJ X3 w.heap.size (v6+1) ⟨⟨p.id,p.next,b1,b2,b3,b4,b5,b6⟩,l1',l2,l3,l4,l5',l6'⟩∧(⟨⟨p.id,p.next,b1,b2,b3,b4,b5,b6⟩,l1',l2,l3,l4,l5',l6'⟩:aZ).pure=p.pure:=by
 have hT:=vK hs ho hb h1.2 h5.2 h6.2;obtain ⟨s0,s1,s2,s3,s4,s5,s6,s7,s8,s9,s10,s11⟩:=hs;have hX2:v6+1+1≤X2.heap.size:=by rw [← hw.2]; exact hb.size
 have z1:=o1.size;have z5:=o5.size;have z6:=o6.size;have n1: ∀ g∈l1.map (·.2),w0≤g∧g < v1:=fun g hg=>(eK h1.2).2 g (LB _ hg)
 have n5: ∀ g∈l5.map (·.2),w4≤g∧g < v5:=fun g hg=>(eK h5.2).2 g (LB _ hg)
 have n6: ∀ g∈l6.map (·.2),w5≤g∧g < v6:=fun g hg=>(eK h6.2).2 g (LB _ hg)
 have q1: ∀ g,g < X2.heap.size→ ¬ (w0≤g∧g < v1)→ ¬ (w4≤g∧g < v6)→X3.heap[g]? =X2.heap[g]? :=fun g hg k1 k2=>
  (o6.same g (by omega) (fun hm=>by have:=n6 g hm; omega)).trans ((o5.same g (by omega) (fun hm=>by have:=n5 g hm; omega)).trans (o1.same g hg (fun hm=>by have:=n1 g hm; omega)))
 have q5: ∀ g,g < u1.heap.size→ ¬ (w4≤g∧g < v6)→X3.heap[g]? =u1.heap[g]? :=fun g hg k2=>
  (o6.same g (by omega) (fun hm=>by have:=n6 g hm; omega)).trans (o5.same g hg (fun hm=>by have:=n5 g hm; omega))
 have q6: ∀ g,g < u2.heap.size→ ¬ (w5≤g∧g < v6)→X3.heap[g]? =u2.heap[g]? :=fun g hg k2=>o6.same g hg (fun hm=>by have:=n6 g hm; omega)
 have hBX:B_ w.heap.size w X3:=by
  have hw':=hw.1;have hwx:B_ w.heap.size w X2:=hw'.trans (hb.mono hw'.size);refine ⟨o6.os.trans (o5.os.trans (o1.os.trans hwx.os)),o6.tape.trans (o5.tape.trans (o1.tape.trans hwx.tape)),o6.output.trans (o5.output.trans (o1.output.trans hwx.output)),by have:=hwx.size; omega,fun g hg=>(q1 g (by have:=hwx.size; omega) (by omega) (by omega)).trans (hwx.block g hg)⟩
 refine ⟨hBX,⟨?_,?_,?_,?_,?_,?_,?_,?_,?_,?_,?_,?_⟩,?_⟩
 ·exact (q1 (v6+1) (by omega) (by omega) (by omega)).trans (ho.below hb)
 ·refine (o1.eh.same fun g hg=>q5 g (o1.eh.lt g hg) ?_)
  rw [o1.Mc] at hg
  have:=(eK h1.2).2 g hg
  omega
 ·refine ((h2.2.1.below hb).lower (by omega)).same fun g hg=> ?_
  have:=(eK h2.2).2 g hg
  exact Zb3
 ·refine ((h3.2.1.below hb).lower (by omega)).same fun g hg=> ?_
  have:=(eK h3.2).2 g hg
  exact Zb3
 ·refine ((h4.2.1.below hb).lower (by omega)).same fun g hg=> ?_
  have:=(eK h4.2).2 g hg
  exact Zb3
 ·refine (o5.eh.same fun g hg=>q6 g (o5.eh.lt g hg) ?_)
  rw [o5.Mc] at hg
  have:=(eK h5.2).2 g hg
  omega
 ·exact o6.eh
 ·intro q hq
  refine ((o1.mine q hq).low (by have:=hw.1.size; omega)).same fun g hk=> ?_
  have:=(o1.mine q hq).lt hk
  exact q5 g this.2 (by omega)
 ·intro q hq
  refine ((o5.mine q hq).low (by have:=hw.1.size; omega)).same fun g hk=> ?_
  have:=(o5.mine q hq).lt hk
  exact q6 g this.2 (by omega)
 ·intro q hq
  exact (o6.mine q hq).low (by have:=hw.1.size; omega)
 ·have e1:=o1.Mc
  have e5:=o5.Mc;have e6:=o6.Mc;simp only [aZ.boxes,aZ.kids,e1,e5,e6];have lW:=(eK h1.2).append ((eK h2.2).append ((eK h3.2).append ((eK h4.2).append ((eK h5.2).append (eK h6.2) (by omega) (by omega) (by omega)) (by omega) (by omega) (by omega)) (by omega) (by omega) (by omega)) (by omega) (by omega) (by omega)) (by omega) (by omega) (by omega);have hkd:=(uc o1).append ((uc o5).append (uc o6) (Ki _) z5 (by omega)) (Ki _) z1 (by omega);have hall:=lW.append hkd (by omega) (by omega) (by omega);refine Lp.2 ⟨fun hm=> ?_,hall.1⟩;rcases Kg.1 hm with hm | hm
  ·have:=lW.2 _ hm
   omega
  ·have:=hkd.2 _ hm
   omega
 ·have:=hw.1.size
  omega
 ·show aE.mk _ _ _ _ _ _ _ _=aE.mk _ _ _ _ _ _ _ _
  have a1:=pureP o1.alike;have a5:=pureF o5.alike;have a6:=pureQ o6.alike;simp only [a1,a5,a6,← h1.1,← h2.1,← h3.1,← h4.1,← h5.1,← h6.1,Lv,Ls]
end
theorem iO (p:af) (w:w_) (hg:p.Good w):k_ J3 49 #[a_ p.cells] w fun e w'=>Hp w p.pure e w':=by
 have HG:Hid (p.Good w):=hg;have Pf:Hid (xW w (w.alloc (c_ p.cells 38)) p []):=xW.start w p;clear hg;obtain ⟨m0,m1,m2,m3,m4,m5,m6,m7⟩:=Pf.I.part.cells;unfold af.cells at *
 go_enter func49,ntmps49
 go_wp2_with fail;generalize w.alloc (c_ p.row 38)=W0 at *;clear m0 m1 m2 m3 m4 m5 m6 m7;have HW0:Hid (w.heap.size≤W0.heap.size):=Pf.I.cd.size;refine (tw p.aN p.L8 p.aW 6 _ HG.I.short.L8 (HG.I.at'.1.below Pf.I.cd) (HG.I.below Pf.I.cd).DH HG.I.wfProc).mono ?_;intro e v1 hend;obtain ⟨Jg,n1,Bq,rfl,hok1,hb1,hr1⟩:=hend.res;clear hend;have HE1:Hid (Jg=sl p):=hok1;have wh:Hid (xW w (v1.alloc (c_ #[i_ j_ n1,.map Bq] 129)) p ((v1.heap.size,n1,Bq) :: [])):=Pf.I.push hb1 _;have mH:Hid (ip aX (fun x:ao=>x.id) 100 (v1.alloc (c_ #[i_ j_ n1,.map Bq] 129)) W0.heap.size v1.heap.size 6 Jg p.L8 n1 Bq):=hr1.below ((Kp _ _).alloc (Ki _) _);have HV1:Hid (W0.heap.size≤v1.heap.size∧v1.heap.size < (v1.alloc (c_ #[i_ j_ n1,.map Bq] 129)).heap.size):=⟨hb1.size,by simp⟩
 clear hb1 hr1 hok1;have p1:(v1.alloc (c_ #[i_ j_ n1,.map Bq] 129)).cell? ⟨w.heap.size,3,n_⟩=o_ (s_ p.bc p.aj.length p.bF):=by have:=wh.I.part.cells; simp only [this]
 go_wp2_with fail;generalize v1.alloc (c_ #[i_ j_ n1,.map Bq] 129)=W1 at *;generalize v1.heap.size=V1 at *;clear Pf p1;refine (vV p.bc p.aj p.bF 5 _ HG.I.short.aj (HG.I.at'.2.1.below wh.I.cd) (HG.I.below wh.I.cd).fitSem HG.I.wfSem).mono ?_;intro e v2 hend;obtain ⟨ok2,n2,Cc,rfl,hok2,hb2,hr2⟩:=hend.res;clear hend;have HE2:Hid (ok2=BQ p):=hok2;have zz:Hid (xW w (v2.alloc (c_ #[i_ j_ n2,.map Cc] 134)) p ((v2.heap.size,n2,Cc) :: (V1,n1,Bq) :: [])):=wh.I.push hb2 _;have mO:Hid (ip eH (fun x:bD=>x.id) 105 (v2.alloc (c_ #[i_ j_ n2,.map Cc] 134)) W1.heap.size v2.heap.size 5 ok2 p.aj n2 Cc):=hr2.below ((Kp _ _).alloc (Ki _) _);have rc:Hid (ip aX (fun x:ao=>x.id) 100 (v2.alloc (c_ #[i_ j_ n2,.map Cc] 134)) W0.heap.size V1 6 Jg p.L8 n1 Bq):=(mH.I.below hb2).below ((Kp _ _).alloc (Ki _) _);clear mH;have mH:=rc;clear rc;have FD:Hid (W1.heap.size≤v2.heap.size∧v2.heap.size < (v2.alloc (c_ #[i_ j_ n2,.map Cc] 134)).heap.size):=⟨hb2.size,by simp⟩
 clear hb2 hr2 hok2;have p2:(v2.alloc (c_ #[i_ j_ n2,.map Cc] 134)).cell? ⟨w.heap.size,4,n_⟩=o_ (s_ p.ay p.L9.length p.aO):=by have:=zz.I.part.cells; simp only [this]
 go_wp2_with fail;generalize v2.alloc (c_ #[i_ j_ n2,.map Cc] 134)=W2 at *;generalize v2.heap.size=V2 at *;clear wh p2;refine (rZ p.ay p.L9 p.aO 5 _ HG.I.short.L9 (HG.I.at'.2.2.1.below zz.I.cd) (HG.I.below zz.I.cd).Gq HG.I.IA).mono ?_;intro e v3 hend;obtain ⟨ok3,n3,Dh,rfl,hok3,hb3,hr3⟩:=hend.res;clear hend;have HE3:Hid (ok3=qS p):=hok3;have Ci:Hid (xW w (v3.alloc (c_ #[i_ j_ n3,.map Dh] 139)) p ((v3.heap.size,n3,Dh) :: (V2,n2,Cc) :: (V1,n1,Bq) :: [])):=zz.I.push hb3 _;have EU:Hid (ip cG (fun x:aB=>x.id) 109 (v3.alloc (c_ #[i_ j_ n3,.map Dh] 139)) W2.heap.size v3.heap.size 5 ok3 p.L9 n3 Dh):=hr3.below ((Kp _ _).alloc (Ki _) _);have rc:Hid (ip aX (fun x:ao=>x.id) 100 (v3.alloc (c_ #[i_ j_ n3,.map Dh] 139)) W0.heap.size V1 6 Jg p.L8 n1 Bq):=(mH.I.below hb3).below ((Kp _ _).alloc (Ki _) _);clear mH;have mH:=rc;clear rc;have iP:Hid (ip eH (fun x:bD=>x.id) 105 (v3.alloc (c_ #[i_ j_ n3,.map Dh] 139)) W1.heap.size V2 5 ok2 p.aj n2 Cc):=(mO.I.below hb3).below ((Kp _ _).alloc (Ki _) _);clear mO;have mO:=iP;clear iP;have Fx:Hid (W2.heap.size≤v3.heap.size∧v3.heap.size < (v3.alloc (c_ #[i_ j_ n3,.map Dh] 139)).heap.size):=⟨hb3.size,by simp⟩
 clear hb3 hr3 hok3;have p3:(v3.alloc (c_ #[i_ j_ n3,.map Dh] 139)).cell? ⟨w.heap.size,5,n_⟩=o_ (s_ p.ax p.ag.length p.aP):=by have:=Ci.I.part.cells; simp only [this]
 go_wp2_with fail;generalize v3.alloc (c_ #[i_ j_ n3,.map Dh] 139)=W3 at *;generalize v3.heap.size=V3 at *;clear zz p3;refine (si p.ax p.ag p.aP 5 _ HG.I.short.ag (HG.I.at'.2.2.2.1.below Ci.I.cd) (HG.I.below Ci.I.cd).FU HG.I.I9).mono ?_;intro e v4 hend;obtain ⟨ok4,n4,DK,rfl,hok4,hb4,hr4⟩:=hend.res;clear hend;have HE4:Hid (ok4=rK p):=hok4;have EF:Hid (xW w (v4.alloc (c_ #[i_ j_ n4,.map DK] 144)) p ((v4.heap.size,n4,DK) :: (V3,n3,Dh) :: (V2,n2,Cc) :: (V1,n1,Bq) :: [])):=Ci.I.push hb4 _;have Js:Hid (ip cI (fun x:az=>x.id) 112 (v4.alloc (c_ #[i_ j_ n4,.map DK] 144)) W3.heap.size v4.heap.size 5 ok4 p.ag n4 DK):=hr4.below ((Kp _ _).alloc (Ki _) _);have rc:Hid (ip aX (fun x:ao=>x.id) 100 (v4.alloc (c_ #[i_ j_ n4,.map DK] 144)) W0.heap.size V1 6 Jg p.L8 n1 Bq):=(mH.I.below hb4).below ((Kp _ _).alloc (Ki _) _);clear mH;have mH:=rc;clear rc;have iP:Hid (ip eH (fun x:bD=>x.id) 105 (v4.alloc (c_ #[i_ j_ n4,.map DK] 144)) W1.heap.size V2 5 ok2 p.aj n2 Cc):=(mO.I.below hb4).below ((Kp _ _).alloc (Ki _) _);clear mO;have mO:=iP;clear iP;have Ar:Hid (ip cG (fun x:aB=>x.id) 109 (v4.alloc (c_ #[i_ j_ n4,.map DK] 144)) W2.heap.size V3 5 ok3 p.L9 n3 Dh):=(EU.I.below hb4).below ((Kp _ _).alloc (Ki _) _);clear EU;have EU:=Ar;clear Ar;have HV4:Hid (W3.heap.size≤v4.heap.size∧v4.heap.size < (v4.alloc (c_ #[i_ j_ n4,.map DK] 144)).heap.size):=⟨hb4.size,by simp⟩
 clear hb4 hr4 hok4;have p4:(v4.alloc (c_ #[i_ j_ n4,.map DK] 144)).cell? ⟨w.heap.size,6,n_⟩=o_ (s_ p.am p.ae.length p.aG):=by have:=EF.I.part.cells; simp only [this]
 go_wp2_with fail;generalize v4.alloc (c_ #[i_ j_ n4,.map DK] 144)=W4 at *;generalize v4.heap.size=V4 at *;clear Ci p4;refine (rH p.am p.ae p.aG 5 _ HG.I.short.ae (HG.I.at'.2.2.2.2.1.below EF.I.cd) (HG.I.below EF.I.cd).xl HG.I.Gr).mono ?_;intro e v5 hend;obtain ⟨ok5,n5,EP,rfl,hok5,iJ,WU⟩:=hend.res;clear hend;have HE5:Hid (ok5=oH p):=hok5;have Hy:Hid (xW w (v5.alloc (c_ #[i_ j_ n5,.map EP] 149)) p ((v5.heap.size,n5,EP) :: (V4,n4,DK) :: (V3,n3,Dh) :: (V2,n2,Cc) :: (V1,n1,Bq) :: [])):=EF.I.push iJ _;have HS5:Hid (ip bQ (fun x:au=>x.id) 114 (v5.alloc (c_ #[i_ j_ n5,.map EP] 149)) W4.heap.size v5.heap.size 5 ok5 p.ae n5 EP):=WU.below ((Kp _ _).alloc (Ki _) _);have rc:Hid (ip aX (fun x:ao=>x.id) 100 (v5.alloc (c_ #[i_ j_ n5,.map EP] 149)) W0.heap.size V1 6 Jg p.L8 n1 Bq):=(mH.I.below iJ).below ((Kp _ _).alloc (Ki _) _);clear mH;have mH:=rc;clear rc;have iP:Hid (ip eH (fun x:bD=>x.id) 105 (v5.alloc (c_ #[i_ j_ n5,.map EP] 149)) W1.heap.size V2 5 ok2 p.aj n2 Cc):=(mO.I.below iJ).below ((Kp _ _).alloc (Ki _) _);clear mO;have mO:=iP;clear iP;have Ar:Hid (ip cG (fun x:aB=>x.id) 109 (v5.alloc (c_ #[i_ j_ n5,.map EP] 149)) W2.heap.size V3 5 ok3 p.L9 n3 Dh):=(EU.I.below iJ).below ((Kp _ _).alloc (Ki _) _);clear EU;have EU:=Ar;clear Ar;have GS:Hid (ip cI (fun x:az=>x.id) 112 (v5.alloc (c_ #[i_ j_ n5,.map EP] 149)) W3.heap.size V4 5 ok4 p.ag n4 DK):=(Js.I.below iJ).below ((Kp _ _).alloc (Ki _) _);clear Js;have Js:=GS;clear GS;have HV5:Hid (W4.heap.size≤v5.heap.size∧v5.heap.size < (v5.alloc (c_ #[i_ j_ n5,.map EP] 149)).heap.size):=⟨iJ.size,by simp⟩
 clear iJ WU hok5;have p5:(v5.alloc (c_ #[i_ j_ n5,.map EP] 149)).cell? ⟨w.heap.size,7,n_⟩=o_ (s_ p.aK p.ai.length p.aV):=by have:=Hy.I.part.cells; simp only [this]
 go_wp2_with fail;generalize v5.alloc (c_ #[i_ j_ n5,.map EP] 149)=W5 at *;generalize v5.heap.size=V5 at *;clear EF p5;refine (tB p.aK p.ai p.aV 5 _ HG.I.short.ai (HG.I.at'.2.2.2.2.2.below Hy.I.cd) (HG.I.below Hy.I.cd).D4 HG.I.wfPort).mono ?_;intro e v6 hend;obtain ⟨ok6,n6,C6,rfl,hok6,jQ,hr6⟩:=hend.res;clear hend;have HE6:Hid (ok6=vI p):=hok6;have pE:Hid (xW w (v6.alloc (c_ #[i_ j_ n6,.map C6] 154)) p ((v6.heap.size,n6,C6) :: (V5,n5,EP) :: (V4,n4,DK) :: (V3,n3,Dh) :: (V2,n2,Cc) :: (V1,n1,Bq) :: [])):=Hy.I.push jQ _;have HS6:Hid (ip cW (fun x:aM=>x.id) 116 (v6.alloc (c_ #[i_ j_ n6,.map C6] 154)) W5.heap.size v6.heap.size 5 ok6 p.ai n6 C6):=hr6.below ((Kp _ _).alloc (Ki _) _);have rc:Hid (ip aX (fun x:ao=>x.id) 100 (v6.alloc (c_ #[i_ j_ n6,.map C6] 154)) W0.heap.size V1 6 Jg p.L8 n1 Bq):=(mH.I.below jQ).below ((Kp _ _).alloc (Ki _) _);clear mH;have mH:=rc;clear rc;have iP:Hid (ip eH (fun x:bD=>x.id) 105 (v6.alloc (c_ #[i_ j_ n6,.map C6] 154)) W1.heap.size V2 5 ok2 p.aj n2 Cc):=(mO.I.below jQ).below ((Kp _ _).alloc (Ki _) _);clear mO;have mO:=iP;clear iP;have Ar:Hid (ip cG (fun x:aB=>x.id) 109 (v6.alloc (c_ #[i_ j_ n6,.map C6] 154)) W2.heap.size V3 5 ok3 p.L9 n3 Dh):=(EU.I.below jQ).below ((Kp _ _).alloc (Ki _) _);clear EU;have EU:=Ar;clear Ar;have GS:Hid (ip cI (fun x:az=>x.id) 112 (v6.alloc (c_ #[i_ j_ n6,.map C6] 154)) W3.heap.size V4 5 ok4 p.ag n4 DK):=(Js.I.below jQ).below ((Kp _ _).alloc (Ki _) _);clear Js;have Js:=GS;clear GS;have HZ5:Hid (ip bQ (fun x:au=>x.id) 114 (v6.alloc (c_ #[i_ j_ n6,.map C6] 154)) W4.heap.size V5 5 ok5 p.ae n5 EP):=(HS5.I.below jQ).below ((Kp _ _).alloc (Ki _) _);clear HS5;have HS5:=HZ5;clear HZ5;have HV6:Hid (W5.heap.size≤v6.heap.size∧v6.heap.size < (v6.alloc (c_ #[i_ j_ n6,.map C6] 154)).heap.size):=⟨jQ.size,by simp⟩
 clear jQ hr6 hok6;clear Hy;cases Jg with
 | false=>
  go_wp2;go_ret2;exact ⟨pE.I.cd,.inl ⟨Ay HE1.I.symm,rfl⟩⟩
 | true=>
 cases ok2 with
 | false=>
  go_wp2;go_ret2;exact ⟨pE.I.cd,.inl ⟨C1 HE2.I.symm,rfl⟩⟩
 | true=>
 cases ok3 with
 | false=>
  go_wp2;go_ret2;exact ⟨pE.I.cd,.inl ⟨yL HE3.I.symm,rfl⟩⟩
 | true=>
 cases ok4 with
 | false=>
  go_wp2;go_ret2;exact ⟨pE.I.cd,.inl ⟨zr HE4.I.symm,rfl⟩⟩
 | true=>
 cases ok5 with
 | false=>
  go_wp2;go_ret2;exact ⟨pE.I.cd,.inl ⟨wD HE5.I.symm,rfl⟩⟩
 | true=>
 cases ok6 with
 | false=>
  go_wp2;go_ret2;exact ⟨pE.I.cd,.inl ⟨Ae HE6.I.symm,rfl⟩⟩
 | true=>
 obtain ⟨rfl,b1,l1,rfl,hl1,hs1,hh1⟩:=mH.I rfl;have xi:Hid (l1.map (·.1)=p.L8∧Shelf aX (fun x:ao=>x.id) 100 (v6.alloc (c_ #[i_ j_ n6,.map C6] 154)) W0.heap.size b1 l1∧ ∀ g∈b1 :: l1.map (·.2),g < V1):=⟨hl1,hs1,hh1⟩
 clear hl1 hs1 hh1 mH;obtain ⟨rfl,b2,l2,rfl,hl2,hs2,hh2⟩:=mO.I rfl;have HX2:Hid (l2.map (·.1)=p.aj∧Shelf eH (fun x:bD=>x.id) 105 (v6.alloc (c_ #[i_ j_ n6,.map C6] 154)) W1.heap.size b2 l2∧ ∀ g∈b2 :: l2.map (·.2),g < V2):=⟨hl2,hs2,hh2⟩
 clear hl2 hs2 hh2 mO;obtain ⟨rfl,b3,l3,rfl,hl3,Ix,hh3⟩:=EU.I rfl;have HX3:Hid (l3.map (·.1)=p.L9∧Shelf cG (fun x:aB=>x.id) 109 (v6.alloc (c_ #[i_ j_ n6,.map C6] 154)) W2.heap.size b3 l3∧ ∀ g∈b3 :: l3.map (·.2),g < V3):=⟨hl3,Ix,hh3⟩
 clear hl3 Ix hh3 EU;obtain ⟨rfl,b4,l4,rfl,hl4,hs4,hh4⟩:=Js.I rfl;have HX4:Hid (l4.map (·.1)=p.ag∧Shelf cI (fun x:az=>x.id) 112 (v6.alloc (c_ #[i_ j_ n6,.map C6] 154)) W3.heap.size b4 l4∧ ∀ g∈b4 :: l4.map (·.2),g < V4):=⟨hl4,hs4,hh4⟩
 clear hl4 hs4 hh4 Js;obtain ⟨rfl,b5,l5,rfl,rL,hs5,hh5⟩:=HS5.I rfl;have HX5:Hid (l5.map (·.1)=p.ae∧Shelf bQ (fun x:au=>x.id) 114 (v6.alloc (c_ #[i_ j_ n6,.map C6] 154)) W4.heap.size b5 l5∧ ∀ g∈b5 :: l5.map (·.2),g < V5):=⟨rL,hs5,hh5⟩
 clear rL hs5 hh5 HS5;obtain ⟨rfl,b6,l6,rfl,hl6,hs6,hh6⟩:=HS6.I rfl;have HX6:Hid (l6.map (·.1)=p.ai∧Shelf cW (fun x:aM=>x.id) 116 (v6.alloc (c_ #[i_ j_ 5,.map (o_ b6)] 154)) W5.heap.size b6 l6∧ ∀ g∈b6 :: l6.map (·.2),g < v6.heap.size):=⟨hl6,hs6,hh6⟩
 clear hl6 hs6 hh6 HS6;have i0:(v6.alloc (c_ #[i_ j_ 5,.map (o_ b6)] 154)).cell? ⟨w.heap.size,0,n_⟩=o_ (i_ j_ p.id):=by have:=pE.I.part.cells; simp only [this]
 have i1:(v6.alloc (c_ #[i_ j_ 5,.map (o_ b6)] 154)).cell? ⟨w.heap.size,1,n_⟩=o_ (i_ j_ p.next):=by have:=pE.I.part.cells; simp only [this]
 have a1:(v6.alloc (c_ #[i_ j_ 5,.map (o_ b6)] 154)).cell? ⟨V1,0,n_⟩=o_ (i_ j_ 6):=pE.I.c0 (mb:=o_ b1) (by simp);have c1:(v6.alloc (c_ #[i_ j_ 5,.map (o_ b6)] 154)).cell? ⟨V1,1,n_⟩=o_ (.map (o_ b1)):=pE.I.c1 (m:=6) (by simp);have a2:(v6.alloc (c_ #[i_ j_ 5,.map (o_ b6)] 154)).cell? ⟨V2,0,n_⟩=o_ (i_ j_ 5):=pE.I.c0 (mb:=o_ b2) (by simp);have c2:(v6.alloc (c_ #[i_ j_ 5,.map (o_ b6)] 154)).cell? ⟨V2,1,n_⟩=o_ (.map (o_ b2)):=pE.I.c1 (m:=5) (by simp);have a3:(v6.alloc (c_ #[i_ j_ 5,.map (o_ b6)] 154)).cell? ⟨V3,0,n_⟩=o_ (i_ j_ 5):=pE.I.c0 (mb:=o_ b3) (by simp);have c3:(v6.alloc (c_ #[i_ j_ 5,.map (o_ b6)] 154)).cell? ⟨V3,1,n_⟩=o_ (.map (o_ b3)):=pE.I.c1 (m:=5) (by simp);have a4:(v6.alloc (c_ #[i_ j_ 5,.map (o_ b6)] 154)).cell? ⟨V4,0,n_⟩=o_ (i_ j_ 5):=pE.I.c0 (mb:=o_ b4) (by simp);have c4:(v6.alloc (c_ #[i_ j_ 5,.map (o_ b6)] 154)).cell? ⟨V4,1,n_⟩=o_ (.map (o_ b4)):=pE.I.c1 (m:=5) (by simp);have a5:(v6.alloc (c_ #[i_ j_ 5,.map (o_ b6)] 154)).cell? ⟨V5,0,n_⟩=o_ (i_ j_ 5):=pE.I.c0 (mb:=o_ b5) (by simp);have c5:(v6.alloc (c_ #[i_ j_ 5,.map (o_ b6)] 154)).cell? ⟨V5,1,n_⟩=o_ (.map (o_ b5)):=pE.I.c1 (m:=5) (by simp);have a6:(v6.alloc (c_ #[i_ j_ 5,.map (o_ b6)] 154)).cell? ⟨v6.heap.size,0,n_⟩=o_ (i_ j_ 5):=pE.I.c0 (mb:=o_ b6) (by simp);have c6:(v6.alloc (c_ #[i_ j_ 5,.map (o_ b6)] 154)).cell? ⟨v6.heap.size,1,n_⟩=o_ (.map (o_ b6)):=pE.I.c1 (m:=5) (by simp);by_cases t1:p.id < 1
 ·have HN:Hid (¬ aQ p.pure):=xx (by omega)
  exact Zat
 by_cases t2:6 < p.id
 ·have HN:Hid (¬ aQ p.pure):=xx (by omega)
  exact Zat
 by_cases t3:p.next < 1
 ·have HN:Hid (¬ aQ p.pure):=tf (by omega)
  exact Zat
 by_cases t4:1000000000 < p.next
 ·have HN:Hid (¬ aQ p.pure):=tf (by omega)
  exact Zat
 have HID:Hid ((1≤p.id∧p.id≤6)∧1≤p.next∧p.next≤1000000000):=⟨⟨by omega,by omega⟩,by omega,by omega⟩
 go_wp2_with fail;have HB7:Hid (B_ (v6.alloc (c_ #[i_ j_ 5,.map (o_ b6)] 154)).heap.size (v6.alloc (c_ #[i_ j_ 5,.map (o_ b6)] 154)) ((v6.alloc (c_ #[i_ j_ 5,.map (o_ b6)] 154)).alloc (c_ #[i_ j_ p.id,i_ j_ p.next,i_ j_ 6,.map (o_ b1),i_ j_ 5,.map (o_ b2),i_ j_ 5,.map (o_ b3),i_ j_ 5,.map (o_ b4),i_ j_ 5,.map (o_ b5),i_ j_ 5,.map (o_ b6)] 158))):=(Kp _ _).alloc (Ki _) _;have HO:Hid (fa ((v6.alloc (c_ #[i_ j_ 5,.map (o_ b6)] 154)).alloc (c_ #[i_ j_ p.id,i_ j_ p.next,i_ j_ 6,.map (o_ b1),i_ j_ 5,.map (o_ b2),i_ j_ 5,.map (o_ b3),i_ j_ 5,.map (o_ b4),i_ j_ 5,.map (o_ b5),i_ j_ 5,.map (o_ b6)] 158)) (v6.heap.size+1) ⟨p.id,p.next,b1,b2,b3,b4,b5,b6⟩):=Kq _ _ _;have Fv:Hid (B_ w.heap.size w ((v6.alloc (c_ #[i_ j_ 5,.map (o_ b6)] 154)).alloc (c_ #[i_ j_ p.id,i_ j_ p.next,i_ j_ 6,.map (o_ b1),i_ j_ 5,.map (o_ b2),i_ j_ 5,.map (o_ b3),i_ j_ 5,.map (o_ b4),i_ j_ 5,.map (o_ b5),i_ j_ 5,.map (o_ b6)] 158))∧((v6.alloc (c_ #[i_ j_ 5,.map (o_ b6)] 154)).alloc (c_ #[i_ j_ p.id,i_ j_ p.next,i_ j_ 6,.map (o_ b1),i_ j_ 5,.map (o_ b2),i_ j_ 5,.map (o_ b3),i_ j_ 5,.map (o_ b4),i_ j_ 5,.map (o_ b5),i_ j_ 5,.map (o_ b6)] 158)).heap.size=v6.heap.size+1+1):=⟨pE.I.cd.alloc pE.I.cd.size _,by simp⟩
 have II:Hid (l1.map (·.1)=p.L8∧Shelf aX (fun x:ao=>x.id) 100 ((v6.alloc (c_ #[i_ j_ 5,.map (o_ b6)] 154)).alloc (c_ #[i_ j_ p.id,i_ j_ p.next,i_ j_ 6,.map (o_ b1),i_ j_ 5,.map (o_ b2),i_ j_ 5,.map (o_ b3),i_ j_ 5,.map (o_ b4),i_ j_ 5,.map (o_ b5),i_ j_ 5,.map (o_ b6)] 158)) W0.heap.size b1 l1∧ ∀ g∈b1 :: l1.map (·.2),g < V1):=⟨xi.I.1,xi.I.2.1.below HB7.I,xi.I.2.2⟩
 have HY2:Hid (l2.map (·.1)=p.aj∧Shelf eH (fun x:bD=>x.id) 105 ((v6.alloc (c_ #[i_ j_ 5,.map (o_ b6)] 154)).alloc (c_ #[i_ j_ p.id,i_ j_ p.next,i_ j_ 6,.map (o_ b1),i_ j_ 5,.map (o_ b2),i_ j_ 5,.map (o_ b3),i_ j_ 5,.map (o_ b4),i_ j_ 5,.map (o_ b5),i_ j_ 5,.map (o_ b6)] 158)) W1.heap.size b2 l2∧ ∀ g∈b2 :: l2.map (·.2),g < V2):=⟨HX2.I.1,HX2.I.2.1.below HB7.I,HX2.I.2.2⟩
 have HY3:Hid (l3.map (·.1)=p.L9∧Shelf cG (fun x:aB=>x.id) 109 ((v6.alloc (c_ #[i_ j_ 5,.map (o_ b6)] 154)).alloc (c_ #[i_ j_ p.id,i_ j_ p.next,i_ j_ 6,.map (o_ b1),i_ j_ 5,.map (o_ b2),i_ j_ 5,.map (o_ b3),i_ j_ 5,.map (o_ b4),i_ j_ 5,.map (o_ b5),i_ j_ 5,.map (o_ b6)] 158)) W2.heap.size b3 l3∧ ∀ g∈b3 :: l3.map (·.2),g < V3):=⟨HX3.I.1,HX3.I.2.1.below HB7.I,HX3.I.2.2⟩
 have HY4:Hid (l4.map (·.1)=p.ag∧Shelf cI (fun x:az=>x.id) 112 ((v6.alloc (c_ #[i_ j_ 5,.map (o_ b6)] 154)).alloc (c_ #[i_ j_ p.id,i_ j_ p.next,i_ j_ 6,.map (o_ b1),i_ j_ 5,.map (o_ b2),i_ j_ 5,.map (o_ b3),i_ j_ 5,.map (o_ b4),i_ j_ 5,.map (o_ b5),i_ j_ 5,.map (o_ b6)] 158)) W3.heap.size b4 l4∧ ∀ g∈b4 :: l4.map (·.2),g < V4):=⟨HX4.I.1,HX4.I.2.1.below HB7.I,HX4.I.2.2⟩
 have HY5:Hid (l5.map (·.1)=p.ae∧Shelf bQ (fun x:au=>x.id) 114 ((v6.alloc (c_ #[i_ j_ 5,.map (o_ b6)] 154)).alloc (c_ #[i_ j_ p.id,i_ j_ p.next,i_ j_ 6,.map (o_ b1),i_ j_ 5,.map (o_ b2),i_ j_ 5,.map (o_ b3),i_ j_ 5,.map (o_ b4),i_ j_ 5,.map (o_ b5),i_ j_ 5,.map (o_ b6)] 158)) W4.heap.size b5 l5∧ ∀ g∈b5 :: l5.map (·.2),g < V5):=⟨HX5.I.1,HX5.I.2.1.below HB7.I,HX5.I.2.2⟩
 have HY6:Hid (l6.map (·.1)=p.ai∧Shelf cW (fun x:aM=>x.id) 116 ((v6.alloc (c_ #[i_ j_ 5,.map (o_ b6)] 154)).alloc (c_ #[i_ j_ p.id,i_ j_ p.next,i_ j_ 6,.map (o_ b1),i_ j_ 5,.map (o_ b2),i_ j_ 5,.map (o_ b3),i_ j_ 5,.map (o_ b4),i_ j_ 5,.map (o_ b5),i_ j_ 5,.map (o_ b6)] 158)) W5.heap.size b6 l6∧ ∀ g∈b6 :: l6.map (·.2),g < v6.heap.size):=⟨HX6.I.1,HX6.I.2.1.below HB7.I,HX6.I.2.2⟩
 have HW:Hid (w.heap.size≤W0.heap.size∧W0.heap.size≤V1∧V1 < W1.heap.size∧W1.heap.size≤V2∧V2 < W2.heap.size∧W2.heap.size≤V3∧V3 < W3.heap.size∧W3.heap.size≤V4∧V4 < W4.heap.size∧W4.heap.size≤V5∧V5 < W5.heap.size∧W5.heap.size≤v6.heap.size):=⟨HW0.I,HV1.I.1,HV1.I.2,FD.I.1,FD.I.2,Fx.I.1,Fx.I.2,HV4.I.1,HV4.I.2,HV5.I.1,HV5.I.2,HV6.I.1⟩
 clear i0 i1 pE HB7 HV1 FD Fx HV4 HV5 HV6 HW0 a1 c1 xi a2 c2 HX2 a3 c3 HX3 a4 c4 HX4 a5 c5 HX5 a6 c6 HX6;generalize (v6.alloc (c_ #[i_ j_ 5,.map (o_ b6)] 154)).alloc (c_ #[i_ j_ p.id,i_ j_ p.next,i_ j_ 6,.map (o_ b1),i_ j_ 5,.map (o_ b2),i_ j_ 5,.map (o_ b3),i_ j_ 5,.map (o_ b4),i_ j_ 5,.map (o_ b5),i_ j_ 5,.map (o_ b6)] 158)=WO at *;generalize v6.heap.size=V6 at *;have lN:Hid (kX WO WO (V6+1) ⟨p.id,p.next,b1,b2,b3,b4,b5,b6⟩ l1 (RW (fun x:bD=>x.id) l2) (RW (fun x:aB=>x.id) l3) (RW (fun x:az=>x.id) l4) (RW (fun x:au=>x.id) l5)):=⟨HO.I,II.I.2.1.lower (Ky _),HY2.I.2.1.map,HY3.I.2.1.map,HY4.I.2.1.map,HY5.I.2.1.map,Kp _ _⟩
 have DM:Hid (l1.length≤1048576∧ ∀ q∈l1,q.1.Wf):=⟨by have h1:=congrArg List.length II.I.1; have h2:=HG.I.short.L8; simp only [KG] at h1; omega,fun q hq=>(HG.I.L8 q.1 (by rw [← II.I.1]; exact Lr.2 ⟨q,hq,rfl⟩)).2⟩
 refine (BI (V6+1) _ l1 _ _ _ _ WO lN.I DM.I.1 DM.I.2).mono ?_;rintro e X1 ⟨okt,rfl,hti,hx1⟩;cases okt with
 | false=>
  have HN:Hid (¬ aQ p.pure):=yV fun ht=>absurd (hti.2 ((B6 II.I.1).2 ht)) (by simp)
  have HB:Hid (B_ w.heap.size w X1):=Fv.I.1.trans (hx1.mono Fv.I.1.size);clear hti hx1;go_wp2;go_ret2;exact ⟨HB.I,.inl ⟨HN.I,rfl⟩⟩
 | true=>
 have HTU:Hid (nQ p.next p.pure.L8):=(B6 II.I.1).1 (hti.1 rfl);have xi:Hid (B_ WO.heap.size WO X1):=hx1;clear hti hx1;go_wp2_with fail;refine (Bh (V6+1) ⟨p.id,p.next,b1,b2,b3,b4,b5,b6⟩ l1 (RW (fun x:bD=>x.id) l2) (RW (fun x:aB=>x.id) l3) (RW (fun x:az=>x.id) l4) (RW (fun x:au=>x.id) l5) X1 ⟨lN.I.opn.below xi.I,lN.I.eh.below xi.I,lN.I.ms.below xi.I,lN.I.me.below xi.I,lN.I.mb.below xi.I,lN.I.mf.below xi.I,Kp _ _⟩ DM.I.1 DM.I.2).mono ?_;rintro e X2 ⟨rfl,hx2⟩;rw [FV II.I.1 HY2.I.1 HY3.I.1 HY4.I.1 HY5.I.1 HE1.I.symm];have cy:Hid (B_ WO.heap.size WO X2):=xi.I.trans (hx2.mono xi.I.size);clear hx2;cases hw:p.pure.L8.all (dG p.pure)
 ·have HN:Hid (¬ aQ p.pure):=zA hw
  clear hw;go_wp2;go_ret2;exact ⟨Fv.I.1.trans (cy.I.mono Fv.I.1.size),.inl ⟨HN.I,rfl⟩⟩
 have HYES:Hid (aQ p.pure):=FI HE1.I.symm HE2.I.symm HE3.I.symm HE4.I.symm HE5.I.symm HE6.I.symm HID.I.1 HID.I.2 HTU.I hw;clear hw;go_wp2_with fail;have HTH:Hid (mv X2 w.heap.size (V6+1) ⟨p.id,p.next,b1,b2,b3,b4,b5,b6⟩ l1 l5 l6):=vK HW.I HO.I cy.I II.I.2 HY5.I.2 HY6.I.2;refine (wO (V6+1) w.heap.size _ l1 l5 l6 X2 HTH.I (Nat.le_trans Fv.I.1.size cy.I.size) ?_ ?_ ?_).mono ?_
 ·exact EL HG.I (Fv.I.1.trans (cy.I.mono Fv.I.1.size)) II.I.1
 ·exact AA HG.I (Fv.I.1.trans (cy.I.mono Fv.I.1.size)) HY5.I.1
 ·exact Fo HG.I (Fv.I.1.trans (cy.I.mono Fv.I.1.size)) HY6.I.1
 rintro e X3 ⟨rfl,w1,w2,l1',l5',l6',ho1,oe,qH⟩;have HEND:Hid (B_ w.heap.size w X3∧cJ X3 w.heap.size (V6+1) ⟨⟨p.id,p.next,b1,b2,b3,b4,b5,b6⟩,l1',l2,l3,l4,l5',l6'⟩∧(⟨⟨p.id,p.next,b1,b2,b3,b4,b5,b6⟩,l1',l2,l3,l4,l5',l6'⟩:aZ).pure=p.pure):=Gp HW.I Fv.I HO.I cy.I II.I HY2.I HY3.I HY4.I HY5.I HY6.I ho1 oe qH;clear ho1 oe qH;go_wp2;go_ret2;exact ⟨HEND.I.1,.inr ⟨HYES.I,V6+1,_,rfl,HEND.I.2.1,HEND.I.2.2⟩⟩
end
section
open Go.RowKit
def blk (a:Option d_):List Nat:=(a.map (·.block)).toList
theorem fZ {a:Option d_} {g:Nat} :g∈blk a↔a.map (·.block)=o_ g:=by
 unfold blk;cases a <;> simp [eq_comm]
def af.Mc (p:af):List Nat:=blk p.aN ++ (p.L8.filterMap aR.bt ++ (blk p.bc ++ (blk p.ay ++ (blk p.ax ++ (blk p.am ++ (p.ae.filterMap aC.bt ++ (blk p.aK ++ (p.ai.filterMap aU.bt))))))))
structure ap (w:w_) (base:Nat) (p:af):Prop where
 L8:w.ownsRow base 100 12 (s_ p.aN p.L8.length p.aW) p.L8.length (bg.flat p.L8)
 aj:w.ownsRow base 105 3 (s_ p.bc p.aj.length p.bF) p.aj.length (dm.flat p.aj)
 L9:w.ownsRow base 109 2 (s_ p.ay p.L9.length p.aO) p.L9.length (bJ.flat p.L9)
 ag:w.ownsRow base 112 3 (s_ p.ax p.ag.length p.aP) p.ag.length (bG.flat p.ag)
 ae:w.ownsRow base 114 3 (s_ p.am p.ae.length p.aG) p.ae.length (bm.flat p.ae)
 ai:w.ownsRow base 116 5 (s_ p.aK p.ai.length p.aV) p.ai.length (bX.flat p.ai)
 eI: ∀ x∈p.L8,aR.cO w base x
 eE: ∀ x∈p.ae,aC.cO w base x
 eR: ∀ x∈p.ai,aU.cO w base x
 nodup:p.Mc.Nodup
theorem aL {w w':w_} {base n size cap:Nat} {e:T_} {a:Option d_} {xs:List v_} (h:w.ownsRow base e size (s_ a n cap) n xs) (hs: ∀ g,g∈blk a→w'.heap[g]? =w.heap[g]?):w'.ownsRow base e size (s_ a n cap) n xs:=by
 obtain ⟨hl,h2⟩:=h;refine ⟨hl,?_⟩;rcases h2 with h2 | ⟨g,c,cur,hv,h1,hg,r⟩
 ·exact .inl h2
 ·simp only [LD] at hv
  exact .inr ⟨g,c,cur,by rw [hv.1,hv.2.2],h1,(hs g (by rw [fZ,hv.1]; rfl)).trans hg,r⟩
theorem cf {w:w_} {base n size cap:Nat} {e:T_} {a:Option d_} {xs:List v_} (h:w.ownsRow base e size (s_ a n cap) n xs) {g:Nat} (hg:g∈blk a):base≤g∧g < w.heap.size:=by
 rcases h.2 with ⟨hv,-⟩ | ⟨g',c,cur,hv,h1,hg',r⟩
 ·simp only [LD] at hv
  rw [hv.1] at hg;simp [blk] at hg
 ·simp only [LD] at hv
  rw [fZ,hv.1] at hg;simp only [Option.map_some,LF] at hg;subst hg;exact ⟨h1,(J2.1 hg').1⟩
theorem dP {α:Type} {N:gd α} {l:List α} {g:Nat} :g∈l.filterMap N.bt↔ ∃ x∈l,N.bt x=o_ g:=Lq
theorem ap.lt {w:w_} {base:Nat} {p:af} (h:ap w base p): ∀ g∈p.Mc,base≤g∧g < w.heap.size:=fun g hg=>by
 simp only [af.Mc,Kg] at hg;rcases hg with hg | hg | hg | hg | hg | hg | hg | hg | hg
 ·exact cf h.L8 hg
 ·obtain ⟨x,hx,hk⟩:=dP.1 hg
  exact (h.eI x hx).lt hk
 ·exact cf h.aj hg
 ·exact cf h.L9 hg
 ·exact cf h.ag hg
 ·exact cf h.ae hg
 ·obtain ⟨x,hx,hk⟩:=dP.1 hg
  exact (h.eE x hx).lt hk
 ·exact cf h.ai hg
 ·obtain ⟨x,hx,hk⟩:=dP.1 hg
  exact (h.eR x hx).lt hk
theorem ap.same {w w':w_} {base:Nat} {p:af} (h:ap w base p) (hs: ∀ g∈p.Mc,w'.heap[g]? =w.heap[g]?):ap w' base p:=by
 have hm: ∀ g,(g∈blk p.aN∨g∈p.L8.filterMap aR.bt∨g∈blk p.bc∨g∈blk p.ay∨g∈blk p.ax∨g∈blk p.am∨g∈p.ae.filterMap aC.bt∨g∈blk p.aK∨g∈p.ai.filterMap aU.bt)→g∈p.Mc:=fun g hg=>by
  simp only [af.Mc,Kg];exact hg
 exact ⟨aL h.L8 fun g hg=>hs g (hm g (.inl hg)),aL h.aj fun g hg=>hs g (hm g (.inr (.inr (.inl hg)))),aL h.L9 fun g hg=>hs g (hm g (.inr (.inr (.inr (.inl hg))))),aL h.ag fun g hg=>hs g (hm g (.inr (.inr (.inr (.inr (.inl hg)))))),aL h.ae fun g hg=>hs g (hm g (.inr (.inr (.inr (.inr (.inr (.inl hg))))))),aL h.ai fun g hg=>hs g (hm g (.inr (.inr (.inr (.inr (.inr (.inr (.inr (.inl hg))))))))),fun x hx=>(h.eI x hx).same fun g hk=>hs g (hm g (.inr (.inl ((dP.2 ⟨x,hx,hk⟩))))),fun x hx=>(h.eE x hx).same fun g hk=>hs g (hm g (.inr (.inr (.inr (.inr (.inr (.inr (.inl ((dP.2 ⟨x,hx,hk⟩)))))))))),fun x hx=>(h.eR x hx).same fun g hk=>hs g (hm g (.inr (.inr (.inr (.inr (.inr (.inr (.inr (.inr ((dP.2 ⟨x,hx,hk⟩))))))))))),h.nodup⟩
theorem ap.below {w w':w_} {base:Nat} {p:af} (h:ap w base p) (hb:B_ w.heap.size w w'):ap w' base p:=h.same fun g hg=>hb.block g (h.lt g hg).2
theorem ap.lower {w:w_} {base base':Nat} {p:af} (h:ap w base p) (hb:base'≤base):ap w base' p:=
 ⟨cq h.L8 hb,cq h.aj hb,cq h.L9 hb,cq h.ag hb,cq h.ae hb,cq h.ai hb,fun x hx=>(h.eI x hx).low hb,fun x hx=>(h.eE x hx).low hb,fun x hx=>(h.eR x hx).low hb,h.nodup⟩
theorem ap.at {w:w_} {base:Nat} {p:af} (h:ap w base p):af.At w p:=by
 refine ⟨⟨nP h.L8,fun x hx r hr=> ?_⟩,⟨nP h.aj,fun x hx r hr=> ?_⟩,⟨nP h.L9,fun x hx r hr=> ?_⟩,⟨nP h.ag,fun x hx r hr=> ?_⟩,⟨nP h.ae,fun x hx r hr=> ?_⟩,⟨nP h.ai,fun x hx r hr=> ?_⟩⟩
 ·simp only [bg,Kt,Ku,or_false] at hr
  subst hr;exact (h.eI x hx).row
 ·simp [dm] at hr
 ·simp [bJ] at hr
 ·simp [bG] at hr
 ·simp only [bm,Kt,Ku,or_false] at hr
  subst hr;exact (h.eE x hx).row
 ·simp only [bX,Kt,Ku,or_false] at hr
  subst hr;exact (h.eR x hx).row
structure aE.Small (p:aE):Prop where
 dl:p.L8.length≤1048576
 fx:p.aj.length≤1048576
 cD:p.L9.length≤1048576
 cC:p.ag.length≤1048576
 cb:p.ae.length≤1048576
 dH:p.ai.length≤1048576
 L8: ∀ x∈p.L8,(x.prog.length≤1048576∧(∀ o∈x.prog,o.2.2.2.size≤1048576)∧x.held.size≤1048576∧x.got.size≤1048576)∧(Lit.int j_ x.id).wf=true∧(Lit.int j_ x.on).wf=true∧(Lit.int j_ x.RU).wf=true
 aj: ∀ x∈p.aj,(Lit.int j_ x.id).wf=true
 L9: ∀ x∈p.L9,(Lit.int j_ x.id).wf=true
 ag: ∀ x∈p.ag,(Lit.int j_ x.id).wf=true∧x.text.size≤1048576
 ae: ∀ x∈p.ae,(Lit.int j_ x.id).wf=true∧x.Ma.length≤1048576∧ ∀ s∈x.Ma,s.size≤1048576
 ai: ∀ x∈p.ai,(Lit.int j_ x.id).wf=true∧x.Ma.length≤1048576∧ ∀ s∈x.Ma,s.size≤1048576
section
variable {p:af}
theorem gv (h:p.pure.Small):p.dX:=by
 have h1:=h.dl;have h2:=h.cb;have h3:=h.dH;simp only [af.pure,KG] at h1 h2 h3;exact ⟨h1,h.fx,h.cD,h.cC,h2,h3⟩
theorem cY (h:p.pure.Small) {x:ao} (hx:x∈p.L8):x.dX∧x.Wf:=by
 have:=h.L8 x.toaD (Lr.2 ⟨x,hx,rfl⟩)
 exact ⟨⟨this.1.1,this.1.2.1,this.1.2.2.1,this.1.2.2.2⟩,⟨this.2.1,this.2.2.1,this.2.2.2⟩⟩
theorem nO (h:p.pure.Small) {x:au} (hx:x∈p.ae):(Lit.int j_ x.id).wf=true∧x.Ma.length≤1048576∧ ∀ s∈x.Ma,s.size≤1048576:=h.ae x.toci (Lr.2 ⟨x,hx,rfl⟩)
theorem qf (h:p.pure.Small) {x:aM} (hx:x∈p.ai):(Lit.int j_ x.id).wf=true∧x.Ma.length≤1048576∧ ∀ s∈x.Ma,s.size≤1048576:=h.ai x.todS (Lr.2 ⟨x,hx,rfl⟩)
theorem dV (h:p.pure.Small):p.Fit:=⟨gv h,fun b hb=>(h.ag b hb).2,fun _ hb=>(nO h hb).2,fun _ hb=>(qf h hb).2⟩
theorem uG (h:p.pure.Small) {w:w_} {base:Nat} (ho:ap w base p):p.Good w:=
 ⟨ho.at,gv h,fun _ hx=>cY h hx,h.aj,h.L9,h.ag,fun _ hx=>nO h hx,fun _ hx=>qf h hx,fun x hx _ hk=>((ho.eI x hx).lt hk).2,fun x hx _ hk=>((ho.eE x hx).lt hk).2,fun x hx _ hk=>((ho.eR x hx).lt hk).2⟩
end
def fV (lo:Nat) (F:w_→Prop) (W:w_):Prop:= ∀ W',(∀ g,lo≤g→g < W.heap.size→W'.heap[g]? =W.heap[g]?)→W.heap.size≤W'.heap.size→F W'
theorem fV.here {lo:Nat} {F:w_→Prop} {W:w_} (h:fV lo F W):F W:=h W (fun _ _ _=>rfl) (Ki _)
theorem fV.step {lo:Nat} {F:w_→Prop} {W W1:w_} (h:fV lo F W) (hs: ∀ g,lo≤g→g < W.heap.size→W1.heap[g]? =W.heap[g]?) (hz:W.heap.size≤W1.heap.size):fV lo F W1:=fun W' h' hz'=>
 h W' (fun g h1 h2=>(h' g h1 (by omega)).trans (hs g h1 h2)) (by omega)
theorem dK {lo i:Nat} {F:w_→Prop} {W w1:w_} {v:v_} (h:fV (lo+1) F W) (hb:B_ W.heap.size W w1):fV (lo+1) F (w1.setCell ⟨lo,i,n_⟩ v):=
 h.step (fun g h1 h2=>(K6 w1 _ v g (by show ¬ g=lo; omega)).trans (hb.block g h2)) (by have:=hb.size; simp [World.setCell]; omega)
end
section
open Go.RowKit
attribute [local go_sem ↓] Kc Kd
def AT (l:List dN):Prop:=l.length≤1048576∧ ∀ x∈l,x.2.2.2.size≤1048576
theorem Io (a:Option d_) (l:List dN) (cap:Nat) (left:Int) (w:w_) (hl:l.length≤maxLen) (hc:fk.ep w a l) (hs: ∀ x∈l,(x.2.2.2.size≤maxLen)) (h0:0≤left) (h1:left≤1048576):
  k_ J3 96 #[s_ a l.length cap,i_ j_ left] w fun e w'=>jZ w left (l.length) (AT l) e w':=by
 have hl':=hl;unfold maxLen at hl';by_cases hn:left - (l.length:Int) < 0
 ·go_enter func96,ntmps96
  exact ZaK
 have HC:Hid (fk.ep w a l∧ ∀ x∈l,(x.2.2.2.size≤maxLen)):=⟨hc,hs⟩
 clear hc hs hl
 go_enter func96,ntmps96
 go_wp2_with fail
 go_loopw [1,5] (fun q i wr=> ∃ (k:Nat) (r:Int),k≤l.length∧i=i_ j_ k∧q=i_ j_ r∧0≤r∧r≤left - (l.length:Int)∧Hid ((∀ x∈l.take k,(x.2.2.2.size≤1048576))∧B_ w.heap.size w wr)) (fun _ i _=>l.length - (intOf i).toNat)
 case atStart=>exact ⟨0,left - (l.length:Int),Ky _,rfl,rfl,by omega,by omega,⟨by simp,Kp _ _⟩⟩
 case round=>
  obtain ⟨k,r,hk,rfl,rfl,r0,r1,HA⟩:=hrel;by_cases hlt:k < l.length
  ·have i0:(0:Int)≤(k:Int):=by omega
   have i1:(k:Int) < (l.length:Int):=by omega
   obtain ⟨x,hx⟩: ∃ x,l[k]? =o_ x:=⟨_,Kz hlt⟩
   have hmem:=KA hx;obtain ⟨b,off,rfl,hat⟩:=(HC.I.1.below HA.I.2).at hx;have c0:wr.cell? ⟨b,off+k * 4,n_⟩=o_ (i_ j_ x.1):=hat 0 _ rfl;have c1:wr.cell? ⟨b,off+k * 4+1,n_⟩=o_ (i_ j_ x.2.1):=hat 1 _ rfl;have c2:wr.cell? ⟨b,off+k * 4+2,n_⟩=o_ (i_ j_ x.2.2.1):=hat 2 _ rfl;have c3:wr.cell? ⟨b,off+k * 4+3,n_⟩=o_ (t_ x.2.2.2):=hat 3 _ rfl;have HX:Hid (l[k]? =o_ x∧(x.2.2.2.size≤maxLen)):=⟨hx,HC.I.2 x hmem⟩
   clear hx hmem hat;go_wp2_with fail;refine (GA x.1 x.2.1 x.2.2.1 x.2.2.2 r wr HX.I.2 r0 (by omega)).mono ?_;rintro e w1 ⟨rfl,hb1⟩;have fQ:Hid (B_ w.heap.size w w1):=HA.I.2.trans (hb1.mono HA.I.2.size);clear hb1 c0 c1 c2 c3;by_cases hsz:r < x.2.2.2.size
   ·rw [Bj hsz]
    go_wp2;go_ret;exact cT fQ.I h0
   rw [AQ (by omega)];have hnn: ¬ r - (x.2.2.2.size:Int) < 0:=by omega
   go_wp2;go_roundw
   case rel=>exact ⟨k+1,r - x.2.2.2.size,by omega,by go_num,rfl,by omega,by omega,⟨nE HX.I.1 HA.I.1 (by omega),fQ.I⟩⟩
   case measure=>simp [intOf]; omega
  ·have i1: ¬ (k:Int) < (l.length:Int):=by omega
   go_wp2;go_ret;exact ⟨r,rfl,by omega,by omega,fun _=>⟨(show AT l from ⟨by omega,po (by omega) HA.I.1⟩),by omega⟩,HA.I.2⟩
theorem infoOp:(Tryz.prog.info? 165).map (fun i=>(i.zero,i.size,decide (i.bytes≤1000)))=o_ (o_ (a_ #[i_ j_ 0,i_ j_ 0,i_ j_ 0,t_ ⟨#[]⟩]),4,true):=by kernel_rfl
theorem makeOp (n:Nat) (hn:n≤1048576) (w:w_):
  (Instr.makeSlice 98 (i_ j_ (n:Int)) (i_ j_ (n:Int))).run J3 w= .ok (s_ (o_ ⟨w.heap.size,0,n_⟩) n n) (w.alloc (c_ (madeCells #[i_ j_ 0,i_ j_ 0,i_ j_ 0,t_ ⟨#[]⟩] (n * 4)) 165)):=by
 obtain ⟨i,hi,e⟩:=Kw.1 infoOp;simp only [Kx,decide_eq_true_eq] at e;obtain ⟨e1,e2,e3⟩:=e;have hby:n * i.bytes≤1048576 * 1000:=acA hn e3
 have:=aep (P:=J3) w 98 165 i _ underlying98 hi e1 j_ j_ n n (by omega) (by omega) ZcX (by omega)
 exact ZaU
theorem Jc (a:Option d_) (l:List dN) (cap:Nat) (w:w_) (hl:l.length≤1048576) (hc:fk.ep w a l):
  k_ J3 110 #[s_ a l.length cap] w fun e w'=>e=r_ (s_ (o_ ⟨w.heap.size,0,n_⟩) l.length l.length)∧w'.ownsRow w.heap.size 165 4 (s_ (o_ ⟨w.heap.size,0,n_⟩) l.length l.length) l.length (fk.flat l)∧B_ w.heap.size w w':=by
 have hmk:=makeOp l.length hl;have HC:Hid (fk.ep w a l):=hc;have HF:Hid (gb fk 165 w (w.alloc (c_ (madeCells #[i_ j_ 0,i_ j_ 0,i_ j_ 0,t_ ⟨#[]⟩] (l.length * 4)) 165)) l.length []):=gb.start Zdi;clear hc
 go_enter func110,ntmps110
 go_wp2_with fail
 go_loopw [4] (fun i wr=> ∃ k:Nat,k≤l.length∧i=i_ j_ k∧Hid (gb fk 165 w wr l.length (l.take k))) (fun i _=>l.length - (intOf i).toNat)
 case atStart=>exact ⟨0,Ky _,rfl,HF.I⟩
 case round=>
  clear hmk HF;obtain ⟨k,hk,rfl,HR⟩:=hrel;by_cases hlt:k < l.length
  ·have i0:(0:Int)≤(k:Int):=by omega
   have i1:(k:Int) < (l.length:Int):=by omega
   obtain ⟨x,hx⟩: ∃ x,l[k]? =o_ x:=⟨_,Kz hlt⟩
   obtain ⟨b,off,rfl,hat⟩:=(HC.I.below HR.I.cd).at hx;have c0:wr.cell? ⟨b,off+k * 4,n_⟩=o_ (i_ j_ x.1):=hat 0 _ rfl;have c1:wr.cell? ⟨b,off+k * 4+1,n_⟩=o_ (i_ j_ x.2.1):=hat 1 _ rfl;have c2:wr.cell? ⟨b,off+k * 4+2,n_⟩=o_ (i_ j_ x.2.2.1):=hat 2 _ rfl;have c3:wr.cell? ⟨b,off+k * 4+3,n_⟩=o_ (t_ x.2.2.2):=hat 3 _ rfl;have HX:Hid (l[k]? =o_ x):=hx;have hfl:=HR.I.lt;clear hx hat;go_wp2_with fail;refine (Hg x.1 x.2.1 x.2.2.1 x.2.2.2 wr).mono ?_;rintro e w1 ⟨rfl,hb1⟩;have pG:Hid (gb fk 165 w w1 l.length (l.take k)):=HR.I.below hb1;obtain ⟨⟨u,hu⟩,hf⟩:=pG.I.at;have d0:=hu (k * 4) (by show k * 4 < l.length * 4; omega);have f0:=hf (k * 4);have d1:=hu (k * 4+1) (by show k * 4+1 < l.length * 4; omega);have f1:=hf (k * 4+1);have d2:=hu (k * 4+2) (by show k * 4+2 < l.length * 4; omega);have f2:=hf (k * 4+2);have d3:=hu (k * 4+3) (by show k * 4+3 < l.length * 4; omega);have f3:=hf (k * 4+3);have HS:Hid (gb fk 165 w ((((w1.setCell ⟨w.heap.size,k * 4,n_⟩ (i_ j_ x.1)).setCell ⟨w.heap.size,k * 4+1,n_⟩ (i_ j_ x.2.1)).setCell ⟨w.heap.size,k * 4+2,n_⟩ (i_ j_ x.2.2.1)).setCell ⟨w.heap.size,k * 4+3,n_⟩ (t_ x.2.2.2)) l.length (l.take (k+1))):=by
    have h5:=pG.I.more ZdH x;rw [← cj HX.I,Lk,ac3 hk,show fk.vals x= [i_ j_ x.1,i_ j_ x.2.1,i_ j_ x.2.2.1,t_ x.2.2.2] from rfl,show fk.n=4 from rfl] at h5;exact ZbU
   clear hu hf hb1 HR pG c0 c1 c2 c3;exact PM
  ·exact tl
def Hk (w:w_) (a a':Option d_) (l:List dN) (x:dN) (g g' k:Nat) (w':w_):Prop:=((w'.cell? ⟨g,k * 4,n_⟩=o_ (i_ j_ x.1)∧w'.cell? ⟨g,k * 4+1,n_⟩=o_ (i_ j_ x.2.1)∧w'.cell? ⟨g,k * 4+2,n_⟩=o_ (i_ j_ x.2.2.1)∧w'.cell? ⟨g,k * 4+3,n_⟩=o_ (t_ x.2.2.2))∧(w'.cell? ⟨g',k * 4,n_⟩=o_ (i_ j_ x.1)∧w'.cell? ⟨g',k * 4+1,n_⟩=o_ (i_ j_ x.2.1)∧w'.cell? ⟨g',k * 4+2,n_⟩=o_ (i_ j_ x.2.2.1)∧w'.cell? ⟨g',k * 4+3,n_⟩=o_ (t_ x.2.2.2)))∧Hid (fk.bU w' a l∧fk.bU w' a' l∧B_ w.heap.size w w')
theorem ux {w w':w_} {a a':Option d_} {l:List dN} {x:dN} {g g' k:Nat} (ha:a=o_ ⟨g,0,n_⟩) (ha':a'=o_ ⟨g',0,n_⟩) (hx:l[k]? =o_ x) (h:fk.bU w' a l∧fk.bU w' a' l∧B_ w.heap.size w w'):Hk w a a' l x g g' k w':=by
 obtain ⟨g1,e1,h1⟩:=h.1.at hx;obtain ⟨g2,e2,h2⟩:=h.2.1.at hx;rw [ha] at e1;rw [ha'] at e2;cases e1;cases e2;exact ⟨⟨⟨h1 0 _ rfl,h1 1 _ rfl,h1 2 _ rfl,h1 3 _ rfl⟩,⟨h2 0 _ rfl,h2 1 _ rfl,h2 2 _ rfl,h2 3 _ rfl⟩⟩,h⟩
theorem I6 (a a':Option d_) (l:List dN) (cap cap':Nat) (w:w_) (hl:l.length≤1048576) (h:fk.bU w a l) (h':fk.bU w a' l):
  k_ J3 112 #[s_ a l.length cap,s_ a' l.length cap'] w fun e w'=>e=r_ (b_ true)∧B_ w.heap.size w w':=by
 have HL:Hid (fk.bU w a l∧fk.bU w a' l):=⟨h,h'⟩
 clear h h'
 go_enter func112,ntmps112
 go_wp2_with fail
 go_loopw [5] (fun i wr=> ∃ k:Nat,k≤l.length∧i=i_ j_ k∧Hid (B_ w.heap.size w wr)) (fun i _=>l.length - (intOf i).toNat)
 case atStart=>exact ⟨0,Ky _,rfl,Kp _ _⟩
 case round=>
  obtain ⟨k,hk,rfl,HB⟩:=hrel;by_cases hlt:k < l.length
  ·have i0:(0:Int)≤(k:Int):=by omega
   have i1:(k:Int) < (l.length:Int):=by omega
   obtain ⟨x,hx⟩: ∃ x,l[k]? =o_ x:=⟨_,Kz hlt⟩
   obtain ⟨g,ha,-⟩:=HL.I.1.at hx;obtain ⟨g',ha',-⟩:=HL.I.2.at hx;have HX:Hid (a=o_ ⟨g,0,n_⟩∧a'=o_ ⟨g',0,n_⟩∧l[k]? =o_ x):=⟨ha,ha',hx⟩
   have HS:Hid (Hk w a a' l x g g' k wr):=ux ha ha' hx ⟨HL.I.1.below HB.I,HL.I.2.below HB.I,HB.I⟩;clear hx;rw [ha,ha'];clear ha ha';go_wp2_with fail;refine aT (Hk w a a' l x g g' k) ZcR (ux HX.I.1 HX.I.2.1 HX.I.2.2 ⟨HS.I.2.I.1.below (Kp _ _).drew,HS.I.2.I.2.1.below (Kp _ _).drew,HS.I.2.I.2.2.drew⟩) ?_
   iterate 8 (refine PI ?_ (hy:=fun w0 hS0=>by obtain ⟨⟨⟨q0,q1,q2,q3⟩,⟨r0,r1,r2,r3⟩⟩,hH⟩:=hS0; go_simp; try with_reducible rfl))
   refine cl (b_ true) 151 #[a_ #[i_ j_ x.1,i_ j_ x.2.1,i_ j_ x.2.2.1,t_ x.2.2.2],a_ #[i_ j_ x.1,i_ j_ x.2.1,i_ j_ x.2.2.1,t_ x.2.2.2]] ?_ ?_ ?_
   ·intro w0 hS0
    obtain ⟨⟨⟨q0,q1,q2,q3⟩,⟨r0,r1,r2,r3⟩⟩,hH⟩:=hS0
    exact wl
   ·intro w0 hS0
    refine (EN x.1 x.2.1 x.2.2.1 x.2.2.2 w0).mono ?_;rintro e w2 ⟨rfl,hb2⟩;exact ⟨rfl,ux HX.I.1 HX.I.2.1 HX.I.2.2 ⟨hS0.2.I.1.below hb2,hS0.2.I.2.1.below hb2,hS0.2.I.2.2.trans (hb2.mono hS0.2.I.2.2.size)⟩⟩
   simp only [pt,sb,s0,s1]
   (refine PI ?_ (hy:=fun w0 hS0=>by obtain ⟨⟨⟨q0,q1,q2,q3⟩,⟨r0,r1,r2,r3⟩⟩,hH⟩:=hS0; go_simp; try with_reducible rfl))
   exact rg
  ·exact BT
theorem Hq (a:Option d_) (l:List bD) (cap:Nat) (left:Int) (w:w_) (hl:l.length≤maxLen) (h0:0≤left) (h1:left≤1048576):
  k_ J3 15 #[s_ a l.length cap,i_ j_ left] w fun e w'=>jZ w left (l.length) (l.length≤1048576) e w':=by
 have hl':=hl;unfold maxLen at hl';by_cases hn:left - (l.length:Int) < 0
 ·go_enter func15,ntmps15
  exact ZaK
 go_enter func15,ntmps15
 exact ZbB
theorem Ja (x:bD) (w:w_):k_ J3 62 #[a_ #[i_ j_ x.id,i_ j_ x.n,i_ j_ x.max]] w fun e w'=>e=r_ (a_ #[i_ j_ x.id,i_ j_ x.n,i_ j_ x.max])∧B_ w.heap.size w w':=by
 go_enter func62,ntmps62
 go_wp2;exact KT (v:=a_ #[i_ j_ x.id,i_ j_ x.n,i_ j_ x.max]) (by simp [results,results62,go_sem]) rfl ⟨rfl,by go_grown⟩
theorem Im:(Tryz.prog.info? 105).map (fun i=>(i.zero,i.size,decide (i.bytes≤1000)))=o_ (o_ (a_ #[i_ j_ 0,i_ j_ 0,i_ j_ 0]),3,true):=by kernel_rfl
theorem Ir (n:Nat) (hn:n≤1048576) (w:w_):
  (Instr.makeSlice 32 (i_ j_ (n:Int)) (i_ j_ (n:Int))).run J3 w= .ok (s_ (o_ ⟨w.heap.size,0,n_⟩) n n) (w.alloc (c_ (madeCells #[i_ j_ 0,i_ j_ 0,i_ j_ 0] (n * 3)) 105)):=by
 obtain ⟨i,hi,e⟩:=Kw.1 Im;simp only [Kx,decide_eq_true_eq] at e;obtain ⟨e1,e2,e3⟩:=e;have hby:n * i.bytes≤1048576 * 1000:=acA hn e3
 have:=aep (P:=J3) w 32 105 i _ underlying32 hi e1 j_ j_ n n (by omega) (by omega) ZcX (by omega)
 exact ZaU
theorem Hf (a:Option d_) (l:List bD) (cap:Nat) (w:w_) (hl:l.length≤1048576) (hc:dm.ep w a l):
  k_ J3 25 #[s_ a l.length cap] w fun e w'=>e=r_ (s_ (o_ ⟨w.heap.size,0,n_⟩) l.length l.length)∧w'.ownsRow w.heap.size 105 3 (s_ (o_ ⟨w.heap.size,0,n_⟩) l.length l.length) l.length (dm.flat l)∧B_ w.heap.size w w':=by
 have hmk:=Ir l.length hl;have HC:Hid (dm.ep w a l):=hc;have HF:Hid (gb dm 105 w (w.alloc (c_ (madeCells #[i_ j_ 0,i_ j_ 0,i_ j_ 0] (l.length * 3)) 105)) l.length []):=gb.start Zdi;clear hc
 go_enter func25,ntmps25
 go_wp2_with fail
 go_loopw [4] (fun i wr=> ∃ k:Nat,k≤l.length∧i=i_ j_ k∧Hid (gb dm 105 w wr l.length (l.take k))) (fun i _=>l.length - (intOf i).toNat)
 case atStart=>exact ⟨0,Ky _,rfl,HF.I⟩
 case round=>
  clear hmk HF;obtain ⟨k,hk,rfl,HR⟩:=hrel;by_cases hlt:k < l.length
  ·have i0:(0:Int)≤(k:Int):=by omega
   have i1:(k:Int) < (l.length:Int):=by omega
   obtain ⟨x,hx⟩: ∃ x,l[k]? =o_ x:=⟨_,Kz hlt⟩
   obtain ⟨b,off,rfl,hat⟩:=(HC.I.below HR.I.cd).at hx;have c0:wr.cell? ⟨b,off+k * 3,n_⟩=o_ (i_ j_ x.id):=hat 0 _ rfl;have c1:wr.cell? ⟨b,off+k * 3+1,n_⟩=o_ (i_ j_ x.n):=hat 1 _ rfl;have c2:wr.cell? ⟨b,off+k * 3+2,n_⟩=o_ (i_ j_ x.max):=hat 2 _ rfl;have HX:Hid (l[k]? =o_ x):=hx;have hfl:=HR.I.lt;clear hx hat;go_wp2_with fail;refine (Ja x wr).mono ?_;rintro e w1 ⟨rfl,hb1⟩;have pG:Hid (gb dm 105 w w1 l.length (l.take k)):=HR.I.below hb1;obtain ⟨⟨u,hu⟩,hf⟩:=pG.I.at;have d0:=hu (k * 3) ZdF;have f0:=hf (k * 3);have d1:=hu (k * 3+1) ZdB;have f1:=hf (k * 3+1);have d2:=hu (k * 3+2) ZdA;have f2:=hf (k * 3+2);have HS:Hid (gb dm 105 w (((w1.setCell ⟨w.heap.size,k * 3,n_⟩ (i_ j_ x.id)).setCell ⟨w.heap.size,k * 3+1,n_⟩ (i_ j_ x.n)).setCell ⟨w.heap.size,k * 3+2,n_⟩ (i_ j_ x.max)) l.length (l.take (k+1))):=by
    have h5:=pG.I.more ZdH x;rw [← cj HX.I,Lk,ac3 hk,show dm.vals x= [i_ j_ x.id,i_ j_ x.n,i_ j_ x.max] from rfl,show dm.n=3 from rfl] at h5;exact ZbU
   clear hu hf hb1 HR pG c0 c1 c2;exact PM
  ·exact tl
theorem Is (x:bD) (w:w_):k_ J3 68 #[a_ #[i_ j_ x.id,i_ j_ x.n,i_ j_ x.max],a_ #[i_ j_ x.id,i_ j_ x.n,i_ j_ x.max]] w fun e w'=>e=r_ (b_ true)∧B_ w.heap.size w w':=by
 go_enter func68,ntmps68
 exact Zbk
def Cy (w:w_) (a a':Option d_) (l:List bD) (x:bD) (g g' k:Nat) (w':w_):Prop:=((w'.cell? ⟨g,k * 3,n_⟩=o_ (i_ j_ x.id)∧w'.cell? ⟨g,k * 3+1,n_⟩=o_ (i_ j_ x.n)∧w'.cell? ⟨g,k * 3+2,n_⟩=o_ (i_ j_ x.max))∧(w'.cell? ⟨g',k * 3,n_⟩=o_ (i_ j_ x.id)∧w'.cell? ⟨g',k * 3+1,n_⟩=o_ (i_ j_ x.n)∧w'.cell? ⟨g',k * 3+2,n_⟩=o_ (i_ j_ x.max)))∧Hid (dm.bU w' a l∧dm.bU w' a' l∧B_ w.heap.size w w')
theorem sg {w w':w_} {a a':Option d_} {l:List bD} {x:bD} {g g' k:Nat} (ha:a=o_ ⟨g,0,n_⟩) (ha':a'=o_ ⟨g',0,n_⟩) (hx:l[k]? =o_ x) (h:dm.bU w' a l∧dm.bU w' a' l∧B_ w.heap.size w w'):Cy w a a' l x g g' k w':=by
 exact ZcJ
theorem Hr (a a':Option d_) (l:List bD) (cap cap':Nat) (w:w_) (hl:l.length≤1048576) (h:dm.bU w a l) (h':dm.bU w a' l):
  k_ J3 31 #[s_ a l.length cap,s_ a' l.length cap'] w fun e w'=>e=r_ (b_ true)∧B_ w.heap.size w w':=by
 have HL:Hid (dm.bU w a l∧dm.bU w a' l):=⟨h,h'⟩
 clear h h'
 go_enter func31,ntmps31
 go_wp2_with fail
 go_loopw [5] (fun i wr=> ∃ k:Nat,k≤l.length∧i=i_ j_ k∧Hid (B_ w.heap.size w wr)) (fun i _=>l.length - (intOf i).toNat)
 case atStart=>exact ⟨0,Ky _,rfl,Kp _ _⟩
 case round=>
  obtain ⟨k,hk,rfl,HB⟩:=hrel;by_cases hlt:k < l.length
  ·have i0:(0:Int)≤(k:Int):=by omega
   have i1:(k:Int) < (l.length:Int):=by omega
   obtain ⟨x,hx⟩: ∃ x,l[k]? =o_ x:=⟨_,Kz hlt⟩
   obtain ⟨g,ha,-⟩:=HL.I.1.at hx;obtain ⟨g',ha',-⟩:=HL.I.2.at hx;have HX:Hid (a=o_ ⟨g,0,n_⟩∧a'=o_ ⟨g',0,n_⟩∧l[k]? =o_ x):=⟨ha,ha',hx⟩
   have HS:Hid (Cy w a a' l x g g' k wr):=sg ha ha' hx ⟨HL.I.1.below HB.I,HL.I.2.below HB.I,HB.I⟩;clear hx;rw [ha,ha'];clear ha ha';go_wp2_with fail;refine aT (Cy w a a' l x g g' k) ZcR (sg HX.I.1 HX.I.2.1 HX.I.2.2 ⟨HS.I.2.I.1.below (Kp _ _).drew,HS.I.2.I.2.1.below (Kp _ _).drew,HS.I.2.I.2.2.drew⟩) ?_
   iterate 8 (refine PI ?_ (hy:=fun w0 hS0=>by obtain ⟨⟨⟨q0,q1,q2⟩,⟨r0,r1,r2⟩⟩,hH⟩:=hS0; go_simp; try with_reducible rfl))
   refine cl (b_ true) 68 #[a_ #[i_ j_ x.id,i_ j_ x.n,i_ j_ x.max],a_ #[i_ j_ x.id,i_ j_ x.n,i_ j_ x.max]] ?_ ?_ ?_
   ·exact Zcy
   ·intro w0 hS0
    refine (Is x w0).mono ?_;rintro e w2 ⟨rfl,hb2⟩;exact ⟨rfl,sg HX.I.1 HX.I.2.1 HX.I.2.2 ⟨hS0.2.I.1.below hb2,hS0.2.I.2.1.below hb2,hS0.2.I.2.2.trans (hb2.mono hS0.2.I.2.2.size)⟩⟩
   exact Zcp
  ·exact BT
theorem Dq (a:Option d_) (l:List aB) (cap:Nat) (left:Int) (w:w_) (hl:l.length≤maxLen) (h0:0≤left) (h1:left≤1048576):
  k_ J3 16 #[s_ a l.length cap,i_ j_ left] w fun e w'=>jZ w left (l.length) (l.length≤1048576) e w':=by
 have hl':=hl;unfold maxLen at hl';by_cases hn:left - (l.length:Int) < 0
 ·go_enter func16,ntmps16
  exact ZaK
 go_enter func16,ntmps16
 exact ZbB
theorem E8 (x:aB) (w:w_):k_ J3 63 #[a_ #[i_ j_ x.id,b_ x.up]] w fun e w'=>e=r_ (a_ #[i_ j_ x.id,b_ x.up])∧B_ w.heap.size w w':=by
 go_enter func63,ntmps63
 go_wp2;exact KT (v:=a_ #[i_ j_ x.id,b_ x.up]) (by simp [results,results63,go_sem]) rfl ⟨rfl,by go_grown⟩
theorem EB:(Tryz.prog.info? 109).map (fun i=>(i.zero,i.size,decide (i.bytes≤1000)))=o_ (o_ (a_ #[i_ j_ 0,b_ false]),2,true):=by kernel_rfl
theorem Fi (n:Nat) (hn:n≤1048576) (w:w_):
  (Instr.makeSlice 33 (i_ j_ (n:Int)) (i_ j_ (n:Int))).run J3 w= .ok (s_ (o_ ⟨w.heap.size,0,n_⟩) n n) (w.alloc (c_ (madeCells #[i_ j_ 0,b_ false] (n * 2)) 109)):=by
 obtain ⟨i,hi,e⟩:=Kw.1 EB;simp only [Kx,decide_eq_true_eq] at e;obtain ⟨e1,e2,e3⟩:=e;have hby:n * i.bytes≤1048576 * 1000:=acA hn e3
 have:=aep (P:=J3) w 33 109 i _ underlying33 hi e1 j_ j_ n n (by omega) (by omega) ZcX (by omega)
 exact ZaU
theorem Df (a:Option d_) (l:List aB) (cap:Nat) (w:w_) (hl:l.length≤1048576) (hc:bJ.ep w a l):
  k_ J3 26 #[s_ a l.length cap] w fun e w'=>e=r_ (s_ (o_ ⟨w.heap.size,0,n_⟩) l.length l.length)∧w'.ownsRow w.heap.size 109 2 (s_ (o_ ⟨w.heap.size,0,n_⟩) l.length l.length) l.length (bJ.flat l)∧B_ w.heap.size w w':=by
 have hmk:=Fi l.length hl;have HC:Hid (bJ.ep w a l):=hc;have HF:Hid (gb bJ 109 w (w.alloc (c_ (madeCells #[i_ j_ 0,b_ false] (l.length * 2)) 109)) l.length []):=gb.start Zdi;clear hc
 go_enter func26,ntmps26
 go_wp2_with fail
 go_loopw [4] (fun i wr=> ∃ k:Nat,k≤l.length∧i=i_ j_ k∧Hid (gb bJ 109 w wr l.length (l.take k))) (fun i _=>l.length - (intOf i).toNat)
 case atStart=>exact ⟨0,Ky _,rfl,HF.I⟩
 case round=>
  clear hmk HF;obtain ⟨k,hk,rfl,HR⟩:=hrel;by_cases hlt:k < l.length
  ·have i0:(0:Int)≤(k:Int):=by omega
   have i1:(k:Int) < (l.length:Int):=by omega
   obtain ⟨x,hx⟩: ∃ x,l[k]? =o_ x:=⟨_,Kz hlt⟩
   obtain ⟨b,off,rfl,hat⟩:=(HC.I.below HR.I.cd).at hx;have c0:wr.cell? ⟨b,off+k * 2,n_⟩=o_ (i_ j_ x.id):=hat 0 _ rfl;have c1:wr.cell? ⟨b,off+k * 2+1,n_⟩=o_ (b_ x.up):=hat 1 _ rfl;have HX:Hid (l[k]? =o_ x):=hx;have hfl:=HR.I.lt;clear hx hat;go_wp2_with fail;refine (E8 x wr).mono ?_;rintro e w1 ⟨rfl,hb1⟩;have pG:Hid (gb bJ 109 w w1 l.length (l.take k)):=HR.I.below hb1;obtain ⟨⟨u,hu⟩,hf⟩:=pG.I.at;have d0:=hu (k * 2) (by show k * 2 < l.length * 2; omega);have f0:=hf (k * 2);have d1:=hu (k * 2+1) (by show k * 2+1 < l.length * 2; omega);have f1:=hf (k * 2+1);have HS:Hid (gb bJ 109 w ((w1.setCell ⟨w.heap.size,k * 2,n_⟩ (i_ j_ x.id)).setCell ⟨w.heap.size,k * 2+1,n_⟩ (b_ x.up)) l.length (l.take (k+1))):=by
    have h5:=pG.I.more ZdH x;rw [← cj HX.I,Lk,ac3 hk,show bJ.vals x= [i_ j_ x.id,b_ x.up] from rfl,show bJ.n=2 from rfl] at h5;simp only [bn] at h5;exact h5
   clear hu hf hb1 HR pG c0 c1;exact PM
  ·exact tl
theorem E6 (x:aB) (w:w_):k_ J3 69 #[a_ #[i_ j_ x.id,b_ x.up],a_ #[i_ j_ x.id,b_ x.up]] w fun e w'=>e=r_ (b_ true)∧B_ w.heap.size w w':=by
 go_enter func69,ntmps69
 exact Zbk
def vo (w:w_) (a a':Option d_) (l:List aB) (x:aB) (g g' k:Nat) (w':w_):Prop:=((w'.cell? ⟨g,k * 2,n_⟩=o_ (i_ j_ x.id)∧w'.cell? ⟨g,k * 2+1,n_⟩=o_ (b_ x.up))∧(w'.cell? ⟨g',k * 2,n_⟩=o_ (i_ j_ x.id)∧w'.cell? ⟨g',k * 2+1,n_⟩=o_ (b_ x.up)))∧Hid (bJ.bU w' a l∧bJ.bU w' a' l∧B_ w.heap.size w w')
theorem oW {w w':w_} {a a':Option d_} {l:List aB} {x:aB} {g g' k:Nat} (ha:a=o_ ⟨g,0,n_⟩) (ha':a'=o_ ⟨g',0,n_⟩) (hx:l[k]? =o_ x) (h:bJ.bU w' a l∧bJ.bU w' a' l∧B_ w.heap.size w w'):vo w a a' l x g g' k w':=by
 obtain ⟨g1,e1,h1⟩:=h.1.at hx;obtain ⟨g2,e2,h2⟩:=h.2.1.at hx;rw [ha] at e1;rw [ha'] at e2;cases e1;cases e2;exact ⟨⟨⟨h1 0 _ rfl,h1 1 _ rfl⟩,⟨h2 0 _ rfl,h2 1 _ rfl⟩⟩,h⟩
theorem CI (a a':Option d_) (l:List aB) (cap cap':Nat) (w:w_) (hl:l.length≤1048576) (h:bJ.bU w a l) (h':bJ.bU w a' l):
  k_ J3 32 #[s_ a l.length cap,s_ a' l.length cap'] w fun e w'=>e=r_ (b_ true)∧B_ w.heap.size w w':=by
 have HL:Hid (bJ.bU w a l∧bJ.bU w a' l):=⟨h,h'⟩
 clear h h'
 go_enter func32,ntmps32
 go_wp2_with fail
 go_loopw [5] (fun i wr=> ∃ k:Nat,k≤l.length∧i=i_ j_ k∧Hid (B_ w.heap.size w wr)) (fun i _=>l.length - (intOf i).toNat)
 case atStart=>exact ⟨0,Ky _,rfl,Kp _ _⟩
 case round=>
  obtain ⟨k,hk,rfl,HB⟩:=hrel;by_cases hlt:k < l.length
  ·have i0:(0:Int)≤(k:Int):=by omega
   have i1:(k:Int) < (l.length:Int):=by omega
   obtain ⟨x,hx⟩: ∃ x,l[k]? =o_ x:=⟨_,Kz hlt⟩
   obtain ⟨g,ha,-⟩:=HL.I.1.at hx;obtain ⟨g',ha',-⟩:=HL.I.2.at hx;have HX:Hid (a=o_ ⟨g,0,n_⟩∧a'=o_ ⟨g',0,n_⟩∧l[k]? =o_ x):=⟨ha,ha',hx⟩
   have HS:Hid (vo w a a' l x g g' k wr):=oW ha ha' hx ⟨HL.I.1.below HB.I,HL.I.2.below HB.I,HB.I⟩;clear hx;rw [ha,ha'];clear ha ha';go_wp2_with fail;refine aT (vo w a a' l x g g' k) ZcR (oW HX.I.1 HX.I.2.1 HX.I.2.2 ⟨HS.I.2.I.1.below (Kp _ _).drew,HS.I.2.I.2.1.below (Kp _ _).drew,HS.I.2.I.2.2.drew⟩) ?_
   iterate 8 (refine PI ?_ (hy:=fun w0 hS0=>by obtain ⟨⟨⟨q0,q1⟩,⟨r0,r1⟩⟩,hH⟩:=hS0; go_simp; try with_reducible rfl))
   refine cl (b_ true) 69 #[a_ #[i_ j_ x.id,b_ x.up],a_ #[i_ j_ x.id,b_ x.up]] ?_ ?_ ?_
   ·intro w0 hS0
    obtain ⟨⟨⟨q0,q1⟩,⟨r0,r1⟩⟩,hH⟩:=hS0
    exact wl
   ·intro w0 hS0
    refine (E6 x w0).mono ?_;rintro e w2 ⟨rfl,hb2⟩;exact ⟨rfl,oW HX.I.1 HX.I.2.1 HX.I.2.2 ⟨hS0.2.I.1.below hb2,hS0.2.I.2.1.below hb2,hS0.2.I.2.2.trans (hb2.mono hS0.2.I.2.2.size)⟩⟩
   simp only [pt,sb,s0,s1]
   (refine PI ?_ (hy:=fun w0 hS0=>by obtain ⟨⟨⟨q0,q1⟩,⟨r0,r1⟩⟩,hH⟩:=hS0; go_simp; try with_reducible rfl))
   exact rg
  ·exact BT
theorem Ft (x:az) (left:Int) (w:w_) (hb:(x.text.size≤maxLen)) (h0:0≤left) (h1:left≤1048576):
  k_ J3 53 #[a_ #[i_ j_ x.id,b_ x.shown,t_ x.text],i_ j_ left] w fun e w'=>jZ w left (0) ((x.text.size≤1048576)) e w':=by
 have HB:Hid ((x.text.size≤maxLen)):=hb;have HW:Hid (B_ w.heap.size w (w.alloc (c_ #[i_ j_ x.id,b_ x.shown,t_ x.text] 89))):=(Kp _ _).alloc (Ki _) _;clear hb
 go_enter func53,ntmps53
 have z0:x.text.size≤9223372036854775807:=HB.I;by_cases s0:left - (x.text.size:Int) < 0
 ·go_wp2
  go_ret;exact cT HW.I h0
 go_wp2;go_ret;exact ⟨left - (x.text.size:Int),rfl,by omega,by omega,fun _=>⟨by omega,by omega⟩,HW.I⟩
theorem C4 (a:Option d_) (l:List az) (cap:Nat) (left:Int) (w:w_) (hl:l.length≤maxLen) (hc:bG.ep w a l) (hs: ∀ x∈l,(x.text.size≤maxLen)) (h0:0≤left) (h1:left≤1048576):
  k_ J3 17 #[s_ a l.length cap,i_ j_ left] w fun e w'=>jZ w left (l.length) (l.length≤1048576∧ ∀ x∈l,(x.text.size≤1048576)) e w':=by
 have hl':=hl;unfold maxLen at hl';by_cases hn:left - (l.length:Int) < 0
 ·go_enter func17,ntmps17
  exact ZaK
 have HC:Hid (bG.ep w a l∧ ∀ x∈l,(x.text.size≤maxLen)):=⟨hc,hs⟩
 clear hc hs hl
 go_enter func17,ntmps17
 go_wp2_with fail
 go_loopw [1,5] (fun q i wr=> ∃ (k:Nat) (r:Int),k≤l.length∧i=i_ j_ k∧q=i_ j_ r∧0≤r∧r≤left - (l.length:Int)∧Hid ((∀ x∈l.take k,(x.text.size≤1048576))∧B_ w.heap.size w wr)) (fun _ i _=>l.length - (intOf i).toNat)
 case atStart=>exact ⟨0,left - (l.length:Int),Ky _,rfl,rfl,by omega,by omega,⟨by simp,Kp _ _⟩⟩
 case round=>
  obtain ⟨k,r,hk,rfl,rfl,r0,r1,HA⟩:=hrel;by_cases hlt:k < l.length
  ·have i0:(0:Int)≤(k:Int):=by omega
   have i1:(k:Int) < (l.length:Int):=by omega
   obtain ⟨x,hx⟩: ∃ x,l[k]? =o_ x:=⟨_,Kz hlt⟩
   have hmem:=KA hx;obtain ⟨b,off,rfl,hat⟩:=(HC.I.1.below HA.I.2).at hx;have c0:wr.cell? ⟨b,off+k * 3,n_⟩=o_ (i_ j_ x.id):=hat 0 _ rfl;have c1:wr.cell? ⟨b,off+k * 3+1,n_⟩=o_ (b_ x.shown):=hat 1 _ rfl;have c2:wr.cell? ⟨b,off+k * 3+2,n_⟩=o_ (t_ x.text):=hat 2 _ rfl;have HX:Hid (l[k]? =o_ x∧(x.text.size≤maxLen)):=⟨hx,HC.I.2 x hmem⟩
   clear hx hmem hat;go_wp2_with fail;refine (Ft x r wr HX.I.2 r0 (by omega)).mono ?_;rintro e w1 ⟨r2,rfl,q0,q1,q2,hb1⟩;have fQ:Hid (B_ w.heap.size w w1∧(0≤r2→(x.text.size≤1048576)∧r2+(0:Nat)≤r)):=⟨HA.I.2.trans (hb1.mono HA.I.2.size),q2⟩
   clear hb1 q2 c0 c1 c2;by_cases hneg:r2 < 0
   ·go_wp2
    go_ret;exact cT fQ.I.1 h0
   go_wp2;go_roundw
   case rel=>exact ⟨k+1,r2,by omega,by go_num,rfl,by omega,by omega,⟨nE HX.I.1 HA.I.1 (fQ.I.2 (by omega)).1,fQ.I.1⟩⟩
   case measure=>simp [intOf]; omega
  ·exact ZaY
theorem EQ (x:az) (w:w_):k_ J3 64 #[a_ #[i_ j_ x.id,b_ x.shown,t_ x.text]] w fun e w'=>e=r_ (a_ #[i_ j_ x.id,b_ x.shown,t_ x.text])∧B_ w.heap.size w w':=by
 go_enter func64,ntmps64
 go_wp2;exact KT (v:=a_ #[i_ j_ x.id,b_ x.shown,t_ x.text]) (by simp [results,results64,go_sem]) rfl ⟨rfl,by go_grown⟩
theorem EM:(Tryz.prog.info? 112).map (fun i=>(i.zero,i.size,decide (i.bytes≤1000)))=o_ (o_ (a_ #[i_ j_ 0,b_ false,t_ ⟨#[]⟩]),3,true):=by kernel_rfl
theorem Ex (n:Nat) (hn:n≤1048576) (w:w_):
  (Instr.makeSlice 34 (i_ j_ (n:Int)) (i_ j_ (n:Int))).run J3 w= .ok (s_ (o_ ⟨w.heap.size,0,n_⟩) n n) (w.alloc (c_ (madeCells #[i_ j_ 0,b_ false,t_ ⟨#[]⟩] (n * 3)) 112)):=by
 obtain ⟨i,hi,e⟩:=Kw.1 EM;simp only [Kx,decide_eq_true_eq] at e;obtain ⟨e1,e2,e3⟩:=e;have hby:n * i.bytes≤1048576 * 1000:=acA hn e3
 have:=aep (P:=J3) w 34 112 i _ underlying34 hi e1 j_ j_ n n (by omega) (by omega) ZcX (by omega)
 exact ZaU
theorem CQ (a:Option d_) (l:List az) (cap:Nat) (w:w_) (hl:l.length≤1048576) (hc:bG.ep w a l):
  k_ J3 27 #[s_ a l.length cap] w fun e w'=>e=r_ (s_ (o_ ⟨w.heap.size,0,n_⟩) l.length l.length)∧w'.ownsRow w.heap.size 112 3 (s_ (o_ ⟨w.heap.size,0,n_⟩) l.length l.length) l.length (bG.flat l)∧B_ w.heap.size w w':=by
 have hmk:=Ex l.length hl;have HC:Hid (bG.ep w a l):=hc;have HF:Hid (gb bG 112 w (w.alloc (c_ (madeCells #[i_ j_ 0,b_ false,t_ ⟨#[]⟩] (l.length * 3)) 112)) l.length []):=gb.start Zdi;clear hc
 go_enter func27,ntmps27
 go_wp2_with fail
 go_loopw [4] (fun i wr=> ∃ k:Nat,k≤l.length∧i=i_ j_ k∧Hid (gb bG 112 w wr l.length (l.take k))) (fun i _=>l.length - (intOf i).toNat)
 case atStart=>exact ⟨0,Ky _,rfl,HF.I⟩
 case round=>
  clear hmk HF;obtain ⟨k,hk,rfl,HR⟩:=hrel;by_cases hlt:k < l.length
  ·have i0:(0:Int)≤(k:Int):=by omega
   have i1:(k:Int) < (l.length:Int):=by omega
   obtain ⟨x,hx⟩: ∃ x,l[k]? =o_ x:=⟨_,Kz hlt⟩
   obtain ⟨b,off,rfl,hat⟩:=(HC.I.below HR.I.cd).at hx;have c0:wr.cell? ⟨b,off+k * 3,n_⟩=o_ (i_ j_ x.id):=hat 0 _ rfl;have c1:wr.cell? ⟨b,off+k * 3+1,n_⟩=o_ (b_ x.shown):=hat 1 _ rfl;have c2:wr.cell? ⟨b,off+k * 3+2,n_⟩=o_ (t_ x.text):=hat 2 _ rfl;have HX:Hid (l[k]? =o_ x):=hx;have hfl:=HR.I.lt;clear hx hat;go_wp2_with fail;refine (EQ x wr).mono ?_;rintro e w1 ⟨rfl,hb1⟩;have pG:Hid (gb bG 112 w w1 l.length (l.take k)):=HR.I.below hb1;obtain ⟨⟨u,hu⟩,hf⟩:=pG.I.at;have d0:=hu (k * 3) ZdF;have f0:=hf (k * 3);have d1:=hu (k * 3+1) ZdB;have f1:=hf (k * 3+1);have d2:=hu (k * 3+2) ZdA;have f2:=hf (k * 3+2);have HS:Hid (gb bG 112 w (((w1.setCell ⟨w.heap.size,k * 3,n_⟩ (i_ j_ x.id)).setCell ⟨w.heap.size,k * 3+1,n_⟩ (b_ x.shown)).setCell ⟨w.heap.size,k * 3+2,n_⟩ (t_ x.text)) l.length (l.take (k+1))):=by
    have h5:=pG.I.more ZdH x;rw [← cj HX.I,Lk,ac3 hk,show bG.vals x= [i_ j_ x.id,b_ x.shown,t_ x.text] from rfl,show bG.n=3 from rfl] at h5;exact ZbU
   clear hu hf hb1 HR pG c0 c1 c2;exact PM
  ·exact tl
theorem EW (x:az) (w:w_):k_ J3 70 #[a_ #[i_ j_ x.id,b_ x.shown,t_ x.text],a_ #[i_ j_ x.id,b_ x.shown,t_ x.text]] w fun e w'=>e=r_ (b_ true)∧B_ w.heap.size w w':=by
 go_enter func70,ntmps70
 exact Zbk
def uF (w:w_) (a a':Option d_) (l:List az) (x:az) (g g' k:Nat) (w':w_):Prop:=((w'.cell? ⟨g,k * 3,n_⟩=o_ (i_ j_ x.id)∧w'.cell? ⟨g,k * 3+1,n_⟩=o_ (b_ x.shown)∧w'.cell? ⟨g,k * 3+2,n_⟩=o_ (t_ x.text))∧(w'.cell? ⟨g',k * 3,n_⟩=o_ (i_ j_ x.id)∧w'.cell? ⟨g',k * 3+1,n_⟩=o_ (b_ x.shown)∧w'.cell? ⟨g',k * 3+2,n_⟩=o_ (t_ x.text)))∧Hid (bG.bU w' a l∧bG.bU w' a' l∧B_ w.heap.size w w')
theorem oZ {w w':w_} {a a':Option d_} {l:List az} {x:az} {g g' k:Nat} (ha:a=o_ ⟨g,0,n_⟩) (ha':a'=o_ ⟨g',0,n_⟩) (hx:l[k]? =o_ x) (h:bG.bU w' a l∧bG.bU w' a' l∧B_ w.heap.size w w'):uF w a a' l x g g' k w':=by
 exact ZcJ
theorem Cs (a a':Option d_) (l:List az) (cap cap':Nat) (w:w_) (hl:l.length≤1048576) (h:bG.bU w a l) (h':bG.bU w a' l):
  k_ J3 33 #[s_ a l.length cap,s_ a' l.length cap'] w fun e w'=>e=r_ (b_ true)∧B_ w.heap.size w w':=by
 have HL:Hid (bG.bU w a l∧bG.bU w a' l):=⟨h,h'⟩
 clear h h'
 go_enter func33,ntmps33
 go_wp2_with fail
 go_loopw [5] (fun i wr=> ∃ k:Nat,k≤l.length∧i=i_ j_ k∧Hid (B_ w.heap.size w wr)) (fun i _=>l.length - (intOf i).toNat)
 case atStart=>exact ⟨0,Ky _,rfl,Kp _ _⟩
 case round=>
  obtain ⟨k,hk,rfl,HB⟩:=hrel;by_cases hlt:k < l.length
  ·have i0:(0:Int)≤(k:Int):=by omega
   have i1:(k:Int) < (l.length:Int):=by omega
   obtain ⟨x,hx⟩: ∃ x,l[k]? =o_ x:=⟨_,Kz hlt⟩
   obtain ⟨g,ha,-⟩:=HL.I.1.at hx;obtain ⟨g',ha',-⟩:=HL.I.2.at hx;have HX:Hid (a=o_ ⟨g,0,n_⟩∧a'=o_ ⟨g',0,n_⟩∧l[k]? =o_ x):=⟨ha,ha',hx⟩
   have HS:Hid (uF w a a' l x g g' k wr):=oZ ha ha' hx ⟨HL.I.1.below HB.I,HL.I.2.below HB.I,HB.I⟩;clear hx;rw [ha,ha'];clear ha ha';go_wp2_with fail;refine aT (uF w a a' l x g g' k) ZcR (oZ HX.I.1 HX.I.2.1 HX.I.2.2 ⟨HS.I.2.I.1.below (Kp _ _).drew,HS.I.2.I.2.1.below (Kp _ _).drew,HS.I.2.I.2.2.drew⟩) ?_
   iterate 8 (refine PI ?_ (hy:=fun w0 hS0=>by obtain ⟨⟨⟨q0,q1,q2⟩,⟨r0,r1,r2⟩⟩,hH⟩:=hS0; go_simp; try with_reducible rfl))
   refine cl (b_ true) 70 #[a_ #[i_ j_ x.id,b_ x.shown,t_ x.text],a_ #[i_ j_ x.id,b_ x.shown,t_ x.text]] ?_ ?_ ?_
   ·exact Zcy
   ·intro w0 hS0
    refine (EW x w0).mono ?_;rintro e w2 ⟨rfl,hb2⟩;exact ⟨rfl,oZ HX.I.1 HX.I.2.1 HX.I.2.2 ⟨hS0.2.I.1.below hb2,hS0.2.I.2.1.below hb2,hS0.2.I.2.2.trans (hb2.mono hS0.2.I.2.2.size)⟩⟩
   exact Zcp
  ·exact BT
theorem AX (a:Option d_) (l:List ByteArray) (cap:Nat) (left:Int) (w:w_) (hl:l.length≤maxLen) (hc:bT.ep w a l) (hs: ∀ x∈l,(x.size≤maxLen)) (h0:0≤left) (h1:left≤1048576):
  k_ J3 97 #[s_ a l.length cap,i_ j_ left] w fun e w'=>jZ w left (l.length) (l.length≤1048576∧ ∀ x∈l,(x.size≤1048576)) e w':=by
 have hl':=hl;unfold maxLen at hl';by_cases hn:left - (l.length:Int) < 0
 ·go_enter func97,ntmps97
  exact ZaK
 have HC:Hid (bT.ep w a l∧ ∀ x∈l,(x.size≤maxLen)):=⟨hc,hs⟩
 clear hc hs hl
 go_enter func97,ntmps97
 go_wp2_with fail
 go_loopw [1,5] (fun q i wr=> ∃ (k:Nat) (r:Int),k≤l.length∧i=i_ j_ k∧q=i_ j_ r∧0≤r∧r≤left - (l.length:Int)∧Hid ((∀ x∈l.take k,(x.size≤1048576))∧B_ w.heap.size w wr)) (fun _ i _=>l.length - (intOf i).toNat)
 case atStart=>exact ⟨0,left - (l.length:Int),Ky _,rfl,rfl,by omega,by omega,⟨by simp,Kp _ _⟩⟩
 case round=>
  obtain ⟨k,r,hk,rfl,rfl,r0,r1,HA⟩:=hrel;by_cases hlt:k < l.length
  ·have i0:(0:Int)≤(k:Int):=by omega
   have i1:(k:Int) < (l.length:Int):=by omega
   obtain ⟨x,hx⟩: ∃ x,l[k]? =o_ x:=⟨_,Kz hlt⟩
   have hmem:=KA hx;obtain ⟨b,off,rfl,hat⟩:=(HC.I.1.below HA.I.2).at hx;have c0:wr.cell? ⟨b,off+k,n_⟩=o_ (t_ x):=by have:=hat 0 _ rfl; rw [show off+k * bT.n+0=off+k by show off+k * 1+0=off+k; omega] at this; exact this
   have HX:Hid (l[k]? =o_ x∧(x.size≤maxLen)):=⟨hx,HC.I.2 x hmem⟩
   clear hx hmem hat;have z0:x.size≤9223372036854775807:=HX.I.2;by_cases hneg:r - (x.size:Int) < 0
   ·go_wp2
    go_ret;exact cT HA.I.2 h0
   go_wp2;go_roundw
   case rel=>exact ⟨k+1,r - (x.size:Int),by omega,by go_num,rfl,by omega,by omega,⟨nE HX.I.1 HA.I.1 (by omega),HA.I.2⟩⟩
   case measure=>simp [intOf]; omega
  ·exact ZaY
theorem Il:(Tryz.prog.info? 9).map (fun i=>(i.zero,i.size,decide (i.bytes≤1000)))=o_ (o_ (t_ ⟨#[]⟩),1,true):=by kernel_rfl
theorem Iw (n:Nat) (hn:n≤1048576) (w:w_):
  (Instr.makeSlice 91 (i_ j_ (n:Int)) (i_ j_ (n:Int))).run J3 w= .ok (s_ (o_ ⟨w.heap.size,0,n_⟩) n n) (w.alloc (c_ (madeCells #[t_ ⟨#[]⟩] (n * 1)) 9)):=by
 obtain ⟨i,hi,e⟩:=Kw.1 Il;simp only [Kx,decide_eq_true_eq] at e;obtain ⟨e1,e2,e3⟩:=e;have hby:n * i.bytes≤1048576 * 1000:=acA hn e3
 have:=aep (P:=J3) w 91 9 i _ underlying91 hi e1 j_ j_ n n (by omega) (by omega) ZcX (by omega)
 exact ZaU
theorem zV (a:Option d_) (l:List ByteArray) (cap:Nat) (w:w_) (hl:l.length≤1048576) (hc:bT.ep w a l):
  k_ J3 111 #[s_ a l.length cap] w fun e w'=>e=r_ (s_ (o_ ⟨w.heap.size,0,n_⟩) l.length l.length)∧w'.ownsRow w.heap.size 9 1 (s_ (o_ ⟨w.heap.size,0,n_⟩) l.length l.length) l.length (bT.flat l)∧B_ w.heap.size w w':=by
 have hmk:=Iw l.length hl;have HC:Hid (bT.ep w a l):=hc;have HF:Hid (gb bT 9 w (w.alloc (c_ (madeCells #[t_ ⟨#[]⟩] (l.length * 1)) 9)) l.length []):=gb.start Zdi;clear hc
 go_enter func111,ntmps111
 go_wp2_with fail
 go_loopw [4] (fun i wr=> ∃ k:Nat,k≤l.length∧i=i_ j_ k∧Hid (gb bT 9 w wr l.length (l.take k))) (fun i _=>l.length - (intOf i).toNat)
 case atStart=>exact ⟨0,Ky _,rfl,(by have h5:=HF.I; rw [aes] at h5; exact h5)⟩
 case round=>
  clear hmk HF;obtain ⟨k,hk,rfl,HR⟩:=hrel;by_cases hlt:k < l.length
  ·have i0:(0:Int)≤(k:Int):=by omega
   have i1:(k:Int) < (l.length:Int):=by omega
   obtain ⟨x,hx⟩: ∃ x,l[k]? =o_ x:=⟨_,Kz hlt⟩
   obtain ⟨b,off,rfl,hat⟩:=(HC.I.below HR.I.cd).at hx;have c0:wr.cell? ⟨b,off+k,n_⟩=o_ (t_ x):=by have:=hat 0 _ rfl; rw [show off+k * bT.n+0=off+k by show off+k * 1+0=off+k; omega] at this; exact this
   have HX:Hid (l[k]? =o_ x):=hx;have hfl:=HR.I.lt;clear hx hat;obtain ⟨⟨u,hu⟩,hf⟩:=HR.I.at;have d0:=hu k (by show k < l.length * 1; omega);have f0:=hf k;have HS:Hid (gb bT 9 w (wr.setCell ⟨w.heap.size,k,n_⟩ (t_ x)) l.length (l.take (k+1))):=by
    have h5:=HR.I.more ZdH x;rw [← cj HX.I,Lk,ac3 hk,show k * bT.n=k from aes k] at h5;exact h5
   clear hu hf;exact PM
  ·exact tl
def FK (w:w_) (a a':Option d_) (l:List ByteArray) (x:ByteArray) (g g' k:Nat) (w':w_):Prop:=((w'.cell? ⟨g,k,n_⟩=o_ (t_ x))∧(w'.cell? ⟨g',k,n_⟩=o_ (t_ x)))∧Hid (bT.bU w' a l∧bT.bU w' a' l∧B_ w.heap.size w w')
theorem Eo {w w':w_} {a a':Option d_} {l:List ByteArray} {x:ByteArray} {g g' k:Nat} (ha:a=o_ ⟨g,0,n_⟩) (ha':a'=o_ ⟨g',0,n_⟩) (hx:l[k]? =o_ x) (h:bT.bU w' a l∧bT.bU w' a' l∧B_ w.heap.size w w'):FK w a a' l x g g' k w':=by
 obtain ⟨g1,e1,h1⟩:=h.1.at hx;obtain ⟨g2,e2,h2⟩:=h.2.1.at hx;rw [ha] at e1;rw [ha'] at e2;cases e1;cases e2;have h3:=h1 0 _ rfl;have h4:=h2 0 _ rfl;rw [show k * bT.n+0=k by show k * 1+0=k; omega] at h3 h4;exact ⟨⟨h3,h4⟩,h⟩
theorem Be (a a':Option d_) (l:List ByteArray) (cap cap':Nat) (w:w_) (hl:l.length≤1048576) (h:bT.bU w a l) (h':bT.bU w a' l):
  k_ J3 113 #[s_ a l.length cap,s_ a' l.length cap'] w fun e w'=>e=r_ (b_ true)∧B_ w.heap.size w w':=by
 have HL:Hid (bT.bU w a l∧bT.bU w a' l):=⟨h,h'⟩
 clear h h'
 go_enter func113,ntmps113
 go_wp2_with fail
 go_loopw [5] (fun i wr=> ∃ k:Nat,k≤l.length∧i=i_ j_ k∧Hid (B_ w.heap.size w wr)) (fun i _=>l.length - (intOf i).toNat)
 case atStart=>exact ⟨0,Ky _,rfl,Kp _ _⟩
 case round=>
  obtain ⟨k,hk,rfl,HB⟩:=hrel;by_cases hlt:k < l.length
  ·have i0:(0:Int)≤(k:Int):=by omega
   have i1:(k:Int) < (l.length:Int):=by omega
   obtain ⟨x,hx⟩: ∃ x,l[k]? =o_ x:=⟨_,Kz hlt⟩
   obtain ⟨g,ha,-⟩:=HL.I.1.at hx;obtain ⟨g',ha',-⟩:=HL.I.2.at hx;have HX:Hid (a=o_ ⟨g,0,n_⟩∧a'=o_ ⟨g',0,n_⟩∧l[k]? =o_ x):=⟨ha,ha',hx⟩
   have HS:Hid (FK w a a' l x g g' k wr):=Eo ha ha' hx ⟨HL.I.1.below HB.I,HL.I.2.below HB.I,HB.I⟩;clear hx;rw [ha,ha'];clear ha ha';obtain ⟨⟨c0,d0⟩,-⟩:=HS.I;go_wp2_with fail
   go_quiet (fail)
   go_wp2;go_roundw
   case rel=>exact ⟨k+1,by omega,by go_num,yP HB.I _⟩
   case measure=>simp [intOf]; omega
  ·exact BT
end
end Go.Proofs.YtnlbiglljiopmaaGreatDoor
