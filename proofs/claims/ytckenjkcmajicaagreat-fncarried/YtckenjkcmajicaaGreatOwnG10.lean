/- What the proof leans on, part 10. -/
import Derived.Test.YtckenjkcmajicaaGreatOwnG7
import Derived.Test.YtckenjkcmajicaaGreatOwnG8
import Derived.Test.YtckenjkcmajicaaGreatOwnG9
import Derived.Laws.CopyOwn
set_option linter.all false
set_option maxRecDepth 100000
set_option maxHeartbeats 8000000
open Go.Proofs.Tryz
open Go renaming World->w_,Value->v_,Calls->k_,Addr->d_,TypeId->T_,below_setRow->q_
open Go.Ending renaming returned->r_
open Go.IntKind renaming i64->j_
open Go.Obj renaming cells->c_
open Go.RowKit renaming Below->B_,Hid->da
open Go.Value renaming int->i_,slice->s_,bool->b_,string->t_,agg->a_,pointer->p_,tuple->u_
open Option renaming some->o_,none->n_
open Function renaming comp_def->Ls
open Go renaming run_append_own_at->abY,wp_at_succ->Kd,wp_at_zero->Kc
open Go.Proofs.Tryz renaming prog->J3
open Go.Result renaming andThen_ok->QT
open Go.Sem renaming run_pure->QS
open List renaming filterMap_cons->LH,length_cons->Lg,length_nil->K4,length_singleton->adg
open Nat renaming mul_le_mul->acA
open Option renaming map_some->J9

open Go.RowKit
namespace Go.Proofs.YtckenjkcmajicaaGreat
section
open Go.Maps
structure aZ where
 q:ol
 lp:List (ao×Nat)
 ls:List (bD×Nat)
 le:List (aB×Nat)
 lb:List (az×Nat)
 lf:List (au×Nat)
 lq:List (aM×Nat)
def aZ.pure (S:aZ):aE:=⟨S.q.id,S.q.next,S.lp.map (·.1.toaD),S.ls.map (·.1),S.le.map (·.1),S.lb.map (·.1),S.lf.map (·.1.toci),S.lq.map (·.1.todS)⟩
def aZ.boxes (S:aZ):List Nat:=(S.q.bp::S.lp.map (·.2))++((S.q.bs::S.ls.map (·.2))++((S.q.be::S.le.map (·.2))++((S.q.bb::S.lb.map (·.2))++((S.q.bf::S.lf.map (·.2))++(S.q.bq::S.lq.map (·.2))))))
def aZ.kids (S:aZ):List Nat:=YtckenjkcmajicaaGreat.kids aR S.lp++(YtckenjkcmajicaaGreat.kids aC S.lf++YtckenjkcmajicaaGreat.kids aU S.lq)
structure cJ (w:w_)(bj o:Nat)(S:aZ):Prop where
 opn:fa w o S.q
 L8:Shelf aX (λx:ao=>x.id) 125 w bj S.q.bp S.lp
 aj:Shelf eH (λx:bD=>x.id) 128 w bj S.q.bs S.ls
 L9:Shelf cG (λx:aB=>x.id) 131 w bj S.q.be S.le
 ag:Shelf cI (λx:az=>x.id) 134 w bj S.q.bb S.lb
 ae:Shelf bQ (λx:au=>x.id) 137 w bj S.q.bf S.lf
 ai:Shelf cW (λx:aM=>x.id) 51 w bj S.q.bq S.lq
 eI:∀p∈S.lp,aR.cO w bj p.1
 eE:∀p∈S.lf,aC.cO w bj p.1
 eR:∀p∈S.lq,aU.cO w bj p.1
 nodup:(o::(S.boxes++S.kids)).Nodup
 low:bj<=o
section
variable {α:Type}{vs:α->Array v_}{num:α->Int}{T:T_}
def ip (vs:α->Array v_)(num:α->Int)(T:T_)(W:w_)(lo hi:Nat)(Me:Int)(ok:Bool)(dg:List α)(m:Int)(mb:Option Nat):Prop:=
 ok=true->m=Me/\∃b l,mb=o_ b/\l.map (·.1)=dg/\Shelf vs num T W lo b l/\∀g∈b::l.map (·.2),g<hi
def ip.below {W W':w_}{lo hi:Nat}{Me:Int}{ok:Bool}{dg:List α}{m:Int}{mb:Option Nat}(h:ip vs num T W lo hi Me ok dg m mb)(hb:B_ W.heap.size W W'):ip vs num T W' lo hi Me ok dg m mb:=λe=>by
 obtain⟨h1,b,l,h2,h3,h4,h5⟩:=h e;exact⟨h1,b,l,h2,h3,h4.below hb,h5⟩
def jN.res {w w':w_}{Me:Int}{ok:Bool}{dg:List α}{e:Ending}(h:jN vs num T w Me ok dg e w'):
  ∃(okv:Bool)(m:Int)(mb:Option Nat),e=r_ (u_ #[a_ #[i_ j_ m,.map mb],b_ okv])/\okv=ok/\B_ w.heap.size w w'/\ip vs num T w' w.heap.size w'.heap.size Me okv dg m mb:=by
 obtain⟨hb,⟨h1,h2⟩|⟨h1,b,l,h2,h3,h4⟩⟩:=h
 .exact ⟨false,0,n_,h2,h1.symm,hb,λe=>Zdk⟩
 .exact ⟨true,Me,o_ b,h2,h1.symm,hb,λ_=>⟨rfl,b,l,rfl,h3,h4,h4.lt⟩⟩
end
structure xW (w wr:w_)(p:af)(l:List (Nat×Int×Option Nat)):Prop where
 cd:B_ w.heap.size w wr
 part:av wr w.heap.size p
 shs:∀q∈l,∃t,wr.heap[q.1]? =o_ (c_ #[i_ j_ q.2.1,.map q.2.2] t)
def xW.start (w:w_)(p:af):xW w (w.alloc (c_ p.cells 46)) p []:=
 ⟨(Kp _ _).alloc (Ki _) _,Kj _ _,λq hq=>absurd hq zy⟩
def xW.below {w wr w':w_}{p:af}{l:List (Nat×Int×Option Nat)}(h:xW w wr p l)(hb:B_ wr.heap.size wr w'):xW w w' p l:=
 ⟨h.cd.trans (hb.mono h.cd.size),h.part.below hb,λq hq=>by
  obtain⟨t,h1⟩:=h.shs q hq;exact⟨t,(hb.block _ (J2.1 h1).1).trans h1⟩⟩
def xW.push {w wr w1:w_}{p:af}{m:Int}{mb:Option Nat}{l:List (Nat×Int×Option Nat)}(h:xW w wr p l)(hb:B_ wr.heap.size wr w1)(t:T_):
  xW w (w1.alloc (c_ #[i_ j_ m,.map mb] t)) p ((w1.heap.size,m,mb)::l):=by
 have h1:=h.below hb;have h2:B_ w1.heap.size w1 (w1.alloc (c_ #[i_ j_ m,.map mb] t)):=(Kp _ _).alloc (Ki _) _;have h3:=h1.below h2;refine⟨h3.cd,h3.part,λq hq=>?_⟩;rcases Kt.1 hq with rfl|hq
 .exact ⟨t,Kj _ _⟩
 .exact h3.shs q hq
def xW.c0 {w wr:w_}{p:af}{l:List (Nat×Int×Option Nat)}(h:xW w wr p l){B:Nat}{m:Int}{mb:Option Nat}(hq:(B,m,mb)∈l):wr.cell? ⟨B,0,n_⟩=o_ (i_ j_ m):=by
 obtain⟨t,h1⟩:=h.shs _ hq;simp only at h1;simp[World.cell?,h1]
def xW.c1 {w wr:w_}{p:af}{l:List (Nat×Int×Option Nat)}(h:xW w wr p l){B:Nat}{m:Int}{mb:Option Nat}(hq:(B,m,mb)∈l):wr.cell? ⟨B,1,n_⟩=o_ (.map mb):=by
 obtain⟨t,h1⟩:=h.shs _ hq;simp only at h1;simp[World.cell?,h1]
structure af.Good (w:w_)(p:af):Prop where
 at':af.At w p
 short:p.dX
 L8:∀x∈p.L8,x.dX/\x.Wf
 aj:∀x∈p.aj,(Lit.int j_ x.id).wf=true
 L9:∀x∈p.L9,(Lit.int j_ x.id).wf=true
 ag:∀x∈p.ag,(Lit.int j_ x.id).wf=true/\x.text.size<=1048576
 ae:∀x∈p.ae,(Lit.int j_ x.id).wf=true/\x.Ma.length<=1048576/\∀s∈x.Ma,s.size<=1048576
 ai:∀x∈p.ai,(Lit.int j_ x.id).wf=true/\x.Ma.length<=1048576/\∀s∈x.Ma,s.size<=1048576
 D9:∀x∈p.L8,∀g,aR.bt x=o_ g->g<w.heap.size
 xO:∀x∈p.ae,∀g,aC.bt x=o_ g->g<w.heap.size
 lowPort:∀x∈p.ai,∀g,aU.bt x=o_ g->g<w.heap.size
def af.Good.below {w w':w_}{p:af}(h:p.Good w)(hb:B_ w.heap.size w w'):p.Good w':=⟨h.at'.below hb,h.short,h.L8,h.aj,h.L9,h.ag,h.ae,h.ai,λx hx g hk=>Kn (h.D9 x hx g hk) hb.size,λx hx g hk=>Kn (h.xO x hx g hk) hb.size,λx hx g hk=>Kn (h.lowPort x hx g hk) hb.size⟩
def af.Good.DH {w:w_}{p:af}(h:p.Good w):∀x∈p.L8,eL w x:=λx hx=>⟨(h.L8 x hx).1,h.at'.1.2 x hx (x.aY,fk.flat x.prog) (by simp[bg])⟩
def af.Good.fitSem {w:w_}{p:af}(_:p.Good w):∀x∈p.aj,kU w x:=λ_ _=>trivial
def af.Good.Gq {w:w_}{p:af}(_:p.Good w):∀x∈p.L9,ix w x:=λ_ _=>trivial
def af.Good.FU {w:w_}{p:af}(h:p.Good w):∀x∈p.ag,gX w x:=λx hx=>(h.ag x hx).2
def af.Good.xl {w:w_}{p:af}(h:p.Good w):∀x∈p.ae,fM w x:=λx hx=>⟨(h.ae x hx).2.1,(h.ae x hx).2.2,h.at'.2.2.2.2.1.2 x hx (x.ak,bT.flat x.Ma) (by simp[bm])⟩
def af.Good.D4 {w:w_}{p:af}(h:p.Good w):∀x∈p.ai,jf w x:=λx hx=>⟨(h.ai x hx).2.1,(h.ai x hx).2.2,h.at'.2.2.2.2.2.2 x hx (x.ak,bT.flat x.Ma) (by simp[bX])⟩
def af.Good.wfProc {w:w_}{p:af}(h:p.Good w):∀x∈p.L8,(Lit.int j_ x.id).wf=true:=λx hx=>(h.L8 x hx).2.id
def af.Good.wfSem {w:w_}{p:af}(h:p.Good w):∀x∈p.aj,(Lit.int j_ x.id).wf=true:=h.aj
def af.Good.IA {w:w_}{p:af}(h:p.Good w):∀x∈p.L9,(Lit.int j_ x.id).wf=true:=h.L9
def af.Good.I9 {w:w_}{p:af}(h:p.Good w):∀x∈p.ag,(Lit.int j_ x.id).wf=true:=λx hx=>(h.ag x hx).1
def af.Good.Gr {w:w_}{p:af}(h:p.Good w):∀x∈p.ae,(Lit.int j_ x.id).wf=true:=λx hx=>(h.ae x hx).1
def af.Good.wfPort {w:w_}{p:af}(h:p.Good w):∀x∈p.ai,(Lit.int j_ x.id).wf=true:=λx hx=>(h.ai x hx).1
/-! ### What each test says of the partition -/
def sl (p:af):Bool:=aw (λx:ao=>x.id) (λx:ao=>cH x.toaD) 0 p.L8&&decide ((p.L8.length:Int)<=max 6 0)
def qt (p:af):sl p=true↔(aw (·.id) cH 0 p.pure.L8=true/\p.pure.L8.length<=6):=by
 have e:aw (·.id) cH 0 p.pure.L8=aw (λx:ao=>x.id) (λx:ao=>cH x.toaD) 0 p.L8:=jL _ _ _ _ _;have e2:p.pure.L8.length=p.L8.length:=ZdN
 rw[e,e2];unfold sl;rw[J7,decide_eq_true_iff];constructor
 .intro h;exact⟨h.1,zw⟩
 .intro h;exact⟨h.1,zw⟩
def BQ (p:af):Bool:=aw (λx:bD=>x.id) (λx:bD=>gw x) 0 p.aj&&decide ((p.aj.length:Int)<=max 5 0)
def xt (p:af):BQ p=true↔(aw (·.id) gw 0 p.pure.aj=true/\p.pure.aj.length<=5):=by
 have e:p.pure.aj=p.aj:=rfl;rw[e];unfold BQ;rw[J7,decide_eq_true_iff];constructor
 .intro h;exact⟨h.1,zw⟩
 .intro h;exact⟨h.1,zw⟩
def qS (p:af):Bool:=aw (λx:aB=>x.id) (λx:aB=>ey x) 0 p.L9&&decide ((p.L9.length:Int)<=max 5 0)
def sJ (p:af):qS p=true↔(aw (·.id) ey 0 p.pure.L9=true/\p.pure.L9.length<=5):=by
 have e:p.pure.L9=p.L9:=rfl;rw[e];unfold qS;rw[J7,decide_eq_true_iff];constructor
 .intro h;exact⟨h.1,zw⟩
 .intro h;exact⟨h.1,zw⟩
def rK (p:af):Bool:=aw (λx:az=>x.id) (λx:az=>cU x) 0 p.ag&&decide ((p.ag.length:Int)<=max 5 0)
def tn (p:af):rK p=true↔(aw (·.id) cU 0 p.pure.ag=true/\p.pure.ag.length<=5):=by
 have e:p.pure.ag=p.ag:=rfl;rw[e];unfold rK;rw[J7,decide_eq_true_iff];constructor
 .intro h;exact⟨h.1,zw⟩
 .intro h;exact⟨h.1,zw⟩
def oH (p:af):Bool:=aw (λx:au=>x.id) (λx:au=>ct x.toci) 0 p.ae&&decide ((p.ae.length:Int)<=max 5 0)
def rA (p:af):oH p=true↔(aw (·.id) ct 0 p.pure.ae=true/\p.pure.ae.length<=5):=by
 have e:aw (·.id) ct 0 p.pure.ae=aw (λx:au=>x.id) (λx:au=>ct x.toci) 0 p.ae:=jL _ _ _ _ _;have e2:p.pure.ae.length=p.ae.length:=ZdN
 rw[e,e2];unfold oH;rw[J7,decide_eq_true_iff];constructor
 .intro h;exact⟨h.1,zw⟩
 .intro h;exact⟨h.1,zw⟩
def vI (p:af):Bool:=aw (λx:aM=>x.id) (λx:aM=>dj x.todS) 0 p.ai&&decide ((p.ai.length:Int)<=max 5 0)
def uv (p:af):vI p=true↔(aw (·.id) dj 0 p.pure.ai=true/\p.pure.ai.length<=5):=by
 have e:aw (·.id) dj 0 p.pure.ai=aw (λx:aM=>x.id) (λx:aM=>dj x.todS) 0 p.ai:=jL _ _ _ _ _;have e2:p.pure.ai.length=p.ai.length:=ZdN
 rw[e,e2];unfold vI;rw[J7,decide_eq_true_iff];constructor
 .intro h;exact⟨h.1,zw⟩
 .intro h;exact⟨h.1,zw⟩
def mem_keys {α:Type}{num:α->Int}{l:List (α×Nat)}(k:Int):(cz (RW num l) k).isSome=decide (k∈(l.map (·.1)).map num):=by
 rw[ry];simp only[RW,Lv,Ls]
def BV {p:af}{ls:List (bD×Nat)}{le:List (aB×Nat)}{lb:List (az×Nat)}{lf:List (au×Nat)}(hs:ls.map (·.1)=p.aj)(he:le.map (·.1)=p.L9)(hb:lb.map (·.1)=p.ag)(hf:lf.map (·.1)=p.ae)(x:ao)(hx:cH x.toaD=true):
  fw (RW (λx:bD=>x.id) ls) (RW (λx:aB=>x.id) le) (RW (λx:az=>x.id) lb) (RW (λx:au=>x.id) lf) x=dG p.pure x.toaD:=by
 have hst:0<=x.Md/\x.Md<=7:=by
  have h1:bO x.toaD=true:=by
   simp only[cH,J7]at hx;exact hx.2
  have h2:cv x.Md 0 7=true:=by
   cases h:cv x.Md 0 7 with
   |true=>rfl
   |false=>rw[xQ h]at h1;cases h1
  exact bz.1 h2
 have eF:p.pure.ae.map (·.id)=p.ae.map (·.id):=by simp[af.pure,Ls]
 unfold fw dG hasB;simp only[mem_keys,hs,he,hb,hf,eF];have e1:p.pure.aj=p.aj:=rfl;have e2:p.pure.L9=p.L9:=rfl;have e3:p.pure.ag=p.ag:=rfl;rw[e1,e2,e3];by_cases h3:x.Md=3
 .simp [h3]
 by_cases h4:x.Md=4
 .simp [h4]
 by_cases h5:x.Md=5
 .simp [h5]
 by_cases h6:x.Md=6
 .simp [h6]
 by_cases h7:x.Md=7
 .simp [h7]
 have h8:¬3<=x.Md:=zw
 simp[h3,h4,h5,h6,h7,h8]
def FV {p:af}{lp:List (ao×Nat)}{ls:List (bD×Nat)}{le:List (aB×Nat)}{lb:List (az×Nat)}{lf:List (au×Nat)}(hp:lp.map (·.1)=p.L8)(hs:ls.map (·.1)=p.aj)(he:le.map (·.1)=p.L9)(hb:lb.map (·.1)=p.ag)(hf:lf.map (·.1)=p.ae)(hok:sl p=true):
  (lp.all λq=>fw (RW (λx:bD=>x.id) ls) (RW (λx:aB=>x.id) le) (RW (λx:az=>x.id) lb) (RW (λx:au=>x.id) lf) q.1)=p.pure.L8.all (dG p.pure):=by
 have e:p.pure.L8=lp.map λq=>q.1.toaD:=by
  show p.L8.map (·.toaD)=_
  rw[<-hp,Lv];rfl
 rw[e,List.all_map];have hall:∀q∈lp,cH q.1.toaD=true:=λq hq=>by
  have h1:=((qt p).1 hok).1;refine(cK h1 q.1.toaD ?_).2;rw[e];exact Lr.2 ⟨q,hq,rfl⟩
 rw[Bool.eq_iff_iff,PZ,PZ];constructor
 .intro h q hq
  have:=h q hq
  rw[BV hs he hb hf q.1 (hall q hq)]at this;exact this
 .intro h q hq
  rw[BV hs he hb hf q.1 (hall q hq)];exact h q hq
def B6 {p:af}{lp:List (ao×Nat)}{next:Int}(hp:lp.map (·.1)=p.L8):km next lp↔nQ next p.pure.L8:=by
 have e:p.pure.L8=lp.map λq=>q.1.toaD:=by
  show p.L8.map (·.toaD)=_
  rw[<-hp,Lv];rfl
 rw[e];rfl
def FI {p:af}(h1:sl p=true)(h2:BQ p=true)(h3:qS p=true)(h4:rK p=true)(h5:oH p=true)(h6:vI p=true)(h7:1<=p.id/\p.id<=6)(h8:1<=p.next/\p.next<=1000000000)(h9:nQ p.next p.pure.L8)(h10:p.pure.L8.all (dG p.pure)=true):aQ p.pure:=by
 rw[qt]at h1;rw[xt]at h2;rw[sJ]at h3;rw[tn]at h4;rw[rA]at h5;rw[uv]at h6;exact(i5 _).1 ⟨bz.2 h7,bz.2 h8,h1.2,h2.2,h3.2,h4.2,h5.2,h6.2,h1.1,h2.1,h3.1,h4.1,h5.1,h6.1,h9,h10⟩
def Ay {p:af}(h:sl p=false):¬aQ p.pure:=λhr=>by
 have h0:=(i5 _).2 hr
 have:=(qt p).2 ⟨h0.L8,h0.dl⟩
 rw[h]at this;cases this
def C1 {p:af}(h:BQ p=false):¬aQ p.pure:=λhr=>by
 have h0:=(i5 _).2 hr
 have:=(xt p).2 ⟨h0.aj,h0.fx⟩
 rw[h]at this;cases this
def yL {p:af}(h:qS p=false):¬aQ p.pure:=λhr=>by
 have h0:=(i5 _).2 hr
 have:=(sJ p).2 ⟨h0.L9,h0.cD⟩
 rw[h]at this;cases this
def zr {p:af}(h:rK p=false):¬aQ p.pure:=λhr=>by
 have h0:=(i5 _).2 hr
 have:=(tn p).2 ⟨h0.ag,h0.cC⟩
 rw[h]at this;cases this
def wD {p:af}(h:oH p=false):¬aQ p.pure:=λhr=>by
 have h0:=(i5 _).2 hr
 have:=(rA p).2 ⟨h0.ae,h0.cb⟩
 rw[h]at this;cases this
def Ae {p:af}(h:vI p=false):¬aQ p.pure:=λhr=>by
 have h0:=(i5 _).2 hr
 have:=(uv p).2 ⟨h0.ai,h0.dH⟩
 rw[h]at this;cases this
def xx {p:af}(h:¬(1<=p.id/\p.id<=6)):¬aQ p.pure:=λhr=>h (bz.1 hr.id)
def tf {p:af}(h:¬(1<=p.next/\p.next<=1000000000)):¬aQ p.pure:=λhr=>h (bz.1 hr.next)
def yV {p:af}(h:¬nQ p.next p.pure.L8):¬aQ p.pure:=λhr=>h ((i5 _).2 hr).turns
def zA {p:af}(h:p.pure.L8.all (dG p.pure)=false):¬aQ p.pure:=λhr=>by
 have:=((i5 _).2 hr).waits
 rw[h]at this;cases this
def Hp (w:w_)(p:aE)(e:Ending)(w':w_):Prop:=
 B_ w.heap.size w w'/\((¬aQ p/\e=r_ (u_ #[p_ n_,b_ false]))\/(aQ p/\∃o S,e=r_ (u_ #[p_ (o_ ⟨o,0,n_⟩),b_ true])/\cJ w' w.heap.size o S/\S.pure=p))
end
section
open Go.Maps
attribute [local go_sem ↓] Kc Kd
def nU (lo hi:Nat)(l:List Nat):Prop:=l.Nodup/\∀g∈l,lo<=g/\g<hi
def nU.append {lo m m' hi:Nat}{l r:List Nat}(h1:nU lo m l)(h2:nU m' hi r)(h3:m<=m')(h4:lo<=m')(h5:m<=hi):nU lo hi (l++r):=by
 refine⟨Kf.2 ⟨h1.1,h2.1,λa ha b hb e=>?_⟩,λg hg=>?_⟩
 .have:=h1.2 a ha
  have:=h2.2 b hb
  omega
 .rcases Kg.1 hg with hg|hg
  .have:=h1.2 g hg
   omega
  .have:=h2.2 g hg
   omega
def nU.cons {lo m hi g:Nat}{l:List Nat}(h:nU lo m l)(h1:m<=g)(h2:g<hi)(h3:lo<=g):nU lo hi (g::l):=by
 refine⟨Lp.2 ⟨λhm=>?_,h.1⟩,λk hk=>?_⟩
 .have:=h.2 g hm
  omega
 .rcases Kt.1 hk with rfl|hk
  .omega
  .have:=h.2 k hk
   omega
def eK {α:Type}{vs:α->Array v_}{num:α->Int}{T:T_}{W:w_}{lo hi b:Nat}{l:List (α×Nat)}(h:Shelf vs num T W lo b l/\∀g∈b::l.map (·.2),g<hi):nU lo hi (b::l.map (·.2)):=
 ⟨h.1.nodup,λg hg=>⟨h.1.low g hg,h.2 g hg⟩⟩
def uc {α:Type}{N:gd α}{w0 wr:w_}{bj b:Nat}{l l':List (α×Nat)}(h:kG N w0 wr bj b l l'):nU w0.heap.size wr.heap.size (kids N l'):=
 ⟨h.nodup,λg hg=>by
  obtain⟨p,hp,hk⟩:=Lq.1 hg;exact(h.mine p hp).lt hk⟩
def kG.Mc {α:Type}{N:gd α}{w0 wr:w_}{bj b:Nat}{l l':List (α×Nat)}(h:kG N w0 wr bj b l l'):l'.map (·.2)=l.map (·.2):=by
 have:=congrArg (List.map (·.2)) h.alike
 exact Y_
def Steps (n w0 v1 w1 v2 w2 v3 w3 v4 w4 v5 w5 v6:Nat):Prop:=n<=w0/\w0<=v1/\v1<w1/\w1<=v2/\v2<w2/\w2<=v3/\v3<w3/\w3<=v4/\v4<w4/\w4<=v5/\v5<w5/\w5<=v6
section
variable {w WO X2 X3:w_}{p:af}{b1 b2 b3 b4 b5 b6 w0 v1 w1 v2 w2 v3 w3 v4 w4 v5 w5 v6:Nat}{l1:List (ao×Nat)}{l2:List (bD×Nat)}{l3:List (aB×Nat)}{l4:List (az×Nat)}{l5:List (au×Nat)}{l6:List (aM×Nat)}
def vK (hs:Steps w.heap.size w0 v1 w1 v2 w2 v3 w3 v4 w4 v5 w5 v6)(ho:fa WO (v6+1) ⟨p.id,p.next,b1,b2,b3,b4,b5,b6⟩)(hb:B_ WO.heap.size WO X2)
  (h1:Shelf aX (λx:ao=>x.id) 125 WO w0 b1 l1/\∀g∈b1::l1.map (·.2),g<v1)(h5:Shelf bQ (λx:au=>x.id) 137 WO w4 b5 l5/\∀g∈b5::l5.map (·.2),g<v5)(h6:Shelf cW (λx:aM=>x.id) 51 WO w5 b6 l6/\∀g∈b6::l6.map (·.2),g<v6):
  mv X2 w.heap.size (v6+1) ⟨p.id,p.next,b1,b2,b3,b4,b5,b6⟩ l1 l5 l6:=by
 obtain⟨s0,s1,s2,s3,s4,s5,s6,s7,s8,s9,s10,s11⟩:=hs;refine⟨ho.below hb,(h1.1.below hb).lower zw,(h5.1.below hb).lower zw,(h6.1.below hb).lower zw,?_⟩;exact(((eK h1).append ((eK h5).append (eK h6) zw zw zw) zw zw zw).cons (g:=v6+1) (hi:=v6+2) zw zw zw).1
def EL {X:w_}(hg:p.Good w)(hb:B_ w.heap.size w X)(hl:l1.map (·.1)=p.L8):fY aR X w.heap.size l1:=λq hq=>by
 have hm:q.1∈p.L8:=ZdV
 exact⟨((hg.DH q.1 hm).2).below hb,(hg.L8 q.1 hm).1.prog,λg hk=>hg.D9 q.1 hm g hk⟩
def AA {X:w_}(hg:p.Good w)(hb:B_ w.heap.size w X)(hl:l5.map (·.1)=p.ae):fY aC X w.heap.size l5:=λq hq=>by
 have hm:q.1∈p.ae:=ZdV
 exact⟨((hg.xl q.1 hm).row).below hb,(hg.ae q.1 hm).2.1,λg hk=>hg.xO q.1 hm g hk⟩
def Fo {X:w_}(hg:p.Good w)(hb:B_ w.heap.size w X)(hl:l6.map (·.1)=p.ai):fY aU X w.heap.size l6:=λq hq=>by
 have hm:q.1∈p.ai:=ZdV
 exact⟨((hg.D4 q.1 hm).row).below hb,(hg.ai q.1 hm).2.1,λg hk=>hg.lowPort q.1 hm g hk⟩
def pureP {l l':List (ao×Nat)}(h:l'.map (λp=>(aR.set p.1 n_ 0,p.2))=l.map (λp=>(aR.set p.1 n_ 0,p.2))):l'.map (·.1.toaD)=l.map (·.1.toaD):=by
 have:=congrArg (List.map (·.1.toaD)) h
 exact Y_
def pureF {l l':List (au×Nat)}(h:l'.map (λp=>(aC.set p.1 n_ 0,p.2))=l.map (λp=>(aC.set p.1 n_ 0,p.2))):l'.map (·.1.toci)=l.map (·.1.toci):=by
 have:=congrArg (List.map (·.1.toci)) h
 exact Y_
def pureQ {l l':List (aM×Nat)}(h:l'.map (λp=>(aU.set p.1 n_ 0,p.2))=l.map (λp=>(aU.set p.1 n_ 0,p.2))):l'.map (·.1.todS)=l.map (·.1.todS):=by
 have:=congrArg (List.map (·.1.todS)) h
 exact Y_
def Gp {u1 u2:w_}{l1':List (ao×Nat)}{l5':List (au×Nat)}{l6':List (aM×Nat)}(hs:Steps w.heap.size w0 v1 w1 v2 w2 v3 w3 v4 w4 v5 w5 v6)(hw:B_ w.heap.size w WO/\WO.heap.size=v6+1+1)(ho:fa WO (v6+1) ⟨p.id,p.next,b1,b2,b3,b4,b5,b6⟩)(hb:B_ WO.heap.size WO X2)
  (h1:l1.map (·.1)=p.L8/\Shelf aX (λx:ao=>x.id) 125 WO w0 b1 l1/\∀g∈b1::l1.map (·.2),g<v1)
  (h2:l2.map (·.1)=p.aj/\Shelf eH (λx:bD=>x.id) 128 WO w1 b2 l2/\∀g∈b2::l2.map (·.2),g<v2)
  (h3:l3.map (·.1)=p.L9/\Shelf cG (λx:aB=>x.id) 131 WO w2 b3 l3/\∀g∈b3::l3.map (·.2),g<v3)
  (h4:l4.map (·.1)=p.ag/\Shelf cI (λx:az=>x.id) 134 WO w3 b4 l4/\∀g∈b4::l4.map (·.2),g<v4)
  (h5:l5.map (·.1)=p.ae/\Shelf bQ (λx:au=>x.id) 137 WO w4 b5 l5/\∀g∈b5::l5.map (·.2),g<v5)
  (h6:l6.map (·.1)=p.ai/\Shelf cW (λx:aM=>x.id) 51 WO w5 b6 l6/\∀g∈b6::l6.map (·.2),g<v6)
  (o1:kG aR X2 u1 w.heap.size b1 l1 l1')(o5:kG aC u1 u2 w.heap.size b5 l5 l5')(o6:kG aU u2 X3 w.heap.size b6 l6 l6'):
  B_ w.heap.size w X3/\cJ X3 w.heap.size (v6+1) ⟨⟨p.id,p.next,b1,b2,b3,b4,b5,b6⟩,l1',l2,l3,l4,l5',l6'⟩/\(⟨⟨p.id,p.next,b1,b2,b3,b4,b5,b6⟩,l1',l2,l3,l4,l5',l6'⟩:aZ).pure=p.pure:=by
 have hT:=vK hs ho hb h1.2 h5.2 h6.2;obtain⟨s0,s1,s2,s3,s4,s5,s6,s7,s8,s9,s10,s11⟩:=hs;have hX2:v6+1+1<=X2.heap.size:=by rw[<-hw.2];exact hb.size
 have z1:=o1.size;have z5:=o5.size;have z6:=o6.size;have n1:∀g∈l1.map (·.2),w0<=g/\g<v1:=λg hg=>(eK h1.2).2 g (LB _ hg)
 have n5:∀g∈l5.map (·.2),w4<=g/\g<v5:=λg hg=>(eK h5.2).2 g (LB _ hg)
 have n6:∀g∈l6.map (·.2),w5<=g/\g<v6:=λg hg=>(eK h6.2).2 g (LB _ hg)
 have q1:∀g,g<X2.heap.size->¬(w0<=g/\g<v1)->¬(w4<=g/\g<v6)->X3.heap[g]? =X2.heap[g]?:=λg hg k1 k2=>
  (o6.same g zw (λhm=>Zfq)).trans ((o5.same g zw (λhm=>by have:=n5 g hm;omega)).trans (o1.same g hg (λhm=>by have:=n1 g hm;omega)))
 have q5:∀g,g<u1.heap.size->¬(w4<=g/\g<v6)->X3.heap[g]? =u1.heap[g]?:=λg hg k2=>
  (o6.same g zw (λhm=>Zfq)).trans (o5.same g hg (λhm=>by have:=n5 g hm;omega))
 have q6:∀g,g<u2.heap.size->¬(w5<=g/\g<v6)->X3.heap[g]? =u2.heap[g]?:=λg hg k2=>o6.same g hg (λhm=>Zfq)
 have hBX:B_ w.heap.size w X3:=by
  have hw':=hw.1;have hwx:B_ w.heap.size w X2:=hw'.trans (hb.mono hw'.size);refine⟨o6.os.trans (o5.os.trans (o1.os.trans hwx.os)),o6.tape.trans (o5.tape.trans (o1.tape.trans hwx.tape)),o6.output.trans (o5.output.trans (o1.output.trans hwx.output)),by have:=hwx.size;omega,λg hg=>(q1 g (by have:=hwx.size;omega) zw zw).trans (hwx.block g hg)⟩
 refine⟨hBX,⟨?_,?_,?_,?_,?_,?_,?_,?_,?_,?_,?_,?_⟩,?_⟩
 .exact (q1 (v6+1) zw zw zw).trans (ho.below hb)
 .refine (o1.eh.same λg hg=>q5 g (o1.eh.lt g hg) ?_)
  rw[o1.Mc]at hg
  have:=(eK h1.2).2 g hg
  omega
 .refine ((h2.2.1.below hb).lower zw).same λg hg=>?_
  have:=(eK h2.2).2 g hg
  exact Zbe
 .refine ((h3.2.1.below hb).lower zw).same λg hg=>?_
  have:=(eK h3.2).2 g hg
  exact Zbe
 .refine ((h4.2.1.below hb).lower zw).same λg hg=>?_
  have:=(eK h4.2).2 g hg
  exact Zbe
 .refine (o5.eh.same λg hg=>q6 g (o5.eh.lt g hg) ?_)
  rw[o5.Mc]at hg
  have:=(eK h5.2).2 g hg
  omega
 .exact o6.eh
 .intro q hq
  refine((o1.mine q hq).low ZeX).same λg hk=>?_
  have:=(o1.mine q hq).lt hk
  exact q5 g this.2 zw
 .intro q hq
  refine((o5.mine q hq).low ZeX).same λg hk=>?_
  have:=(o5.mine q hq).lt hk
  exact q6 g this.2 zw
 .intro q hq
  exact(o6.mine q hq).low ZeX
 .have e1:=o1.Mc
  have e5:=o5.Mc;have e6:=o6.Mc;simp only[aZ.boxes,aZ.kids,e1,e5,e6];have lW:=(eK h1.2).append ((eK h2.2).append ((eK h3.2).append ((eK h4.2).append ((eK h5.2).append (eK h6.2) zw zw zw) zw zw zw) zw zw zw) zw zw zw) zw zw zw;have hkd:=(uc o1).append ((uc o5).append (uc o6) (Ki _) z5 zw) (Ki _) z1 zw;have hall:=lW.append hkd zw zw zw;refine Lp.2 ⟨λhm=>?_,hall.1⟩;rcases Kg.1 hm with hm|hm
  .have:=lW.2 _ hm
   omega
  .have:=hkd.2 _ hm
   omega
 .have:=hw.1.size
  omega
 .show aE.mk _ _ _ _ _ _ _ _=aE.mk _ _ _ _ _ _ _ _
  have a1:=pureP o1.alike;have a5:=pureF o5.alike;have a6:=pureQ o6.alike;simp only[a1,a5,a6,<-h1.1,<-h2.1,<-h3.1,<-h4.1,<-h5.1,<-h6.1,Lv,Ls]
end
def iO (p:af)(w:w_)(hg:p.Good w):k_ J3 63 #[a_ p.cells] w λe w'=>Hp w p.pure e w':=by
 have HG:da (p.Good w):=hg;have HK:da (xW w (w.alloc (c_ p.cells 46)) p []):=xW.start w p;clear hg;obtain⟨m0,m1,m2,m3,m4,m5,m6,m7⟩:=HK.I.part.cells;unfold af.cells at*
 go_enter func63,ntmps63
 go_wp2_with fail;generalize w.alloc (c_ p.row 46)=W0 at*;clear m0 m1 m2 m3 m4 m5 m6 m7;have HW0:da (w.heap.size<=W0.heap.size):=HK.I.cd.size;refine(tw p.aN p.L8 p.aW 6 _ HG.I.short.L8 (HG.I.at'.1.below HK.I.cd) (HG.I.below HK.I.cd).DH HG.I.wfProc).mono ?_;intro e v hend;obtain⟨Jg,n1,Bq,rfl,hok,hb,hr⟩:=hend.res;clear hend;obtain⟨W1,hW⟩:∃W:w_,W=v.alloc (c_ #[i_ j_ n1,.map Bq] 104):=⟨_,rfl⟩
 obtain⟨V1,hV⟩:∃V,V=v.heap.size:=⟨_,rfl⟩
 have S1:da (Jg=sl p/\ip aX (λx:ao=>x.id) 125 W1 W0.heap.size V1 6 Jg p.L8 n1 Bq):=Zb1
 have B1:da (B_ W0.heap.size W0 W1/\W0.heap.size<=V1/\V1<W1.heap.size):=Zb5
 replace HK:da (xW w W1 p ((V1,n1,Bq)::[])):=ZcI
 clear hb hr hok;have pc:W1.cell? ⟨w.heap.size,3,n_⟩=o_ (s_ p.bc p.aj.length p.bF):=Zci
 subst hW hV;go_wp2_with fail;generalize v.alloc (c_ #[i_ j_ n1,.map Bq] 104)=W1 at*;generalize v.heap.size=V1 at*;clear pc;refine(vV p.bc p.aj p.bF 5 _ HG.I.short.aj (HG.I.at'.2.1.below HK.I.cd) (HG.I.below HK.I.cd).fitSem HG.I.wfSem).mono ?_;intro e v hend;obtain⟨ok2,n2,Cc,rfl,hok,hb,hr⟩:=hend.res;clear hend;obtain⟨W2,hW⟩:∃W:w_,W=v.alloc (c_ #[i_ j_ n2,.map Cc] 107):=⟨_,rfl⟩
 obtain⟨V2,hV⟩:∃V,V=v.heap.size:=⟨_,rfl⟩
 have S2:da (ok2=BQ p/\ip eH (λx:bD=>x.id) 128 W2 W1.heap.size V2 5 ok2 p.aj n2 Cc):=Zb1
 have B2:da (B_ W1.heap.size W1 W2/\W1.heap.size<=V2/\V2<W2.heap.size):=Zb5
 replace HK:da (xW w W2 p ((V2,n2,Cc)::(V1,n1,Bq)::[])):=ZcI
 clear hb hr hok;have pc:W2.cell? ⟨w.heap.size,4,n_⟩=o_ (s_ p.ay p.L9.length p.aO):=Zci
 subst hW hV;go_wp2_with fail;generalize v.alloc (c_ #[i_ j_ n2,.map Cc] 107)=W2 at*;generalize v.heap.size=V2 at*;clear pc;refine(rZ p.ay p.L9 p.aO 5 _ HG.I.short.L9 (HG.I.at'.2.2.1.below HK.I.cd) (HG.I.below HK.I.cd).Gq HG.I.IA).mono ?_;intro e v hend;obtain⟨ok3,n3,Dh,rfl,hok,hb,hr⟩:=hend.res;clear hend;obtain⟨W3,hW⟩:∃W:w_,W=v.alloc (c_ #[i_ j_ n3,.map Dh] 110):=⟨_,rfl⟩
 obtain⟨V3,hV⟩:∃V,V=v.heap.size:=⟨_,rfl⟩
 have S3:da (ok3=qS p/\ip cG (λx:aB=>x.id) 131 W3 W2.heap.size V3 5 ok3 p.L9 n3 Dh):=Zb1
 have B3:da (B_ W2.heap.size W2 W3/\W2.heap.size<=V3/\V3<W3.heap.size):=Zb5
 replace HK:da (xW w W3 p ((V3,n3,Dh)::(V2,n2,Cc)::(V1,n1,Bq)::[])):=ZcI
 clear hb hr hok;have pc:W3.cell? ⟨w.heap.size,5,n_⟩=o_ (s_ p.ax p.ag.length p.aP):=Zci
 subst hW hV;go_wp2_with fail;generalize v.alloc (c_ #[i_ j_ n3,.map Dh] 110)=W3 at*;generalize v.heap.size=V3 at*;clear pc;refine(si p.ax p.ag p.aP 5 _ HG.I.short.ag (HG.I.at'.2.2.2.1.below HK.I.cd) (HG.I.below HK.I.cd).FU HG.I.I9).mono ?_;intro e v hend;obtain⟨ok4,n4,DK,rfl,hok,hb,hr⟩:=hend.res;clear hend;obtain⟨W4,hW⟩:∃W:w_,W=v.alloc (c_ #[i_ j_ n4,.map DK] 113):=⟨_,rfl⟩
 obtain⟨V4,hV⟩:∃V,V=v.heap.size:=⟨_,rfl⟩
 have ank:da (ok4=rK p/\ip cI (λx:az=>x.id) 134 W4 W3.heap.size V4 5 ok4 p.ag n4 DK):=Zb1
 have hE:da (B_ W3.heap.size W3 W4/\W3.heap.size<=V4/\V4<W4.heap.size):=Zb5
 replace HK:da (xW w W4 p ((V4,n4,DK)::(V3,n3,Dh)::(V2,n2,Cc)::(V1,n1,Bq)::[])):=ZcI
 clear hb hr hok;have pc:W4.cell? ⟨w.heap.size,6,n_⟩=o_ (s_ p.am p.ae.length p.aG):=Zci
 subst hW hV;go_wp2_with fail;generalize v.alloc (c_ #[i_ j_ n4,.map DK] 113)=W4 at*;generalize v.heap.size=V4 at*;clear pc;refine(rH p.am p.ae p.aG 5 _ HG.I.short.ae (HG.I.at'.2.2.2.2.1.below HK.I.cd) (HG.I.below HK.I.cd).xl HG.I.Gr).mono ?_;intro e v hend;obtain⟨ok5,n5,EP,rfl,hok,hb,hr⟩:=hend.res;clear hend;obtain⟨W5,hW⟩:∃W:w_,W=v.alloc (c_ #[i_ j_ n5,.map EP] 116):=⟨_,rfl⟩
 obtain⟨V5,hV⟩:∃V,V=v.heap.size:=⟨_,rfl⟩
 have anS:da (ok5=oH p/\ip bQ (λx:au=>x.id) 137 W5 W4.heap.size V5 5 ok5 p.ae n5 EP):=Zb1
 have amZ:da (B_ W4.heap.size W4 W5/\W4.heap.size<=V5/\V5<W5.heap.size):=Zb5
 replace HK:da (xW w W5 p ((V5,n5,EP)::(V4,n4,DK)::(V3,n3,Dh)::(V2,n2,Cc)::(V1,n1,Bq)::[])):=ZcI
 clear hb hr hok;have pc:W5.cell? ⟨w.heap.size,7,n_⟩=o_ (s_ p.aK p.ai.length p.aV):=Zci
 subst hW hV;go_wp2_with fail;generalize v.alloc (c_ #[i_ j_ n5,.map EP] 116)=W5 at*;generalize v.heap.size=V5 at*;clear pc;refine(tB p.aK p.ai p.aV 5 _ HG.I.short.ai (HG.I.at'.2.2.2.2.2.below HK.I.cd) (HG.I.below HK.I.cd).D4 HG.I.wfPort).mono ?_;intro e v hend;obtain⟨ok6,n6,C6,rfl,hok,hb,hr⟩:=hend.res;clear hend;obtain⟨W6,hW⟩:∃W:w_,W=v.alloc (c_ #[i_ j_ n6,.map C6] 119):=⟨_,rfl⟩
 obtain⟨V6,hV⟩:∃V,V=v.heap.size:=⟨_,rfl⟩
 have anV:da (ok6=vI p/\ip cW (λx:aM=>x.id) 51 W6 W5.heap.size V6 5 ok6 p.ai n6 C6):=Zb1
 have alO:da (B_ W5.heap.size W5 W6/\W5.heap.size<=V6/\V6<W6.heap.size):=Zb5
 replace HK:da (xW w W6 p ((V6,n6,C6)::(V5,n5,EP)::(V4,n4,DK)::(V3,n3,Dh)::(V2,n2,Cc)::(V1,n1,Bq)::[])):=ZcI
 clear hb hr hok;have HN:da (Jg=sl p/\ok2=BQ p/\ok3=qS p/\ok4=rK p/\ok5=oH p/\ok6=vI p):=⟨S1.I.1,S2.I.1,S3.I.1,ank.I.1,anS.I.1,anV.I.1⟩
 have am5:=aA (anV.I.2);have YV:=aA alO.I.1;have anh:=aA (anS.I.2.below YV.I);have X4:=aA (amZ.I.1.trans (YV.I.mono amZ.I.1.size));have anO:=aA (ank.I.2.below X4.I);have X3:=aA (hE.I.1.trans (X4.I.mono hE.I.1.size));have anT:=aA (S3.I.2.below X3.I);have X2:=aA (B3.I.1.trans (X3.I.mono B3.I.1.size));have abH:=aA (S2.I.2.below X2.I);have X1:=aA (B2.I.1.trans (X2.I.mono B2.I.1.size));have aaD:=aA (S1.I.2.below X1.I);clear S1 S2 S3 ank anS anV X1 X2 X3 X4 YV;subst hW;cases Jg with
 |false=>
  go_wp2;go_ret2;exact⟨HK.I.cd,.inl ⟨Ay HN.I.1.symm,rfl⟩⟩
 |true=>
 cases ok2 with
 |false=>
  go_wp2;go_ret2;exact⟨HK.I.cd,.inl ⟨C1 HN.I.2.1.symm,rfl⟩⟩
 |true=>
 cases ok3 with
 |false=>
  go_wp2;go_ret2;exact⟨HK.I.cd,.inl ⟨yL HN.I.2.2.1.symm,rfl⟩⟩
 |true=>
 cases ok4 with
 |false=>
  go_wp2;go_ret2;exact⟨HK.I.cd,.inl ⟨zr HN.I.2.2.2.1.symm,rfl⟩⟩
 |true=>
 cases ok5 with
 |false=>
  go_wp2;go_ret2;exact⟨HK.I.cd,.inl ⟨wD HN.I.2.2.2.2.1.symm,rfl⟩⟩
 |true=>
 cases ok6 with
 |false=>
  go_wp2;go_ret2;exact⟨HK.I.cd,.inl ⟨Ae HN.I.2.2.2.2.2.symm,rfl⟩⟩
 |true=>
 obtain⟨rfl,b1,l1,rfl,hl1,hs1,hh1⟩:=aaD.I rfl;obtain⟨rfl,b2,l2,rfl,hl2,hs2,hh2⟩:=abH.I rfl;obtain⟨rfl,b3,l3,rfl,hl3,Ix,hh3⟩:=anT.I rfl;obtain⟨rfl,b4,l4,rfl,hl4,hs4,hh4⟩:=anO.I rfl;obtain⟨rfl,b5,l5,rfl,rL,hs5,hh5⟩:=anh.I rfl;obtain⟨rfl,b6,l6,rfl,hl6,hs6,hh6⟩:=am5.I rfl;obtain⟨A,hA⟩:∃A:w_,A=v.alloc (c_ #[i_ j_ 5,.map (o_ b6)] 119):=⟨_,rfl⟩
 rw[<-hA]at hs1 hs2 Ix hs4 hs5 hs6 HK alO;obtain⟨WO,hWO⟩:∃WO:w_,WO=A.alloc (c_ #[i_ j_ p.id,i_ j_ p.next,i_ j_ 6,.map (o_ b1),i_ j_ 5,.map (o_ b2),i_ j_ 5,.map (o_ b3),i_ j_ 5,.map (o_ b4),i_ j_ 5,.map (o_ b5),i_ j_ 5,.map (o_ b6)] 121):=⟨_,rfl⟩
 have HB7:B_ A.heap.size A WO:=by rw[hWO];exact(Kp _ _).alloc (Ki _) _
 have anU:da (l1.map (·.1)=p.L8/\Shelf aX (λx:ao=>x.id) 125 WO W0.heap.size b1 l1/\∀g∈b1::l1.map (·.2),g<V1):=⟨hl1,hs1.below HB7,hh1⟩
 have anH:da (l2.map (·.1)=p.aj/\Shelf eH (λx:bD=>x.id) 128 WO W1.heap.size b2 l2/\∀g∈b2::l2.map (·.2),g<V2):=⟨hl2,hs2.below HB7,hh2⟩
 have am8:da (l3.map (·.1)=p.L9/\Shelf cG (λx:aB=>x.id) 131 WO W2.heap.size b3 l3/\∀g∈b3::l3.map (·.2),g<V3):=⟨hl3,Ix.below HB7,hh3⟩
 have anA:da (l4.map (·.1)=p.ag/\Shelf cI (λx:az=>x.id) 134 WO W3.heap.size b4 l4/\∀g∈b4::l4.map (·.2),g<V4):=⟨hl4,hs4.below HB7,hh4⟩
 have anM:da (l5.map (·.1)=p.ae/\Shelf bQ (λx:au=>x.id) 137 WO W4.heap.size b5 l5/\∀g∈b5::l5.map (·.2),g<V5):=⟨rL,hs5.below HB7,hh5⟩
 have anR:da (l6.map (·.1)=p.ai/\Shelf cW (λx:aM=>x.id) 51 WO W5.heap.size b6 l6/\∀g∈b6::l6.map (·.2),g<V6):=⟨hl6,hs6.below HB7,hh6⟩
 have HO:da (fa WO (V6+1) ⟨p.id,p.next,b1,b2,b3,b4,b5,b6⟩/\B_ w.heap.size w WO/\WO.heap.size=V6+1+1):=by rw[hWO,hA,hV];exact⟨Kq _ _ _,by rw[<-hA];exact HK.I.cd.alloc HK.I.cd.size _,zy⟩
 have HW:da (Steps w.heap.size W0.heap.size V1 W1.heap.size V2 W2.heap.size V3 W3.heap.size V4 W4.heap.size V5 W5.heap.size V6):=⟨HW0.I,B1.I.2.1,B1.I.2.2,B2.I.2.1,B2.I.2.2,B3.I.2.1,B3.I.2.2,hE.I.2.1,hE.I.2.2,amZ.I.2.1,amZ.I.2.2,alO.I.2.1⟩
 have HWO:=aA hWO;clear hl1 hs1 hh1 hl2 hs2 hh2 hl3 Ix hh3 hl4 hs4 hh4 rL hs5 hh5 hl6 hs6 hh6 aaD abH anT anO anh am5 B1 B2 B3 hE amZ alO HW0 HB7 hWO;have i0:A.cell? ⟨w.heap.size,0,n_⟩=o_ (i_ j_ p.id):=Zci
 have i1:A.cell? ⟨w.heap.size,1,n_⟩=o_ (i_ j_ p.next):=Zci
 have a1:A.cell? ⟨V1,0,n_⟩=o_ (i_ j_ 6):=HK.I.c0 (mb:=o_ b1) zy;have c1:A.cell? ⟨V1,1,n_⟩=o_ (.map (o_ b1)):=HK.I.c1 (m:=6) zy;have a2:A.cell? ⟨V2,0,n_⟩=o_ (i_ j_ 5):=HK.I.c0 (mb:=o_ b2) zy;have c2:A.cell? ⟨V2,1,n_⟩=o_ (.map (o_ b2)):=HK.I.c1 (m:=5) zy;have a3:A.cell? ⟨V3,0,n_⟩=o_ (i_ j_ 5):=HK.I.c0 (mb:=o_ b3) zy;have c3:A.cell? ⟨V3,1,n_⟩=o_ (.map (o_ b3)):=HK.I.c1 (m:=5) zy;have a4:A.cell? ⟨V4,0,n_⟩=o_ (i_ j_ 5):=HK.I.c0 (mb:=o_ b4) zy;have c4:A.cell? ⟨V4,1,n_⟩=o_ (.map (o_ b4)):=HK.I.c1 (m:=5) zy;have a5:A.cell? ⟨V5,0,n_⟩=o_ (i_ j_ 5):=HK.I.c0 (mb:=o_ b5) zy;have c5:A.cell? ⟨V5,1,n_⟩=o_ (.map (o_ b5)):=HK.I.c1 (m:=5) zy;have a6:A.cell? ⟨V6,0,n_⟩=o_ (i_ j_ 5):=HK.I.c0 (mb:=o_ b6) zy;have c6:A.cell? ⟨V6,1,n_⟩=o_ (.map (o_ b6)):=HK.I.c1 (m:=5) zy;subst hA hV;by_cases t1:p.id<1
 .have HR:da (¬aQ p.pure):=xx zw
  exact U_
 by_cases t2:6<p.id
 .have HR:da (¬aQ p.pure):=xx zw
  exact U_
 by_cases t3:p.next<1
 .have HR:da (¬aQ p.pure):=tf zw
  exact U_
 by_cases t4:1000000000<p.next
 .have HR:da (¬aQ p.pure):=tf zw
  exact U_
 have HID:da ((1<=p.id/\p.id<=6)/\1<=p.next/\p.next<=1000000000):=⟨⟨zw,zw⟩,zw,zw⟩
 go_wp2_with fail;clear i0 i1 HK a1 c1 a2 c2 a3 c3 a4 c4 a5 c5 a6 c6;rw[<-HWO.I];clear HWO;generalize v.heap.size=V6 at*;have lN:da (kX WO WO (V6+1) ⟨p.id,p.next,b1,b2,b3,b4,b5,b6⟩ l1 (RW (λx:bD=>x.id) l2) (RW (λx:aB=>x.id) l3) (RW (λx:az=>x.id) l4) (RW (λx:au=>x.id) l5)):=⟨HO.I.1,anU.I.2.1.lower (Ky _),anH.I.2.1.map,am8.I.2.1.map,anA.I.2.1.map,anM.I.2.1.map,Kp _ _⟩
 have DM:da (l1.length<=1048576/\∀q∈l1,q.1.Wf):=⟨by have h1:=congrArg List.length anU.I.1;have h2:=HG.I.short.L8;simp only[KG]at h1;omega,λq hq=>(HG.I.L8 q.1 (by rw[<-anU.I.1];exact Lr.2 ⟨q,hq,rfl⟩)).2⟩
 refine(BI (V6+1) _ l1 _ _ _ _ WO lN.I DM.I.1 DM.I.2).mono ?_;rintro e X1 ⟨okt,rfl,hti,hx1⟩;cases okt with
 |false=>
  have HR:da (¬aQ p.pure):=yV λht=>absurd (hti.2 ((B6 anU.I.1).2 ht)) zy
  have HB:da (B_ w.heap.size w X1):=HO.I.2.1.trans (hx1.mono HO.I.2.1.size);clear hti hx1;go_wp2;go_ret2;exact⟨HB.I,.inl ⟨HR.I,rfl⟩⟩
 |true=>
 have HTU:da (nQ p.next p.pure.L8):=(B6 anU.I.1).1 (hti.1 rfl);have xi:da (B_ WO.heap.size WO X1):=hx1;clear hti hx1;go_wp2_with fail;refine(Bh (V6+1) ⟨p.id,p.next,b1,b2,b3,b4,b5,b6⟩ l1 (RW (λx:bD=>x.id) l2) (RW (λx:aB=>x.id) l3) (RW (λx:az=>x.id) l4) (RW (λx:au=>x.id) l5) X1 ⟨lN.I.opn.below xi.I,lN.I.eh.below xi.I,lN.I.ms.below xi.I,lN.I.me.below xi.I,lN.I.mb.below xi.I,lN.I.mf.below xi.I,Kp _ _⟩ DM.I.1 DM.I.2).mono ?_;rintro e X2 ⟨rfl,hx2⟩;rw[FV anU.I.1 anH.I.1 am8.I.1 anA.I.1 anM.I.1 HN.I.1.symm];have cy:da (B_ WO.heap.size WO X2):=xi.I.trans (hx2.mono xi.I.size);clear hx2;cases hw:p.pure.L8.all (dG p.pure)
 .have HR:da (¬aQ p.pure):=zA hw
  clear hw;go_wp2;go_ret2;exact⟨HO.I.2.1.trans (cy.I.mono HO.I.2.1.size),.inl ⟨HR.I,rfl⟩⟩
 have HYES:da (aQ p.pure):=FI HN.I.1.symm HN.I.2.1.symm HN.I.2.2.1.symm HN.I.2.2.2.1.symm HN.I.2.2.2.2.1.symm HN.I.2.2.2.2.2.symm HID.I.1 HID.I.2 HTU.I hw;clear hw;go_wp2_with fail;have HTH:da (mv X2 w.heap.size (V6+1) ⟨p.id,p.next,b1,b2,b3,b4,b5,b6⟩ l1 l5 l6):=vK HW.I HO.I.1 cy.I anU.I.2 anM.I.2 anR.I.2;refine(wO (V6+1) w.heap.size _ l1 l5 l6 X2 HTH.I (LG HO.I.2.1.size cy.I.size) ?_ ?_ ?_).mono ?_
 .exact EL HG.I (HO.I.2.1.trans (cy.I.mono HO.I.2.1.size)) anU.I.1
 .exact AA HG.I (HO.I.2.1.trans (cy.I.mono HO.I.2.1.size)) anM.I.1
 .exact Fo HG.I (HO.I.2.1.trans (cy.I.mono HO.I.2.1.size)) anR.I.1
 rintro e X3 ⟨rfl,w1,w2,l1',l5',l6',ho1,oe,qH⟩;have HEND:da (B_ w.heap.size w X3/\cJ X3 w.heap.size (V6+1) ⟨⟨p.id,p.next,b1,b2,b3,b4,b5,b6⟩,l1',l2,l3,l4,l5',l6'⟩/\(⟨⟨p.id,p.next,b1,b2,b3,b4,b5,b6⟩,l1',l2,l3,l4,l5',l6'⟩:aZ).pure=p.pure):=Gp HW.I HO.I.2 HO.I.1 cy.I anU.I anH.I am8.I anA.I anM.I anR.I ho1 oe qH;clear ho1 oe qH;go_wp2;go_ret2;exact⟨HEND.I.1,.inr ⟨HYES.I,V6+1,_,rfl,HEND.I.2.1,HEND.I.2.2⟩⟩
end
section
def iD (cur:Array v_)(off:Nat):List v_->Array v_
 |[]=>cur
 |v::r=>iD (cur.setIfInBounds off v) (off+1) r
def kM:∀(vs:List v_)(cur:Array v_)(off:Nat),(iD cur off vs).size=cur.size
 |[],_,_=>rfl
 |v::r,cur,off=>by rw[iD,kM r];simp
def lL:∀(vs:List v_)(cur:Array v_)(off j:Nat),j<off->(iD cur off vs)[j]? =cur[j]?
 |[],_,_,_,_=>rfl
 |v::r,cur,off,j,h=>by
  rw[iD,lL r _ _ _ zw,Array.getElem?_setIfInBounds_ne zw]
def sv:∀(vs:List v_)(cur:Array v_)(off j:Nat)(v:v_),off+vs.length<=cur.size->vs[j]? =o_ v->(iD cur off vs)[off+j]? =o_ v
 |[],_,_,_,_,_,h=>Zd2
 |u::r,cur,off,j,v,hl,h=>by
  simp only[Lg]at hl;cases j with
  |zero=>
   simp only[List.getElem?_cons_zero,LF]at h;subst h;rw[iD,lL r _ _ _ zw];simp[show off<cur.size by omega]
  |succ j=>
   have h':r[j]? =o_ v:=ZdK
   have:=sv r (cur.setIfInBounds off u) (off+1) j v ZbI h'
   rw[iD,show off+(j+1)=off+1+j by omega];exact this
def sN {vs:List v_}{cur:Array v_}{off:Nat}(hl:off+vs.length<=cur.size):(iD cur off vs).toList.take (off+vs.length)=cur.toList.take off++vs:=by
 apply List.ext_getElem?;intro j;rw[QW];by_cases h1:j<off
 .rw [if_pos zw,Qp ZbI,QW,if_pos h1,QJ,QJ,lL _ _ _ _ h1]
 .by_cases h2:j<off+vs.length
  .rw [if_pos h2,Qo ZbI]
   have e:(cur.toList.take off).length=off:=ZbI
   rw[e];obtain⟨d,rfl⟩:∃d,j=off+d:=⟨j-off,zw⟩
   rw[show off+d-off=d by omega,QJ,Kz zw];exact sv vs cur off d _ hl (Kz zw)
  .rw [if_neg h2,List.getElem?_eq_none ZbI]
def bn (w:w_)(g off:Nat):List v_->w_
 |[]=>w
 |v::r=>bn (w.setCell ⟨g,off,n_⟩ v) g (off+1) r
def jc:∀(vs:List v_){w:w_}{g off:Nat}{cur:Array v_}{T:T_},w.heap[g]? =o_ (c_ cur T)->(bn w g off vs).heap[g]? =o_ (c_ (iD cur off vs) T)
 |[],_,_,_,_,_,h=>h
 |v::r,w,g,off,cur,T,h=>jc r (K7 w g off cur T v h)
def de:∀(vs:List v_){w:w_}{g off k:Nat},¬k=g->(bn w g off vs).heap[k]? =w.heap[k]?
 |[],_,_,_,_,_=>rfl
 |v::r,w,_,_,k,h=>(de r h).trans (K6 w _ v k h)
def fH:∀(vs:List v_){w:w_}{g off:Nat},(bn w g off vs).heap.size=w.heap.size
 |[],_,_,_=>rfl
 |v::r,w,g,off=>by rw[bn,fH r];simp[World.setCell]
def eU:∀(vs:List v_){B:Nat}{w0 w:w_}{g off:Nat},B<=g->B_ B w0 w->B_ B w0 (bn w g off vs)
 |[],_,_,_,_,_,_,h=>h
 |v::r,_,_,_,_,_,hB,h=>eU r hB (h.setCell hB v)
def iL:∀(vs:List v_)(w:w_)(g off:Nat),w.setCells g off vs=bn w g off vs
 |[],_,_,_=>rfl
 |v::r,w,g,off=>iL r (w.setCell ⟨g,off,n_⟩ v) g (off+1)
def tE (w:w_)(o1 o2 o3:Obj):(((w.alloc o1).alloc o2).alloc o3).heap[w.heap.size+1+1]? =o_ o3:=by
 have:=Kj ((w.alloc o1).alloc o2) o3
 simpa using this
def dR (w:w_)(o1 o2 o3:Obj):(((w.alloc o1).alloc o2).alloc o3).heap[w.heap.size]? =o_ o1/\(((w.alloc o1).alloc o2).alloc o3).heap[w.heap.size+1]? =o_ o2/\(((w.alloc o1).alloc o2).alloc o3).heap[w.heap.size+1+1]? =o_ o3/\(((w.alloc o1).alloc o2).alloc o3).heap.size=w.heap.size+1+1+1:=
 ⟨by rw[PU ZbI,PU zy,Kj],by rw[PU zy];exact Kq _ _ _,tE _ _ _ _,zy⟩
def fg (w:w_)(o1 o2 o3:Obj):B_ w.heap.size w (((w.alloc o1).alloc o2).alloc o3):=(((Kp _ _).alloc (Ki _) _).alloc zy _).alloc ZbI _
def cZ (w:w_)(o1 o2:Obj):((w.alloc o1).alloc o2).heap[w.heap.size]? =o_ o1/\((w.alloc o1).alloc o2).heap[w.heap.size+1]? =o_ o2:=⟨(PU zy).trans (Kj _ _),Kq _ _ _⟩
def dT (w:w_)(o1 o2:Obj):B_ w.heap.size w ((w.alloc o1).alloc o2):=((Kp _ _).alloc (Ki _) _).alloc zy _
def g9 {α:Type}(c:α->Nat)(l:List α):Nat:=(l.map c).sum
section
variable {α:Type}
def nE {P:α->Prop}{l:List α}{k:Nat}{x:α}(hx:l[k]? =o_ x)(h:∀y∈l.take k,P y)(hp:P x):∀y∈l.take (k+1),P y:=λy hy=>by
 rw[cj hx]at hy;rcases Kg.1 hy with hy|hy
 .exact h y hy
 .simp only[Kt,Ku,or_false]at hy
  subst hy;exact hp
structure gb (K:Kind α)(T:T_)(w wr:w_)(len:Nat)(I:List α):Prop where
 row:∃cur:Array v_,wr.heap[w.heap.size]? =o_ (c_ cur T)/\cur.size=len*K.n/\cur.toList.take (I.length*K.n)=K.flat I
 cd:B_ w.heap.size w wr
variable {K:Kind α}{T:T_}{w wr w':w_}{len:Nat}{I:List α}
def gb.start {cs:Array v_}(hs:cs.size=len*K.n):gb K T w (w.alloc (c_ cs T)) len []:=
 ⟨⟨cs,Kj _ _,hs,Zfz⟩,(Kp _ _).alloc (Ki _) _⟩
def gb.below (h:gb K T w wr len I)(hb:B_ wr.heap.size wr w'):gb K T w w' len I:=by
 obtain⟨cur,h1,h2⟩:=h.row;exact⟨⟨cur,(hb.block _ (J2.1 h1).1).trans h1,h2⟩,h.cd.trans (hb.mono h.cd.size)⟩
def gb.at (h:gb K T w wr len I):(∃u:Nat->v_,∀j,j<len*K.n->wr.cell? ⟨w.heap.size,j,n_⟩=o_ (u j))/\∀j,wr.frozen? ⟨w.heap.size,j,n_⟩=false:=by
 obtain⟨cur,h1,h2,h3⟩:=h.row;refine⟨⟨λj=>cur.getD j undef,λj hj=>?_⟩,λj=>Ko _ _ _ _ _ h1⟩;rw[K5 _ _ _ _ _ _ h1];simp[Array.getD,show j<cur.size by omega]
def gb.lt (h:gb K T w wr len I):w.heap.size<wr.heap.size:=by
 obtain⟨cur,h1,_⟩:=h.row;exact(J2.1 h1).1
def gb.more (h:gb K T w wr len I)(hl:I.length<len)(x:α):gb K T w (bn wr w.heap.size (I.length*K.n) (K.vals x)) len (I++[x]):=by
 obtain⟨cur,h1,h2,h3⟩:=h.row;have hle:I.length*K.n+(K.vals x).length<=cur.size:=by
  rw[K.len,h2,<-Lh];exact Rs _ hl
 refine⟨⟨_,jc _ h1,by rw[kM,h2],?_⟩,eU _ (Ki _) h.cd⟩
 have:=sN hle
 rw[K.len,<-Lh]at this;rw[Lf,adg];refine this.trans ?_;rw[h3,K.dc,K.GJ]
def gb.done (h:gb K T w wr len I)(hl:I.length=len)(hm:len<=maxLen):wr.ownsRow w.heap.size T K.n (s_ (o_ ⟨w.heap.size,0,n_⟩) len len) len (K.flat I):=by
 obtain⟨cur,h1,h2,h3⟩:=h.row;subst hl;exact⟨K.dM I,.inr ⟨w.heap.size,I.length,cur,rfl,Ki _,h1,Ki _,hm,h2,h3⟩⟩
end
structure sd {α:Type}(N:gd α)(K:Kind α)(w w':w_)(len:Nat)(l I:List α):Prop where
 row:w'.ownsRow w.heap.size N.T K.n (s_ (o_ ⟨w.heap.size,0,n_⟩) len len) len (K.flat I)
 alike:I.map (λx=>N.set x n_ 0)=l.map (λx=>N.set x n_ 0)
 mine:∀x∈I,N.cO w' (w.heap.size+1) x
 nodup:(I.filterMap N.bt).Nodup
 cd:B_ w.heap.size w w'
structure iV {α:Type}(N:gd α)(K:Kind α)(w wr:w_)(l I:List α)(k:Nat):Prop where
 fill:gb K N.T w wr l.length I
 len:I.length=k
 alike:I.map (λx=>N.set x n_ 0)=(l.take k).map (λx=>N.set x n_ 0)
 mine:∀x∈I,N.cO wr (w.heap.size+1) x
 nodup:(I.filterMap N.bt).Nodup
section
variable {α:Type}{N:gd α}{K:Kind α}{w wr w':w_}{l I:List α}{k:Nat}
def iV.start (h:gb K N.T w wr l.length []):iV N K w wr l [] 0:=⟨h,rfl,rfl,(λx hx=>Zcl),List.nodup_nil⟩
def iV.below (h:iV N K w wr l I k)(hb:B_ wr.heap.size wr w'):iV N K w w' l I k:=
 ⟨h.fill.below hb,h.len,h.alike,λx hx=>(h.mine x hx).same λg hg=>hb.block g ((h.mine x hx).lt hg).2,h.nodup⟩
def iV.more {x:α}{a:Option d_}{c:Nat}(h:iV N K w w' l I k)(hlt:k<l.length)(hx:l[k]? =o_ x)(hm:N.cO w' (w.heap.size+1) (N.set x a c))(hk:∀g,N.bt (N.set x a c)=o_ g->wr.heap.size<=g)(hr:iV N K w wr l I k):
  iV N K w (bn w' w.heap.size (k*K.n) (K.vals (N.set x a c))) l (I++[N.set x a c]) (k+1):=by
 have hf:=h.fill.more (by rw[h.len];exact hlt) (N.set x a c);rw[h.len]at hf;refine⟨hf,by rw[Lf,h.len];rfl,?_,λy hy=>?_,?_⟩
 .rw [cj hx,Kl,Kl,h.alike]
  simp[N.set_set]
 .have hmy:N.cO w' (w.heap.size+1) y:=by
   rcases Kg.1 hy with hy|hy
   .exact h.mine y hy
   .simp only[Kt,Ku,or_false]at hy
    subst hy;exact hm
  exact hmy.same λg hg=>de _ (by have:=(hmy.lt hg).1;omega)
 .rw [LW,Kf]
  refine⟨h.nodup,?_,λg hg g' hg' e=>?_⟩
  .simp only[LH,List.filterMap_nil]
   split<;>simp
  .obtain ⟨y,hy,hky⟩:=Lq.1 hg
   obtain⟨z,hz,hkz⟩:=Lq.1 hg';simp only[Kt,Ku,or_false]at hz;subst hz;have h1:=((hr.mine y hy).lt hky).2;have h2:=hk g' hkz;omega
def iV.done (h:iV N K w wr l I l.length)(hm:l.length<=maxLen):sd N K w wr l.length l I:=by
 refine⟨h.fill.done h.len hm,?_,h.mine,h.nodup,h.fill.cd⟩
 have:=h.alike
 rwa[LQ]at this
end
def nP {w:w_}{bj n size cap:Nat}{e:T_}{a:Option d_}{xs:List v_}(h:w.ownsRow bj e size (s_ a n cap) n xs):Row w a xs:=by
 obtain⟨a',cap',e',hr⟩:=cr h;simp only[LD]at e';rw[e'.1];exact hr
def cR {w w':w_}{bj n size cap:Nat}{e:T_}{a:Option d_}{xs:List v_}(h:w.ownsRow bj e size (s_ a n cap) n xs)(hb:B_ w.heap.size w w'):w'.ownsRow bj e size (s_ a n cap) n xs:=by
 obtain⟨hl,h2⟩:=h;refine⟨hl,?_⟩;rcases h2 with h2|⟨g,c,cur,hv,h1,hg,r⟩
 .exact .inl h2
 .exact .inr ⟨g,c,cur,hv,h1,(hb.block g (J2.1 hg).1).trans hg,r⟩
def blk (a:Option d_):List Nat:=(a.map (·.block)).toList
def fZ {a:Option d_}{g:Nat}:g∈blk a↔a.map (·.block)=o_ g:=by
 unfold blk;cases a<;>simp[eq_comm]
def af.Mc (p:af):List Nat:=blk p.aN++(p.L8.filterMap aR.bt++(blk p.bc++(blk p.ay++(blk p.ax++(blk p.am++(p.ae.filterMap aC.bt++(blk p.aK++(p.ai.filterMap aU.bt))))))))
structure ap (w:w_)(bj:Nat)(p:af):Prop where
 L8:w.ownsRow bj 125 12 (s_ p.aN p.L8.length p.aW) p.L8.length (bg.flat p.L8)
 aj:w.ownsRow bj 128 3 (s_ p.bc p.aj.length p.bF) p.aj.length (dm.flat p.aj)
 L9:w.ownsRow bj 131 2 (s_ p.ay p.L9.length p.aO) p.L9.length (bJ.flat p.L9)
 ag:w.ownsRow bj 134 3 (s_ p.ax p.ag.length p.aP) p.ag.length (bG.flat p.ag)
 ae:w.ownsRow bj 137 3 (s_ p.am p.ae.length p.aG) p.ae.length (bm.flat p.ae)
 ai:w.ownsRow bj 51 5 (s_ p.aK p.ai.length p.aV) p.ai.length (bX.flat p.ai)
 eI:∀x∈p.L8,aR.cO w bj x
 eE:∀x∈p.ae,aC.cO w bj x
 eR:∀x∈p.ai,aU.cO w bj x
 nodup:p.Mc.Nodup
def aL {w w':w_}{bj n size cap:Nat}{e:T_}{a:Option d_}{xs:List v_}(h:w.ownsRow bj e size (s_ a n cap) n xs)(hs:∀g,g∈blk a->w'.heap[g]? =w.heap[g]?):w'.ownsRow bj e size (s_ a n cap) n xs:=by
 obtain⟨hl,h2⟩:=h;refine⟨hl,?_⟩;rcases h2 with h2|⟨g,c,cur,hv,h1,hg,r⟩
 .exact .inl h2
 .simp only[LD]at hv
  exact .inr ⟨g,c,cur,by rw[hv.1,hv.2.2],h1,(hs g (by rw[fZ,hv.1];rfl)).trans hg,r⟩
def cf {w:w_}{bj n size cap:Nat}{e:T_}{a:Option d_}{xs:List v_}(h:w.ownsRow bj e size (s_ a n cap) n xs){g:Nat}(hg:g∈blk a):bj<=g/\g<w.heap.size:=by
 rcases h.2 with⟨hv,-⟩|⟨g',c,cur,hv,h1,hg',r⟩
 .simp only[LD]at hv
  rw[hv.1]at hg;simp[blk]at hg
 .simp only[LD]at hv
  rw[fZ,hv.1]at hg;simp only[J9,LF]at hg;subst hg;exact⟨h1,(J2.1 hg').1⟩
def dP {α:Type}{N:gd α}{l:List α}{g:Nat}:g∈l.filterMap N.bt↔ ∃x∈l,N.bt x=o_ g:=Lq
def ap.lt {w:w_}{bj:Nat}{p:af}(h:ap w bj p):∀g∈p.Mc,bj<=g/\g<w.heap.size:=λg hg=>by
 simp only[af.Mc,Kg]at hg;rcases hg with hg|hg|hg|hg|hg|hg|hg|hg|hg
 .exact cf h.L8 hg
 .obtain ⟨x,hx,hk⟩:=dP.1 hg
  exact(h.eI x hx).lt hk
 .exact cf h.aj hg
 .exact cf h.L9 hg
 .exact cf h.ag hg
 .exact cf h.ae hg
 .obtain ⟨x,hx,hk⟩:=dP.1 hg
  exact(h.eE x hx).lt hk
 .exact cf h.ai hg
 .obtain ⟨x,hx,hk⟩:=dP.1 hg
  exact(h.eR x hx).lt hk
def ap.same {w w':w_}{bj:Nat}{p:af}(h:ap w bj p)(hs:∀g∈p.Mc,w'.heap[g]? =w.heap[g]?):ap w' bj p:=by
 have hm:∀g,(g∈blk p.aN\/g∈p.L8.filterMap aR.bt\/g∈blk p.bc\/g∈blk p.ay\/g∈blk p.ax\/g∈blk p.am\/g∈p.ae.filterMap aC.bt\/g∈blk p.aK\/g∈p.ai.filterMap aU.bt)->g∈p.Mc:=λg hg=>by
  simp only[af.Mc,Kg];exact hg
 exact⟨aL h.L8 λg hg=>hs g (hm g (.inl hg)),aL h.aj λg hg=>hs g (hm g (.inr (.inr (.inl hg)))),aL h.L9 λg hg=>hs g (hm g (.inr (.inr (.inr (.inl hg))))),aL h.ag λg hg=>hs g (hm g (.inr (.inr (.inr (.inr (.inl hg)))))),aL h.ae λg hg=>hs g (hm g (.inr (.inr (.inr (.inr (.inr (.inl hg))))))),aL h.ai λg hg=>hs g (hm g (.inr (.inr (.inr (.inr (.inr (.inr (.inr (.inl hg))))))))),λx hx=>(h.eI x hx).same λg hk=>hs g (hm g (.inr (.inl ((dP.2 ⟨x,hx,hk⟩))))),λx hx=>(h.eE x hx).same λg hk=>hs g (hm g (.inr (.inr (.inr (.inr (.inr (.inr (.inl ((dP.2 ⟨x,hx,hk⟩)))))))))),λx hx=>(h.eR x hx).same λg hk=>hs g (hm g (.inr (.inr (.inr (.inr (.inr (.inr (.inr (.inr ((dP.2 ⟨x,hx,hk⟩))))))))))),h.nodup⟩
def ap.below {w w':w_}{bj:Nat}{p:af}(h:ap w bj p)(hb:B_ w.heap.size w w'):ap w' bj p:=h.same λg hg=>hb.block g (h.lt g hg).2
def ap.lower {w:w_}{bj base':Nat}{p:af}(h:ap w bj p)(hb:base'<=bj):ap w base' p:=
 ⟨cq h.L8 hb,cq h.aj hb,cq h.L9 hb,cq h.ag hb,cq h.ae hb,cq h.ai hb,λx hx=>(h.eI x hx).low hb,λx hx=>(h.eE x hx).low hb,λx hx=>(h.eR x hx).low hb,h.nodup⟩
def ap.at {w:w_}{bj:Nat}{p:af}(h:ap w bj p):af.At w p:=by
 refine⟨⟨nP h.L8,λx hx r hr=>?_⟩,⟨nP h.aj,λx hx r hr=>?_⟩,⟨nP h.L9,λx hx r hr=>?_⟩,⟨nP h.ag,λx hx r hr=>?_⟩,⟨nP h.ae,λx hx r hr=>?_⟩,⟨nP h.ai,λx hx r hr=>?_⟩⟩
 .simp only[bg,Kt,Ku,or_false]at hr
  subst hr;exact(h.eI x hx).row
 .simp [dm]at hr
 .simp [bJ]at hr
 .simp [bG]at hr
 .simp only[bm,Kt,Ku,or_false]at hr
  subst hr;exact(h.eE x hx).row
 .simp only[bX,Kt,Ku,or_false]at hr
  subst hr;exact(h.eR x hx).row
structure aE.Small (p:aE):Prop where
 dl:p.L8.length<=1048576
 fx:p.aj.length<=1048576
 cD:p.L9.length<=1048576
 cC:p.ag.length<=1048576
 cb:p.ae.length<=1048576
 dH:p.ai.length<=1048576
 L8:∀x∈p.L8,(x.prog.length<=1048576/\(∀o∈x.prog,o.2.2.2.size<=1048576)/\x.held.size<=1048576/\x.got.size<=1048576)/\(Lit.int j_ x.id).wf=true/\(Lit.int j_ x.on).wf=true/\(Lit.int j_ x.RU).wf=true
 aj:∀x∈p.aj,(Lit.int j_ x.id).wf=true
 L9:∀x∈p.L9,(Lit.int j_ x.id).wf=true
 ag:∀x∈p.ag,(Lit.int j_ x.id).wf=true/\x.text.size<=1048576
 ae:∀x∈p.ae,(Lit.int j_ x.id).wf=true/\x.Ma.length<=1048576/\∀s∈x.Ma,s.size<=1048576
 ai:∀x∈p.ai,(Lit.int j_ x.id).wf=true/\x.Ma.length<=1048576/\∀s∈x.Ma,s.size<=1048576
section
variable {p:af}
def gv (h:p.pure.Small):p.dX:=by
 have h1:=h.dl;have h2:=h.cb;have h3:=h.dH;simp only[af.pure,KG]at h1 h2 h3;exact⟨h1,h.fx,h.cD,h.cC,h2,h3⟩
def cY (h:p.pure.Small){x:ao}(hx:x∈p.L8):x.dX/\x.Wf:=by
 have:=h.L8 x.toaD (Lr.2 ⟨x,hx,rfl⟩)
 exact⟨⟨this.1.1,this.1.2.1,this.1.2.2.1,this.1.2.2.2⟩,⟨this.2.1,this.2.2.1,this.2.2.2⟩⟩
def nO (h:p.pure.Small){x:au}(hx:x∈p.ae):(Lit.int j_ x.id).wf=true/\x.Ma.length<=1048576/\∀s∈x.Ma,s.size<=1048576:=h.ae x.toci (Lr.2 ⟨x,hx,rfl⟩)
def qf (h:p.pure.Small){x:aM}(hx:x∈p.ai):(Lit.int j_ x.id).wf=true/\x.Ma.length<=1048576/\∀s∈x.Ma,s.size<=1048576:=h.ai x.todS (Lr.2 ⟨x,hx,rfl⟩)
def dV (h:p.pure.Small):p.Fit:=⟨gv h,λb hb=>(h.ag b hb).2,λ_ hb=>(nO h hb).2,λ_ hb=>(qf h hb).2⟩
def uG (h:p.pure.Small){w:w_}{bj:Nat}(ho:ap w bj p):p.Good w:=
 ⟨ho.at,gv h,λ_ hx=>cY h hx,h.aj,h.L9,h.ag,λ_ hx=>nO h hx,λ_ hx=>qf h hx,λx hx _ hk=>((ho.eI x hx).lt hk).2,λx hx _ hk=>((ho.eE x hx).lt hk).2,λx hx _ hk=>((ho.eR x hx).lt hk).2⟩
end
def fV (lo:Nat)(F:w_->Prop)(W:w_):Prop:=∀W',(∀g,lo<=g->g<W.heap.size->W'.heap[g]? =W.heap[g]?)->W.heap.size<=W'.heap.size->F W'
def fV.here {lo:Nat}{F:w_->Prop}{W:w_}(h:fV lo F W):F W:=h W (λ_ _ _=>rfl) (Ki _)
def fV.step {lo:Nat}{F:w_->Prop}{W W1:w_}(h:fV lo F W)(hs:∀g,lo<=g->g<W.heap.size->W1.heap[g]? =W.heap[g]?)(hz:W.heap.size<=W1.heap.size):fV lo F W1:=λW' h' hz'=>
 h W' (λg h1 h2=>(h' g h1 zw).trans (hs g h1 h2)) zw
def yS:(Tryz.prog.info? 128).map (λi=>(i.zero,i.size,i.bytes))=o_ (o_ (a_ #[i_ j_ 0,i_ j_ 0,i_ j_ 0]),3,24):=ZbG
def so:(Tryz.prog.info? 131).map (λi=>(i.zero,i.size,i.bytes))=o_ (o_ (a_ #[i_ j_ 0,b_ false]),2,16):=ZbG
def sj:(Tryz.prog.info? 134).map (λi=>(i.zero,i.size,i.bytes))=o_ (o_ (a_ #[i_ j_ 0,b_ false,t_ ⟨#[]⟩]),3,32):=ZbG
def kh:(Tryz.prog.info? 137).map (λi=>(i.zero,i.size,i.bytes))=o_ (o_ (a_ #[i_ j_ 0,i_ j_ 0,s_ n_ 0 0]),3,40):=ZbG
def na:(Tryz.prog.info? 51).map (λi=>(i.zero,i.size,i.bytes))=o_ (o_ (a_ #[i_ j_ 0,b_ false,b_ false,i_ j_ 0,s_ n_ 0 0]),5,48):=ZbG
def nb:(Tryz.prog.info? 125).map (λi=>(i.zero,i.size,i.bytes))=o_ (o_ (a_ cE),12,128):=ZbG
def i6 {w:w_}{bj g:Nat}{e:T_}{size:Nat}(hg:w.heap[g]? =o_ (c_ #[] e))(hb:bj<=g):w.ownsRow bj e size (s_ (o_ ⟨g,0,n_⟩) 0 0) 0 []:=
 ⟨zy,.inr ⟨g,0,#[],rfl,hb,hg,Ki _,Ky _,zy,zy⟩⟩
def kK {P:Program}(w:w_)(bj:Nat)(t ty e:T_)(i:TypeInfo)(z:v_)(size bytes:Nat)(ht:P.underlying t=o_ (.slice e))(hi:P.info? e=o_ i)(hz:i.zero=o_ z)
  (hsize:i.size=size)(hby:i.bytes=bytes)(hzs:z.cells.size=size)(hsz:0<size)(g:Nat)(hg:w.heap[g]? =o_ (c_ #[] e))(hbg:bj<=g)(a:Option d_)(n cap:Nat)(xs:List v_)(h:Row w a xs)(hl:xs.length=n*size)(h1:∀u∈xs,u.oneCell'=true)
  (h63:n<=1048576)(hb:bytes<=1000)(lY:bj<=w.heap.size):
  ∃a' cap' w',(Builtin.append_ #[t,t] ty #[s_ (o_ ⟨g,0,n_⟩) 0 0,s_ a n cap]).run P w=.ok (s_ a' n cap') w'/\w'.ownsRow bj e size (s_ a' n cap') n xs/\w.grownBy w' (o_ g)/\∀q∈blk a',q=g\/q=w.heap.size:=by
 cases a with
 |none=>
  have hx:xs=[]:=by
   exact Zbd
  subst hx;have hn:n=0:=by
   cases n with
   |zero=>rfl
   |succ n=>simp only[K4,Lh]at hl;omega
  subst hn;refine⟨o_ ⟨g,0,n_⟩,0,w,?_,i6 hg hbg,⟨rfl,rfl,rfl,Ki _,λ_ _ _=>rfl⟩,λq hq=>by simp[blk]at hq;exact .inl hq⟩;simp[Builtin.append_,run_underlying ht,sizeOf,typeInfo,hi,Builtin.lenOf,Builtin.firstCells,storeCells]
 |some ad=>
  have hnews:∀j u,xs[j]? =o_ u->w.cell? (ad.add j)=o_ u:=λj u hu=>by
   obtain⟨g,e',hc⟩:=h j u hu;cases e';rw[qZ];exact hc
  obtain⟨v',w',hr,ho,hgr,-,hbl⟩:=abY (P:=P) w bj t ty e i z size bytes ht hi hz hsize hby hzs hsz (s_ (o_ ⟨g,0,n_⟩) 0 0) 0 [] (i6 hg hbg) ad n cap xs hl hnews h1 Zb2 (by rw[Li];have:=acA h63 hb;omega) lY;simp only[Li,List.nil_append]at ho;obtain⟨a',cap',rfl,-⟩:=cr ho;refine⟨a',cap',w',hr,ho,hgr,λq hq=>?_⟩;rw[fZ]at hq;cases a' with
  |none=>simp at hq
  |some ad'=>
   simp only[J9,LF]at hq;subst hq;rcases hbl with hbl|hbl
   .exact .inl Zd7
   .exact .inr Zd7
def Ec {l:List bD}:∀u∈dm.flat l,u.oneCell'=true:=λu hu=>by
 obtain⟨x,_,hx⟩:=Rt.1 hu;simp only[dm,yz,Kt,Ku,or_false]at hx;rcases hx with rfl|rfl|rfl<;>rfl
def xB {l:List aB}:∀u∈bJ.flat l,u.oneCell'=true:=λu hu=>by
 obtain⟨x,_,hx⟩:=Rt.1 hu;simp only[bJ,rY,Kt,Ku,or_false]at hx;rcases hx with rfl|rfl<;>rfl
def xV {l:List az}:∀u∈bG.flat l,u.oneCell'=true:=λu hu=>by
 obtain⟨x,_,hx⟩:=Rt.1 hu;simp only[bG,sn,Kt,Ku,or_false]at hx;rcases hx with rfl|rfl|rfl<;>rfl
def Iq (w:w_)(bj g:Nat)(hg:w.heap[g]? =o_ (c_ #[] 128))(hbg:bj<=g)(a:Option d_)(l:List bD)(cap:Nat)(h:Row w a (dm.flat l))(hl:l.length<=1048576)(lY:bj<=w.heap.size):
  ∃a' cap' w',(Builtin.append_ #[40,40] 40 #[s_ (o_ ⟨g,0,n_⟩) 0 0,s_ a l.length cap]).run J3 w=.ok (s_ a' l.length cap') w'/\w'.ownsRow bj 128 3 (s_ a' l.length cap') l.length (dm.flat l)/\w.grownBy w' (o_ g)/\∀q∈blk a',q=g\/q=w.heap.size:=by
 obtain⟨i,hi,e⟩:=Kw.1 yS;simp only[Kx]at e;exact kK w bj _ _ 128 i _ 3 24 underlying40 hi e.1 e.2.1 e.2.2 rfl (by decide) g hg hbg a l.length cap _ h (dm.dM l) Ec hl (by decide) lY
def Fp (w:w_)(bj g:Nat)(hg:w.heap[g]? =o_ (c_ #[] 131))(hbg:bj<=g)(a:Option d_)(l:List aB)(cap:Nat)(h:Row w a (bJ.flat l))(hl:l.length<=1048576)(lY:bj<=w.heap.size):
  ∃a' cap' w',(Builtin.append_ #[41,41] 41 #[s_ (o_ ⟨g,0,n_⟩) 0 0,s_ a l.length cap]).run J3 w=.ok (s_ a' l.length cap') w'/\w'.ownsRow bj 131 2 (s_ a' l.length cap') l.length (bJ.flat l)/\w.grownBy w' (o_ g)/\∀q∈blk a',q=g\/q=w.heap.size:=by
 obtain⟨i,hi,e⟩:=Kw.1 so;simp only[Kx]at e;exact kK w bj _ _ 131 i _ 2 16 underlying41 hi e.1 e.2.1 e.2.2 rfl (by decide) g hg hbg a l.length cap _ h (bJ.dM l) xB hl (by decide) lY
def ED (w:w_)(bj g:Nat)(hg:w.heap[g]? =o_ (c_ #[] 134))(hbg:bj<=g)(a:Option d_)(l:List az)(cap:Nat)(h:Row w a (bG.flat l))(hl:l.length<=1048576)(lY:bj<=w.heap.size):
  ∃a' cap' w',(Builtin.append_ #[42,42] 42 #[s_ (o_ ⟨g,0,n_⟩) 0 0,s_ a l.length cap]).run J3 w=.ok (s_ a' l.length cap') w'/\w'.ownsRow bj 134 3 (s_ a' l.length cap') l.length (bG.flat l)/\w.grownBy w' (o_ g)/\∀q∈blk a',q=g\/q=w.heap.size:=by
 obtain⟨i,hi,e⟩:=Kw.1 sj;simp only[Kx]at e;exact kK w bj _ _ 134 i _ 3 32 underlying42 hi e.1 e.2.1 e.2.2 rfl (by decide) g hg hbg a l.length cap _ h (bG.dM l) xV hl (by decide) lY
def Gg (w:w_)(bj g:Nat)(hg:w.heap[g]? =o_ (c_ #[] 217))(hbg:bj<=g)(a:Option d_)(l:List dN)(cap:Nat)(h:Row w a (fk.flat l))(hl:l.length<=1048576)(lY:bj<=w.heap.size):
  ∃a' cap' w',(Builtin.append_ #[123,123] 123 #[s_ (o_ ⟨g,0,n_⟩) 0 0,s_ a l.length cap]).run J3 w=.ok (s_ a' l.length cap') w'/\w'.ownsRow bj 217 4 (s_ a' l.length cap') l.length (fk.flat l)/\w.grownBy w' (o_ g)/\∀q∈blk a',q=g\/q=w.heap.size:=by
 obtain⟨i,hi,e⟩:=Kw.1 D5;simp only[Kx]at e;exact kK w bj _ _ 217 i _ 4 40 underlying123 hi e.1 e.2.1 e.2.2 rfl (by decide) g hg hbg a l.length cap _ h (fk.dM l) FE hl (by decide) lY
def tO (w:w_)(bj g:Nat)(hg:w.heap[g]? =o_ (c_ #[] 9))(hbg:bj<=g)(a:Option d_)(l:List ByteArray)(cap:Nat)(h:Row w a (bT.flat l))(hl:l.length<=1048576)(lY:bj<=w.heap.size):
  ∃a' cap' w',(Builtin.append_ #[49,49] 49 #[s_ (o_ ⟨g,0,n_⟩) 0 0,s_ a l.length cap]).run J3 w=.ok (s_ a' l.length cap') w'/\w'.ownsRow bj 9 1 (s_ a' l.length cap') l.length (bT.flat l)/\w.grownBy w' (o_ g)/\∀q∈blk a',q=g\/q=w.heap.size:=by
 obtain⟨i,hi,e⟩:=Kw.1 zD;simp only[Kx]at e;exact kK w bj _ _ 9 i _ 1 16 underlying49 hi e.1 e.2.1 e.2.2 rfl (by decide) g hg hbg a l.length cap _ h (bT.dM l) yK hl (by decide) lY
section
variable {P:Program}{Q:Exit->Act->w_->Prop}{K:Act->w_->Prop}{o:Oper}{a:Act}{w:w_}
def cM (s x:Operand)(t:T_)(ho:o.op=.call {callee:=.builtin .append,args:=#[s,x],argTypes:=#[t,t]})(v u r:v_)(w':w_)(hs:a.eval s=v)(hx:a.eval x=u)(hr:(Builtin.append_ #[t,t] o.type #[v,u]).run P w=.ok r w')
  (h:K (a.put o.dst r) w'):Oper.wp P o a w K Q:=by
 unfold Oper.wp execOp;simp only[ho,resolve,invoke,builtin,QR,QS,QT,List.map_toArray,Lt,QV,hs,hx,hr];exact h
def qd (ty:T_)(x y:Operand)(ho:o.op=.store ty x y)(g:Nat)(t:T_)(old cells:Array v_)(hx:a.eval x=p_ (o_ ⟨g,0,n_⟩))(hy:a.eval y=a_ cells)(hg:w.heap[g]? =o_ (c_ old t))(hi:(P.info? ty).map (·.size)=o_ cells.size)
  (hs:old.size=cells.size)(h1:cells.all (·.oneCell')=true)(h:K (a.put o.dst undef) (w.setRow g cells)):Oper.wp P o a w K Q:=by
 unfold Oper.wp execOp;simp only[ho,hx,hy,Instr.storeAt,Instr.sureAddr,QR,QS,QT,run_storeVar_row w g t ty old cells hg hi hs h1];exact h
def wpList_store_row {ops:Array Oper}{rest:List Oper}(hgd:o.guard=n_)(ty:T_)(x y:Operand)(ho:o.op=.store ty x y)(g:Nat)(t:T_)(old cells:Array v_)(hx:a.eval x=p_ (o_ ⟨g,0,n_⟩))(hy:a.eval y=a_ cells)(hg:w.heap[g]? =o_ (c_ old t))(hi:(P.info? ty).map (·.size)=o_ cells.size)
  (hs:old.size=cells.size)(h1:cells.all (·.oneCell')=true)(h:wpList P ops Q rest (a.put o.dst undef) (w.setRow g cells)):wpList P ops Q (o::rest) a w:=
 wpList_plain hgd λ_ hK=>qd ty x y ho g t old cells hx hy hg hi hs h1 (hK _ _ h)
end
structure su (w:w_)(bj:Nat)(T:T_)(size len:Nat)(xs:List v_)(b c:Bool)(g:Nat)(a:Option d_)(cap:Nat):Prop where
 made:b=true->c=false->w.heap[g]? =o_ (c_ #[] T)/\bj<=g
 done:c=true->w.ownsRow bj T size (s_ a len cap) len xs
def bM (b c:Bool)(g:Nat)(a:Option d_):List Nat:=bif c then blk a else bif b then[g]else[]
def su.same {w w':w_}{bj:Nat}{T:T_}{size len:Nat}{xs:List v_}{b c:Bool}{g:Nat}{a:Option d_}{cap:Nat}(h:su w bj T size len xs b c g a cap)(hs:∀q∈bM b c g a,w'.heap[q]? =w.heap[q]?):su w' bj T size len xs b c g a cap:=by
 refine⟨λhb hc=>?_,λhc=>?_⟩
 .subst hb hc
  exact⟨(hs g (by simp[bM])).trans (h.made rfl rfl).1,(h.made rfl rfl).2⟩
 .subst hc
  exact aL (h.done rfl) λq hq=>hs q (by simpa[bM]using hq)
end
section
attribute [local go_sem ↓] Kc Kd








structure af.ep (w:w_)(p:af):Prop where
 L8:bg.ep w p.aN p.L8
 aj:dm.ep w p.bc p.aj
 L9:bJ.ep w p.ay p.L9
 ag:bG.ep w p.ax p.ag
 ae:bm.ep w p.am p.ae
 ai:bX.ep w p.aK p.ai
def af.ep.below {w w':w_}{p:af}(h:p.ep w)(hb:B_ w.heap.size w w'):p.ep w':=⟨h.L8.below hb,h.aj.below hb,h.L9.below hb,h.ag.below hb,h.ae.below hb,h.ai.below hb⟩
def aE.total (p:aE):Nat:=p.L8.length+g9 (λx:aD=>x.prog.length) p.L8+p.aj.length+p.L9.length+p.ag.length+(p.ae.length+g9 (λx:ci=>x.Ma.length) p.ae)+(p.ai.length+g9 (λx:dS=>x.Ma.length) p.ai)
end
section
def Ib {P:Program}{ops:Array Oper}{S:World->Prop}{o:Oper}{a:Act}(hw:Region.wanted o (yielded ops a.tmps)=true)(ty:TypeId)(x:Operand)(ho:o.op=.load ty x)
  (g:Nat)(hx:a.eval x=.pointer (some ⟨g,0,none⟩))(t:TypeId)(cs:Array Value)(d:TypeDesc)(hS:∀w,S w->w.heap[g]? =some (.cells cs t (0,0)))
  (hu:P.underlying ty=some d)(hd:(match d with|.struct _|.array _ _=>true|_=>false)=true)(hi:(P.info? ty).map (·.size)=some cs.size):YieldsIf P ops S o (.agg cs) a:=
 .inl ⟨hw,λw hw'=>by
  unfold execOp;simp only[ho,hx,Instr.loadAt,Instr.sureAddr,QR,QS,QT,run_loadVar_row w g t ty cs (0,0) d (hS w hw') hu hd hi]⟩
def four (a b c d:List Nat):Nat->List Nat
 |0=>a
 |1=>b
 |2=>c
 |3=>d
 |_=>[]
structure mJ (n0 n:Nat)(X:Nat->List Nat):Prop where
 apart:∀i j,i≠j->∀q∈X i,q∉X j
 xy:∀i,∀q∈X i,n0<=q/\q<n
def mJ.up {n0 n n':Nat}{X X':Nat->List Nat}(h:mJ n0 n X)(k:Nat)(hk:∀j,j≠k->X' j=X j)(hx:∀q∈X' k,q∈X k\/q=n)(hn:n<n')(h0:n0<=n):mJ n0 n' X':=by
 refine⟨λi j hij q hi hj=>?_,λi q hi=>?_⟩
 .by_cases ei:i=k
  .subst ei
   rw[hk j (Ne.symm hij)]at hj;rcases hx q hi with h1|rfl
   .exact h.apart i j hij q h1 hj
   .have:=(h.xy j q hj).2;omega
  .rw [hk i ei]at hi
   by_cases ej:j=k
   .subst ej
    rcases hx q hj with h1|rfl
    .exact h.apart i j hij q hi h1
    .have:=(h.xy i q hi).2;omega
   .rw [hk j ej]at hj
    exact h.apart i j hij q hi hj
 .by_cases ei:i=k
  .subst ei
   rcases hx q hi with h1|rfl
   .have:=h.xy i q h1;omega
   .omega
  .rw [hk i ei]at hi
   have:=h.xy i q hi
   omega
def mJ.mono {n0 n n':Nat}{X:Nat->List Nat}(h:mJ n0 n X)(hn:n<=n'):mJ n0 n' X:=⟨h.apart,λi q hq=>by have:=h.xy i q hq;omega⟩
structure fI (p:af)(We w:w_)(b0 d0 b1 d1 b2 d2 b3 d3 e:Bool)(g0 g1 g2 o:Nat)(a0 a1 a2:Option d_)(c0 c1 c2:Nat):Prop where
 cd:B_ We.heap.size We w
 part:av w We.heap.size p
 ret:w.heap[We.heap.size+1]? =o_ (c_ ar 46)
 s0:su w (We.heap.size+2) 128 3 p.aj.length (dm.flat p.aj) b0 d0 g0 a0 c0
 s1:su w (We.heap.size+2) 131 2 p.L9.length (bJ.flat p.L9) b1 d1 g1 a1 c1
 s2:su w (We.heap.size+2) 134 3 p.ag.length (bG.flat p.ag) b2 d2 g2 a2 c2
 I:b3=true->w.heap[o]? =o_ (c_ (bif d3 then#[i_ j_ p.id,i_ j_ p.next,s_ n_ 0 0,s_ a0 p.aj.length c0,s_ a1 p.L9.length c1,s_ a2 p.ag.length c2,s_ n_ 0 0,s_ n_ 0 0]else ar) 46)
 cl:(e=true->d0=true/\d1=true/\d2=true)/\(d3=true->e=true/\b3=true)
 size:We.heap.size+2<=w.heap.size
 pR:mJ (We.heap.size+2) w.heap.size (four (bM b0 d0 g0 a0) (bM b1 d1 g1 a1) (bM b2 d2 g2 a2) (bif b3 then[o]else[]))
section
variable {p:af}{We w:w_}{b0 d0 b1 d1 b2 d2 b3 d3 e:Bool}{g0 g1 g2 o:Nat}{a0 a1 a2:Option d_}{c0 c1 c2:Nat}
def fI.aaZ (h:fI p We w false d0 b1 d1 b2 d2 b3 d3 e g0 g1 g2 o a0 a1 a2 c0 c1 c2):fI p We (w.alloc (c_ #[] 128)) true d0 b1 d1 b2 d2 b3 d3 e w.heap.size g1 g2 o a0 a1 a2 c0 c1 c2:=by
 have hb:B_ w.heap.size w (w.alloc (c_ #[] 128)):=(Kp _ _).alloc (Ki _) _;have hlt:∀i,∀q∈four (bM false d0 g0 a0) (bM b1 d1 g1 a1) (bM b2 d2 g2 a2) (bif b3 then[o]else[]) i,q<w.heap.size:=λi q hq=>(h.pR.xy i q hq).2
 exact⟨h.cd.trans (hb.mono h.cd.size),h.part.below hb,(hb.block _ Zb4).trans h.ret,⟨λ_ hd=>⟨Kj _ _,h.size⟩,λhd=>aL (h.s0.done hd) λq hq=>hb.block q (hlt 0 q ZcV)⟩,h.s1.same λq hq=>hb.block q (hlt 1 q hq),h.s2.same λq hq=>hb.block q (hlt 2 q hq),λe=>(hb.block _ (hlt 3 o ZcE)).trans (h.I e),h.cl,ZcR,h.pR.up 0 (λj hj=>ZbO) (λq hq=>by cases d0 with|true=>exact .inl Zch|false=>exact .inr Zch) zy h.size⟩
def fI.abg (h:fI p We w b0 d0 false d1 b2 d2 b3 d3 e g0 g1 g2 o a0 a1 a2 c0 c1 c2):fI p We (w.alloc (c_ #[] 131)) b0 d0 true d1 b2 d2 b3 d3 e g0 w.heap.size g2 o a0 a1 a2 c0 c1 c2:=by
 have hb:B_ w.heap.size w (w.alloc (c_ #[] 131)):=(Kp _ _).alloc (Ki _) _;have hlt:∀i,∀q∈four (bM b0 d0 g0 a0) (bM false d1 g1 a1) (bM b2 d2 g2 a2) (bif b3 then[o]else[]) i,q<w.heap.size:=λi q hq=>(h.pR.xy i q hq).2
 exact⟨h.cd.trans (hb.mono h.cd.size),h.part.below hb,(hb.block _ Zb4).trans h.ret,h.s0.same λq hq=>hb.block q (hlt 0 q hq),⟨λ_ hd=>⟨Kj _ _,h.size⟩,λhd=>aL (h.s1.done hd) λq hq=>hb.block q (hlt 1 q ZcV)⟩,h.s2.same λq hq=>hb.block q (hlt 2 q hq),λe=>(hb.block _ (hlt 3 o ZcE)).trans (h.I e),h.cl,ZcR,h.pR.up 1 (λj hj=>ZbO) (λq hq=>by cases d1 with|true=>exact .inl Zch|false=>exact .inr Zch) zy h.size⟩
def fI.make2 (h:fI p We w b0 d0 b1 d1 false d2 b3 d3 e g0 g1 g2 o a0 a1 a2 c0 c1 c2):fI p We (w.alloc (c_ #[] 134)) b0 d0 b1 d1 true d2 b3 d3 e g0 g1 w.heap.size o a0 a1 a2 c0 c1 c2:=by
 have hb:B_ w.heap.size w (w.alloc (c_ #[] 134)):=(Kp _ _).alloc (Ki _) _;have hlt:∀i,∀q∈four (bM b0 d0 g0 a0) (bM b1 d1 g1 a1) (bM false d2 g2 a2) (bif b3 then[o]else[]) i,q<w.heap.size:=λi q hq=>(h.pR.xy i q hq).2
 exact⟨h.cd.trans (hb.mono h.cd.size),h.part.below hb,(hb.block _ Zb4).trans h.ret,h.s0.same λq hq=>hb.block q (hlt 0 q hq),h.s1.same λq hq=>hb.block q (hlt 1 q hq),⟨λ_ hd=>⟨Kj _ _,h.size⟩,λhd=>aL (h.s2.done hd) λq hq=>hb.block q (hlt 2 q ZcV)⟩,λe=>(hb.block _ (hlt 3 o ZcE)).trans (h.I e),h.cl,ZcR,h.pR.up 2 (λj hj=>ZbO) (λq hq=>by cases d2 with|true=>exact .inl Zch|false=>exact .inr Zch) zy h.size⟩
def fI.aa1 {w2:w_}{a:Option d_}{c:Nat}(h:fI p We w true false b1 d1 b2 d2 b3 d3 e g0 g1 g2 o a0 a1 a2 c0 c1 c2)(ho:w2.ownsRow (We.heap.size+2) 128 3 (s_ a p.aj.length c) p.aj.length (dm.flat p.aj))(hg:w.grownBy w2 (o_ g0))(hq:∀q∈blk a,q=g0\/q=w.heap.size):fI p We w2 true true b1 d1 b2 d2 b3 d3 e g0 g1 g2 o a a1 a2 c c1 c2:=by
 have hlt:∀i,∀q∈four (bM true false g0 a0) (bM b1 d1 g1 a1) (bM b2 d2 g2 a2) (bif b3 then[o]else[]) i,q<w.heap.size:=λi q hq=>(h.pR.xy i q hq).2
 have hgl:We.heap.size+2<=g0/\g0<w.heap.size:=h.pR.xy 0 g0 Zei;have hne:∀i,i≠0->∀q∈four (bM true false g0 a0) (bM b1 d1 g1 a1) (bM b2 d2 g2 a2) (bif b3 then[o]else[]) i,w2.heap[q]? =w.heap[q]?:=λi hi q hq=>hg.block q (hlt i q hq) λe=>h.pR.apart i 0 hi q hq Zdf
 have hbe:B_ We.heap.size We w2:=h.cd.grown hg Zb4 (λk hk=>ZdW);have he:e=false:=Zc2
 have hd:d3=false:=ZcW
 subst he hd;have hz:=hg.size;have hsz:=h.size;refine⟨hbe,(hg.block _ zw (λe=>Zcb)).trans h.part,(hg.block _ zw (λe=>Zcb)).trans h.ret,⟨(λ_ hd=>by cases hd),λ_=>ho⟩,h.s1.same λq hq=>hne 1 (by decide) q hq,h.s2.same λq hq=>hne 2 (by decide) q hq,λe=>(hne 3 (by decide) o ZcE).trans (h.I e),⟨(λe=>Zdk),λe=>Zdk⟩,zw,?_⟩;by_cases hnew:∃q∈blk a,q=w.heap.size
 .exact Zbs
 .have hall:∀q∈blk a,q=g0:=λq hq'=>(hq q hq').resolve_right λe=>hnew ⟨q,hq',e⟩
  refine mJ.mono (n:=w.heap.size) ⟨λi i2 hij q hi hi2=>?_,λi q hi=>?_⟩ hz
  .have e1:∀i,∀q∈four (bM true true g0 a) (bM b1 d1 g1 a1) (bM b2 d2 g2 a2) (bif b3 then[o]else[]) i,q∈four (bM true false g0 a0) (bM b1 d1 g1 a1) (bM b2 d2 g2 a2) (bif b3 then[o]else[]) i:=λi q hq'=>by
    by_cases ei:i=0
    .exact I_
    .exact PM
   exact Zac
  .by_cases ei:i=0
   .exact PC
   .exact CE
def fI.aa2 {w2:w_}{a:Option d_}{c:Nat}(h:fI p We w b0 d0 true false b2 d2 b3 d3 e g0 g1 g2 o a0 a1 a2 c0 c1 c2)(ho:w2.ownsRow (We.heap.size+2) 131 2 (s_ a p.L9.length c) p.L9.length (bJ.flat p.L9))(hg:w.grownBy w2 (o_ g1))(hq:∀q∈blk a,q=g1\/q=w.heap.size):fI p We w2 b0 d0 true true b2 d2 b3 d3 e g0 g1 g2 o a0 a a2 c0 c c2:=by
 have hlt:∀i,∀q∈four (bM b0 d0 g0 a0) (bM true false g1 a1) (bM b2 d2 g2 a2) (bif b3 then[o]else[]) i,q<w.heap.size:=λi q hq=>(h.pR.xy i q hq).2
 have hgl:We.heap.size+2<=g1/\g1<w.heap.size:=h.pR.xy 1 g1 Zei;have hne:∀i,i≠1->∀q∈four (bM b0 d0 g0 a0) (bM true false g1 a1) (bM b2 d2 g2 a2) (bif b3 then[o]else[]) i,w2.heap[q]? =w.heap[q]?:=λi hi q hq=>hg.block q (hlt i q hq) λe=>h.pR.apart i 1 hi q hq Zdf
 have hbe:B_ We.heap.size We w2:=h.cd.grown hg Zb4 (λk hk=>ZdW);have he:e=false:=Zc2
 have hd:d3=false:=ZcW
 subst he hd;have hz:=hg.size;have hsz:=h.size;refine⟨hbe,(hg.block _ zw (λe=>Zcb)).trans h.part,(hg.block _ zw (λe=>Zcb)).trans h.ret,h.s0.same λq hq=>hne 0 (by decide) q hq,⟨(λ_ hd=>by cases hd),λ_=>ho⟩,h.s2.same λq hq=>hne 2 (by decide) q hq,λe=>(hne 3 (by decide) o ZcE).trans (h.I e),⟨(λe=>Zdk),λe=>Zdk⟩,zw,?_⟩;by_cases hnew:∃q∈blk a,q=w.heap.size
 .exact Zbt
 .have hall:∀q∈blk a,q=g1:=λq hq'=>(hq q hq').resolve_right λe=>hnew ⟨q,hq',e⟩
  refine mJ.mono (n:=w.heap.size) ⟨λi i2 hij q hi hi2=>?_,λi q hi=>?_⟩ hz
  .have e1:∀i,∀q∈four (bM b0 d0 g0 a0) (bM true true g1 a) (bM b2 d2 g2 a2) (bif b3 then[o]else[]) i,q∈four (bM b0 d0 g0 a0) (bM true false g1 a1) (bM b2 d2 g2 a2) (bif b3 then[o]else[]) i:=λi q hq'=>by
    by_cases ei:i=1
    .exact I_
    .exact PM
   exact Zac
  .by_cases ei:i=1
   .exact PC
   .exact CE
def fI.copy2 {w2:w_}{a:Option d_}{c:Nat}(h:fI p We w b0 d0 b1 d1 true false b3 d3 e g0 g1 g2 o a0 a1 a2 c0 c1 c2)(ho:w2.ownsRow (We.heap.size+2) 134 3 (s_ a p.ag.length c) p.ag.length (bG.flat p.ag))(hg:w.grownBy w2 (o_ g2))(hq:∀q∈blk a,q=g2\/q=w.heap.size):fI p We w2 b0 d0 b1 d1 true true b3 d3 e g0 g1 g2 o a0 a1 a c0 c1 c:=by
 have hlt:∀i,∀q∈four (bM b0 d0 g0 a0) (bM b1 d1 g1 a1) (bM true false g2 a2) (bif b3 then[o]else[]) i,q<w.heap.size:=λi q hq=>(h.pR.xy i q hq).2
 have hgl:We.heap.size+2<=g2/\g2<w.heap.size:=h.pR.xy 2 g2 Zei;have hne:∀i,i≠2->∀q∈four (bM b0 d0 g0 a0) (bM b1 d1 g1 a1) (bM true false g2 a2) (bif b3 then[o]else[]) i,w2.heap[q]? =w.heap[q]?:=λi hi q hq=>hg.block q (hlt i q hq) λe=>h.pR.apart i 2 hi q hq Zdf
 have hbe:B_ We.heap.size We w2:=h.cd.grown hg Zb4 (λk hk=>ZdW);have he:e=false:=Zc2
 have hd:d3=false:=ZcW
 subst he hd;have hz:=hg.size;have hsz:=h.size;refine⟨hbe,(hg.block _ zw (λe=>Zcb)).trans h.part,(hg.block _ zw (λe=>Zcb)).trans h.ret,h.s0.same λq hq=>hne 0 (by decide) q hq,h.s1.same λq hq=>hne 1 (by decide) q hq,⟨(λ_ hd=>by cases hd),λ_=>ho⟩,λe=>(hne 3 (by decide) o ZcE).trans (h.I e),⟨(λe=>Zdk),λe=>Zdk⟩,zw,?_⟩;by_cases hnew:∃q∈blk a,q=w.heap.size
 .obtain ⟨q0,nu,hqe⟩:=hnew
  have hw2:=(cf ho nu).2;refine h.pR.up 2 (λj hj=>ZbO) (λq hq'=>?_) zw hsz;exact ue
 .have hall:∀q∈blk a,q=g2:=λq hq'=>(hq q hq').resolve_right λe=>hnew ⟨q,hq',e⟩
  refine mJ.mono (n:=w.heap.size) ⟨λi i2 hij q hi hi2=>?_,λi q hi=>?_⟩ hz
  .have e1:∀i,∀q∈four (bM b0 d0 g0 a0) (bM b1 d1 g1 a1) (bM true true g2 a) (bif b3 then[o]else[]) i,q∈four (bM b0 d0 g0 a0) (bM b1 d1 g1 a1) (bM true false g2 a2) (bif b3 then[o]else[]) i:=λi q hq'=>by
    by_cases ei:i=2
    .exact I_
    .exact PM
   exact Zac
  .by_cases ei:i=2
   .exact PC
   .exact CE
def fI.aa9 (h:fI p We w b0 d0 b1 d1 b2 d2 false false e g0 g1 g2 o a0 a1 a2 c0 c1 c2):fI p We (w.alloc (c_ ar 46)) b0 d0 b1 d1 b2 d2 true false e g0 g1 g2 w.heap.size a0 a1 a2 c0 c1 c2:=by
 have hb:B_ w.heap.size w (w.alloc (c_ ar 46)):=(Kp _ _).alloc (Ki _) _;have hlt:∀i,∀q∈four (bM b0 d0 g0 a0) (bM b1 d1 g1 a1) (bM b2 d2 g2 a2) (bif false then[o]else[]) i,q<w.heap.size:=λi q hq=>(h.pR.xy i q hq).2
 exact⟨h.cd.trans (hb.mono h.cd.size),h.part.below hb,(hb.block _ Zb4).trans h.ret,h.s0.same λq hq=>hb.block q (hlt 0 q hq),h.s1.same λq hq=>hb.block q (hlt 1 q hq),h.s2.same λq hq=>hb.block q (hlt 2 q hq),λ_=>Kj _ _,⟨h.cl.1,λe=>Zdk⟩,ZcR,h.pR.up 3 (λj hj=>ZbO) (λq hq=>.inr (by simpa[four]using hq)) zy h.size⟩
def fI.build (h:fI p We w b0 d0 b1 d1 b2 d2 b3 d3 false g0 g1 g2 o a0 a1 a2 c0 c1 c2)(h0:d0=true)(h1:d1=true)(h2:d2=true):fI p We w b0 d0 b1 d1 b2 d2 b3 d3 true g0 g1 g2 o a0 a1 a2 c0 c1 c2:=⟨h.cd,h.part,h.ret,h.s0,h.s1,h.s2,h.I,⟨λ_=>⟨h0,h1,h2⟩,λhd=>⟨rfl,(h.cl.2 hd).2⟩⟩,h.size,h.pR⟩
def fI.store (h:fI p We w b0 d0 b1 d1 b2 d2 true false true g0 g1 g2 o a0 a1 a2 c0 c1 c2):fI p We (w.setRow o #[i_ j_ p.id,i_ j_ p.next,s_ n_ 0 0,s_ a0 p.aj.length c0,s_ a1 p.L9.length c1,s_ a2 p.ag.length c2,s_ n_ 0 0,s_ n_ 0 0]) b0 d0 b1 d1 b2 d2 true true true g0 g1 g2 o a0 a1 a2 c0 c1 c2:=by
 have ho:=h.pR.xy 3 o ZdR;have hne:∀q,q≠o->(w.setRow o #[i_ j_ p.id,i_ j_ p.next,s_ n_ 0 0,s_ a0 p.aj.length c0,s_ a1 p.L9.length c1,s_ a2 p.ag.length c2,s_ n_ 0 0,s_ n_ 0 0]).heap[q]? =w.heap[q]?:=λq hq=>KH _ _ _ _ hq
 have hap:∀i,i≠3->∀q∈four (bM b0 d0 g0 a0) (bM b1 d1 g1 a1) (bM b2 d2 g2 a2) [o] i,q≠o:=λi hi q hq e=>h.pR.apart i 3 hi q hq (by subst e;simp[four])
 have hsz:=h.size;exact⟨q_ h.cd zw _,(hne _ zw).trans h.part,(hne _ zw).trans h.ret,h.s0.same λq hq=>hne q (hap 0 (by decide) q hq),h.s1.same λq hq=>hne q (hap 1 (by decide) q hq),h.s2.same λq hq=>hne q (hap 2 (by decide) q hq),λ_=>KU _ _ _ _ _ _ (h.I rfl),⟨h.cl.1,λ_=>⟨rfl,rfl⟩⟩,by rw[size_setRow];exact h.size,by rw[size_setRow];exact h.pR⟩
end
structure aI (w w':w_)(bs:List Nat):Prop where
 os:w'.os=w.os
 tape:w'.tape=w.tape
 output:w'.output=w.output
 size:w.heap.size<=w'.heap.size
 same:∀g,g<w.heap.size->g∉bs->w'.heap[g]? =w.heap[g]?
section
variable {w w1 w2:w_}{bs bs':List Nat}
def aI.refl (w:w_)(bs:List Nat):aI w w bs:=⟨rfl,rfl,rfl,Ki _,λ_ _ _=>rfl⟩
def aI.trans (h:aI w w1 bs)(h':aI w1 w2 bs):aI w w2 bs:=
 ⟨h'.os.trans h.os,h'.tape.trans h.tape,h'.output.trans h.output,LG h.size h'.size,λg hg hn=>(h'.same g (Kn hg h.size) hn).trans (h.same g hg hn)⟩
def aI.mono (h:aI w w1 bs)(hs:∀g∈bs,g∈bs'):aI w w1 bs':=⟨h.os,h.tape,h.output,h.size,λg hg hn=>h.same g hg λhm=>hn (hs g hm)⟩
def aI.dI (h:B_ w.heap.size w w1):aI w w1 bs:=⟨h.os,h.tape,h.output,h.size,λg hg _=>h.block g hg⟩
def aI.below {bj:Nat}(h:aI w w1 bs)(hb:bj<=w.heap.size)(hs:∀g∈bs,bj<=g):B_ bj w w1:=⟨h.os,h.tape,h.output,h.size,λg hg=>h.same g zw λhm=>by have:=hs g hm;omega⟩
def aI.set {g off:Nat}(vs:List v_)(hg:g∈bs):aI w (bn w g off vs) bs:=
 have hb:∀(vs:List v_)(w:w_)(off:Nat),(bn w g off vs).os=w.os/\(bn w g off vs).tape=w.tape/\(bn w g off vs).output=w.output:=λvs=>by
  induction vs with
  |nil=>exactλ_ _=>⟨rfl,rfl,rfl⟩
  |cons v r ih=>exactλw off=>ih (w.setCell ⟨g,off,n_⟩ v) (off+1)
 ⟨(hb vs w off).1,(hb vs w off).2.1,(hb vs w off).2.2,by rw[fH];exact Ki _,λk _ hn=>de vs λe=>hn (by rw[e];exact hg)⟩
end
def oY:∀(vs:List v_)(cur:Array v_)(off j:Nat),off+vs.length<=j->(iD cur off vs)[j]? =cur[j]?
 |[],_,_,_,_=>rfl
 |v::r,cur,off,j,h=>by
  simp only[Lg]at h;rw[iD,oY r _ _ _ zw,Array.getElem?_setIfInBounds_ne zw]
section
variable {α:Type}{K:Kind α}
def Kind.GG {xs:List v_}{l:List α}(hl:xs.length=l.length*K.n)(h:∀i y r,l[i]? =o_ y->r<K.n->xs[i*K.n+r]? =(K.vals y)[r]?):xs=K.flat l:=by
 apply List.ext_getElem?;intro q;by_cases hq:q<l.length*K.n
 .have hi:q/K.n<l.length:=Nat.div_lt_of_lt_mul (by rw[adM];exact hq)
  have hr:q%K.n<K.n:=Nat.mod_lt _ K.pos;have e:q/K.n*K.n+q%K.n=q:=by rw[adM];exact Nat.div_add_mod q K.n
  obtain⟨y,hy⟩:∃y,l[q/K.n]? =o_ y:=⟨_,Kz hi⟩
  have h1:=h _ y _ hy hr;rw[<-K.jw hy hr,e]at h1;exact h1
 .rw [List.getElem?_eq_none zw,List.getElem?_eq_none (by rw[K.dM];omega)]
def Gf {cur:Array v_}{A B:List α}{x y:α}{j:Nat}{vs:List v_}(h:cur.toList.take ((A++x::B).length*K.n)=K.flat (A++x::B))(hs:(A++x::B).length*K.n<=cur.size)(hj:j+vs.length<=K.n)
  (h1:∀r,r<vs.length->(K.vals y)[j+r]? =vs[r]?)(h2:∀r,r<K.n->¬(j<=r/\r<j+vs.length)->(K.vals y)[r]? =(K.vals x)[r]?):
  (iD cur (A.length*K.n+j) vs).toList.take ((A++y::B).length*K.n)=K.flat (A++y::B):=by
 have hlen:(A++y::B).length=(A++x::B).length:=zy
 have hA:A.length<(A++x::B).length:=by rw[Lf,Lg];omega
 have hle:A.length*K.n+K.n<=(A++x::B).length*K.n:=by rw[<-Lh];exact Rs _ hA
 have hcur:∀q,q<(A++x::B).length*K.n->cur[q]? =(K.flat (A++x::B))[q]?:=λq hq=>by
  rw[<-h,QW,if_pos hq,QJ]
 have e0:(iD cur (A.length*K.n+j) vs).toList.length=cur.size:=by rw[Array.length_toList,kM]
 refine Kind.GG (by rw[Lk,e0,hlen];omega) λi z r hz hr=>?_
 have hi:i<(A++x::B).length:=by rw[<-hlen];exact(Lj.1 hz).1
 have hq:i*K.n+r<(A++x::B).length*K.n:=by
  have:(i+1)*K.n<=(A++x::B).length*K.n:=Rs _ hi
  rw[Lh]at this;omega
 rw[QW,hlen,if_pos hq,QJ];by_cases e:i=A.length
 .subst e
  have hzy:z=y:=by
   rw[Qo (Ki _)]at hz;simpa using hz.symm
  subst hzy;have hx:(A++x::B)[A.length]? =o_ x:=by rw[Qo (Ki _)];simp
  by_cases hr2:j<=r/\r<j+vs.length
  .obtain ⟨d,rfl⟩:∃d,r=j+d:=⟨r-j,zw⟩
   rw[h1 d zw,show A.length*K.n+(j+d)=A.length*K.n+j+d by omega,Kz zw];exact sv vs cur (A.length*K.n+j) d _ zw (Kz zw)
  .rw [h2 r hr hr2,<-K.jw hx hr,<-hcur _ hq]
   by_cases h3:r<j
   .exact lL vs cur _ _ zw
   .exact oY vs cur _ _ zw
 .have hx:(A++x::B)[i]? =o_ z:=by
   by_cases h3:i<A.length
   .rw [Qp h3]at hz⊢
    exact hz
   .rw [Qo zw]at hz⊢
    obtain⟨d,hd⟩:∃d,i-A.length=d+1:=⟨i-A.length-1,zw⟩
    rw[hd]at hz⊢;exact hz
  rw[<-K.jw hx hr,<-hcur _ hq];by_cases h3:i<A.length
  .have:(i+1)*K.n<=A.length*K.n:=Rs _ h3
   rw[Lh]at this;exact lL vs cur _ _ zw
  .have:(A.length+1)*K.n<=i*K.n:=Rs _ zw
   rw[Lh]at this;exact oY vs cur _ _ zw
def bl (K:Kind α)(T:T_)(w:w_)(bj g cap:Nat)(l:List α):Prop:=∃cur:Array v_,w.heap[g]? =o_ (c_ cur T)/\bj<=g/\l.length<=cap/\cap<=maxLen/\cur.size=cap*K.n/\cur.toList.take (l.length*K.n)=K.flat l
def bl.owns {T:T_}{w:w_}{bj g cap:Nat}{l:List α}(h:bl K T w bj g cap l):w.ownsRow bj T K.n (s_ (o_ ⟨g,0,n_⟩) l.length cap) l.length (K.flat l):=by
 obtain⟨cur,h1,h2,h3,h4,h5,h6⟩:=h;exact⟨K.dM l,.inr ⟨g,cap,cur,rfl,h2,h1,h3,h4,h5,h6⟩⟩
def bl.fX {T:T_}{w:w_}{bj cap:Nat}{a:Option d_}{l:List α}(h:w.ownsRow bj T K.n (s_ a l.length cap) l.length (K.flat l))(hl:¬l.length=0):∃g,a=o_ ⟨g,0,n_⟩/\bl K T w bj g cap l:=by
 rcases h.2 with⟨_,h0⟩|⟨g,c,cur,hv,h1,h2,h3,h4,h5,h6⟩
 .exact absurd h0 hl
 .simp only[LD]at hv
  obtain⟨rfl,-,rfl⟩:=hv;exact⟨g,rfl,cur,h2,h1,h3,h4,h5,h6⟩
def bl.same {T:T_}{w w':w_}{bj g cap:Nat}{l:List α}(h:bl K T w bj g cap l)(hs:w'.heap[g]? =w.heap[g]?):bl K T w' bj g cap l:=by
 obtain⟨cur,h1,h2⟩:=h;exact⟨cur,hs.trans h1,h2⟩
def bl.lt {T:T_}{w:w_}{bj g cap:Nat}{l:List α}(h:bl K T w bj g cap l):g<w.heap.size:=by
 obtain⟨cur,h1,_⟩:=h;exact(J2.1 h1).1
def bl.cell {T:T_}{w:w_}{bj g cap:Nat}{l:List α}(h:bl K T w bj g cap l){i:Nat}{x:α}(hx:l[i]? =o_ x){r:Nat}(hr:r<K.n):w.cell? ⟨g,i*K.n+r,n_⟩=(K.vals x)[r]? /\w.frozen? ⟨g,i*K.n+r,n_⟩=false:=by
 obtain⟨cur,h1,h2,h3,h4,h5,h6⟩:=h;refine⟨?_,Ko _ _ _ _ _ h1⟩;have hi:i<l.length:=(Lj.1 hx).1;have hq:i*K.n+r<l.length*K.n:=by
  have:(i+1)*K.n<=l.length*K.n:=Rs _ hi
  rw[Lh]at this;omega
 rw[K5 _ _ _ _ _ _ h1,<-K.jw hx hr,<-h6,QW,if_pos hq,QJ]
def bl.part {T:T_}{w:w_}{bj g cap:Nat}{A B:List α}{x y:α}{j:Nat}{vs:List v_}(h:bl K T w bj g cap (A++x::B))(hj:j+vs.length<=K.n)
  (h1:∀r,r<vs.length->(K.vals y)[j+r]? =vs[r]?)(h2:∀r,r<K.n->¬(j<=r/\r<j+vs.length)->(K.vals y)[r]? =(K.vals x)[r]?):
  bl K T (bn w g (A.length*K.n+j) vs) bj g cap (A++y::B):=by
 obtain⟨cur,c1,c2,c3,c4,c5,c6⟩:=h;have hl:(A++y::B).length=(A++x::B).length:=zy
 refine⟨_,jc vs c1,c2,by rw[hl];exact c3,c4,by rw[kM];exact c5,?_⟩;exact Gf c6 (by rw[c5];exact Rs _ c3) hj h1 h2
end
end
section
open Go.Maps
def fN (a:Option d_):(blk a).Nodup:=by cases a<;>simp[blk]
def di {a:Option d_}{n c g:Nat}(h:(Value.slice a n c).ownBlock=o_ g):g∈blk a:=by
 cases a with
 |none=>simp[Value.ownBlock]at h
 |some ad=>simp[Value.ownBlock]at h;simp[blk,h]
def aH {w:w_}{o i g:Nat}{v:v_}(h:g≠o):(w.setCell ⟨o,i,n_⟩ v).heap[g]? =w.heap[g]?:=de [v] h
def cx {w:w_}{o i:Nat}{v:v_}{cs:Array v_}{t:T_}(h:w.heap[o]? =o_ (c_ cs t)):(w.setCell ⟨o,i,n_⟩ v).heap[o]? =o_ (c_ (cs.setIfInBounds i v) t):=jc [v] h
def bP {B o i:Nat}{w0 w:w_}{v:v_}(h:B_ B w0 w)(hb:B<=o):B_ B w0 (w.setCell ⟨o,i,n_⟩ v):=
 ⟨h.os,h.tape,h.output,by have:=h.size;rw[show(w.setCell ⟨o,i,n_⟩ v).heap.size=w.heap.size from fH [v]];exact this,λk hk=>(aH zw).trans (h.block k hk)⟩
def aad {t e:T_}{size bytes:Nat}{zs:Array v_}(ht:Tryz.prog.underlying t=o_ (.slice e))(hi:(Tryz.prog.info? e).map (λi=>(i.zero,i.size,i.bytes))=o_ (o_ (a_ zs),size,bytes))(hz:zs.size=size)(hs:0<size)(hby:bytes<=1000){W:w_}{bj k cap:Nat}{a:Option d_}{xs:List v_}(vs:Array v_)(hv:vs.size=size)(h1:∀u∈vs.toList,u.oneCell'=true)
  (ho:W.ownsRow bj e size (s_ a k cap) k xs)(hn:k<=1048576)(hb:bj<=W.heap.size):
  ∃a' cap' w',(Builtin.append_ #[t,t] t #[s_ a k cap,s_ (o_ ⟨W.heap.size,0,n_⟩) 1 1]).run J3 (W.alloc (c_ vs e))=.ok (s_ a' (k+1) cap') w'/\w'.ownsRow bj e size (s_ a' (k+1) cap') (k+1) (xs++vs.toList)/\aI W w' (blk a)/\∀g∈blk a',g∈blk a\/W.heap.size<=g:=by
 have hzb:B_ W.heap.size W (W.alloc (c_ vs e)):=(Kp _ _).alloc (Ki _) _;obtain⟨i,hi,eq⟩:=Kw.1 hi;simp only[Kx]at eq;have hcell:∀j u,vs.toList[j]? =o_ u->(W.alloc (c_ vs e)).cell? ((⟨W.heap.size,0,n_⟩:d_).add j)=o_ u:=λj u hu=>by
  have h1:(W.alloc (c_ vs e)).heap[W.heap.size]? =o_ (c_ vs e):=Kj _ _;have h2:vs[j]? =o_ u:=by rw[<-QJ];exact hu
  rw[qZ];unfold World.cell?;rw[h1];exact h2
 obtain⟨v',w',hr,ho',hg,-,hbl⟩:=abY (P:=J3) (W.alloc (c_ vs e)) bj t t e i _ size bytes ht hi eq.1 eq.2.1 eq.2.2 hz hs (s_ a k cap) k xs (cR ho hzb) ⟨W.heap.size,0,n_⟩ 1 1 vs.toList (by simp[hv]) hcell h1 Zb2 (by have:=acA (Nat.add_le_add_right hn 1) hby;omega) (by have:=hzb.size;omega);obtain⟨a',cap',rfl,-⟩:=cr ho';refine⟨a',cap',w',hr,ho',⟨hg.os,hg.tape,hg.output,LG hzb.size hg.size,λg hgl hgn=>?_⟩,λg hm=>?_⟩
 .have h1:=hzb.block g hgl
  rw[<-h1];exact hg.block g (by have:=hzb.size;omega) λe=>hgn (di e.symm)
 .have hm2:(Value.slice a' (k+1) cap').ownBlock=o_ g:=by
   cases a' with
   |none=>simp[blk]at hm
   |some ad=>simpa[Value.ownBlock,blk,eq_comm]using hm
  rcases hbl with hbl|hbl
  .rw [hm2]at hbl;exact .inl (di hbl.symm)
  .rw [hm2]at hbl;simp at hbl;exact .inr zw
end
section
section
variable {ops:Array Oper}{rest:List Oper}{o:Oper}{a:Act}{w:w_}{Q:Exit->Act->w_->Prop}{fn:Func}{R:Ending->w_->Prop}{p u:Tmp}{old:Array v_}
def eT (n:Nat){g:Nat}{cs:Array v_}(hg:w.heap[g]? =o_ (c_ cs 46))(h:wpList J3 ops Q rest (a.put o.dst (a_ cs)) w)(hgd:o.guard=n_:=by exact rfl)(ho:o.op=.load 46 (.tmp n):=by exact rfl)
  (hx:a.eval (.tmp n)=p_ (o_ ⟨g,0,n_⟩):=by rfl)(hi:(Tryz.prog.info? 46).map (·.size)=o_ cs.size:=by kernel_rfl):wpList J3 ops Q (o::rest) a w:=
 LS hgd 46 (.tmp n) ho g hx 46 cs (0,0) _ hg underlying46 rfl hi h
def ec (n m:Nat){g:Nat}(cs:Array v_)(hg:w.heap[g]? =o_ (c_ old 46))(h:wpList J3 ops Q rest (a.put o.dst undef) (w.setRow g cs))(hgd:o.guard=n_:=by exact rfl)(ho:o.op=.store 46 (.tmp n) (.tmp m):=by exact rfl)
  (hx:a.eval (.tmp n)=p_ (o_ ⟨g,0,n_⟩):=by exact rfl)(hy:a.eval (.tmp m)=a_ cs:=by exact rfl)(hi:(Tryz.prog.info? 46).map (·.size)=o_ cs.size:=by kernel_rfl)(hs:old.size=cs.size:=by exact rfl)(h1:cs.all (·.oneCell')=true:=by kernel_rfl):wpList J3 ops Q (o::rest) a w:=
 wpList_store_row hgd 46 (.tmp n) (.tmp m) ho g _ old cs hx hy hg hi hs h1 h
def gZ (hr:fn.results=#[.cell p 46]){g:Nat}{cs:Array v_}(hg:w.heap[g]? =o_ (c_ old 46))(h:R (r_ (a_ cs)) (w.setRow g cs))(hp:a.tmps.getD p undef=p_ (o_ ⟨g,0,n_⟩):=by exact rfl)(hd:a.defers=[]:=by exact rfl)
  (hi:(Tryz.prog.info? 46).map (·.size)=o_ cs.size:=by kernel_rfl):bodyPost J3 fn R .ret a (w.setRow g cs):=
 KT (v:=a_ cs) (K9 hr _ _ g _ _ (0,0) _ hp (KU _ _ _ _ _ _ hg) underlying46 rfl hi) hd h
def mG (hr:fn.results=#[.cell p 46,.tmp u]){g:Nat}{cs:Array v_}(v:v_)(hg:w.heap[g]? =o_ (c_ old 46))(h:R (r_ (u_ #[a_ cs,v])) (w.setRow g cs))(hp:a.tmps.getD p undef=p_ (o_ ⟨g,0,n_⟩):=by rfl)(hv:a.tmps.getD u undef=v:=by exact rfl)(hd:a.defers=[]:=by exact rfl)
  (hi:(Tryz.prog.info? 46).map (·.size)=o_ cs.size:=by kernel_rfl):bodyPost J3 fn R .ret a (w.setRow g cs):=
 KT (v:=u_ #[a_ cs,v]) (by rw[<-hv];exact bL hr _ _ g _ _ _ _ hp (KU _ _ _ _ _ _ hg) underlying46 rfl hi) hd h
end
end
section
open Go.Maps
section
variable {α:Type}{N:gd α}{K:Kind α}{B cap Ta:Nat}{I:List α}{a a2:Option d_}{W W1 W2:w_}{x:α}
variable (N K)in
structure apw (B:Nat)(I:List α)(a:Option d_)(cap:Nat)(W:w_):Prop where
 own:W.ownsRow B N.T K.n (s_ a I.length cap) I.length (K.flat I)
 mine:∀x∈I,N.cO W B x
 nodup:(blk a++I.filterMap N.bt).Nodup
def apw.start (B:Nat)(W:w_):apw N K B [] n_ 0 W:=⟨Ke _ _ _ _,λp hp=>ZfO,Zee⟩
def apw.lt (h:apw N K B I a cap W):∀g∈blk a++I.filterMap N.bt,B<=g/\g<W.heap.size:=λg hg=>by
 rcases Kg.1 hg with hg|hg
 .exact cf h.own hg
 .obtain ⟨p,hp,l9⟩:=Lq.1 hg
  exact(h.mine p hp).lt l9
def apw.same (h:apw N K B I a cap W)(hs:∀g∈blk a++I.filterMap N.bt,W1.heap[g]? =W.heap[g]?):apw N K B I a cap W1:=
 ⟨aL h.own λg hg=>hs g (Lz _ hg),λp hp=>(h.mine p hp).same λg hg=>hs g (Ly _ (Lq.2 ⟨p,hp,hg⟩)),h.nodup⟩
def apw.below (h:apw N K B I a cap W)(hb:B_ W.heap.size W W1):apw N K B I a cap W1:=h.same λg hg=>hb.block g (h.lt g hg).2
def apw.more (h:apw N K B I a cap W)(hx:N.cO W B x)(hf:∀g,N.bt x=o_ g->g∉blk a++I.filterMap N.bt)(ho:W2.ownsRow B N.T K.n (s_ a2 (I.length+1) Ta) (I.length+1) (K.flat I++K.vals x))(hk:aI W W2 (blk a))(hb:∀g∈blk a2,g∈blk a\/W.heap.size<=g):apw N K B (I++[x]) a2 Ta W2:=by
 obtain⟨h1,h2,h3⟩:=Kf.1 h.nodup;have aS:K.flat (I++[x])=K.flat I++K.vals x:=by rw[K.dc];simp[Kind.flat]
 have iH:∀p∈I++[x],N.cO W B p/\∀g,N.bt p=o_ g->g∉blk a:=λp hp=>by
  rcases Kg.1 hp with hp|hp
  .exact ⟨h.mine p hp,λg hg hm=>h3 g hm g (Lq.2 ⟨p,hp,hg⟩) rfl⟩
  .rw [KB.1 hp]
   exact⟨hx,λg hg hm=>hf g hg (Lz _ hm)⟩
 refine⟨by rw[Lf,adg,aS];exact ho,λp hp=>(iH p hp).1.same λg hg=>hk.same g ((iH p hp).1.lt hg).2 ((iH p hp).2 g hg),?_⟩;rw[LW];refine Kf.2 ⟨fN _,Kf.2 ⟨h2,?_,λg hg g' hg' e=>?_⟩,λg hg g' hg' e=>?_⟩
 .cases hx5:N.bt x<;>simp[hx5]
 .subst e
  simp only[LH,List.filterMap_nil]at hg';cases hx5:N.bt x with
  |none=>rw[hx5]at hg';cases hg'
  |some y=>
   rw[hx5]at hg';rw[KB.1 hg']at hg;exact hf y hx5 (Ly _ hg)
 .subst e
  rw[<-LW]at hg';obtain⟨p,hp,l9⟩:=Lq.1 hg';rcases hb g hg with h5|h5
  .exact (iH p hp).2 g l9 h5
  .have:=((iH p hp).1.lt l9).2;omega
end
structure ap5 {α:Type}(N:gd α)(K:Kind α)(w W3:w_)(X j:Nat)(cs:Array v_)(l:List α)(n:Nat)(I:List α)(a:Option d_)(cap:Nat)(W:w_):Prop where
 box:W.heap[X]? =o_ (c_ (cs.setIfInBounds j (s_ a I.length cap)) 46)
 ap7:apw N K W3.heap.size I a cap W
 ps:I.map (λx=>N.set x n_ 0)=(l.take n).map λx=>N.set x n_ 0
 same:∀g,g<W3.heap.size->g≠X->W.heap[g]? =W3.heap[g]?
 cd:B_ w.heap.size w W
 size:W3.heap.size<=W.heap.size
section
variable {α:Type}{N:gd α}{K:Kind α}{w W3 W w7:w_}{X j n s cap c2:Nat}{cs:Array v_}{l I:List α}{a a2:Option d_}{x:α}{t:T_}{size bytes:Nat}{zs:Array v_}
def ap5.len (h:ap5 N K w W3 X j cs l n I a cap W):I.length<=n:=by
 have h1:=congrArg List.length h.ps;simp at h1;omega
def ap5.copy (h:ap5 N K w W3 X j cs l n I a cap W)(hx:l[n]? =o_ x)(hX:w.heap.size<=X/\X<W3.heap.size)(hn:n<=1048576)
  (Fw:((W.alloc (c_ (N.vs x) N.T)).alloc (c_ #[] N.e)).grownBy w7 (o_ (W.heap.size+1)))(how:w7.ownsRow W.heap.size N.e N.size (s_ a2 (N.len x) c2) (N.len x) (N.flat x))(nW:∀g∈blk a2,g=W.heap.size+1\/g=((W.alloc (c_ (N.vs x) N.T)).alloc (c_ #[] N.e)).heap.size)
  (hv:∀v:α,K.vals v=(N.vs v).toList)(hsl:(N.vs x).setIfInBounds s (s_ a2 (N.len x) c2)=N.vs (N.set x a2 c2))(hvs:∀v:α,(N.vs v).size=K.n)(h1:∀v:α,∀u∈(N.vs v).toList,u.oneCell'=true)
  (ht:Tryz.prog.underlying t=o_ (.slice N.T))(hi:(Tryz.prog.info? N.T).map (λi=>(i.zero,i.size,i.bytes))=o_ (o_ (a_ zs),K.n,bytes))(hz:zs.size=K.n)(hby:bytes<=1000):
  (w7.heap[W.heap.size]? =o_ (c_ (N.vs x) N.T)/\(w7.setCell ⟨W.heap.size,s,n_⟩ (s_ a2 (N.len x) c2)).heap[W.heap.size]? =o_ (c_ (N.vs (N.set x a2 c2)) N.T)/\(w7.setCell ⟨W.heap.size,s,n_⟩ (s_ a2 (N.len x) c2)).heap[X]? =W.heap[X]? /\(w7.setCell ⟨W.heap.size,s,n_⟩ (s_ a2 (N.len x) c2)).heap.size=w7.heap.size)/\
  ∃a' cap' w',(Builtin.append_ #[t,t] t #[s_ a I.length cap,s_ (o_ ⟨w7.heap.size,0,n_⟩) 1 1]).run J3 ((w7.setCell ⟨W.heap.size,s,n_⟩ (s_ a2 (N.len x) c2)).alloc (c_ (N.vs (N.set x a2 c2)) N.T))=.ok (s_ a' (I.length+1) cap') w'/\w'.heap[X]? =W.heap[X]? /\ap5 N K w W3 X j cs l (n+1) (I++[N.set x a2 c2]) a' cap' (w'.setCell ⟨X,j,n_⟩ (s_ a' (I.length+1) cap')):=by
 have hsz:=h.size;have hz2:B_ W.heap.size W ((W.alloc (c_ (N.vs x) N.T)).alloc (c_ #[] N.e)):=((Kp _ _).alloc (Ki _) _).alloc zy _;have hC:=(Fw.block W.heap.size ZbI (λe=>Zcb)).trans ((PU zy).trans (Kj W _));have hb:B_ W.heap.size W w7:=hz2.grown Fw ZbI (λk hk=>ZdW);have hq:∀g∈blk a2,W.heap.size<g:=λg hg=>by have h5:=nW g hg;simp at h5;omega
 have hs8:(w7.setCell ⟨W.heap.size,s,n_⟩ (s_ a2 (N.len x) c2)).heap.size=w7.heap.size:=fH [_];have hC8:=cx (i:=s) (v:=s_ a2 (N.len x) c2) hC;rw[hsl]at hC8;have Aq:B_ W.heap.size W (w7.setCell ⟨W.heap.size,s,n_⟩ (s_ a2 (N.len x) c2)):=bP hb (Ki _);have hm:N.cO (w7.setCell ⟨W.heap.size,s,n_⟩ (s_ a2 (N.len x) c2)) W3.heap.size (N.set x a2 c2):=(gd.rJ (cq (aL how λg hg=>aH (by have:=hq g hg;show g≠W.heap.size;omega)) hsz))
 have hg8:=h.ap7.below Aq;have hf:∀g,N.bt (N.set x a2 c2)=o_ g->g∉blk a++I.filterMap N.bt:=λg hk hm'=>by
  have h5:=(h.ap7.lt g hm').2;have h6:g∈blk a2:=by
   unfold gd.bt at hk;rw[N.arQ]at hk;exact fZ.2 hk
  have:=hq g h6
  omega
 have hlen:=h.len;obtain⟨a',cap',w',r1,r2,r3,r4⟩:=aad ht hi hz K.pos hby (N.vs (N.set x a2 c2)) (hvs _) (h1 _) hg8.own zw Ze6;rw[hs8]at r1;have hXs:w'.heap[X]? =W.heap[X]?:=(r3.same X Ze6 λhm'=>by have:=(h.ap7.lt X (Lz _ hm')).1;omega).trans (Aq.block X zw);have lY:B_ w.heap.size w w':=(h.cd.trans (Aq.mono h.cd.size)).trans (r3.below (by have:=h.cd.size;have:=Aq.size;omega) λg hg=>by have:=(h.ap7.lt g (Lz _ hg)).1;omega);have hgn:=hg8.more hm hf (by rw[hv];exact r2) r3 r4;refine⟨⟨hC,hC8,(aH zw).trans (hb.block X zw),hs8⟩,a',cap',w',r1,hXs,?_,hgn.same λg hg=>aH (by have:=(hgn.lt g hg).1;omega),?_,λg hg hne=>(aH hne).trans ((r3.same g Ze6 λhm'=>by have:=(h.ap7.lt g (Lz _ hm')).1;omega).trans ((Aq.block g zw).trans (h.same g hg hne))),bP lY hX.1,?_⟩
 .have h5:=cx (i:=j) (v:=s_ a' (I.length+1) cap') (hXs.trans h.box)
  rw[h5,Lf,adg];simp
 .rw [cj hx,Kl,Kl,h.ps]
  simp[N.set_set]
 .have h5:(w'.setCell ⟨X,j,n_⟩ (s_ a' (I.length+1) cap')).heap.size=w'.heap.size:=fH [_]
  rw[h5]
  have:=r3.size
  have:=Aq.size
  omega
def ap5.start (hb:W.heap[X]? =o_ (c_ cs 46))(hc:cs.setIfInBounds j (s_ n_ 0 0)=cs)(kj:B_ w.heap.size w W):ap5 N K w W X j cs l 0 [] n_ 0 W:=
 ⟨by rw[K4,hc];exact hb,apw.start _ _,rfl,λ_ _ _=>rfl,kj,Ki _⟩
def ap5.pure {β:Type}{f:α->β}(h:ap5 N K w W3 X j cs l n I a cap W)(hf:∀x,f (N.set x n_ 0)=f x)(hn:l.length<=n):I.map f=l.map f:=by
 have h5:=congrArg (List.map f) h.ps;rw[KF hn,Lv,Lv]at h5;simpa[Ls,hf]using h5
end
end
section
def mY {α:Type}(K:Kind α)(T:T_)(w:w_)(l:List α)(e:Ending)(w':w_):Prop:=∃a cap,e=r_ (s_ a l.length cap)/\w'.ownsRow w.heap.size T K.n (s_ a l.length cap) l.length (K.flat l)/\B_ w.heap.size w w'
end
section
open Go.Maps
def zj (Me:Int)(bj b:Nat)(l:List (ao×Nat))(w:w_)(h:Shelf aX (λx:ao=>x.id) 125 w bj b l)(hl:l.length<=1048576)(hwf:∀p∈(RW (λx:ao=>x.id) l),(Lit.int j_ p.1).wf=true):
  k_ J3 46 #[a_ #[i_ j_ Me,.map (o_ b)]] w λe w'=>mY bg 125 w (l.map (·.1)) e w':=by
 obtain⟨i0,hi,e0⟩:=Kw.1 nb;simp only[Kx]at e0;have HI:da (Tryz.prog.info? 125=o_ i0/\i0.zero=o_ _/\i0.size=12/\i0.bytes=128):=⟨hi,e0⟩
 have H:da (Shelf aX (λx:ao=>x.id) 125 (w.alloc (c_ #[i_ j_ Me,.map (o_ b)] 104)) bj b l/\(∀p∈(RW (λx:ao=>x.id) l),(Lit.int j_ p.1).wf=true)/\B_ w.heap.size w (w.alloc (c_ #[i_ j_ Me,.map (o_ b)] 104))):=⟨h.below ((Kp _ _).alloc (Ki _) _),hwf,(Kp _ _).alloc (Ki _) _⟩
 have HK:da ((RW (λx:ao=>x.id) l).length=l.length):=bZ l;clear h hwf hi e0
 go_enter func46,ntmps46
 go_wp2_with fail;generalize w.alloc (c_ #[i_ j_ Me,.map (o_ b)] 104)=W at*;refine(mq Me b (RW (λx:ao=>x.id) l) W H.I.1.map ZcS H.I.2.1).mono ?_;rintro e w2 ⟨a,cap,rfl,hown,hb2⟩;obtain⟨a',cap',hv,hrow⟩:=cr hown;cases hv;have HR:da (Row w2 a ((RW (λx:ao=>x.id) l).map λp=>dt p.2)):=hrow;have HO:da (Shelf aX (λx:ao=>x.id) 125 w2 bj b l/\B_ w.heap.size w w2):=⟨H.I.1.below hb2,H.I.2.2.trans (hb2.mono H.I.2.2.size)⟩
 rw[HK.I];clear hown hrow hb2;go_wp2_with fail
 go_loopw[3,9] (λt i wr=>∃k:Nat,k<=l.length/\i=i_ j_ k/\∃a' cap',t=s_ a' k cap'/\da (wr.ownsRow w2.heap.size 125 12 (s_ a' k cap') k (bg.flat ((l.take k).map (·.1)))/\B_ w2.heap.size w2 wr)) (λ_ i _=>l.length-(intOf i).toNat)
 case atStart=>exact ZbS
 case round=>
  obtain⟨k,hk,rfl,a',cap',rfl,HA⟩:=hrel;by_cases hlt:k<l.length
  .have qE:(0:Int)<=(k:Int):=zw
   have i1:(k:Int)<(l.length:Int):=zw
   obtain⟨p,hp⟩:∃p,l[k]? =o_ p:=⟨_,Kz hlt⟩
   obtain⟨g,ha,hc⟩:=(HR.I.below HA.I.2) k (dt p.2) Zdq;subst ha;unfold dt at hc;have HP:da (l[k]? =o_ p):=hp;obtain⟨s0,s1,s2,s3,s4,s5,s6,s7,s8,s9,s10,s11⟩:=bo ((HO.I.1.below HA.I.2).box p (KA hp));have kT:=HA.I.2.size;clear hp;go_wp2_with(at_builtin;refine KD _ rfl _ _ 39 rfl w2.heap.size 125 i0 _ 12 128 underlying39 HI.I.1 HI.I.2.1 HI.I.2.2.1 HI.I.2.2.2 rfl (by decide) (s_ a' k cap') k (bg.flat ((l.take k).map (·.1))) rfl (HA.I.1.alloc _) ⟨wr.heap.size,0,n_⟩ 1 1 (bg.vals p.1) (by rfl) rfl (KE (cs:=#[i_ j_ p.1.id,i_ j_ p.1.RX,s_ p.1.aY p.1.prog.length p.1.bH,i_ j_ p.1.Md,i_ j_ p.1.pc,i_ j_ p.1.left,i_ j_ p.1.Mg,i_ j_ p.1.on,t_ p.1.held,t_ p.1.got,i_ j_ p.1.code,i_ j_ p.1.RU]) (t:=125) (fr:=(0,0)) (Kj wr _)) (by simp[bg,qN,Value.oneCell']) Zb2 zw ZbI ?_;intro v' w5 hown' hgrow hnil jV;obtain⟨a5,im,rfl,-⟩:=cr hown';have HN:da (w5.ownsRow w2.heap.size 125 12 (s_ a5 (k+1) im) (k+1) (bg.flat ((l.take (k+1)).map (·.1)))/\B_ w2.heap.size w2 w5):=⟨by rw[cj HP.I,Kl,bg.dc];exact hown',(HA.I.2.alloc kT _).grown hgrow ZbI (λq hq=>(HA.I.1.lt q hq).1)⟩;clear hown' hgrow hnil jV);exact mi
  .exact jp
end
section
def dd {α:Type}{N:gd α}{l:List α}{y:α}{g:Nat}(hy:y∈l)(hk:N.bt y=o_ g):(∃a,a∈l/\N.bt a=o_ g)=True:=by simp only[eq_iff_iff,iff_true];exact⟨y,hy,hk⟩
section
variable {α:Type}{N:gd α}{w w':w_}{bj g:Nat}{A B:List α}{x y:α}
structure fp (N:gd α)(w:w_)(bj g:Nat)(l:List α):Prop where
 mine:∀z∈l,N.cO w bj z
 nodup:(g::l.filterMap N.bt).Nodup
def fp.keep {l:List α}(h:fp N w bj g l)(hk:aI w w' [g]):fp N w' bj g l:=
 ⟨λz hz=>(h.mine z hz).same λb hb=>hk.same b ((h.mine z hz).lt hb).2 λhm=>by
  simp only[Kt,Ku,or_false]at hm;subst hm;exact(Lp.1 h.nodup).1 (Lq.2 ⟨z,hz,hb⟩),h.nodup⟩
def fp.ju (h:fp N w bj g (A++x::B))(hk:N.bt y=N.bt x)(hm:N.cO w bj y):fp N w bj g (A++y::B):=by
 refine⟨λz hz=>?_,?_⟩
 .rcases Kg.1 hz with hz|hz
  .exact h.mine z (Lz _ hz)
  .rcases Kt.1 hz with rfl|hz
   .exact hm
   .exact h.mine z (Ly _ (LB _ hz))
 .have:=h.nodup
  rw[LW,LH]at this⊢;rw[hk];exact this
def fp.apart {l:List α}(h:fp N w bj g l){z:α}(hz:z∈l):g∉blk (N.ad z):=λhm=>
 (Lp.1 h.nodup).1 (Lq.2 ⟨z,hz,fZ.1 hm⟩)
end
end
section
attribute [local go_sem ↓] Kc Kd









end
end Go.Proofs.YtckenjkcmajicaaGreat
