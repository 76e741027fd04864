/- What the proof leans on, part 19. -/
import Derived.Test.YtckenjkcmajicaaGreatOwnG14
import Derived.Test.YtckenjkcmajicaaGreatOwnG15
import Derived.Test.YtckenjkcmajicaaGreatOwnG16
import Derived.Lib.SliceRun
set_option linter.all false
set_option maxRecDepth 100000
set_option maxHeartbeats 8000000
open Go.Proofs.Tryz
open Go renaming World->w_,Value->v_,Calls->k_,Addr->d_,TypeId->T_,below_setRow->q_
open Go.Ending renaming returned->r_
open Go.IntKind renaming i64->j_
open Go.Obj renaming cells->c_
open Go.RowKit renaming Below->B_,Hid->da
open Go.Value renaming int->i_,slice->s_,bool->b_,string->t_,agg->a_,tuple->u_
open Option renaming some->o_,none->n_
open Function renaming comp_def->Ls
open Go renaming wp_at_succ->Kd,wp_at_zero->Kc
open Go.Proofs.Tryz renaming prog->J3
open List renaming find?_map->aeu,length_cons->Lg,length_nil->K4,mem_of_find?_eq_some->RG
open Option renaming map_some->J9

open Go.RowKit
namespace Go.Proofs.YtckenjkcmajicaaGreat
section
open Go.Maps
attribute [local go_sem ↓] Kc Kd
def V7 (k:kd)(id:Int):Option aE:=if eP k then hP (λp:aE=>p.id) id k.parts else n_
def WJ (l:List af)(id:Int):hP (λp:aE=>p.id) id (l.map (·.pure))=(hP (λp:af=>p.id) id l).map (·.pure):=by
 unfold hP;rw[aeu];rfl
structure VW (w:w_)(k:eA)(W:w_):Prop where
 ks:dr w w.heap.size k W
 I:W.heap[w.heap.size+1]? =o_ (c_ ar 46)
def VW.below {w W W2:w_}{k:eA}(h:VW w k W)(hb:B_ W.heap.size W W2):VW w k W2:=⟨h.ks.below hb,(hb.block _ (J2.1 h.I).1).trans h.I⟩
def VW.first {w:w_}{k:eA}(h:eA.At w k):VW w k ((w.alloc (c_ k.row 30)).alloc (c_ ar 46)):=
 ⟨(dr.first h).below ((Kp _ _).alloc (Ki _) _),Kq _ _ _⟩
def Ww {k:kd}(h:eP k=true):∀p∈k.parts,aQ p:=by
 simp only[eP,J7]at h;have key:∀(l:List aE)(last:Int),aw (·.id) bK last l=true->∀p∈l,aQ p:=by
  intro l
  induction l with
  |nil=>intro _ _ p hp;cases hp
  |cons x r ih=>
   intro last h p hp;simp only[aw,J7]at h;rcases Kt.1 hp with rfl|hp
   .exact (ch _).1 h.1.2
   .exact ih _ h.2 p hp
 exact key _ _ h.1.2
def Wg (k:eA)(id:Int)(g bj:Nat)(w:w_)(hid:(Lit.int j_ id).wf=true)(hs:k.pure.Small)(ho:gp w bj k)(hg:k.vb=o_ ⟨g,0,n_⟩/\g<w.heap.size):
  k_ J3 11 #[a_ k.row,i_ j_ id] w λe w'=>gI w (V7 k.pure id) e w':=by
 have S:=aA (VW.first ho.at);have hz:B_ w.heap.size w ((w.alloc (c_ k.row 30)).alloc (c_ ar 46)):=((Kp _ _).alloc (Ki _) _).alloc zy _;have Mb:=Pq k g ((w.alloc (c_ k.row 30)).alloc (c_ ar 46)) hs (ho.at.below hz) (λp hp=>(U7 hs ho p hp).below hz) ⟨hg.1,Zdm⟩;have HI:=aA hid;clear hid hs ho hg hz
 go_enter func11,ntmps11
 go_upto_region 1 with fail;generalize(w.alloc (c_ k.row 30)).alloc (c_ ar 46)=W0 at*;obtain⟨m0,m1,m2,m3,m4⟩:=S.I.ks.box.cells;go_wp2_with fail;clear m0 m1 m2 m3 m4;refine Mb.mono ?_;clear Mb;rintro e W1 ⟨hb1,⟨hno,rfl⟩|⟨fm,K,rfl,hK⟩⟩
 .have HN:da (V7 k.pure id=n_):=by show _=_;rw[V7,hno];rfl
  replace S:=aA (S.I.below hb1);clear hno hb1;exact ZaO
 obtain⟨w1,b,tab,l,ls,a,cap,-,Yy,hl,-,-,hL,-,hlo⟩:=hK.ex;have hKM:=hL.apL Yy;have HR:da (∀p∈l,aQ p.1.pure):=λp hp=>Ww fm _ (by rw[<-hl];exact Lr.2 ⟨p,hp,rfl⟩)
 have HP:da (V7 k.pure id=(l.find? (λp=>p.1.q.id==id)).map (·.1.pure)):=by
  show _=_
  rw[V7,fm,if_pos rfl,<-hl];unfold hP;rw[aeu]
  congr 2
 have HO:da (∀p∈l,∃bj,W0.heap.size<=bj/\cJ W1 bj p.2 p.1):=λp hp=>by
  obtain⟨bs,h1,h2⟩:=(Yy.kept hL.kept).part p hp;exact⟨bs,zw,h2⟩
 have HW0:=aA (J2.1 S.I.I).1;replace S:=aA (S.I.below hb1);have c63:=hKM.cell;have hlk:=hKM.map.look underlying66 (TQ W1) HI.I true;rw[Tf]at hlk;simp only[if_true]at hlk;clear fm hK Yy hl hL hlo hKM hb1 HI;cases hf:l.find? (λp=>p.1.q.id==id)with
 |none=>
  have HN:da (V7 k.pure id=n_):=by show _=_;rw[HP.I,hf];rfl
  rw[hf]at hlk;simp only[Option.map_none,Option.isSome_none,qz]at hlk;clear hf HP;exact ZaO
 |some q=>
  have HN:da (V7 k.pure id=o_ q.1.pure):=by show _=_;rw[HP.I,hf];rfl
  have hm:=RG hf;obtain⟨bs,hbs,hoa⟩:=HO.I q hm;have Mb:=jR q.2 bs q.1 W1 hoa (iB (HR.I q hm));have HB:=aA hbs;rw[hf]at hlk;simp only[J9,Option.isSome_some,qz,dt]at hlk;clear hf HP hm hbs hoa HO HR;go_wp2_with fail;clear c63 hlk;refine Mb.mono ?_;clear Mb;rintro e W2 ⟨r,rfl,ho,hp,hb2⟩;have HO:da (ap W2 bs r/\r.pure=q.1.pure/\w.heap.size+1<bs):=⟨ho,hp,by have:=HW0.I;have:=HB.I;omega⟩
  replace S:=aA (S.I.below hb2);clear ho hp hb2;go_wp2_with(refine ec _ _ (af.cells r) S.I.I ?_);refine mG results11 (b_ true) S.I.I ?_;rw[HN.I];have hl:=HO.I.2.2;exact⟨r,rfl,(HO.I.1.lower zw).same λb hb=>KH _ _ _ _ (by have:=(HO.I.1.lt b hb).1;omega),HO.I.2.1,q_ S.I.ks.low zw _⟩
end
section
def Shp (p q:aE):Prop:=q.id=p.id/\q.ai.map abL=p.ai.map abL
section
variable {p q r:aE}
def Shp.apz:Shp p p:=⟨rfl,rfl⟩
def Shp.trans (h:Shp p q)(h':Shp q r):Shp p r:=⟨h'.1.trans h.1,h'.2.trans h.2⟩
def an4 {c:Prop}[Decidable c]{a b:aE}(h1:c->Shp p a)(h2:¬c->Shp p b):Shp p (if c then a else b):=by
 split
 .exact h1 ‹_›
 .exact h2 ‹_›
def aoK (k:Int) (l:List ByteArray):Shp p (gU k l p):=⟨rfl,by
 simp only[gU,jP,Lv];refine Lw λx _=>?_
 simp only[Function.comp]
 split<;>rfl⟩
def aoR {f:aD->aD}{st on:Int}:∀(n:Nat)(p:aE),Shp p (gW f st on n p)
 |0,_=>Shp.apz
 |n+1,p=>by
  simp only[gW]
  split
  .exact Shp.apz
  .exact (aoR n _).trans ⟨rfl,rfl⟩|> λh=>⟨h.1,h.2⟩
def aox (bE:Int):∀(n:Nat)(p:aE),Shp p (oO bE n p)
 |0,_=>Shp.apz
 |n+1,p=>by
  simp only[oO]
  split
  .exact Shp.apz
  .exact (aox bE n _).trans ⟨rfl,rfl⟩|> λh=>⟨h.1,h.2⟩
def Shp.past {c id:Int}(h:Shp p q):Shp p (bu c id q):=⟨h.1,h.2⟩
def aoJ {st bE id:Int}{o:dN}(h:Shp p q):Shp p (mX st o bE id q):=by
 unfold mX
 split<;>exact⟨h.1,h.2⟩
def shp_op (bE:Int)(x:aD)(o:dN):Shp p (lX bE x o p):=by
 have e:Shp p p:=Shp.apz;unfold lX;refine an4 (λ_=>?_) λ_=>?_
 .unfold GY
  exact an4 (λ_=>⟨rfl,rfl⟩) λ_=>⟨rfl,rfl⟩
 refine an4 (λ_=>⟨rfl,rfl⟩) λ_=>?_
 refine an4 (λ_=>?_) λ_=>?_
 .unfold mh
  split
  .exact e.past
  .exact an4 (λ_=>aoJ e) λ_=>⟨rfl,rfl⟩
 refine an4 (λ_=>?_) λ_=>?_
 .unfold gJ
  split
  .exact e.past
  .split
   .exact ⟨rfl,rfl⟩
   .exact an4 (λ_=>e.past) λ_=>⟨rfl,rfl⟩
 refine an4 (λ_=>?_) λ_=>?_
 .unfold dE
  split
  .exact e.past
  .exact an4 (λ_=>Shp.past (Shp.trans (q:=gL o.2.1 true p) ⟨rfl,rfl⟩ (aoR _ _))) λ_=>an4 (λ_=>⟨rfl,rfl⟩) λ_=>an4 (λ_=>e.past) λ_=>aoJ e
 refine an4 (λ_=>?_) λ_=>?_
 .unfold lc
  split
  .exact e.past
  .split
   .exact ⟨rfl,rfl⟩
   .exact an4 (λ_=>aoJ e) λ_=>⟨rfl,rfl⟩
 refine an4 (λ_=>?_) λ_=>?_
 .unfold ka
  split
  .exact e.past
  .split
   .exact aoJ ⟨rfl,rfl⟩
   .split<;>exact⟨rfl,rfl⟩
 refine an4 (λ_=>?_) λ_=>?_
 .unfold dC
  split
  .exact e.past
  .exact an4 (λ_=>Shp.past (Shp.trans (q:=ib o.2.1 true o.2.2.2 p) ⟨rfl,rfl⟩ (aoR _ _))) λ_=>an4 (λ_=>⟨rfl,rfl⟩) λ_=>an4 (λ_=>⟨rfl,rfl⟩) λ_=>aoJ ⟨rfl,rfl⟩
 refine an4 (λ_=>?_) λ_=>?_
 .unfold ig
  split
  .exact e.past
  .exact an4 (λ_=>e.past) λ_=>an4 (λ_=>(aoK _ _).past) λ_=>an4 (λ_=>e.past) λ_=>(aoK _ _).past
 refine an4 (λ_=>?_) λ_=>?_
 .unfold gC
  split
  .exact e.past
  .refine an4 (λ_=>e.past) λ_=>?_
   split
   .exact ⟨rfl,rfl⟩
   .exact Shp.past (an4 (λ_=>Shp.trans (q:=ez _ x.id p) ⟨rfl,rfl⟩ (aoK _ _)) λ_=>⟨rfl,rfl⟩)
 refine an4 (λ_=>?_) λ_=>?_
 .unfold jU
  split
  .exact e.past
  .exact an4 (λ_=>⟨rfl,rfl⟩) λ_=>e.past
 refine an4 (λ_=>?_) λ_=>⟨rfl,rfl⟩
 unfold lg
 split
 .exact e.past
 .exact an4 (λ_=>e.past) λ_=>an4 (λ_=>⟨rfl,rfl⟩) λ_=>⟨rfl,rfl⟩
def apD (bE:Int)(p:aE):Shp p (mS bE p):=by
 unfold mS
 split
 .exact aox _ _ _
 .exact (aox _ _ _).trans (shp_op _ _ _)
end
section
variable {ps ps0:List aE}
abbrev shp (p:aE):Int×List dS:=(p.id,p.ai.map abL)
def shp_of {p q:aE}(h:Shp p q):shp q=shp p:=Prod.ext h.1 h.2
def apm (h:ps.map abQ=ps0.map abQ):ps.map shp=ps0.map shp:=by
 have h5:=congrArg (List.map λp:aE=>(p.id,p.ai)) h;simpa only[Lv,Ls,abQ]using h5
def ape (ps:List aE)(a b:Int):(endP ps a b).map abL=((ps.map shp).find? λs=>decide (s.1=a)).bind λs=>s.2.find? λq=>decide (q.id=b):=by
 simp only[endP,hP,aeu,Ls];cases ps.find? λp=>decide (p.id=a)with
 |none=>rfl
 |some p=>
  simp only[Option.bind_some,J9,aeu,Ls,abL];rfl
def aoT (h:ps.map shp=ps0.map shp)(a b:Int):(endP ps a b).map abL=(endP ps0 a b).map abL:=by rw[ape,ape,h]
def aom (h:ps.map shp=ps0.map shp)(c:eQ):pa ps c=pa ps0 c/\zo ps c=zo ps0 c:=by
 have h1:=aoT h c.src c.ga;have h2:=aoT h c.dst c.hI;unfold pa zo
 revert h1 h2
 cases endP ps c.src c.ga<;>cases endP ps0 c.src c.ga<;>cases endP ps c.dst c.hI<;>cases endP ps0 c.dst c.hI<;>intro h1 h2<;>simp[abL]at h1 h2⊢<;>simp[h1,h2]
def aoE (h:ps.map shp=ps0.map shp):∀(l m:List eQ),fA ps m l=fA ps0 m l
 |[],_=>rfl
 |c::l,m=>by
  have e:hR ps c=hR ps0 c:=funext λd=>by simp only[hR,(aom h c).2]
  simp only[fA,e,(aom h c).1,aoE h l]
def aol {α:Type}{num:α->Int}{ok ok':α->Bool}:∀{l l':List α}{last:Int},aw num ok last l=true->l'.map num=l.map num->(∀x∈l',ok' x=true)->aw num ok' last l'=true
 |[],[],_,_,_,_=>rfl
 |[],_::_,_,_,h,_=>ZcF
 |_::_,[],_,_,h,_=>ZcF
 |x::l,y::l',last,h,hi,ho=>by
  simp only[Lt,List.cons.injEq]at hi;simp only[aw,J7]at h⊢;rw[hi.1];exact⟨⟨h.1.1,ho y zy⟩,aol h.2 hi.2 λz hz=>ho z Zen⟩
def ao8 {p q:aE}(h:aQ p)(hs:abQ q=abQ p)(hq:∀x∈q.ai,dj x=true):aQ q:=by
 have e:q={p with ai:=q.ai}:=by
  cases p;cases q;simp only[abQ,aE.mk.injEq]at hs⊢;exact⟨hs.1,hs.2.1,hs.2.2.1,hs.2.2.2.1,hs.2.2.2.2.1,hs.2.2.2.2.2.1,hs.2.2.2.2.2.2.1,trivial⟩
 have hi:q.ai.map (·.id)=p.ai.map (·.id):=by
  have h5:=congrArg (λp:aE=>p.ai.map (·.id)) hs;simpa only[abQ,Lv,Ls,abL]using h5
 rw[e];exact h.Es hi (aol h.ai hi hq)
def aoz {k:kd}{bE:Int}(h:eP k=true)(hs:ps.map shp=k.parts.map shp)(hr:∀p∈ps,aQ p)(hn:cv bE 0 500000000=true):eP {k with bE:=bE,parts:=ps}=true:=by
 have hl:ps.length=k.parts.length:=by simpa using congrArg List.length hs
 have hi:ps.map (·.id)=k.parts.map (·.id):=by
  have h5:=congrArg (List.map Prod.fst) hs;simpa only[Lv,Ls]using h5
 simp only[eP,J7,decide_eq_true_eq]at h⊢;exact⟨⟨⟨⟨⟨hn,h.1.1.1.1.2⟩,zw⟩,h.1.1.2⟩,aol h.1.2 hi λp hp=>(ch p).2 (hr p hp)⟩,(aoE hs _ _).trans h.2⟩
def aoq {k:kd}{bE:Int}(h:k.Small)(hl:ps.length=k.parts.length)(hr:∀p∈ps,aQ p):kd.Small {k with bE:=bE,parts:=ps}:=
 ⟨h.Ts,by show ps.length<=_;rw[hl];exact h.sC,h.w8,h.win,λp hp=>ta (hr p hp),h.eC⟩
end
def aof (k:kd):Int:=an5 (sz k.fn) k.fn.length (k.bE%k.major)
def aok (id bE:Int)(l:List aE):List aE:=abP (λp:aE=>decide (p.id=id)) (mS bE) l
def aog (k:kd):Option kd:=match hP (λp:aE=>p.id) (aof k) k.parts with
 |none=>o_ {k with bE:=k.bE+1}
 |some p=>if p.next<=999999980 then o_ {k with bE:=k.bE+1,parts:=abI (aof k) (aok (aof k) k.bE k.parts) k.eC}else n_
def aoe:Nat->kd->Option kd
 |0,k=>o_ k
 |n+1,k=>(aoe n k).bind aog
def aoS (k:kd)(n:Int):Option kd:=if eP k=true/\cv n 0 200=true/\k.bE+n<=500000000 then aoe n.toNat k else n_
def aob {k:kd}(h:eP k=true):0<=k.bE/\k.bE<=500000000:=by
 simp only[eP,J7]at h;have h5:=h.1.1.1.1.1;simp only[cv,J7,decide_eq_true_eq]at h5;exact h5
def aow {id bE:Int}{l:List aE}{p:aE}(hr:∀p∈l,aQ p)(hf:hP (λp:aE=>p.id) id l=o_ p)(hn:p.next<=999999980)(hw:0<=bE/\bE<=1000000000):(aok id bE l).map shp=l.map shp/\∀p∈aok id bE l,aQ p:=by
 refine⟨acu (λx=>shp_of (apD bE x)) l,λq hq=>?_⟩;rcases acs hq with hq|⟨x,hx,rfl⟩
 .exact hr q hq
 .have:x=p:=KC (hx.symm.trans hf)
  subst this;exact(DA (hr _ (RG hf)) hn hw).1
def aoL {src:Int}{l:List aE}{cs:List eQ}(hr:∀p∈l,aQ p)(hc:∀c∈cs,pa l c=true):(abI src l cs).map shp=l.map shp/\∀p∈abI src l cs,aQ p:=by
 have h:=abz.all (src:=src) (abz.refl λp hp q hq=>(cK (hr p hp).ai q hq).2) hc;refine⟨apm h.acE,λq hq=>?_⟩;have h5:abQ q∈l.map abQ:=by rw[<-h.acE];exact List.mem_map_of_mem hq
 obtain⟨p,hp,e⟩:=Lr.1 h5;exact ao8 (hr p hp) e.symm (h.right q hq)
def apa {k k':kd}(h:eP k=true)(hs:k.Small)(hn:k.bE+1<=500000000)(he:aog k=o_ k'):eP k'=true/\k'.Small/\k'.bE=k.bE+1/\k'.fn=k.fn/\k'.eC=k.eC/\k'.parts.map shp=k.parts.map shp:=by
 have h0:=aob h;have hi:cv (k.bE+1) 0 500000000=true:=by simp only[cv,J7,decide_eq_true_eq];omega
 unfold aog at he;cases hf:hP (λp:aE=>p.id) (aof k) k.parts with
 |none=>
  rw[hf]at he;cases he;exact⟨aoz h rfl (Ww h) hi,aoq hs rfl (Ww h),rfl,rfl,rfl,rfl⟩
 |some p=>
  rw[hf]at he;simp only at he;by_cases hp:p.next<=999999980
  .obtain ⟨t1,t2⟩:=aow (bE:=k.bE) (Ww h) hf hp ⟨h0.1,zw⟩
   obtain⟨c1,c2⟩:=aoL (src:=aof k) t2 (cs:=k.eC) λc hc=>by rw[(aom t1 c).1];exact(Xo h).2.2.2 c hc
   have c3:=c1.trans t1;rw[if_pos hp]at he;cases he;exact⟨aoz h c3 c2 hi,aoq hs (by simpa using congrArg List.length c3) c2,rfl,rfl,rfl,c3⟩
  .rw [if_neg hp]at he
   cases he
def aoA {k:kd}(h:eP k=true)(hs:k.Small):∀{n:Nat}{k':kd},k.bE+n<=500000000->aoe n k=o_ k'->eP k'=true/\k'.Small/\k'.bE=k.bE+n
 |0,k',_,he=>by cases he;exact⟨h,hs,zy⟩
 |n+1,k',hn,he=>by
  simp only[aoe]at he;cases hk:aoe n k with
  |none=>rw[hk]at he;cases he
  |some k2=>
   rw[hk]at he;obtain⟨a1,a2,a3⟩:=aoA h hs zw hk;obtain⟨b1,b2,b3,-⟩:=apa a1 a2 zw he;exact⟨b1,b2,zw⟩
end
section
open Go.Maps
attribute [local go_sem ↓] Kc Kd
def fy.drew {α:Type}{K:Kind α}{T:T_}{t8:Array v_}{W w:w_}{acc:List α}{a:Option d_}{c:Nat}(h:fy K T t8 W w acc a c):fy K T t8 W w.drew acc a c:=⟨aL h.own λ_ _=>rfl,h.ne,h.cd.drew,h.box⟩
abbrev aM.row (z:aM):Array v_:=#[i_ j_ z.id,b_ z.I,b_ z.Mf,i_ j_ z.max,s_ z.ak z.Ma.length z.aq]
def DY {p q:af}{w W W2 w9:w_}{o b0 n9 c9:Nat}{x:aM}{xp:dS}{t8:Array v_}{acc:List aM}{a9:Option d_}(hB:Laid w b0 (w.heap.size+1+1) p W2)(hQ:aqz W o (w.heap.size+1+1) p q W2)(hpb:∀g∈p.Mc,g<w.heap.size)(hl:fy bX 51 t8 W2 w9 acc a9 c9)(ha:acc=bY (λy:aM=>y.id) x q.ai)(hn:acc.length=n9)(hx:x.todS=xp)(hk:∀g,aU.bt x=o_ g->g∉q.Mc/\g≠o)(hm:aU.cO W2 W.heap.size x):
  ∃q',da (aro w W b0 (w.heap.size+1+1) o p q' {p.pure with ai:=bY (·.id) xp p.pure.ai} (w9.setCell ⟨o,7,n_⟩ (s_ a9 n9 c9))):=by
 subst hn;have h1:=hQ.2.2.2.2;refine⟨{q with ai:=acc,aK:=a9,aV:=c9},arc _ hB hQ zw hpb hl.own hl.cd ha hk hm hQ.2.1.eR (λg hg=>Zer) ?_ rfl (λV h1=>hQ.2.1.Jb zw (λg hg=>ZeE) h1) ?_⟩
 .have h5:=hQ.2.1.nodup
  simp only[af.Mc,Kf]at h5;exact h5.2.1.2.1.2.1.2.1.2.1.2.1.2.1.2.1
 .show ({q.pure with ai:=acc.map (·.todS)}:aE)=_
  have e1:q.ai.map (·.todS)=p.pure.ai:=congrArg aE.ai hQ.2.2.1;rw[ha,rF (je:=(·.id)) (λy:aM=>y.todS) (λ_=>rfl),e1,hx,hQ.2.2.1]
def nd (p:af)(z:aM)(w:w_)(b0:Nat)(hwf:(Lit.int j_ z.id).wf=true)(qY:p.pure.Small)(h:ap w b0 p):
  k_ J3 91 #[a_ p.cells,a_ #[i_ j_ z.id,b_ z.I,b_ z.Mf,i_ j_ z.max,s_ z.ak z.Ma.length z.aq]] w λe w'=>gI w (cB p.pure {p.pure with ai:=bY (·.id) (⟨z.id,z.I,z.Mf,z.max,[]⟩:dS) p.pure.ai}) e w':=by
 have HB:=aA (aq1 (x:=c_ z.row 51) h);have Cj:da ((((w.alloc (c_ p.row 46)).alloc (c_ z.row 51)).alloc (c_ ar 46)).heap[w.heap.size+1]? =o_ (c_ z.row 51)):=(dR _ _ _ _).2.1;have fl:da (p.Fit/\(∀x∈p.L8,x.dX)/\p.pure.Small/\(Lit.int j_ z.id).wf=true):=⟨dV qY,λx hx=>(cY qY hx).1,qY,hwf⟩
 have hpl:p.ai.length<=1048576:=fl.I.1.short.ai;have Au:da (∀g∈p.Mc,g<w.heap.size):=λg hg=>(h.lt g hg).2
 clear h qY hwf;obtain⟨m0,m1,m2,m3,m4,m5,m6,m7⟩:=HB.I.1.cells;unfold af.cells at*
 go_enter func91,ntmps91
 go_wp2_with fail;generalize((w.alloc (c_ p.row 46)).alloc (c_ z.row 51)).alloc (c_ ar 46)=W at*;clear m0 m1 m2 m3 m4 m5 m6 m7;refine(fR p W fl.I.1 fl.I.2.1 HB.I.2.1.at).mono ?_;rintro e W1 ⟨q,rfl,hown,gn,hb1⟩;have hql:q.ai.length<=1048576:=by have e1:=congrArg (λz=>z.ai.length) gn;simp only[af.pure,KG]at e1;omega
 obtain⟨hb3,HQ,HL⟩:=aql HB.I hown gn hb1;replace HB:=HL;have hlt:=HQ.I.2.2.2.2.2.1;replace Cj:da ((W1.alloc (c_ q.row 46)).heap[w.heap.size+1]? =o_ (c_ z.row 51)):=(hb3.block _ zw).trans Cj.I;have hbz:B_ (W1.alloc (c_ q.row 46)).heap.size (W1.alloc (c_ q.row 46)) ((W1.alloc (c_ q.row 46)).alloc (c_ #[] 51)):=(Kp _ _).alloc (Ki _) _;obtain⟨z0,z1,z2,z3,z4⟩:=gE (x:=z) ((hbz.block _ (by have:=hb3.size;omega)).trans Cj.I);clear hbz;clear HL hown gn hb1 hb3 hlt;have En:da (fy bX 51 #[i_ j_ z.id,b_ z.I,b_ z.Mf,i_ j_ z.max,s_ n_ 0 0] (W1.alloc (c_ q.row 46)) (((W1.alloc (c_ q.row 46)).alloc (c_ #[] 51)).alloc (c_ #[i_ j_ z.id,b_ z.I,b_ z.Mf,i_ j_ z.max,s_ n_ 0 0] 51)) [] (o_ ⟨(W1.alloc (c_ q.row 46)).heap.size,0,n_⟩) 0):=fy.start;have Hw:(W1.alloc (c_ q.row 46)).heap.size=W1.heap.size+1:=zy
 have HW:da ((W1.alloc (c_ q.row 46)).heap.size=W1.heap.size+1):=Hw;clear Hw;unfold af.cells at*;go_wp2_with fail;clear z0 z1 z2 z3 z4;generalize W1.alloc (c_ q.row 46)=W2 at*;generalize W1.heap.size=o at*
 go_loopw[7,9,10] (λl d i wr=>∃(k:Nat)(dn:Bool)(acc:List aM)(a:Option d_)(c:Nat),k<=q.ai.length/\i=i_ j_ k/\d=b_ dn/\l=s_ a acc.length c/\da (fy bX 51 #[i_ j_ z.id,b_ z.I,b_ z.Mf,i_ j_ z.max,s_ n_ 0 0] W2 wr acc a c/\gY (λy:aM=>y.id) (⟨⟨z.id,z.I,z.Mf,z.max,[]⟩,n_,0⟩:aM) q.ai k dn acc)) (λ_ _ i _=>q.ai.length-(Go.RowKit.intOf i).toNat)
 case atStart=>exact Zcy
 case round=>
  obtain⟨k,dn,acc,a,c,hk,rfl,rfl,rfl,HA⟩:=hrel;have i0:(0:Int)<=(k:Int):=zw
  have mo0:wr.cell? ⟨o,7,n_⟩=o_ (s_ q.aK q.ai.length q.aV):=(HQ.I.1.below HA.I.1.cd).cells.2.2.2.2.2.2.2;have hal:=HA.I.2.le;by_cases hlt:k<q.ai.length
  .have i1:(k:Int)<(q.ai.length:Int):=zw
   replace HA:da (fy bX 51 #[i_ j_ z.id,b_ z.I,b_ z.Mf,i_ j_ z.max,s_ n_ 0 0] W2 wr.drew acc a c/\gY (λy:aM=>y.id) (⟨⟨z.id,z.I,z.Mf,z.max,[]⟩,n_,0⟩:aM) q.ai k dn acc):=⟨HA.I.1.drew,HA.I.2⟩
   have hbr:=HA.I.1.cd;have ajP:wr.drew.cell? ⟨o,7,n_⟩=o_ (s_ q.aK q.ai.length q.aV):=(HQ.I.1.below hbr).cells.2.2.2.2.2.2.2;have ali:wr.drew.cell? ⟨w.heap.size+1,0,n_⟩=o_ (i_ j_ z.id):=(gE (x:=z) ((hbr.block _ ZcQ).trans Cj.I)).1;obtain⟨y,hy⟩:∃y,q.ai[k]? =o_ y:=⟨_,Kz hlt⟩
   have HY:da (q.ai[k]? =o_ y):=hy;obtain⟨g,ha,hat⟩:=lm (HQ.I.2.1.below hbr).at.2.2.2.2.2 hy;rw[ha]at ajP;obtain⟨d0,d1,d2,d3,d4⟩:=hat;have HG:da (q.aK=o_ ⟨g,0,n_⟩):=ha;clear ha hy;obtain⟨a5,c5,w5,hap,rL⟩:=HA.I.1.add 44 48 (P:=J3) underlying44 na rfl (by decide) (by decide) y #[i_ j_ y.id,b_ y.I,b_ y.Mf,i_ j_ y.max,s_ y.ak y.Ma.length y.aq] rfl qX zw;have F5:da (fy bX 51 #[i_ j_ z.id,b_ z.I,b_ z.Mf,i_ j_ z.max,s_ n_ 0 0] W2 w5 (acc++[y]) a5 c5):=rL;clear rL;cases dn;rotate_left
   .
    go_wp2_with fail;refine aT (λw'=>w'=wr.drew) ZbG rfl ?_
    iterate 3 (refine PI ?_ (hy:=λw0 hS0=>Zb7))
    iterate 9 (refine nl ?_;simp only[pt,sb,s0,s1])
    (refine PI ?_ (hy:=λw0 hS0=>Zb7))
    refine bk ZbG ?_ _;intro w1 cm;subst cm;clear mo0;go_wp2_with(at_builtin;first|(refine br _ rfl _ _ 44 rfl _ _ _ _ rfl rfl hap ?_;clear hap))
    exact L_
   by_cases hc:z.id<y.id;rotate_left
   .have HC:da (¬z.id<y.id):=hc
    have d2:decide (z.id<y.id)=false:=decide_eq_false hc;go_wp2_with fail;refine aT (λw'=>w'=wr.drew) ZbG rfl ?_
    iterate 13 (refine PI ?_ (hy:=λw0 hS0=>Zb7))
    refine bk ZbG ?_ _;intro w1 cm;subst cm;clear mo0;go_wp2_with(at_builtin;first|(refine br _ rfl _ _ 44 rfl _ _ _ _ rfl rfl hap ?_;clear hap))
    go_round
    case rel=>exact⟨k+1,false,acc++[y],a5,c5,zw,by go_num,rfl,zy,⟨F5.I,HA.I.2.past HY.I (Int.not_lt.mpr HC.I)⟩⟩
    case measure=>exact ZbL
   clear hap F5 a5 c5 w5;have HC:da (z.id<y.id):=hc;have d2:decide (z.id<y.id)=true:=decide_eq_true hc;obtain⟨a5,c5,w5,hap,rL⟩:=HA.I.1.add 44 48 (P:=J3) underlying44 na rfl (by decide) (by decide) (⟨⟨z.id,z.I,z.Mf,z.max,[]⟩,n_,0⟩:aM) #[i_ j_ z.id,b_ z.I,b_ z.Mf,i_ j_ z.max,s_ n_ 0 0] rfl qX zw;obtain⟨a7,c7,w7,gT,mI⟩:=rL.add 44 48 (P:=J3) underlying44 na rfl (by decide) (by decide) y #[i_ j_ y.id,b_ y.I,b_ y.Mf,i_ j_ y.max,s_ y.ak y.Ma.length y.aq] rfl qX ZbI;rw[Lf]at gT;simp only[Lg,K4,Li]at gT;have HL7:da (fy bX 51 #[i_ j_ z.id,b_ z.I,b_ z.Mf,i_ j_ z.max,s_ n_ 0 0] W2 w7 (acc++[(⟨⟨z.id,z.I,z.Mf,z.max,[]⟩,n_,0⟩:aM)]++[y]) a7 c7):=mI;have mo5:w5.cell? ⟨o,7,n_⟩=o_ (s_ q.aK q.ai.length q.aV):=(HQ.I.1.below rL.cd).cells.2.2.2.2.2.2.2;obtain⟨g2,ha2,g8⟩:=lm (HQ.I.2.1.below rL.cd).at.2.2.2.2.2 HY.I;rw[HG.I]at ha2 mo5;cases ha2;obtain⟨e0,e1,e2,e3,e4⟩:=g8;obtain⟨x0,x1,x2,x3,x4⟩:=gE (x:=(⟨⟨z.id,z.I,z.Mf,z.max,[]⟩,n_,0⟩:aM)) (X:=o+1+1) (W:=wr.drew) Zdp;clear rL mI;simp only[K4]at*;go_wp2_with fail;refine aT (λw'=>w'=wr.drew) ZbG rfl ?_
   iterate 13 (refine PI ?_ (hy:=λw0 hS0=>Zb7))
   refine bk ZbG ?_ _;intro w1 cm;subst cm;clear mo0;go_wp2_with(at_builtin;first|(refine br _ rfl _ _ 44 rfl _ _ _ _ rfl rfl hap ?_;clear hap)|(refine br _ rfl _ _ 44 rfl _ _ _ _ rfl rfl gT ?_;clear gT))
   go_round
   case rel=>exact⟨k+1,true,acc++[(⟨⟨z.id,z.I,z.Mf,z.max,[]⟩,n_,0⟩:aM)]++[y],a7,c7,zw,by go_num,rfl,zy,⟨HL7.I,HA.I.2.here HY.I HC.I⟩⟩
   case measure=>exact ZbL
  have i1:¬(k:Int)<(q.ai.length:Int):=zw
  have hbr:=HA.I.1.cd;cases dn
  .obtain ⟨a9,c9,w9,hap,Jy⟩:=HA.I.1.add 44 48 (P:=J3) underlying44 na rfl (by decide) (by decide) (⟨⟨z.id,z.I,z.Mf,z.max,[]⟩,n_,0⟩:aM) #[i_ j_ z.id,b_ z.I,b_ z.Mf,i_ j_ z.max,s_ n_ 0 0] rfl qX zw
   have HR:da (fy bX 51 #[i_ j_ z.id,b_ z.I,b_ z.Mf,i_ j_ z.max,s_ n_ 0 0] W2 w9 (acc++[(⟨⟨z.id,z.I,z.Mf,z.max,[]⟩,n_,0⟩:aM)]) a9 c9/\acc++[(⟨⟨z.id,z.I,z.Mf,z.max,[]⟩,n_,0⟩:aM)]=bY (λy:aM=>y.id) (⟨⟨z.id,z.I,z.Mf,z.max,[]⟩,n_,0⟩:aM) q.ai/\(acc++[(⟨⟨z.id,z.I,z.Mf,z.max,[]⟩,n_,0⟩:aM)]).length=acc.length+1):=⟨Jy,HA.I.2.last hlt,zy⟩
   obtain⟨x0,x1,x2,x3,x4⟩:=gE (x:=(⟨⟨z.id,z.I,z.Mf,z.max,[]⟩,n_,0⟩:aM)) (X:=o+1+1) (W:=wr) Zdp;simp only[K4]at x0 x1 x2 x3 x4;clear Jy;obtain⟨q',eX⟩:=DY HB.I HQ.I Au.I HR.I.1 HR.I.2.1 HR.I.2.2 rfl (λg hg=>by cases hg) (Ke _ _ _ _);have Mb:=aqd (W:=W) (z:=w.heap.size+1+1) ⟨fl.I.1,fl.I.2.1⟩ eX.I.1.2.1 eX.I.1.2.2.1 eX.I.1.2.2.2 ⟨zw,ZcQ⟩ eX.I.2.2.1 eX.I.2.2.2 (λhr=>pU fl.I.2.2.1 hr ⟨fl.I.2.2.2,Ky _,(λs hs=>by cases hs)⟩);obtain⟨m0,m1,m2,m3,m4,m5,m6,m7⟩:=eX.I.1.1.cells;obtain⟨k0,k1,k2,k3,k4,k5,k6,k7⟩:=eX.I.2.1.cells;obtain⟨⟨u,co⟩,fo⟩:(∃u,w9.cell? ⟨o,7,n_⟩=o_ u)/\w9.frozen? ⟨o,7,n_⟩=false:=⟨⟨_,(HQ.I.1.below HR.I.1.cd).cells.2.2.2.2.2.2.2⟩,Ko _ _ _ _ _ (HQ.I.1.below HR.I.1.cd)⟩
   unfold af.cells at Mb;go_wp2_with(at_builtin;first|(refine br _ rfl _ _ 44 rfl _ _ _ _ rfl rfl hap ?_;clear hap));exact Q1
  .have HR:da (fy bX 51 #[i_ j_ z.id,b_ z.I,b_ z.Mf,i_ j_ z.max,s_ n_ 0 0] W2 wr acc a c/\acc=bY (λy:aM=>y.id) (⟨⟨z.id,z.I,z.Mf,z.max,[]⟩,n_,0⟩:aM) q.ai/\acc.length=acc.length):=⟨HA.I.1,HA.I.2.done hlt,rfl⟩
   obtain⟨q',eX⟩:=DY HB.I HQ.I Au.I HR.I.1 HR.I.2.1 HR.I.2.2 rfl (λg hg=>by cases hg) (Ke _ _ _ _);have Mb:=aqd (W:=W) (z:=w.heap.size+1+1) ⟨fl.I.1,fl.I.2.1⟩ eX.I.1.2.1 eX.I.1.2.2.1 eX.I.1.2.2.2 ⟨zw,ZcQ⟩ eX.I.2.2.1 eX.I.2.2.2 (λhr=>pU fl.I.2.2.1 hr ⟨fl.I.2.2.2,Ky _,(λs hs=>by cases hs)⟩);obtain⟨m0,m1,m2,m3,m4,m5,m6,m7⟩:=eX.I.1.1.cells;obtain⟨k0,k1,k2,k3,k4,k5,k6,k7⟩:=eX.I.2.1.cells;obtain⟨⟨u,co⟩,fo⟩:(∃u,wr.cell? ⟨o,7,n_⟩=o_ u)/\wr.frozen? ⟨o,7,n_⟩=false:=⟨⟨_,(HQ.I.1.below HR.I.1.cd).cells.2.2.2.2.2.2.2⟩,Ko _ _ _ _ _ (HQ.I.1.below HR.I.1.cd)⟩
   unfold af.cells at Mb;go_wp2_with fail;exact Q1
def xN {p q:af}{w W W2 w9:w_}{o b0 n9 c9:Nat}{x:au}{xp:ci}{t8:Array v_}{acc:List au}{a9:Option d_}(hB:Laid w b0 (w.heap.size+1) p W2)(hQ:aqz W o (w.heap.size+1) p q W2)(hpb:∀g∈p.Mc,g<w.heap.size)(hl:fy bm 137 t8 W2 w9 acc a9 c9)(ha:acc=bY (λy:au=>y.id) x q.ae)(hn:acc.length=n9)(hx:x.toci=xp)(hk:∀g,aC.bt x=o_ g->g∉q.Mc/\g≠o)(hm:aC.cO W2 W.heap.size x):
  ∃q',da (aro w W b0 (w.heap.size+1) o p q' {p.pure with ae:=bY (·.id) xp p.pure.ae} (w9.setCell ⟨o,6,n_⟩ (s_ a9 n9 c9))):=by
 subst hn;have h1:=hQ.2.2.2.2;refine⟨{q with ae:=acc,am:=a9,aG:=c9},arc _ hB hQ zw hpb hl.own hl.cd ha hk hm hQ.2.1.eE (λg hg=>Zer) ?_ rfl (λV h1=>hQ.2.1.Eu zw (λg hg=>ZeE) h1) ?_⟩
 .have h5:=hQ.2.1.nodup
  simp only[af.Mc,Kf]at h5;exact h5.2.1.2.1.2.1.2.1.2.1.2.1.1
 .show ({q.pure with ae:=acc.map (·.toci)}:aE)=_
  have e1:q.ae.map (·.toci)=p.pure.ae:=congrArg aE.ae hQ.2.2.1;rw[ha,rF (je:=(·.id)) (λy:au=>y.toci) (λ_=>rfl),e1,hx,hQ.2.2.1]
def qh (p:af)(id Me:Int)(w:w_)(b0:Nat)(hwf:(Lit.int j_ id).wf=true)(qY:p.pure.Small)(h:ap w b0 p):
  k_ J3 90 #[a_ p.cells,i_ j_ id,i_ j_ Me] w λe w'=>gI w (cB p.pure {p.pure with ae:=bY (·.id) (⟨id,Me,[]⟩:ci) p.pure.ae}) e w':=by
 have HB:=aA (aqL h);have fl:da (p.Fit/\(∀x∈p.L8,x.dX)/\p.pure.Small/\(Lit.int j_ id).wf=true):=⟨dV qY,λx hx=>(cY qY hx).1,qY,hwf⟩
 have hpl:p.ae.length<=1048576:=fl.I.1.short.ae;have Au:da (∀g∈p.Mc,g<w.heap.size):=λg hg=>(h.lt g hg).2
 clear h qY hwf;obtain⟨m0,m1,m2,m3,m4,m5,m6,m7⟩:=HB.I.1.cells;unfold af.cells
 go_enter func90,ntmps90
 go_wp2_with fail;generalize(w.alloc (c_ p.row 46)).alloc (c_ ar 46)=W at*;clear m0 m1 m2 m3 m4 m5 m6 m7;refine(fR p W fl.I.1 fl.I.2.1 HB.I.2.1.at).mono ?_;rintro e W1 ⟨q,rfl,hown,gn,hb1⟩;have hql:q.ae.length<=1048576:=by have e1:=congrArg (λz=>z.ae.length) gn;simp only[af.pure,KG]at e1;omega
 obtain⟨-,HQ,HL⟩:=aql HB.I hown gn hb1;replace HB:=HL;clear HL hown gn hb1;have En:da (fy bm 137 #[i_ j_ id,i_ j_ Me,s_ n_ 0 0] (W1.alloc (c_ q.row 46)) (((W1.alloc (c_ q.row 46)).alloc (c_ #[] 137)).alloc (c_ #[i_ j_ id,i_ j_ Me,s_ n_ 0 0] 137)) [] (o_ ⟨(W1.alloc (c_ q.row 46)).heap.size,0,n_⟩) 0):=fy.start;have Hw:(W1.alloc (c_ q.row 46)).heap.size=W1.heap.size+1:=zy
 have HW:da ((W1.alloc (c_ q.row 46)).heap.size=W1.heap.size+1):=Hw;clear Hw;unfold af.cells;go_wp2_with fail;generalize W1.alloc (c_ q.row 46)=W2 at*;generalize W1.heap.size=o at*
 go_loopw[9,11,12] (λl d i wr=>∃(k:Nat)(dn:Bool)(acc:List au)(a:Option d_)(c:Nat),k<=q.ae.length/\i=i_ j_ k/\d=b_ dn/\l=s_ a acc.length c/\da (fy bm 137 #[i_ j_ id,i_ j_ Me,s_ n_ 0 0] W2 wr acc a c/\gY (λy:au=>y.id) (⟨⟨id,Me,[]⟩,n_,0⟩:au) q.ae k dn acc)) (λ_ _ i _=>q.ae.length-(Go.RowKit.intOf i).toNat)
 case atStart=>exact Zcy
 case round=>
  obtain⟨k,dn,acc,a,c,hk,rfl,rfl,rfl,HA⟩:=hrel;have i0:(0:Int)<=(k:Int):=zw
  have hbr:=HA.I.1.cd;have hal:=HA.I.2.le;have ajP:wr.cell? ⟨o,6,n_⟩=o_ (s_ q.am q.ae.length q.aG):=(HQ.I.1.below hbr).cells.2.2.2.2.2.2.1;by_cases hlt:k<q.ae.length
  .have i1:(k:Int)<(q.ae.length:Int):=zw
   obtain⟨y,hy⟩:∃y,q.ae[k]? =o_ y:=⟨_,Kz hlt⟩
   have HY:da (q.ae[k]? =o_ y):=hy;obtain⟨g,ha,hat⟩:=iA (HQ.I.2.1.below hbr).at.2.2.2.2.1 hy;rw[ha]at ajP;obtain⟨d0,d1,d2⟩:=hat;have HG:da (q.am=o_ ⟨g,0,n_⟩):=ha;clear ha hy;obtain⟨a5,c5,w5,hap,rL⟩:=HA.I.1.add 43 40 (P:=J3) underlying43 kh rfl (by decide) (by decide) y #[i_ j_ y.id,i_ j_ y.max,s_ y.ak y.Ma.length y.aq] rfl nz zw;have F5:da (fy bm 137 #[i_ j_ id,i_ j_ Me,s_ n_ 0 0] W2 w5 (acc++[y]) a5 c5):=rL;clear rL;cases dn;rotate_left
   .go_wp2_with (at_builtin;first|(refine br _ rfl _ _ 43 rfl _ _ _ _ rfl rfl hap ?_;clear hap))
    exact L_
   by_cases hc:id<y.id;rotate_left
   .have HC:da (¬id<y.id):=hc
    go_wp2_with(at_builtin;first|(refine br _ rfl _ _ 43 rfl _ _ _ _ rfl rfl hap ?_;clear hap))
    exact Zaj
   clear hap F5 a5 c5 w5;have HC:da (id<y.id):=hc;obtain⟨a5,c5,w5,hap,rL⟩:=HA.I.1.add 43 40 (P:=J3) underlying43 kh rfl (by decide) (by decide) (⟨⟨id,Me,[]⟩,n_,0⟩:au) #[i_ j_ id,i_ j_ Me,s_ n_ 0 0] rfl nz zw;obtain⟨a7,c7,w7,gT,mI⟩:=rL.add 43 40 (P:=J3) underlying43 kh rfl (by decide) (by decide) y #[i_ j_ y.id,i_ j_ y.max,s_ y.ak y.Ma.length y.aq] rfl nz ZbI;rw[Lf]at gT;simp only[Lg,K4,Li]at gT;have HL7:da (fy bm 137 #[i_ j_ id,i_ j_ Me,s_ n_ 0 0] W2 w7 (acc++[(⟨⟨id,Me,[]⟩,n_,0⟩:au)]++[y]) a7 c7):=mI;have mo5:w5.cell? ⟨o,6,n_⟩=o_ (s_ q.am q.ae.length q.aG):=(HQ.I.1.below rL.cd).cells.2.2.2.2.2.2.1;obtain⟨g2,ha2,g8⟩:=iA (HQ.I.2.1.below rL.cd).at.2.2.2.2.1 HY.I;rw[HG.I]at ha2 mo5;cases ha2;obtain⟨e0,e1,e2⟩:=g8;obtain⟨x0,x1,x2⟩:=ia (x:=(⟨⟨id,Me,[]⟩,n_,0⟩:au)) (X:=o+1+1) (W:=wr) Zdp;clear rL mI;simp only[K4]at*;go_wp2_with(at_builtin;first|(refine br _ rfl _ _ 43 rfl _ _ _ _ rfl rfl hap ?_;clear hap)|(refine br _ rfl _ _ 43 rfl _ _ _ _ rfl rfl gT ?_;clear gT))
   go_round
   case rel=>exact⟨k+1,true,acc++[(⟨⟨id,Me,[]⟩,n_,0⟩:au)]++[y],a7,c7,zw,by go_num,rfl,zy,⟨HL7.I,HA.I.2.here HY.I HC.I⟩⟩
   case measure=>exact ZbL
  have i1:¬(k:Int)<(q.ae.length:Int):=zw
  cases dn
  .obtain ⟨a9,c9,w9,hap,Jy⟩:=HA.I.1.add 43 40 (P:=J3) underlying43 kh rfl (by decide) (by decide) (⟨⟨id,Me,[]⟩,n_,0⟩:au) #[i_ j_ id,i_ j_ Me,s_ n_ 0 0] rfl nz zw
   have HR:da (fy bm 137 #[i_ j_ id,i_ j_ Me,s_ n_ 0 0] W2 w9 (acc++[(⟨⟨id,Me,[]⟩,n_,0⟩:au)]) a9 c9/\acc++[(⟨⟨id,Me,[]⟩,n_,0⟩:au)]=bY (λy:au=>y.id) (⟨⟨id,Me,[]⟩,n_,0⟩:au) q.ae/\(acc++[(⟨⟨id,Me,[]⟩,n_,0⟩:au)]).length=acc.length+1):=⟨Jy,HA.I.2.last hlt,zy⟩
   obtain⟨x0,x1,x2⟩:=ia (x:=(⟨⟨id,Me,[]⟩,n_,0⟩:au)) (X:=o+1+1) (W:=wr) Zdp;simp only[K4]at x0 x1 x2;clear Jy;obtain⟨q',eX⟩:=xN HB.I HQ.I Au.I HR.I.1 HR.I.2.1 HR.I.2.2 rfl (λg hg=>by cases hg) (Ke _ _ _ _);have Mb:=aqd (W:=W) (z:=w.heap.size+1) ⟨fl.I.1,fl.I.2.1⟩ eX.I.1.2.1 eX.I.1.2.2.1 eX.I.1.2.2.2 ⟨zw,ZcQ⟩ eX.I.2.2.1 eX.I.2.2.2 (λhr=>nX fl.I.2.2.1 hr ⟨fl.I.2.2.2,Ky _,(λs hs=>by cases hs)⟩);obtain⟨m0,m1,m2,m3,m4,m5,m6,m7⟩:=eX.I.1.1.cells;obtain⟨k0,k1,k2,k3,k4,k5,k6,k7⟩:=eX.I.2.1.cells;obtain⟨⟨u,co⟩,fo⟩:(∃u,w9.cell? ⟨o,6,n_⟩=o_ u)/\w9.frozen? ⟨o,6,n_⟩=false:=⟨⟨_,(HQ.I.1.below HR.I.1.cd).cells.2.2.2.2.2.2.1⟩,Ko _ _ _ _ _ (HQ.I.1.below HR.I.1.cd)⟩
   unfold af.cells at Mb;go_wp2_with(at_builtin;first|(refine br _ rfl _ _ 43 rfl _ _ _ _ rfl rfl hap ?_;clear hap));exact Q2
  .have HR:da (fy bm 137 #[i_ j_ id,i_ j_ Me,s_ n_ 0 0] W2 wr acc a c/\acc=bY (λy:au=>y.id) (⟨⟨id,Me,[]⟩,n_,0⟩:au) q.ae/\acc.length=acc.length):=⟨HA.I.1,HA.I.2.done hlt,rfl⟩
   obtain⟨q',eX⟩:=xN HB.I HQ.I Au.I HR.I.1 HR.I.2.1 HR.I.2.2 rfl (λg hg=>by cases hg) (Ke _ _ _ _);have Mb:=aqd (W:=W) (z:=w.heap.size+1) ⟨fl.I.1,fl.I.2.1⟩ eX.I.1.2.1 eX.I.1.2.2.1 eX.I.1.2.2.2 ⟨zw,ZcQ⟩ eX.I.2.2.1 eX.I.2.2.2 (λhr=>nX fl.I.2.2.1 hr ⟨fl.I.2.2.2,Ky _,(λs hs=>by cases hs)⟩);obtain⟨m0,m1,m2,m3,m4,m5,m6,m7⟩:=eX.I.1.1.cells;obtain⟨k0,k1,k2,k3,k4,k5,k6,k7⟩:=eX.I.2.1.cells;obtain⟨⟨u,co⟩,fo⟩:(∃u,wr.cell? ⟨o,6,n_⟩=o_ u)/\wr.frozen? ⟨o,6,n_⟩=false:=⟨⟨_,(HQ.I.1.below HR.I.1.cd).cells.2.2.2.2.2.2.1⟩,Ko _ _ _ _ _ (HQ.I.1.below HR.I.1.cd)⟩
   unfold af.cells at Mb;go_wp2_with fail;exact Q2
def ra (p:af)(id:Int)(w:w_)(b0:Nat)(hwf:(Lit.int j_ id).wf=true)(qY:p.pure.Small)(h:ap w b0 p):
  k_ J3 89 #[a_ p.cells,i_ j_ id] w λe w'=>gI w (cB p.pure {p.pure with ag:=cA (·.id) (⟨id,false,⟨#[]⟩⟩:az) p.pure.ag}) e w':=by
 have HB:=aA (aqL h);have fl:da (p.Fit/\(∀x∈p.L8,x.dX)/\p.pure.Small/\(Lit.int j_ id).wf=true):=⟨dV qY,λx hx=>(cY qY hx).1,qY,hwf⟩
 have hpl:=fl.I.1.short.ag;have hcap:p.ag.length<=p.aP:=nV h.ag;have Au:da (∀g∈p.Mc,g<w.heap.size):=λg hg=>(h.lt g hg).2
 clear h qY hwf;obtain⟨m0,m1,m2,m3,m4,m5,m6,m7⟩:=HB.I.1.cells;unfold af.cells
 go_enter func89,ntmps89
 go_wp2_with fail;generalize(w.alloc (c_ p.row 46)).alloc (c_ ar 46)=W at*;clear m0 m1 m2 m3 m4 m5 m6 m7;refine(fR p W fl.I.1 fl.I.2.1 HB.I.2.1.at).mono ?_;rintro e W1 ⟨q,rfl,hown,gn,hb1⟩;obtain⟨-,HQ,HL⟩:=aql HB.I hown gn hb1;replace HB:=HL;clear HL hown gn hb1;obtain⟨m0,m1,m2,m3,m4,m5,m6,m7⟩:=HB.I.1.cells;unfold af.cells;go_wp2_with fail;generalize W1.alloc (c_ q.row 46)=W2 at*;clear m0 m1 m2 m3 m4 m6 m7;generalize W1.heap.size=o at*
 go_loop [7] (λi=>∃k:Nat,k<=p.ag.length/\i=i_ j_ k/\da (∀y∈p.ag.take k,y.id<id)) (λi=>p.ag.length-(Go.RowKit.intOf i).toNat)
 case atStart=>exact⟨0,Ky _,rfl,λy hy=>Zet⟩
 case round=>
  obtain⟨k,hk,rfl,HA⟩:=hrel;have i0:(0:Int)<=(k:Int):=zw
  have icap:(k:Int)<=(p.aP:Int):=zw
  have i2:(k:Int)<=(p.ag.length:Int):=zw
  have m:=m5;clear m5;rcases zm (λy:az=>y.id) id p.ag k with⟨x,hx,hc,hlt⟩|⟨x,hx,hc,hlt⟩|hlt
  .have HT:da (∀y∈p.ag.take (k+1),y.id<id):=nE hx HA.I hc
   have i1:(k:Int)<(p.ag.length:Int):=zw
   obtain⟨g,ha,hat⟩:=jr HB.I.2.1.at.2.2.2.1 hx;exact Zat
  focus
   have HX:da (∀y,p.ag[k]? =o_ y->¬y.id<id):=λy hy e=>Zd5
   have i1:(k:Int)<(p.ag.length:Int):=zw
   obtain⟨g,ha,hat⟩:=jr HB.I.2.1.at.2.2.2.1 hx;have c0:=hat.1;rw[ha]at m;clear hat hx ha
  rotate_left
  focus
   have HX:da (∀y,p.ag[k]? =o_ y->¬y.id<id):=λy hy=>absurd (Lj.1 hy).1 hlt
   have i1:¬(k:Int)<(p.ag.length:Int):=zw
  all_goals
   have hb3:B_ W2.heap.size W2 (W2.alloc (c_ #[] 134)):=(Kp _ _).alloc (Ki _) _;obtain⟨a5,c5,w5,a7,c7,w7,hap,gT,Em⟩:∃a5 c5 w5 a7 c7 w7,_/\_/\da _:=arC (V:=W2) (x:=(⟨id,false,⟨#[]⟩⟩:az)) (A:=p.ax) (C:=p.aP) (cs:=#[i_ j_ id,b_ false,t_ ⟨#[]⟩]) pX rfl hk hpl (λW' hb=>uM k (HB.I.2.1.below hb).at.2.2.2.1.1) rfl;have m2:(W2.alloc (c_ #[] 134)).cell? ⟨w.heap.size,5,n_⟩=o_ (s_ p.ax p.ag.length p.aP):=(HB.I.1.below hb3).cells.2.2.2.2.2.1;have hbo:W2.heap.size<=w7.heap.size:=Em.I.2.1.size;obtain⟨⟨u,co⟩,fo⟩:(∃u,w7.cell? ⟨o,5,n_⟩=o_ u)/\w7.frozen? ⟨o,5,n_⟩=false:=⟨⟨_,(HQ.I.1.below Em.I.2.1).cells.2.2.2.2.2.1⟩,Ko _ _ _ _ _ (HQ.I.1.below Em.I.2.1)⟩
   clear hb3;go_wp2_with(at_builtin;first|(refine br _ rfl _ _ 42 rfl _ _ _ _ rfl rfl hap ?_;clear hap)|(refine br _ rfl _ _ 42 rfl _ _ _ _ rfl rfl gT ?_;clear gT));have H8:=aA (arb (i:=5) (v:=s_ a7 (k+1) c7) HB.I HQ.I zw Au.I Em.I.1 Em.I.2.1);generalize w7.setCell ⟨o,5,n_⟩ (s_ a7 (k+1) c7)=W8 at*;have HS:da (W8.cell? ⟨w.heap.size,5,n_⟩=o_ (s_ p.ax p.ag.length p.aP)):=H8.I.1.1.1.cells.2.2.2.2.2.1;have co8:W8.drew.cell? ⟨o,5,n_⟩=o_ (s_ a7 (k+1) c7):=Zc1
   clear m m2 co fo hbo i1 hlt;obtain⟨u6,Jx⟩:∃u6,(if p.aP=k then p.ax else Option.map (λx=>x.add (k*3)) p.ax)=u6:=⟨_,rfl⟩
   refine Kr (S:=λw'=>w'.cell? ⟨w.heap.size,5,n_⟩=o_ (s_ p.ax p.ag.length p.aP)) ZbG HS.I (λbN=>?_);refine tt 0 bN ?_ (hy:=λw0 hS0=>ZbM);refine tt 2 bN ?_ (hy:=λw0 hS0=>ZbM);refine tt 3 bN ?_ (hy:=λw0 hS0=>ZbM);refine tt 4 bN ?_ (hy:=λw0 hS0=>ZbM);refine tt 5 bN ?_ (hy:=λw0 hS0=>ZbM);refine L7 1 (λK hK=>?_);go_wp2_with fail;refine hK.out _ _ HS.I (λbN=>?_);clear hK K
   try simp only[pt,sb,s0,s1]
   have hbd:B_ W8.heap.size W8 W8.drew:=(Kp _ _).drew;have mI:=Em.I.2.2;have hkd:(p.ag.drop k).length=p.ag.length-k:=Ql;obtain⟨a9,c9,w9,hr,xj,FW,-⟩:=pX W8.drew W2.heap.size a7 c7 (p.ag.take k++[(⟨id,false,⟨#[]⟩⟩:az)]) Zeh u6 (p.ag.drop k) (p.aP-k) (by rw[<-Jx];exact qK hcap (H8.I.1.1.2.1.below hbd).at.2.2.2.1.1) Zfk H8.I.2.2;have sR:(p.ag.take k++[(⟨id,false,⟨#[]⟩⟩:az)]++p.ag.drop k).length=k+1+(p.ag.length-k):=by rw[Lf,mI,hkd]
   rw[mI,hkd]at hr xj;have kN:B_ W2.heap.size W8.drew w9:=(Kp _ _).grown (a:=W8.drew) FW H8.I.2.2 λc e=>(cf H8.I.2.1 (di e)).1
   have hq:=HQ.I;have lV:=(kN.block _ hq.2.2.2.2.2.2).trans H8.I.1.2.1;obtain ⟨q',eX⟩: ∃ q',da (aro w W b0 (w.heap.size+1) o p q' { p.pure with ag:=cA (·.id) (⟨id,false,⟨#[]⟩⟩:az) p.pure.ag } (w9.setCell ⟨o,5,n_⟩ (s_ a9 (k+1+(p.ag.length - k)) c9))):=⟨{ q with ag:=p.ag.take k ++ [(⟨id,false,⟨#[]⟩⟩:az)] ++ p.ag.drop k,ax:=a9,aP:=c9 },arl _ hq zw Au.I H8.I.1 hq.2.2.2.2.2.2 kN xj ZeA (λ V hV ho=>H8.I.1.2.2.GV (B:=W2.heap.size) zw (λ g hg=>ZeF) hV Zfr) (by
    show({q.pure with ag:=p.ag.take k++[(⟨id,false,⟨#[]⟩⟩:az)]++p.ag.drop k}:aE)=_
    rw[hq.2.2.1,Lm];exact congrArg (λl=>({p.pure with ag:=l}:aE)) (tP HA.I (λy hy=>Zfb)))⟩
   have YU:da (w9.cell? ⟨w.heap.size,5,n_⟩=o_ (s_ p.ax p.ag.length p.aP)):=(J1 (kN.block _ Zev)).trans HS.I;refine L7 6 (λK hK=>?_);refine cM _ _ _ rfl _ _ _ w9 rfl rfl hr ?_;refine hK.out _ _ YU.I (λbN=>?_);clear hK K
   try simp only[pt,sb,s0,s1]
   obtain⟨⟨u,co⟩,fo⟩:(∃u,w9.cell? ⟨o,5,n_⟩=o_ u)/\w9.frozen? ⟨o,5,n_⟩=false:=⟨⟨_,ZeN⟩,Ko _ _ _ _ _ lV⟩
   clear hr xj FW kN hq lV hbd;refine tt 7 bN ?_ (hy:=λw0 hS0=>ZbM);refine L7 8 (λK hK=>?_);go_wp2_with fail;refine hK.out _ _ eX.I.1.1.cells.2.2.2.2.2.1 (λbN=>?_);clear hK K
   try simp only[pt,sb,s0,s1]
   refine K3 ZbG ?_ _;clear bN co fo YU HS co8;generalize w9.setCell ⟨o,5,n_⟩ (s_ a9 (k+1+(p.ag.length-k)) c9)=W10 at*;have K:=@vR;have Mb:=aqd (W:=W) (z:=w.heap.size+1) ⟨fl.I.1,fl.I.2.1⟩ eX.I.1.2.1 eX.I.1.2.2.1 eX.I.1.2.2.2 ⟨zw,HQ.I.2.2.2.2.2.1⟩ eX.I.2.2.1 eX.I.2.2.2 (λhr=>K fl.I.2.2.1 hr ⟨fl.I.2.2.2,Ky _⟩);obtain⟨m0,m1,m2,m3,m4,m5,m6,m7⟩:=eX.I.1.1.cells;obtain⟨k0,k1,k2,k3,k4,k5,k6,k7⟩:=eX.I.2.1.cells;unfold af.cells at Mb;clear K sR mI hkd Jx;go_wp2_with fail;refine Mb.mono ?_;clear Mb m0 m1 m2 m3 m4 m5 m6 m7 k0 k1 k2 k3 k4 k5 k6 k7;rintro e ow ⟨hz,⟨rfl,hR⟩|⟨rfl,hR⟩⟩
   all_goals
    have HZ:=aA (And.intro hz hR);clear hz hR;go_wp2_with(refine ec _ _ _ HZ.I.1 ?_);refine mG results89 (b_ _) HZ.I.1 ?_;exact HZ.I.2
def rz (p:af)(id:Int)(w:w_)(b0:Nat)(hwf:(Lit.int j_ id).wf=true)(qY:p.pure.Small)(h:ap w b0 p):
  k_ J3 88 #[a_ p.cells,i_ j_ id] w λe w'=>gI w (cB p.pure {p.pure with L9:=cA (·.id) (⟨id,false⟩:aB) p.pure.L9}) e w':=by
 have HB:=aA (aqL h);have fl:da (p.Fit/\(∀x∈p.L8,x.dX)/\p.pure.Small/\(Lit.int j_ id).wf=true):=⟨dV qY,λx hx=>(cY qY hx).1,qY,hwf⟩
 have hpl:=fl.I.1.short.L9;have hcap:p.L9.length<=p.aO:=nV h.L9;have Au:da (∀g∈p.Mc,g<w.heap.size):=λg hg=>(h.lt g hg).2
 clear h qY hwf;obtain⟨m0,m1,m2,m3,m4,m5,m6,m7⟩:=HB.I.1.cells;unfold af.cells
 go_enter func88,ntmps88
 go_wp2_with fail;generalize(w.alloc (c_ p.row 46)).alloc (c_ ar 46)=W at*;clear m0 m1 m2 m3 m4 m5 m6 m7;refine(fR p W fl.I.1 fl.I.2.1 HB.I.2.1.at).mono ?_;rintro e W1 ⟨q,rfl,hown,gn,hb1⟩;obtain⟨-,HQ,HL⟩:=aql HB.I hown gn hb1;replace HB:=HL;clear HL hown gn hb1;obtain⟨m0,m1,m2,m3,m4,m5,m6,m7⟩:=HB.I.1.cells;unfold af.cells;go_wp2_with fail;generalize W1.alloc (c_ q.row 46)=W2 at*;clear m0 m1 m2 m3 m5 m6 m7;generalize W1.heap.size=o at*
 go_loop [7] (λi=>∃k:Nat,k<=p.L9.length/\i=i_ j_ k/\da (∀y∈p.L9.take k,y.id<id)) (λi=>p.L9.length-(Go.RowKit.intOf i).toNat)
 case atStart=>exact⟨0,Ky _,rfl,λy hy=>Zet⟩
 case round=>
  obtain⟨k,hk,rfl,HA⟩:=hrel;have i0:(0:Int)<=(k:Int):=zw
  have icap:(k:Int)<=(p.aO:Int):=zw
  have i2:(k:Int)<=(p.L9.length:Int):=zw
  have m:=m4;clear m4;rcases zm (λy:aB=>y.id) id p.L9 k with⟨x,hx,hc,hlt⟩|⟨x,hx,hc,hlt⟩|hlt
  .have HT:da (∀y∈p.L9.take (k+1),y.id<id):=nE hx HA.I hc
   have i1:(k:Int)<(p.L9.length:Int):=zw
   obtain⟨g,ha,hat⟩:=j4 HB.I.2.1.at.2.2.1 hx;exact Zat
  focus
   have HX:da (∀y,p.L9[k]? =o_ y->¬y.id<id):=λy hy e=>Zd5
   have i1:(k:Int)<(p.L9.length:Int):=zw
   obtain⟨g,ha,hat⟩:=j4 HB.I.2.1.at.2.2.1 hx;have c0:=hat.1;rw[ha]at m;clear hat hx ha
  rotate_left
  focus
   have HX:da (∀y,p.L9[k]? =o_ y->¬y.id<id):=λy hy=>absurd (Lj.1 hy).1 hlt
   have i1:¬(k:Int)<(p.L9.length:Int):=zw
  all_goals
   have hb3:B_ W2.heap.size W2 (W2.alloc (c_ #[] 131)):=(Kp _ _).alloc (Ki _) _;obtain⟨a5,c5,w5,a7,c7,w7,hap,gT,Em⟩:∃a5 c5 w5 a7 c7 w7,_/\_/\da _:=arC (V:=W2) (x:=(⟨id,false⟩:aB)) (A:=p.ay) (C:=p.aO) (cs:=#[i_ j_ id,b_ false]) qu rfl hk hpl (λW' hb=>uM k (HB.I.2.1.below hb).at.2.2.1.1) rfl;have m2:(W2.alloc (c_ #[] 131)).cell? ⟨w.heap.size,4,n_⟩=o_ (s_ p.ay p.L9.length p.aO):=(HB.I.1.below hb3).cells.2.2.2.2.1;have hbo:W2.heap.size<=w7.heap.size:=Em.I.2.1.size;obtain⟨⟨u,co⟩,fo⟩:(∃u,w7.cell? ⟨o,4,n_⟩=o_ u)/\w7.frozen? ⟨o,4,n_⟩=false:=⟨⟨_,(HQ.I.1.below Em.I.2.1).cells.2.2.2.2.1⟩,Ko _ _ _ _ _ (HQ.I.1.below Em.I.2.1)⟩
   clear hb3;go_wp2_with(at_builtin;first|(refine br _ rfl _ _ 41 rfl _ _ _ _ rfl rfl hap ?_;clear hap)|(refine br _ rfl _ _ 41 rfl _ _ _ _ rfl rfl gT ?_;clear gT));have H8:=aA (arb (i:=4) (v:=s_ a7 (k+1) c7) HB.I HQ.I zw Au.I Em.I.1 Em.I.2.1);generalize w7.setCell ⟨o,4,n_⟩ (s_ a7 (k+1) c7)=W8 at*;have HS:da (W8.cell? ⟨w.heap.size,4,n_⟩=o_ (s_ p.ay p.L9.length p.aO)):=H8.I.1.1.1.cells.2.2.2.2.1;have co8:W8.drew.cell? ⟨o,4,n_⟩=o_ (s_ a7 (k+1) c7):=Zc1
   clear m m2 co fo hbo i1 hlt;obtain⟨u6,Jx⟩:∃u6,(if p.aO=k then p.ay else Option.map (λx=>x.add (k*2)) p.ay)=u6:=⟨_,rfl⟩
   refine Kr (S:=λw'=>w'.cell? ⟨w.heap.size,4,n_⟩=o_ (s_ p.ay p.L9.length p.aO)) ZbG HS.I (λbN=>?_);refine tt 0 bN ?_ (hy:=λw0 hS0=>ZbM);refine tt 2 bN ?_ (hy:=λw0 hS0=>ZbM);refine tt 3 bN ?_ (hy:=λw0 hS0=>ZbM);refine tt 4 bN ?_ (hy:=λw0 hS0=>ZbM);refine tt 5 bN ?_ (hy:=λw0 hS0=>ZbM);refine L7 1 (λK hK=>?_);go_wp2_with fail;refine hK.out _ _ HS.I (λbN=>?_);clear hK K
   try simp only[pt,sb,s0,s1]
   have hbd:B_ W8.heap.size W8 W8.drew:=(Kp _ _).drew;have mI:=Em.I.2.2;have hkd:(p.L9.drop k).length=p.L9.length-k:=Ql;obtain⟨a9,c9,w9,hr,xj,FW,-⟩:=qu W8.drew W2.heap.size a7 c7 (p.L9.take k++[(⟨id,false⟩:aB)]) Zeh u6 (p.L9.drop k) (p.aO-k) (by rw[<-Jx];exact qK hcap (H8.I.1.1.2.1.below hbd).at.2.2.1.1) Zfk H8.I.2.2;have sR:(p.L9.take k++[(⟨id,false⟩:aB)]++p.L9.drop k).length=k+1+(p.L9.length-k):=by rw[Lf,mI,hkd]
   rw[mI,hkd]at hr xj;have kN:B_ W2.heap.size W8.drew w9:=(Kp _ _).grown (a:=W8.drew) FW H8.I.2.2 λc e=>(cf H8.I.2.1 (di e)).1
   have hq:=HQ.I;have lV:=(kN.block _ hq.2.2.2.2.2.2).trans H8.I.1.2.1;obtain ⟨q',eX⟩: ∃ q',da (aro w W b0 (w.heap.size+1) o p q' { p.pure with L9:=cA (·.id) (⟨id,false⟩:aB) p.pure.L9 } (w9.setCell ⟨o,4,n_⟩ (s_ a9 (k+1+(p.L9.length - k)) c9))):=⟨{ q with L9:=p.L9.take k ++ [(⟨id,false⟩:aB)] ++ p.L9.drop k,ay:=a9,aO:=c9 },arl _ hq zw Au.I H8.I.1 hq.2.2.2.2.2.2 kN xj ZeA (λ V hV ho=>H8.I.1.2.2.Ge (B:=W2.heap.size) zw (λ g hg=>ZeF) hV Zfr) (by
    show({q.pure with L9:=p.L9.take k++[(⟨id,false⟩:aB)]++p.L9.drop k}:aE)=_
    rw[hq.2.2.1,Lm];exact congrArg (λl=>({p.pure with L9:=l}:aE)) (tP HA.I (λy hy=>Zfb)))⟩
   have YU:da (w9.cell? ⟨w.heap.size,4,n_⟩=o_ (s_ p.ay p.L9.length p.aO)):=(J1 (kN.block _ Zev)).trans HS.I;refine L7 6 (λK hK=>?_);refine cM _ _ _ rfl _ _ _ w9 rfl rfl hr ?_;refine hK.out _ _ YU.I (λbN=>?_);clear hK K
   try simp only[pt,sb,s0,s1]
   obtain⟨⟨u,co⟩,fo⟩:(∃u,w9.cell? ⟨o,4,n_⟩=o_ u)/\w9.frozen? ⟨o,4,n_⟩=false:=⟨⟨_,ZeN⟩,Ko _ _ _ _ _ lV⟩
   clear hr xj FW kN hq lV hbd;refine tt 7 bN ?_ (hy:=λw0 hS0=>ZbM);refine L7 8 (λK hK=>?_);go_wp2_with fail;refine hK.out _ _ eX.I.1.1.cells.2.2.2.2.1 (λbN=>?_);clear hK K
   try simp only[pt,sb,s0,s1]
   refine K3 ZbG ?_ _;clear bN co fo YU HS co8;generalize w9.setCell ⟨o,4,n_⟩ (s_ a9 (k+1+(p.L9.length-k)) c9)=W10 at*;have K:=@vS;have Mb:=aqd (W:=W) (z:=w.heap.size+1) ⟨fl.I.1,fl.I.2.1⟩ eX.I.1.2.1 eX.I.1.2.2.1 eX.I.1.2.2.2 ⟨zw,HQ.I.2.2.2.2.2.1⟩ eX.I.2.2.1 eX.I.2.2.2 (λhr=>K fl.I.2.2.1 hr fl.I.2.2.2);obtain⟨m0,m1,m2,m3,m4,m5,m6,m7⟩:=eX.I.1.1.cells;obtain⟨k0,k1,k2,k3,k4,k5,k6,k7⟩:=eX.I.2.1.cells;unfold af.cells at Mb;clear K sR mI hkd Jx;go_wp2_with fail;refine Mb.mono ?_;clear Mb m0 m1 m2 m3 m4 m5 m6 m7 k0 k1 k2 k3 k4 k5 k6 k7;rintro e ow ⟨hz,⟨rfl,hR⟩|⟨rfl,hR⟩⟩
   all_goals
    have HZ:=aA (And.intro hz hR);clear hz hR;go_wp2_with(refine ec _ _ _ HZ.I.1 ?_);refine mG results88 (b_ _) HZ.I.1 ?_;exact HZ.I.2
def acV (ad:d_)(l:List ByteArray)(cap:Nat)(w:w_)(hl:l.length<=1048576)(hr:Row w (o_ ad) (bT.flat l)):
  k_ J3 65 #[s_ (o_ ad) l.length cap] w λe w'=>∃(a':Option d_)(c':Nat),e=r_ (s_ a' l.length c')/\w'.ownsRow w.heap.size 9 1 (s_ a' l.length c') l.length (bT.flat l)/\B_ w.heap.size w w':=by
 have hz:B_ w.heap.size w (w.alloc (c_ #[] 9)):=(Kp _ _).alloc (Ki _) _;obtain⟨a',c',w',hap,ho,hg,-⟩:=tO (w.alloc (c_ #[] 9)) w.heap.size w.heap.size (Kj _ _) (Ki _) (o_ ad) l cap (hr.below hz) hl hz.size;have HN:da (w'.ownsRow w.heap.size 9 1 (s_ a' l.length c') l.length (bT.flat l)/\B_ w.heap.size w w'):=⟨ho,hz.grown hg hz.size (λq hq=>by cases hq;exact Ki _)⟩
 clear ho hg hz hr;have hq:Sem.run J3 (binOp .eql 49 (s_ (o_ ad) l.length cap) (s_ n_ 0 0)) w=.ok (b_ false) w:=by first|kernel_rfl|rfl
 go_enter func65,ntmps65
 go_wp2_with(at_builtin;refine br _ rfl _ _ 49 rfl _ _ _ _ rfl rfl hap ?_);go_ret;exact⟨a',c',rfl,HN.I.1,HN.I.2⟩
def ac8 {w:w_}{bj g n cap off:Nat}{e:T_}{xs vs:List v_}(h:w.ownsRow bj e 1 (s_ (o_ ⟨g,0,n_⟩) n cap) n xs)(ho:n<=off):(bn w g off vs).ownsRow bj e 1 (s_ (o_ ⟨g,0,n_⟩) n cap) n xs:=by
 refine⟨h.1,?_⟩;rcases h.2 with⟨h1,-⟩|⟨g',cap',cur,h1,h2,h3,h4,h5,h6,h7⟩
 .cases h1
 .simp only[LD,LF,aeS,and_true,true_and]at h1
  obtain⟨rfl,rfl⟩:=h1;refine .inr ⟨g,cap,iD cur off vs,rfl,h2,jc vs h3,h4,h5,by rw[kM];exact h6,?_⟩;rw[<-h7];apply List.ext_getElem?;intro j;rw[QW,QW]
  split
  .rw [QJ,QJ,lL _ _ _ _ zw]
  .rfl
def acR {w:w_}{bj g n cap:Nat}{e:T_}{xs:List v_}(h:w.ownsRow bj e 1 (s_ (o_ ⟨g,0,n_⟩) n cap) n xs){j:Nat}(hj:j<cap):(w.cell? ⟨g,j,n_⟩).isSome=true/\w.frozen? ⟨g,j,n_⟩=false:=by
 rcases h.2 with⟨h1,-⟩|⟨g',cap',cur,h1,h2,h3,h4,h5,h6,h7⟩
 .cases h1
 .simp only[LD,LF,aeS,and_true,true_and]at h1
  obtain⟨rfl,rfl⟩:=h1
  have:j<cur.size:=zw
  simp[World.cell?,World.frozen?,h3,this]
def adk {w:w_}{bj g n cap:Nat}{e:T_}{xs:List v_}(h:w.ownsRow bj e 1 (s_ (o_ ⟨g,0,n_⟩) n cap) n xs):w.ownsRow bj e 1 (s_ (o_ ⟨g,0,n_⟩) 0 cap) 0 []:=by
 rcases h.2 with⟨h1,-⟩|⟨g',cap',cur,h1,h2,h3,h4,h5,h6,h7⟩
 .cases h1
 .simp only[LD,LF,aeS,and_true,true_and]at h1
  obtain⟨rfl,rfl⟩:=h1;exact⟨rfl,.inr ⟨g,cap,cur,rfl,h2,h3,Ky _,h5,h6,zy⟩⟩
def acW (a:Option d_)(n cap:Nat)(w:w_)(hn:n<=cap)(hc:cap<=maxLen)(hz:a=n_->n=0/\cap=0):
  k_ J3 66 #[s_ a n cap,i_ j_ 0,i_ j_ 0] w λe w'=>e=r_ (s_ a n cap)/\w'=w:=by
 unfold maxLen at hc;cases a with
 |none=>
  obtain⟨rfl,rfl⟩:=hz rfl;clear hz hn hc
  go_enter func66,ntmps66
  go_wp2;go_ret;exact⟨rfl,rfl⟩
 |some ad=>
  clear hz;have h1:(n:Int)<=(cap:Int):=zw
  have h2:(0:Int)<=(n:Int):=zw
  go_enter func66,ntmps66
  go_wp2;go_ret;exact⟨rfl,rfl⟩
def ac7 (g cap N bj:Nat)(l:List ByteArray)(w:w_)(h0:0<N)(hN:N<=l.length)(hl:l.length<=1000)(ho:w.ownsRow bj 9 1 (s_ (o_ ⟨g,0,n_⟩) l.length cap) l.length (bT.flat l)):
  k_ J3 66 #[s_ (o_ ⟨g,0,n_⟩) l.length cap,i_ j_ 0,i_ j_ N] w λe w'=>e=r_ (s_ (o_ ⟨g,0,n_⟩) (l.length-N) cap)/\w'.ownsRow bj 9 1 (s_ (o_ ⟨g,0,n_⟩) (l.length-N) cap) (l.length-N) (bT.flat (l.drop N))/\aI w w' [g]:=by
 have hcap:l.length<=cap/\cap<=maxLen:=by
  rcases ho.2 with⟨h1,-⟩|⟨g',cap',cur,h1,h2,h3,h4,h5,h6,h7⟩
  .cases h1
  .simp only[LD,LF,aeS,and_true,true_and]at h1
   obtain⟨rfl,rfl⟩:=h1;exact⟨h4,h5⟩
 obtain⟨A,hA,hsrc⟩:∃A:d_,(if cap=N then o_ (⟨g,0,n_⟩:d_)else o_ ⟨g,N,n_⟩)=o_ A/\∀j u,(bT.flat (l.drop N))[j]? =o_ u->w.drew.cell? (A.add j)=o_ u:=by
  have h1:=qK (K:=bT) (k:=N) (c:=cap) hcap.1 (nP ho);have e:(if cap=N then o_ (⟨g,0,n_⟩:d_)else Option.map (λx:d_=>x.add (N*bT.n)) (o_ (⟨g,0,n_⟩:d_)))=(if cap=N then o_ (⟨g,0,n_⟩:d_)else o_ ⟨g,N,n_⟩):=by
   split
   .rfl
   .show o_ ((⟨g,0,n_⟩:d_).add (N*1))=_
    rw[qZ,Nat.mul_one]
  rw[e]at h1;refine⟨if cap=N then⟨g,0,n_⟩else⟨g,N,n_⟩,by split<;>rfl,λj u hu=>?_⟩;obtain⟨ad,h2,h3⟩:=h1 j u hu;have h4:(if cap=N then(⟨g,0,n_⟩:d_)else⟨g,N,n_⟩)=ad:=by
   split at h2<;>rename_i hh
   .rw [if_pos hh];exact KC h2
   .rw [if_neg hh];exact KC h2
  rw[h4];exact h3
 obtain⟨i,hi,e⟩:=Kw.1 zD;simp only[Kx]at e;have hld:(l.drop N).length=l.length-N:=Ql;obtain⟨w1,hr1,ho1,CT⟩:=run_append_fits (P:=J3) w.drew bj 49 49 9 i 1 underlying49 hi e.2.1 g 0 cap [] (aL (adk ho) λ_ _=>rfl) A (l.length-N) (cap-N) (bT.flat (l.drop N)) (by rw[bT.dM,hld];rfl) hsrc yK zw;simp only[Li,List.nil_append]at hr1 ho1;have hcl:∀ty,(Builtin.clear_ #[49] ty #[s_ (o_ ⟨g,l.length-N,n_⟩) (l.length-(l.length-N)) (cap-(l.length-N))]).run J3 w1=.ok (u_ #[]) (w1.setCells g (l.length-N) (List.replicate (l.length-(l.length-N)) (t_ ⟨#[]⟩))):=λty=>
  Lib.run_clear_slice w1 _ _ ty _ underlying49 Tryz.zeroValue9 rfl rfl g (l.length-N) _ _ zw (λj hj=>(acR ho1 zw).1) (λj hj=>(acR ho1 zw).2)
 have HE:da ((w1.setCells g (l.length-N) (List.replicate (l.length-(l.length-N)) (t_ ⟨#[]⟩))).ownsRow bj 9 1 (s_ (o_ ⟨g,0,n_⟩) (l.length-N) cap) (l.length-N) (bT.flat (l.drop N))/\aI w (w1.setCells g (l.length-N) (List.replicate (l.length-(l.length-N)) (t_ ⟨#[]⟩))) [g]):=by
  rw[iL];refine⟨ac8 ho1 (Ki _),?_⟩;have h5:aI w w1 [g]:=⟨CT.os,CT.tape,CT.output,CT.size,λk hk hn=>CT.block k hk λee=>hn (by simp at ee;simp[ee])⟩
  exact h5.trans (aI.set _ zy)
 have HR:=aA hr1;have n1:(N:Int)<=(l.length:Int):=zw
 have n2:(l.length:Int)<=(cap:Int):=zw
 have n3:(N:Int)<=(cap:Int):=zw
 have n4:¬(0:Int)=(N:Int):=zw
 have n5:(0:Int)<=(N:Int):=zw
 have n6:N<=cap:=zw
 have n7:l.length<=cap:=hcap.1;have n8:(cap:Int)<=9223372036854775807:=by have:=hcap.2;unfold maxLen at this;omega
 have n9:¬0=N:=zw
 clear hsrc ho1 CT ho hr1 e hi hcap hld
 go_enter func66,ntmps66
 go_upto_region 5 with fail;refine Kr (S:=λ_=>True) ZbG trivial (λ_=>?_);refine tt 0 trivial ?_;refine tt 1 trivial ?_;refine tt 2 trivial ?_;refine tt 3 trivial ?_;refine tt 4 trivial ?_;refine tt 5 trivial ?_
 try simp only[pt,sb,s0,s1]
 refine L7 6 (λQ hQ=>?_);refine cM _ _ 49 rfl _ _ _ w1 rfl rfl HR.I ?_;refine hQ.out _ _ trivial (λ_=>?_);clear hQ Q HR
 try simp only[pt,sb,s0,s1]
 refine tt 7 trivial ?_;refine K3 ZbG ?_ _;have n10:((l.length-N:Nat):Int)<=(l.length:Int):=zw
 have n11:(0:Int)<=((l.length-N:Nat):Int):=zw
 have n12:¬cap=l.length-N:=zw
 go_wp2;go_ret;exact⟨rfl,HE.I⟩
def adJ (a:Option d_)(cap N bj:Nat)(l:List ByteArray)(w:w_)(hN:N<=l.length)(hl:l.length<=1000)(ho:w.ownsRow bj 9 1 (s_ a l.length cap) l.length (bT.flat l)):
  k_ J3 66 #[s_ a l.length cap,i_ j_ 0,i_ j_ N] w λe w'=>e=r_ (s_ a (l.length-N) cap)/\w'.ownsRow bj 9 1 (s_ a (l.length-N) cap) (l.length-N) (bT.flat (l.drop N))/\aI w w' (blk a):=by
 by_cases h0:N=0
 .subst h0
  have hc:l.length<=cap/\cap<=maxLen/\(a=n_->l.length=0/\cap=0):=by
   rcases ho.2 with⟨h1,h2⟩|⟨g',cap',cur,h1,h2,h3,h4,h5,h6,h7⟩
   .simp only[LD]at h1
    exact⟨zw,by rw[h1.2.2];exact Ky _,λ_=>⟨h2,h1.2.2⟩⟩
   .simp only[LD]at h1
    rw[h1.2.2];exact⟨h4,h5,λe=>by rw[e]at h1;cases h1.1⟩
  refine(acW a l.length cap w hc.1 hc.2.1 hc.2.2).mono ?_;rintro e w' ⟨rfl,rfl⟩;exact⟨by rw[Nat.sub_zero],by rw[Nat.sub_zero,List.drop_zero];exact ho,aI.refl _ _⟩
 .rcases ho.2 with⟨h1,h2⟩|⟨g',cap',cur,h1,h2,h3,h4,h5,h6,h7⟩
  .omega
  .simp only[LD]at h1
   obtain⟨rfl,-,rfl⟩:=h1;exact(ac7 g' cap N bj l w zw hN hl ho).mono λe w' h=>⟨h.1,h.2.1,h.2.2.mono λb hb=>by simpa[blk]using hb⟩
def aqa (s:ByteArray)(its:List ByteArray):ByteArray:=its.foldl (λs x=>s++⟨#[59]⟩++x) s
def aqc (port:Int)(s:ByteArray)(ps:List dS):ByteArray:=ps.foldl (λs q=>if q.id=port then aqa s q.Ma else s) s
def aqb (k:kd)(part port:Int):ByteArray:=aqc port ⟨#[]⟩ ((V7 k part).getD cN).ai
def arZ {s:ByteArray}{l:List ByteArray}{n:Nat}{x:ByteArray}(h:l[n]? =o_ x):aqa s (l.take (n+1))=aqa s (l.take n)++⟨#[59]⟩++x:=by
 rw[show l.take (n+1)=l.take n++[x] by rw[List.take_add_one,h];rfl];unfold aqa;rw[List.foldl_append];rfl
def arU {port:Int}{s:ByteArray}{l:List dS}{n:Nat}{x:dS}(h:l[n]? =o_ x):aqc port s (l.take (n+1))=if x.id=port then aqa (aqc port s (l.take n)) x.Ma else aqc port s (l.take n):=by
 rw[show l.take (n+1)=l.take n++[x] by rw[List.take_add_one,h];rfl];unfold aqc;rw[List.foldl_append];rfl
def arz (s:ByteArray)(a b:List ByteArray):aqa s (a++b)=aqa (aqa s a) b:=List.foldl_append
def aqv:∀(l:List ByteArray)(s:ByteArray),aqa s l=s++aqa ⟨#[]⟩ l
 |[],s=>by show s=s++ByteArray.empty;simp
 |x::r,s=>by
  show aqa (s++⟨#[59]⟩++x) r=s++aqa (⟨#[]⟩++⟨#[59]⟩++x) r
  rw[aqv r,aqv r (⟨#[]⟩++⟨#[59]⟩++x)]
  show _=s++(ByteArray.empty++⟨#[59]⟩++x++_)
  simp[ByteArray.append_assoc]
def aqR {port:Int}{s:ByteArray}:∀{l:List dS},(∀q∈l,¬q.id=port)->aqc port s l=s
 |[],_=>rfl
 |x::r,h=>by
  show aqc port (if x.id=port then aqa s x.Ma else s) r=s
  rw[if_neg (h x zy)];exact aqR λq hq=>h q (LB _ hq)
def aqW {port:Int}{q:dS}:∀{l:List dS},(l.map (·.id)).Pairwise (· < ·)->hP (λq:dS=>q.id) port l=o_ q->aqc port ⟨#[]⟩ l=aqa ⟨#[]⟩ q.Ma
 |[],_,h=>by simp[hP]at h
 |x::r,hp,h=>by
  obtain⟨p1,p2⟩:=LM.1 hp
  show aqc port (if x.id=port then aqa ⟨#[]⟩ x.Ma else⟨#[]⟩) r=_
  by_cases hx:x.id=port
  .unfold hP at h
   rw[aeC ZdT]at h;cases h;rw[if_pos hx];refine aqR λy hy e=>?_
   have h5:q.id<y.id:=p1 y.id (Lr.2 ⟨y,hy,rfl⟩);omega
  .unfold hP at h
   rw[aeD ZdT]at h;rw[if_neg hx];exact aqW p2 h
def aqB:∀{l:List ByteArray}{s:ByteArray},(∀x∈l,x.size<=1048576)->(aqa s l).size<=s.size+1048577*l.length
 |[],s,_=>Ki _
 |x::r,s,h=>by
  have h1:=h x zy;have h2:=aqB (l:=r) (s:=s++⟨#[59]⟩++x) λy hy=>h y (LB _ hy)
  rw[QH,QH]at h2;have e:(⟨#[59]⟩:ByteArray).size=1:=rfl
  show(aqa (s++⟨#[59]⟩++x) r).size<=_
  rw[Lg];omega
def aqE {port:Int}:∀{l:List dS}{s:ByteArray},(∀x∈l,x.Ma.length<=1048576/\∀y∈x.Ma,y.size<=1048576)->(aqc port s l).size<=s.size+2000000000000*l.length
 |[],s,_=>Ki _
 |x::r,s,h=>by
  have h1:=h x zy;have h2:=aqB (s:=s) h1.2;have h3:=aqE (port:=port) (l:=r) (s:=if x.id=port then aqa s x.Ma else s) λy hy=>h y (LB _ hy)
  show(aqc port (if x.id=port then aqa s x.Ma else s) r).size<=_
  rw[Lg]
  split at h3
  .rename_i hx
   rw[if_pos hx];omega
  .rename_i hx
   rw[if_neg hx];omega
def aqr {k:kd}{id:Int}(h:k.Small):((V7 k id).getD cN).Small:=by
 unfold V7
 split
 .cases hf:hP (λp:aE=>p.id) id k.parts with
  |none=>exact hY
  |some p=>exact h.parts p (RG hf)
 .exact hY
structure PtW (w:w_)(k:eA)(Y:Nat)(q:af)(W:w_):Prop where
 box:av W Y q
 at_:af.At W q
 low:B_ w.heap.size w W
def PtW.below {w W W2:w_}{k:eA}{Y:Nat}{q:af}(h:PtW w k Y q W)(hb:B_ W.heap.size W W2):PtW w k Y q W2:=⟨(hb.block _ (J2.1 h.box).1).trans h.box,h.at_.below hb,h.low.trans (hb.mono h.low.size)⟩
def ark (k:eA)(part port:Int)(g bj:Nat)(w:w_)(hp:(Lit.int j_ part).wf=true)(hs:k.pure.Small)(ho:gp w bj k)(hg:k.vb=o_ ⟨g,0,n_⟩/\g<w.heap.size):
  k_ J3 10 #[a_ k.row,i_ j_ part,i_ j_ port] w λe w'=>e=r_ (t_ (aqb k.pure part port))/\B_ w.heap.size w w':=by
 have hz:B_ w.heap.size w (w.alloc (c_ k.row 30)):=(Kp _ _).alloc (Ki _) _;have Mb:=Wg k part g bj (w.alloc (c_ k.row 30)) hp hs (ho.below hz) ⟨hg.1,Zdm⟩;have hkb:Tk (w.alloc (c_ k.row 30)) w.heap.size k:=Kj _ _;have HZ:=aA (And.intro hz (aqr (id:=part) hs));have HT:da (aqb k.pure part port=aqc port ⟨#[]⟩ ((V7 k.pure part).getD cN).ai):=rfl;clear hs ho hg hz hp
 go_enter func10,ntmps10
 go_upto_region 1 with fail;obtain⟨m0,m1,m2,m3,m4⟩:=hkb.cells;generalize w.alloc (c_ k.row 30)=A at*;clear hkb;go_wp2_with fail;clear m0 m1 m2 m3 m4;refine Mb.mono ?_;clear Mb;rintro e W1 ⟨q,rfl,ho,hq,hb⟩;have HS:=aA HZ.I.2;rw[<-hq]at HS HT;have S:da (PtW w k W1.heap.size q ((W1.alloc (c_ ar 46)).setRow W1.heap.size q.cells)):=by
  have h5:B_ W1.heap.size W1 ((W1.alloc (c_ ar 46)).setRow W1.heap.size q.cells):=q_ ((Kp _ _).alloc (Ki _) _) (Ki _) _;have h6:=HZ.I.1.trans (hb.mono HZ.I.1.size);exact⟨KU _ _ _ _ _ _ (Kj _ _),ho.at.below h5,h6.trans (h5.mono h6.size)⟩
 clear ho hq hb HZ;go_upto_region 2 with(refine ec _ _ q.cells (Kj _ _) ?_);generalize(W1.alloc (c_ ar 46)).setRow W1.heap.size q.cells=B at*;generalize W1.heap.size=Y at*;go_wp2_with fail
 go_loopw[9,10] (λs i wr=>∃n:Nat,n<=q.ai.length/\s=t_ (aqc port ⟨#[]⟩ (q.pure.ai.take n))/\i=i_ j_ n/\da (PtW w k Y q wr)) (λ_ i _=>q.ai.length-(Go.RowKit.intOf i).toNat)
 case atStart=>exact⟨0,Ky _,rfl,rfl,S⟩
 case round=>
  clear S;obtain⟨n,hn,rfl,rfl,S⟩:=hrel;obtain⟨m0,m1,m2,m3,m4,m5,m6,m7⟩:=av.cells S.I.box;have hl:q.ai.length<=1048576:=by have:=HS.I.dH;simpa[af.pure]using this
  by_cases hlt:n<q.ai.length
  .have i0:(0:Int)<=(n:Int):=zw
   have i1:(n:Int)<(q.ai.length:Int):=zw
   obtain⟨x,hx⟩:∃x,q.ai[n]? =o_ x:=⟨_,Kz hlt⟩
   have hxp:q.pure.ai[n]? =o_ x.todS:=by show(q.ai.map _)[n]? =_;rw[Kk,hx];rfl
   have HX:=aA (And.intro hx (And.intro (arU (port:=port) (s:=⟨#[]⟩) hxp) (HS.I.ai _ (KA hxp)).2.1));obtain⟨gpt,Y5,-⟩:=lm S.I.at_.2.2.2.2.2 hx;have HG:=aA Y5;have WX:da (∀W,PtW w k Y q W->W.cell? ⟨Y,7,n_⟩=o_ (s_ (o_ ⟨gpt,0,n_⟩) q.ai.length q.aV)/\aM.At W gpt n x/\Row W x.ak (bT.flat x.Ma)):=λW h=>by
    obtain⟨g2,e,h1⟩:=lm h.at_.2.2.2.2.2 hx;rw[Y5]at e;cases e;have m7:=(av.cells h.box).2.2.2.2.2.2.2;rw[Y5]at m7;exact⟨m7,h1,h.at_.2.2.2.2.2.2 x (KA hx) (x.ak,bT.flat x.Ma) (KB.2 rfl)⟩
   rw[Y5]at m7;clear hx Y5 m0 m1 m2 m3 m4 m5 m6;have HSI:da ((aqc port ⟨#[]⟩ (q.pure.ai.take n)).size<=2100000000000000000/\∀y∈x.Ma,y.size<=1048576):=by
    have h5:=aqE (port:=port) (l:=q.pure.ai.take n) (s:=⟨#[]⟩) λy hy=>(HS.I.ai y (RK hy)).2
    have h6:=HS.I.dH;have h7:(q.pure.ai.take n).length<=q.pure.ai.length:=ZdM
    have e:(⟨#[]⟩:ByteArray).size=0:=rfl;exact⟨zw,(HS.I.ai _ (KA hxp)).2.2⟩
   generalize aqc port ⟨#[]⟩ (q.pure.ai.take n)=s0 at*;go_wp2_with fail;clear m7
   go_loopw[9,11] (λs j wr=>∃m:Nat,m<=x.Ma.length/\(¬x.id=port->m=0)/\s=t_ (aqa s0 (x.Ma.take m))/\j=i_ j_ m/\da (PtW w k Y q wr)) (λ_ j _=>x.Ma.length-(Go.RowKit.intOf j).toNat)
   case atStart=>exact⟨0,Ky _,λ_=>rfl,rfl,rfl,S⟩
   case round=>
    clear S;obtain⟨m,hm,hm0,rfl,rfl,S⟩:=hrel;obtain⟨m7,⟨x0,-,-,-,x4⟩,hr⟩:=WX.I _ S.I;have hli:=HX.I.2.2;by_cases hid:x.id=port
    .have e1:(x.id==port)=true:=by simp[hid]
     by_cases hmt:m<x.Ma.length
     .have j0:(0:Int)<=(m:Int):=zw
      have j1:(m:Int)<(x.Ma.length:Int):=zw
      obtain⟨y,hy⟩:∃y,x.Ma[m]? =o_ y:=⟨_,Kz hmt⟩
      obtain⟨abo,ao1,c0⟩:=zl hr hy;have HY:da (aqa s0 (x.Ma.take (m+1))=aqa s0 (x.Ma.take m)++⟨#[59]⟩++y):=arZ hy;have hz1:=aqB (s:=s0) (l:=x.Ma.take m) λu hu=>HSI.I.2 u (RK hu)
      have hz2:=HSI.I.1;have hz3:=HSI.I.2 y (KA hy);have hz4:(x.Ma.take m).length<=1048576:=ZdM
      generalize aqa s0 (x.Ma.take m)=s1 at*;have q0:¬9223372036854775807<s1.size+1:=zw
      have q1:¬9223372036854775807<s1.size+1+y.size:=zw
      clear hz1 hz2 hz3 hz4;rw[ao1]at x4;have HI:=aA hid;clear hr hy ao1 hid hm0;go_wp2_with fail;go_roundw
      case rel=>exact⟨m+1,zw,λh=>absurd HI.I h,by rw[HY.I],by go_num,S⟩
      case measure=>exact ZbL
     .have j1:¬(m:Int)<(x.Ma.length:Int):=zw
      have HE:da (aqa s0 (x.Ma.take m)=aqa s0 x.Ma/\x.id=port):=⟨by rw[KF zw],hid⟩
      clear hr hid hm0;go_wp2_with fail;go_roundw
      case rel=>exact⟨n+1,zw,by rw[HX.I.2.1,if_pos HE.I.2,HE.I.1],by go_num,S⟩
      case measure=>exact ZbL
    .have e1:(x.id==port)=false:=by simp[hid]
     have HE:da (aqa s0 (x.Ma.take m)=s0/\¬x.id=port):=⟨by rw[hm0 hid];rfl,hid⟩
     clear hr hid hm0;go_wp2_with fail;go_roundw
     case rel=>exact⟨n+1,zw,by rw[HX.I.2.1,if_neg HE.I.2,HE.I.1],by go_num,S⟩
     case measure=>exact ZbL
  .have i1:¬(n:Int)<(q.ai.length:Int):=zw
   have e1:q.pure.ai.take n=q.pure.ai:=KF (by show(q.ai.map _).length<=n;simp;omega);rw[e1,<-HT.I];go_wp2_with fail;go_ret;exact⟨rfl,S.I.low⟩
end
end Go.Proofs.YtckenjkcmajicaaGreat
