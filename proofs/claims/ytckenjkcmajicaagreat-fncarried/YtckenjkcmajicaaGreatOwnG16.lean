/- What the proof leans on, part 16. -/
import Derived.Test.YtckenjkcmajicaaGreatOwnG11
import Derived.Test.YtckenjkcmajicaaGreatOwnG12
import Derived.Test.YtckenjkcmajicaaGreatOwnG13
set_option linter.all false
set_option maxRecDepth 100000
set_option maxHeartbeats 8000000
open Go.Proofs.Tryz
open Go renaming World->w_,Value->v_,Calls->k_,Addr->d_,TypeId->T_,below_setRow->q_
open Go.Ending renaming returned->r_
open Go.IntKind renaming i64->j_
open Go.Obj renaming cells->c_
open Go.RowKit renaming Below->B_,Hid->da
open Go.Value renaming int->i_,slice->s_,bool->b_,agg->a_,pointer->p_,tuple->u_
open Option renaming some->o_,none->n_
open Function renaming comp_def->Ls
open Go renaming wp_at_succ->Kd,wp_at_zero->Kc
open Go.Deep renaming blk_setCell_other->ac5
open Go.Proofs.Tryz renaming prog->J3
open Go.World renaming putObj_heap_other->adX
open List renaming flatMap_append->aej,flatMap_cons->aez,length_cons->Lg
open Option renaming map_some->J9

open Go.RowKit
namespace Go.Proofs.YtckenjkcmajicaaGreat
section
open Go.Maps
attribute [local go_sem] Oper.semAt_some
attribute [local go_sem ↓] Kc Kd
def ZB {F:Fence}{n:Nat}{P:Program}(w:w_){ops:Array Oper}{rest:List Oper}{o:Oper}{a:Act}{Q:Exit->Act->w_->Prop}(hg:o.guard=n_)(s x:Operand)(t:T_)
  (hop:o.op=.call {callee:=.builtin .append,args:=#[s,x],argTypes:=#[t,t]})(v u r:v_)(w':w_)(hs:a.eval s=v)(hx:a.eval x=u)(hr:(Builtin.append_ #[t,t] o.type #[v,u]).run P w=.ok r w')
  (h:wpListIn F n P ops Q rest (a.put o.dst r) w'):wpListIn F n P ops Q (o::rest) a w:=by
 refine wpListIn_plain hg λK hK'=>?_
 unfold Oper.wpIn;refine⟨?_,?_⟩
 .simp [Oper.about,hop,resolve,Target.leads,Sem.run_pure]
 .rw [Oper.semAt_plain F _ _ (by rw[hop];intro c hc';cases hc')]
  simp[execOp,hop,resolve,invoke,builtin,hs,hx,hr,Result.andThen];exact hK' _ _ h
def abl:(Tryz.prog.info? 62).map (λi=>(i.zero,i.size,i.bytes))=o_ (o_ (a_ #[i_ j_ 0,i_ j_ 0,i_ j_ 0]),3,24):=ZbG
def Zr (Z:Nat->Int):Nat->List v_
 |0=>[]
 |k+1=>Zr Z k++[i_ j_ (Z (k*3)),i_ j_ (Z (k*3+1)),i_ j_ (Z (k*3+2))]
def aag (w:w_)(Z:Nat->Int)(k:Nat)(X:w_):Prop:=∃(a:Option d_)(cap:Nat),X.heap[w.heap.size]? =o_ (c_ #[s_ a k cap] 24)/\X.ownsRow (w.heap.size+1) 62 3 (s_ a k cap) k (Zr Z k)/\B_ w.heap.size w X/\w.heap.size<X.heap.size
def aag.alloc {w X:w_}{Z:Nat->Int}{k:Nat}(h:aag w Z k X)(o:Obj):aag w Z k (X.alloc o):=by
 obtain⟨a,cap,h1,h2,h3,h4⟩:=h;exact⟨a,cap,(PU h4).trans h1,h2.alloc o,h3.alloc h3.size _,ZbI⟩
def aag.put {w X:w_}{Z:Nat->Int}{k l:Nat}{r:Loop}(h:aag w Z k X)(o:Obj)(hl:w.heap.size<=l)(hr:X.heap[l]? =o_ (.loop r)):aag w Z k (X.putObj l o):=by
 obtain⟨a,cap,h1,h2,h3,h4⟩:=h;refine⟨a,cap,(adX (λe=>by subst e;rw[hr]at h1;cases h1)).trans h1,aL h2 λg hg=>adX (λe=>?_),h3.trans (Zh hl o),by simpa using h4⟩;subst e;rcases h2.2 with⟨e9,-⟩|⟨g9,c9,cur,e9,-,hgr,-⟩
 .cases e9;simp[blk]at hg
 .cases e9
  simp only[blk,J9,Option.toList_some,KB]at hg;rw[<-hg,hr]at hgr;cases hgr
def aat {tmps:Array v_}{R:Ending->w_->Prop}{W:w_}{D:Nat}{v:v_}(hv:tmps.getD 4 undef=v)(hD:W.heap[D]? =o_ (.deferred (o_ [])))(hR:R (r_ v) (W.putObj D (.deferred n_))):bodyPostM Fence.wide 6 J3 Tryz.f111 R .ret ⟨tmps,[{target:=.collected D,args:=#[]}]⟩ W:=by
 refine⟨zy,.inl ⟨_,_,rfl,run_takeDeferred hD,?_⟩⟩;refine⟨v,?_,hR⟩;simp[results,results111,go_sem];rw[<-hv,adY]
def appendSeq_in (cs:Array v_)(major:Int)(len:Nat)(Z:Nat->Int)(w:w_)(h:P2 major len Z cs)(hn:len<=20):
  CallsIn Fence.wide 6 J3 111 #[s_ n_ 0 0,.func (.func 68) #[a_ cs] #[]] w λe w'=>∃(a:Option d_)(cap:Nat),e=r_ (s_ a len cap)/\w'.ownsRow (w.heap.size+1) 62 3 (s_ a len cap) len (Zr Z len)/\B_ w.heap.size w w':=by
 have HC:=aA h;clear h;refine callsIn_of_wp_marks func111 rfl trivial ?_ rfl;simp only[ntmps111,List.size_toArray,Lg,List.length_nil,Nat.reduceAdd,Nat.reduceSub,Array.replicate_succ,Array.replicate_zero,List.push_toArray,List.append_toArray,List.nil_append,List.cons_append]
 gi_wp2
 obtain⟨W0,hW0⟩:∃W0,w.alloc (c_ #[s_ n_ 0 0] 24)=W0:=⟨_,rfl⟩
 have z0:W0.heap.size=w.heap.size+1:=by rw[<-hW0];simp
 have h0:aag w Z 0 W0:=⟨n_,0,by rw[<-hW0];exact Kj _ _,Ke _ _ _ _,by rw[<-hW0];exact(Kp _ _).alloc (Ki _) _,zw⟩
 rw[hW0];clear hW0;refine aae (E:=62) (Xi:=68) (fa:=#[a_ cs]) rfl (LP func68 ZbG rfl) (encs:=λk=>#[Z4 Z k]) (aaV cs major len Z HC.I hn W0.heap.size) (λ_=>rfl)
  (aag w Z) (λ_=>False) (λk X o h=>h.alloc o) (λk X l r o hl hr h=>h.put o zw hr) (λX l r o hl hr h=>h) h0
  (λk a' X=>∃Y6,X.heap[Y6]? =o_ (c_ #[i_ j_ (Z (k*3)),i_ j_ (Z (k*3+1)),i_ j_ (Z (k*3+2))] 62)/\a'=⟨#[Value.slice n_ 0 0,Value.func (Fn.func 68) #[Value.agg cs] #[],Value.pointer (o_ {block:=w.heap.size,off:=0}),undef,Value.slice n_ 0 0,Value.pointer (o_ {block:=Y6,off:=0}),Value.func (Fn.func 68) #[Value.agg cs] #[],Z4 Z k,undef,undef,undef,undef,undef],[]⟩)
  (λk a' X l r o hl' ha=>by
   obtain⟨Y6,h1,h2⟩:=ha;exact⟨Y6,(adX (λe=>by subst e;rw[hl']at h1;cases h1)).trans h1,h2⟩)
  ?assign ?body ?done ?stop
 case assign=>
  intro l k W K hk hj hz hK;simp only[Z4]
  gi_wp2
  exact hK _ _ (Zp.of (Kept.alloc _ _ _)) (hj.alloc _) ⟨W.heap.size,Kj _ _,rfl⟩
 case body=>
  rintro l k a' W hk hj ⟨Y6,lW,rfl⟩ hz;obtain⟨a,cap,j1,j2,Xg,Y1⟩:=hj;have c0:W.cell? ⟨Y6,0,n_⟩=o_ (i_ j_ (Z (k*3))):=ZcU
  have c1:W.cell? ⟨Y6,1,n_⟩=o_ (i_ j_ (Z (k*3+1))):=ZcU
  have c2:W.cell? ⟨Y6,2,n_⟩=o_ (i_ j_ (Z (k*3+2))):=ZcU
  have d0:W.cell? ⟨w.heap.size,0,n_⟩=o_ (s_ a k cap):=by simp[World.cell?,j1]
  obtain ⟨a2,Ta,an1,hap,ho,hkp,hbl⟩:=aad underlying24 abl rfl (by decide) (by decide) #[i_ j_ (Z (k * 3)),i_ j_ (Z (k * 3+1)),i_ j_ (Z (k * 3+2))] rfl (λu hu=>by
   simp only[Kt,Ku,or_false]at hu;rcases hu with rfl|rfl|rfl<;>rfl) j2 zw zw
  have hlow:∀g∈blk a,w.heap.size+1<=g:=λg hg=>(cf j2 hg).1
  have Zd:an1.heap[w.heap.size]? =o_ (c_ #[s_ a k cap] 24):=(hkp.same _ Y1 λhm=>ZdG).trans j1;have d7:an1.cell? ⟨w.heap.size,0,n_⟩=o_ (s_ a k cap):=by simp[World.cell?,Zd]
  have f7:an1.frozen? ⟨w.heap.size,0,n_⟩=false:=Ko an1 _ _ _ _ Zd;have HE:da (Z7 62 W0.heap.size (aag w Z) (λ_=>False) k W .normal ⟨#[],[]⟩ (an1.setCell ⟨w.heap.size,0,n_⟩ (s_ a2 (k+1) Ta))):=by
   refine⟨⟨by simp;exact hkp.size,λb hb hbl2 hnc=>?_⟩,a2,Ta,?_,?_,?_,?_⟩
   .refine (ac5 _ _ _ _ (by show b≠w.heap.size;omega)).trans (hkp.same b hbl2 λhm=>?_)
    rcases j2.2 with⟨e9,-⟩|⟨g9,c9,cur,e9,-,hgr,-⟩
    .cases e9;simp[blk]at hm
    .cases e9
     simp only[blk,J9,Option.toList_some,KB]at hm;exact hnc cur (0,0) (by rw[hm];exact hgr)
   .exact K7 _ _ _ _ _ _ Zd
   .exact aL ho λg hg=>ac5 _ _ _ _ (by have:=(cf ho hg).1;show g≠w.heap.size;omega)
   .exact (Xg.trans (hkp.below Xg.size λg hg=>ZdC)).setCell (Ki _) _
   .simp;have:=hkp.size;omega
  clear lW j1 j2 Xg ho hkp hbl hlow Zd;simp only[Z4];generalize Z (k*3)=z1 at*;generalize Z (k*3+1)=z2 at*;generalize Z (k*3+2)=z3 at*
  gi_wp2_with (gi_at_builtin;refine ZB _ rfl _ _ 24 rfl _ _ _ _ rfl rfl hap ?_)
  exact HE.I
 case done=>
  rintro W ⟨a,cap,j1,j2,Xg,Y1⟩ hD;have d0:W.cell? ⟨w.heap.size,0,n_⟩=o_ (s_ a len cap):=by simp[World.cell?,j1]
  have HJ:=aA (And.intro j2 Xg);clear j1 j2 Xg
  gi_wp2
  refine aat (v:=s_ a len cap) rfl hD ⟨a,cap,rfl,aL HJ.I.1 λg hg=>adX (λe=>?_),HJ.I.2.trans (Zh zw _)⟩;subst e;rcases HJ.I.1.2 with⟨e9,-⟩|⟨g9,c9,cur,e9,-,hgr,-⟩
  .cases e9;simp[blk]at hg
  .cases e9
   simp only[blk,J9,Option.toList_some,KB]at hg;rw[<-hg,hD]at hgr;cases hgr
 case stop=>
  rintro W hj;exact hj.elim
end
section
open Go.Maps
attribute [local go_sem ↓] Kc Kd
def aby (w:w_)(Z:Nat->Int)(len:Nat)(e:Ending)(w':w_):Prop:=∃(a:Option d_)(cap:Nat),e=r_ (s_ a len cap)/\w'.ownsRow (w.heap.size+1) 62 3 (s_ a len cap) len (Zr Z len)/\B_ w.heap.size w w'
def aar (cs:Array v_)(major:Int)(len:Nat)(Z:Nat->Int)(w:w_)(h:P2 major len Z cs)(hn:len<=20):
  k_ J3 67 #[.func (.func 68) #[a_ cs] #[]] w λe w'=>aby w Z len e w':=by
 have Mb:=LO.1 (appendSeq_in cs major len Z w h hn);clear h
 go_enter func67,ntmps67
 go_wp2_with fail;refine Mb.mono ?_;clear Mb;rintro e W1 ⟨a,cap,rfl,h1,h2⟩;go_wp2;go_ret;exact⟨a,cap,rfl,h1,h2⟩
def abe {P:Program}{md:Region.Mode}{ops:Array Oper}{Q:Exit->Act->w_->Prop}{S:w_->Prop}(i:Nat){oi:Oper}{v:v_}{fuel:Nat}{RV:Array Bool}{a:Act}{w:w_}{d:Tmp}(hi:ops[i]? =o_ oi)(hy:YieldsIf P ops S oi v a)(hS:S w)
  (h:wpAnyH P md ops Q S fuel (RV.setIfInBounds i true) (a.put (o_ d) v) w)(hd:oi.dst=o_ d:=by rfl)(h1:Region.noSelect ops=true:=by kernel_rfl)(h2:Region.free md ops RV i=true:=by kernel_rfl)(h3:(Region.ready md ops RV).contains i=true:=by kernel_rfl)
  (hQ:∀c a w,Q (.panic c) (a.put (o_ d) v) w->Q (.panic c) a w:=by exactλ_ _ _ h=>h):wpAnyH P md ops Q S (fuel+1) RV a w:=by
 rw[<-hd]at h hQ;exact wpAnyH_take (i:=i) hi h1 h2 h3 hQ hy hS h
def abp (w:w_)(major:Int)(Z:Nat->Int)(len:Nat)(e:Ending)(w':w_):Prop:=∃(a:Option d_)(cap:Nat),e=r_ (a_ #[i_ j_ major,s_ a len cap])/\w'.ownsRow w.heap.size 62 3 (s_ a len cap) len (Zr Z len)/\B_ w.heap.size w w'
def ZE (cs:Array v_)(major:Int)(len:Nat)(Z:Nat->Int)(w:w_)(h:P2 major len Z cs)(hn:len<=20):
  k_ J3 38 #[a_ cs] w λe w'=>abp w major Z len e w':=by
 have HC:=aA h;have hsz:cs.size=62:=h.1;have S:da (((w.alloc (c_ cs 65)).alloc (c_ #[i_ j_ 0,s_ n_ 0 0] 26)).heap[w.heap.size]? =o_ (c_ cs 65)/\((w.alloc (c_ cs 65)).alloc (c_ #[i_ j_ 0,s_ n_ 0 0] 26)).heap[w.heap.size+1]? =o_ (c_ #[i_ j_ 0,s_ n_ 0 0] 26)/\B_ w.heap.size w ((w.alloc (c_ cs 65)).alloc (c_ #[i_ j_ 0,s_ n_ 0 0] 26))):=⟨(PU zy).trans (Kj _ _),Kq _ _ _,((Kp _ _).alloc (Ki _) _).alloc zy _⟩
 have HM:da (∀W:w_,W.heap[w.heap.size]? =o_ (c_ cs 65)->W.cell? ⟨w.heap.size,0,n_⟩=o_ (i_ j_ major)):=λW hW=>by rw[K5 W _ _ cs 65 _ hW];exact HC.I.major
 clear h
 go_enter func38,ntmps38
 go_upto_region 1 with fail;generalize(w.alloc (c_ cs 65)).alloc (c_ #[i_ j_ 0,s_ n_ 0 0] 26)=W0 at*;refine Kr (S:=λW=>W.heap[w.heap.size]? =o_ (c_ cs 65)) ZbG S.I.1 (λ_=>?_);replace S:da (W0.drew.heap[w.heap.size]? =o_ (c_ cs 65)/\W0.drew.heap[w.heap.size+1]? =o_ (c_ #[i_ j_ 0,s_ n_ 0 0] 26)/\B_ w.heap.size w W0.drew):=⟨S.I.1,S.I.2.1,S.I.2.2.drew⟩
 generalize World.drew _=V at*;refine tt 0 S.I.1 ?_;refine tt 1 S.I.1 ?_ (hy:=λw0 hS0=>by have q0:=HM.I w0 hS0;go_simp;try with_reducible rfl);refine abe 2 (v:=a_ cs) rfl (Ib (by rfl) 65 _ rfl w.heap.size (by rfl) 65 _ _ (λ_ h=>h) underlying65 rfl (by rw[Dw,hsz])) S.I.1 ?_
 try simp only[pt,sb,s0,s1]
 refine tt 3 S.I.1 ?_;refine L7 4 (λQ hQ=>?_);go_wp2_with fail;refine(aar cs major len Z V HC.I hn).mono ?_;rintro e W5 ⟨a,cap,rfl,ho,hb⟩;have HO:=aA (And.intro ho (J2.1 S.I.2.1).1);replace S:da (W5.heap[w.heap.size]? =o_ (c_ cs 65)/\W5.heap[w.heap.size+1]? =o_ (c_ #[i_ j_ 0,s_ n_ 0 0] 26)/\B_ w.heap.size w W5):=⟨(hb.block _ (J2.1 S.I.1).1).trans S.I.1,(hb.block _ (J2.1 S.I.2.1).1).trans S.I.2.1,S.I.2.2.trans (hb.mono S.I.2.2.size)⟩
 clear ho hb;refine hQ.out _ _ S.I.1 (λ_=>?_);clear hQ Q
 try simp only[pt,sb,s0,s1]
 refine tt 5 S.I.1 ?_;refine L7 6 (λQ hQ=>?_);have d0:W5.cell? ⟨w.heap.size+1,0,n_⟩=o_ (i_ j_ 0):=by simp[World.cell?,S.I.2.1]
 have d1:W5.cell? ⟨w.heap.size+1,1,n_⟩=o_ (s_ n_ 0 0):=by simp[World.cell?,S.I.2.1]
 have f0:W5.frozen? ⟨w.heap.size+1,0,n_⟩=false:=by simp[World.frozen?,S.I.2.1]
 have f1:W5.frozen? ⟨w.heap.size+1,1,n_⟩=false:=by simp[World.frozen?,S.I.2.1]
 go_wp2_with fail;clear d0 d1 f0 f1;have HW:da (((W5.setCell ⟨w.heap.size+1,0,n_⟩ (i_ j_ major)).setCell ⟨w.heap.size+1,1,n_⟩ (s_ a len cap)).heap[w.heap.size+1]? =o_ (c_ #[i_ j_ major,s_ a len cap] 26)/\((W5.setCell ⟨w.heap.size+1,0,n_⟩ (i_ j_ major)).setCell ⟨w.heap.size+1,1,n_⟩ (s_ a len cap)).ownsRow w.heap.size 62 3 (s_ a len cap) len (Zr Z len)/\B_ w.heap.size w ((W5.setCell ⟨w.heap.size+1,0,n_⟩ (i_ j_ major)).setCell ⟨w.heap.size+1,1,n_⟩ (s_ a len cap))/\((W5.setCell ⟨w.heap.size+1,0,n_⟩ (i_ j_ major)).setCell ⟨w.heap.size+1,1,n_⟩ (s_ a len cap)).heap[w.heap.size]? =o_ (c_ cs 65)):=by
  have hs:∀g,g≠w.heap.size+1->((W5.setCell ⟨w.heap.size+1,0,n_⟩ (i_ j_ major)).setCell ⟨w.heap.size+1,1,n_⟩ (s_ a len cap)).heap[g]? =W5.heap[g]?:=λg hg=>(ac5 _ _ _ _ hg).trans (ac5 _ _ _ _ hg)
  refine⟨by have h5:=S.I.2.1;simp[World.setCell,Array.getElem?_modify,h5],cq (aL HO.I.1 λg hg=>hs g (by have:=(cf HO.I.1 hg).1;have:=HO.I.2;omega)) (by have:=HO.I.2;omega),(S.I.2.2.setCell ZfU _).setCell ZfU _,(hs _ zw).trans S.I.1⟩
 refine hQ.out _ _ HW.I.2.2.2 (λ_=>?_);clear hQ Q S HO;refine K3 ZbG ?_ _;generalize(W5.setCell ⟨w.heap.size+1,0,n_⟩ (i_ j_ major)).setCell ⟨w.heap.size+1,1,n_⟩ (s_ a len cap)=W6 at*;have r0:W6.cell? ⟨w.heap.size+1,0,n_⟩=o_ (i_ j_ major):=Ze0
 have r1:W6.cell? ⟨w.heap.size+1,1,n_⟩=o_ (s_ a len cap):=Ze0
 go_wp2;refine KT (v:=a_ #[i_ j_ major,s_ a len cap]) (by simp[results,results38,go_sem, *]) rfl ?_;exact⟨a,cap,rfl,HW.I.2.1,HW.I.2.2.1⟩
def Z8:∀(l:List pA)(k:Nat),k<=l.length->Zr (sz l) k=jq.flat (l.take k)
 |l,0,_=>by simp[Zr,Kind.flat]
 |l,k+1,h=>by
  obtain⟨x,hx⟩:∃x,l[k]? =o_ x:=⟨_,Kz zw⟩
  rw[Zr,Z8 l k zw,cj hx];have e0:sz l (k*3)=x.at_:=by unfold sz;rw[show k*3/3=k by omega,hx];simp
  have e1:sz l (k*3+1)=x.len:=by unfold sz;rw[show(k*3+1)/3=k by omega,hx];simp[show(k*3+1)%3=1 by omega]
  have e2:sz l (k*3+2)=x.part:=by unfold sz;rw[show(k*3+2)/3=k by omega,hx];simp[show(k*3+2)%3=2 by omega]
  rw[e0,e1,e2];simp[Kind.flat,jq,VE]
end
section
open Go.Maps
structure YR (B lo:Nat)(I:List af)(a:Option d_)(cap:Nat)(W:w_):Prop where
 own:W.ownsRow B 46 8 (s_ a I.length cap) I.length (kp.flat I)
 mine:∀p∈I,ap W lo p
 nodup:(blk a++I.flatMap af.Mc).Nodup
section
variable {B lo cap:Nat}{I:List af}{a:Option d_}{W W1 W2:w_}{r:af}
def YR.start (B lo:Nat)(W:w_):YR B lo [] n_ 0 W:=⟨Ke _ _ _ _,λp hp=>ZfO,Zee⟩
def YR.below (h:YR B lo I a cap W)(hb:B_ W.heap.size W W1):YR B lo I a cap W1:=⟨cR h.own hb,λp hp=>(h.mine p hp).below hb,h.nodup⟩
def YR.lt (h:YR B lo I a cap W):∀g∈blk a++I.flatMap af.Mc,g<W.heap.size:=λg hg=>by
 rcases Kg.1 hg with hg|hg
 .exact (cf h.own hg).2
 .obtain ⟨p,hp,l9⟩:=Rt.1 hg
  exact((h.mine p hp).lt g l9).2
def YR.same (h:YR B lo I a cap W)(hs:∀g∈blk a++I.flatMap af.Mc,W1.heap[g]? =W.heap[g]?):YR B lo I a cap W1:=
 ⟨aL h.own λg hg=>hs g (Lz _ hg),λp hp=>(h.mine p hp).same λg hg=>hs g (Ly _ (Rt.2 ⟨p,hp,hg⟩)),h.nodup⟩
def YR.more {a2:Option d_}{Ta:Nat}(h:YR B lo I a cap W)(hr:ap W lo r)(hf:∀g∈r.Mc,g∉blk a++I.flatMap af.Mc)(ho:W2.ownsRow B 46 8 (s_ a2 (I.length+1) Ta) (I.length+1) (kp.flat I++r.cells.toList))(hk:aI W W2 (blk a))(hb:∀g∈blk a2,g∈blk a\/W.heap.size<=g):YR B lo (I++[r]) a2 Ta W2:=by
 have hn:=Kf.1 h.nodup;have aS:kp.flat (I++[r])=kp.flat I++r.cells.toList:=by simp[Kind.flat,kp,UU]
 refine⟨by rw[Lf,List.length_singleton,aS];exact ho,λp hp=>?_,?_⟩
 .have hm:ap W lo p/\∀g∈p.Mc,g∉blk a:=by
   rcases Kg.1 hp with hp|hp
   .exact ⟨h.mine p hp,λg hg hm=>hn.2.2 g hm g (Rt.2 ⟨p,hp,hg⟩) rfl⟩
   .rw [KB.1 hp]
    exact⟨hr,λg hg hm=>hf g hg (Lz _ hm)⟩
  exact hm.1.same λg hg=>hk.same g (hm.1.lt g hg).2 (hm.2 g hg)
 .rw [aej]
  have e:[r].flatMap af.Mc=r.Mc:=zy
  rw[e];refine Kf.2 ⟨?_,Kf.2 ⟨hn.2.1,hr.nodup,λg hg g' hg' e=>hf g' hg' (Ly _ (by rw[<-e];exact hg))⟩,λg hg g' hg' e=>?_⟩
  .cases a2 with
   |none=>exact Zee
   |some ad=>exact Zee
  .subst e
   have hlt:g<W.heap.size/\g∉blk a:=by
    rcases Kg.1 hg' with hg'|hg'
    .exact ⟨h.lt g (Ly _ hg'),λhm=>hn.2.2 g hm g hg' rfl⟩
    .exact ⟨(hr.lt g hg').2,λhm=>hf g hg' (Lz _ hm)⟩
   rcases hb g hg with h5|h5
   .exact hlt.2 h5
   .omega
end
def aas:(Tryz.prog.info? 46).map (λi=>(i.zero,i.size,i.bytes))=o_ (o_ (a_ ar),8,160):=ZbG
def aaw {B lo cap:Nat}{I:List af}{a:Option d_}{W:w_}{r:af}(h:YR B lo I a cap W)(hr:ap W lo r)(hf:∀g∈r.Mc,g∉blk a++I.flatMap af.Mc)(hn:I.length<=1048576)(hb:B<=W.heap.size):
  ∃a' cap' w',(Builtin.append_ #[27,27] 27 #[s_ a I.length cap,s_ (o_ ⟨W.heap.size,0,n_⟩) 1 1]).run J3 (W.alloc (c_ r.cells 46))=.ok (s_ a' (I.length+1) cap') w'/\YR B lo (I++[r]) a' cap' w'/\aI W w' (blk a)/\∀g∈blk a',g∈blk a\/W.heap.size<=g:=by
 obtain ⟨a',cap',w',h1,h2,h3,h4⟩:=aad underlying27 aas rfl (by decide) (by decide) r.cells rfl (λu hu=>by
  simp only[af.cells,Kt,Ku,or_false]at hu;rcases hu with rfl|rfl|rfl|rfl|rfl|rfl|rfl|rfl<;>rfl) h.own hn hb
 exact⟨a',cap',w',h1,h.more hr hf h2 h3 h4,h3,h4⟩
end
section
open Go.Maps
attribute [local go_sem ↓] Kc Kd
def Tp:∀(l:List aE)(last:Int),aw (·.id) bK last l=true->last<=6->(l.length:Int)<=6-last
 |[],_,_,h=>ZbI
 |x::r,last,h,hl=>by
  simp only[aw,J7,decide_eq_true_eq]at h;have h1:=((ch _).1 h.1.2).id;rw[bz]at h1;have h2:=Tp r x.id h.2 zw;have h3:=h.1.1.2;simp only[Lg,Int.natCast_add,Int.natCast_one];omega
def Sl {ops:Array Oper}{rest:List Oper}{op:Oper}{a:Act}{w:w_}{Q:Exit->Act->w_->Prop}(hgd:op.guard=n_)(x y z:Operand)(ho:op.op=.build 69 #[(0,x),(1,y),(2,z)])
  (m:Int)(T:Array v_)(b:Nat)(cs:Array v_)(hx:a.eval x=i_ j_ m)(hy:a.eval y=a_ T)(hz:a.eval z=.map (o_ b))(hb:Tryz.prog.built 69 [(0,i_ j_ m),(1,a_ T),(2,.map (o_ b))]=o_ cs)
  (h:wpList J3 ops Q rest (a.put op.dst (a_ cs)) w):wpList J3 ops Q (op::rest) a w:=
 wpList_plain hgd λ_ hK=>by
  unfold Oper.wp execOp;simp only[ho,QR,List.map_toArray,Lt,QV,hx,hy,hz,run_build w _ _ cs hb,Result.andThen_ok];exact hK _ _ h
structure VL (w:w_)(k:kd)(K:Nat)(W:w_):Prop where
 ex:∃(w1:w_)(b:Nat)(tab:Array v_)(l:List (aZ×Nat))(ls:List gi)(a:Option d_)(cap:Nat),P2 k.major k.fn.length (sz k.fn) tab/\VK w1 K b l/\l.map (·.1.pure)=k.parts/\ls.map (·.c)=k.eC/\(∀o∈ls,Joins l o)/\T1 w1 K b k.bE tab a cap ls W/\w.heap.size<=b/\w.heap.size<=K
def KerEnd (w:w_)(k:kd)(e:Ending)(W:w_):Prop:=B_ w.heap.size w W/\((eP k=false/\e=r_ (u_ #[p_ n_,b_ false]))\/(eP k=true/\∃K,e=r_ (u_ #[p_ (o_ ⟨K,0,n_⟩),b_ true])/\VL w k K W))
def Pq (k:eA)(g:Nat)(w:w_)(hs:k.pure.Small)(hat:eA.At w k)(hgood:∀p∈k.parts,p.Good w)(hg:k.vb=o_ ⟨g,0,n_⟩/\g<w.heap.size):
  k_ J3 18 #[a_ k.row] w λe W=>KerEnd w k.pure e W:=by
 have S:da (dr w w.heap.size k (w.alloc (c_ k.row 30))):=dr.first hat;have HS:=aA (And.intro hs (And.intro hgood hg));clear hs hat hgood;obtain⟨T0,hT0⟩:∃T,tx=T:=⟨_,rfl⟩
 have Hz:da (tx=T0/\T0.size=62):=⟨hT0,by rw[<-hT0];exact ub⟩
 clear hT0
 go_enter func18,ntmps18
 go_upto_region 1 with fail;generalize w.alloc (c_ k.row 30)=W0 at*;generalize hX:w.heap.size=X at*;have HX:=aA hX;clear hX;obtain⟨m0,m1,m2,m3,m4⟩:=S.I.box.cells;rw[HS.I.2.2.1]at m2;have Mb:=TV k.major g k.fn.length k.Te (sz k.fn) W0 HS.I.1.Ts HS.I.1.win (Uq (by have:=S.I.low.size;have:=HS.I.2.2.2;have:=HX.I;omega) (by have h:=S.I.MT.fn;rwa[HS.I.2.2.1]at h));clear hg;go_wp2_with fail;clear m0 m1 m2 m3 m4;refine Mb.mono ?_;clear Mb;intro e W1 hE;obtain⟨T,r,rfl,HT,hb1⟩:∃T r,e=r_ (u_ #[a_ T,b_ r])/\da (T.size=62/\T.all (·.oneCell')=true/\E4 k.major k.fn=r/\(r=true->P2 k.major k.fn.length (sz k.fn) T))/\B_ W0.heap.size W0 W1:=by
  obtain⟨⟨hf,cs,rfl,hc⟩|⟨hf,rfl⟩,hb⟩:=hE
  .exact ⟨cs,true,rfl,⟨hc.1,hc.one,hf,λ_=>hc⟩,hb⟩
  .exact ⟨tx,false,rfl,⟨ub,Tn,hf,λh=>ZcF⟩,hb⟩
 replace S:=aA (S.I.below hb1);clear hE hb1;go_upto_region 2 with(first|(refine gq rfl rfl W1.heap.size rfl T0 Hz.I.1 ?_)|(refine fC rfl (.tmp 4) (.tmp 11) rfl W1.heap.size T (by rfl) (by rfl) T0 (by exact Kj _ _) Hz.I.2 HT.I.1 HT.I.2.1 ?_;rw[World.setRow_alloc_new]));have hz:B_ W1.heap.size W1 (W1.alloc (c_ T 65)):=(Kp _ _).alloc (Ki _) _;have HTB:da ((W1.alloc (c_ T 65)).heap[W1.heap.size]? =o_ (c_ T 65)):=Kj _ _;replace S:=aA (S.I.below hz);clear hz Hz;generalize W1.alloc (c_ T 65)=W2 at*;generalize W1.heap.size=Y at*;obtain⟨m0,m1,m2,m3,m4⟩:=S.I.box.cells;have Ul:da (eP k.pure=(cv k.bE 0 500000000&&r&&decide (k.pure.parts.length<=6)&&decide (k.eC.length<=10)&&aw (·.id) bK 0 k.pure.parts&&fA k.pure.parts [] k.eC)):=by show _=_;rw[<-HT.I.2.2.1];rfl
 cases r
 .have HN:da (eP k.pure=false):=by show _=_;rw[Ul.I];simp
  clear Ul;go_wp2;go_ret2;exact⟨S.I.low,.inl ⟨HN.I,rfl⟩⟩
 by_cases h0:k.bE<0
 .exact R_
 by_cases h1:500000000<k.bE
 .exact R_
 obtain⟨cs,hcs,hcz,hcc⟩:=UH k.bE T W2.heap.size HT.I.1;have HCS:da (Tryz.prog.built 69 [(0,i_ j_ k.bE),(1,a_ T),(2,.map (o_ W2.heap.size))]=o_ cs/\cs.size=65/\∀j,j<65->cs[j]? =o_ (B3 k.bE T W2.heap.size n_ 0 0 j)):=⟨hcs,hcz,hcc⟩
 replace Ul:da (eP k.pure=(decide (k.pure.parts.length<=6)&&decide (k.eC.length<=10)&&aw (·.id) bK 0 k.pure.parts&&fA k.pure.parts [] k.eC)):=by show _=_;rw[Ul.I];have:cv k.bE 0 500000000=true:=eB zw zw;rw[this];rfl
 clear hcs hcz hcc;have hmk:=run_makeMap (P:=J3) 66;go_upto_region 5 with(first|(refine LS rfl 65 (.tmp 4) rfl Y (by rfl) 65 T (0,0) _ HTB.I underlying65 rfl (by rw[Dw,HT.I.1]) ?_)|(refine Sl rfl (.tmp 26) (.tmp 27) (.tmp 28) rfl k.bE T W2.heap.size cs (by rfl) (by rfl) (by rfl) HCS.I.1 ?_));clear m0 m1 m2 m3 m4 hmk h0 h1;have hsz:W2.heap.size+1=(W2.alloc (.map #[] 0)).heap.size:=zy
 have hz:B_ W2.heap.size W2 ((W2.alloc (.map #[] 0)).alloc (c_ cs 69)):=((Kp _ _).alloc (Ki _) _).alloc zy _;have HW:da (cF ((W2.alloc (.map #[] 0)).alloc (c_ cs 69)) W2.heap.size []/\((W2.alloc (.map #[] 0)).alloc (c_ cs 69)).rowIs (W2.heap.size+1) 69 65 (B3 k.bE T W2.heap.size n_ 0 0)/\((W2.alloc (.map #[] 0)).alloc (c_ cs 69)).heap.size=W2.heap.size+2):=⟨(cF.made W2).below ((Kp _ _).alloc (Ki _) _),by rw[hsz];exact⟨cs,Kj _ _,HCS.I.2.1,HCS.I.2.2⟩,zy⟩
 have mO:da (B_ W2.heap.size W2 ((W2.alloc (.map #[] 0)).alloc (c_ cs 69))/\kp.bU W2 k.qn k.parts/\hM.bU W2 k.qi k.eC/\(∀p∈k.parts,p.Good W2)/\w.heap.size<=W2.heap.size):=⟨hz,S.I.MT.parts,S.I.MT.eC,λp hp=>(HS.I.2.1 p hp).below S.I.low,S.I.low.size⟩
 have Yw:=aA S.I.low;have HS5:=aA S.I;replace S:=aA (S.I.below hz);clear hz hsz HCS HTB;generalize((W2.alloc (.map #[] 0)).alloc (c_ cs 69))=W3 at*;have Mb:=Tr W2 W3 (W2.heap.size+1) W2.heap.size k.qn k.parts k.sa mO.I.1 (Ki _) (by rw[HW.I.2.2];omega) zw (HW.I.2.1.cell (i:=63) zw) HW.I.1 (by have h:=HS.I.1.sC;simpa[eA.pure]using h) mO.I.2.1 mO.I.2.2.2.1;obtain⟨m0,m1,m2,m3,m4⟩:=S.I.box.cells;go_wp2_with fail;clear m0 m1 m2 m3 m4;refine Mb.mono ?_;clear Mb;rintro e W4 ⟨hb4,⟨hno,rfl⟩|⟨fm,rfl,l,hl,hO⟩⟩
 .have HN:da (eP k.pure=false/\B_ w.heap.size w W4):=⟨by rw[Ul.I];have:aw (·.id) bK 0 k.pure.parts=false:=hno;rw[this];simp,Yw.I.trans (hb4.mono mO.I.2.2.2.2)⟩
  clear hno hb4;go_wp2;go_ret2;exact⟨HN.I.2,.inl ⟨HN.I.1,rfl⟩⟩
 have HO:da (VK W4 (W2.heap.size+1) W2.heap.size l/\l.map (·.1.pure)=k.pure.parts/\W4.rowIs (W2.heap.size+1) 69 65 (B3 k.bE T W2.heap.size n_ 0 0)/\B_ W2.heap.size W2 W4):=by
  have hr:W4.rowIs (W2.heap.size+1) 69 65 (B3 k.bE T W2.heap.size n_ 0 0):=HW.I.2.1.of_block hO.TN;exact⟨⟨hO.map,λp hp=>(hO.part p hp).imp λ_ h=>h.2,hO.nodup,zw,hr.lt,hO.apart.imp λh g hg g' hg'=>Nat.ne_of_lt (h g hg g' hg')⟩,hl,hr,hO.low⟩
 have HKB2:da (eP k.pure=(decide (k.eC.length<=10)&&fA k.pure.parts [] k.eC)):=by
  show _=_
  have hy:aw (·.id) bK 0 k.pure.parts=true:=fm;have hlen:=Tp _ _ hy zw;rw[Ul.I,hy,decide_eq_true zw];simp
 replace S:=aA (HS5.I.below hb4);clear fm hl hO hb4 Ul;have Mb:=T3 W2 W4 (W2.heap.size+1) W2.heap.size k.bE T l k.pure.parts k.eC k.qi k.tC HO.I.1 HO.I.2.1 HO.I.2.2.1 HO.I.2.2.2 zw mO.I.2.2.1 HS.I.1.eC HS.I.1.w8;obtain⟨m0,m1,m2,m3,m4⟩:=S.I.box.cells;go_wp2_with fail;clear m0 m1 m2 m3 m4;refine Mb.mono ?_;clear Mb;rintro e W5 ⟨hk5,⟨hno,rfl⟩|⟨fm,rfl,ls,a,cap,hls,hj,hL⟩⟩
 .have HN:da (eP k.pure=false/\B_ w.heap.size w W5):=⟨by rw[HKB2.I];exact hno,Yw.I.trans ((HO.I.2.2.2.trans (hk5.below HO.I.2.2.2.size (λg hg=>by rw[KB.1 hg];omega))).mono mO.I.2.2.2.2)⟩
  clear hno hk5;go_wp2;go_ret2;exact⟨HN.I.2,.inl ⟨HN.I.1,rfl⟩⟩
 have HN:da (eP k.pure=true/\B_ w.heap.size w W5/\VL w k.pure (W2.heap.size+1) W5):=⟨by rw[HKB2.I];exact fm,Yw.I.trans ((HO.I.2.2.2.trans (hk5.below HO.I.2.2.2.size (λg hg=>by rw[KB.1 hg];omega))).mono mO.I.2.2.2.2),⟨W4,W2.heap.size,T,l,ls,a,cap,HT.I.2.2.2 (by trivial),HO.I.1,HO.I.2.1,hls,hj,hL,mO.I.2.2.2.2,by have:=mO.I.2.2.2.2;omega⟩⟩
 clear fm hk5 hls hj hL;go_wp2;go_ret2;exact⟨HN.I.2.1,.inr ⟨HN.I.1,_,rfl,HN.I.2.2⟩⟩
def U7 {w:w_}{bj:Nat}{k:eA}(hs:k.pure.Small)(ho:gp w bj k):∀p∈k.parts,p.Good w:=λp hp=>uG (pC hs hp) (ho.mine p hp)
def TF:A2:=by
 intro k g bj w hs ho hg;have HS:=aA (And.intro hs (And.intro ho hg));have S:da (dr w w.heap.size k (w.alloc (c_ k.row 30))):=dr.first ho.at;have hz:B_ w.heap.size w (w.alloc (c_ k.row 30)):=(Kp _ _).alloc (Ki _) _;have Mb:=Pq k g (w.alloc (c_ k.row 30)) hs (ho.at.below hz) (λp hp=>(U7 hs ho p hp).below hz) ⟨hg.1,Zdm⟩;clear hs ho hg hz
 go_enter func12,ntmps12
 go_upto_region 1 with fail;generalize w.alloc (c_ k.row 30)=W0 at*;obtain⟨m0,m1,m2,m3,m4⟩:=S.I.box.cells;go_wp2_with fail;clear m0 m1 m2 m3 m4;refine Mb.mono ?_;clear Mb;rintro e W1 ⟨hb1,⟨hno,rfl⟩|⟨fm,K,rfl,-⟩⟩
 .have HN:da (eP k.pure=false/\B_ w.heap.size w W1):=⟨hno,S.I.low.trans (hb1.mono S.I.low.size)⟩
  clear hno hb1;go_wp2;go_ret;exact⟨by rw[HN.I.1];rfl,HN.I.2⟩
 .have HN:da (eP k.pure=true/\B_ w.heap.size w W1):=⟨fm,S.I.low.trans (hb1.mono S.I.low.size)⟩
  clear fm hb1;go_wp2;go_ret;exact⟨by rw[HN.I.1];rfl,HN.I.2⟩
end
section
attribute [local go_sem ↓] Kc Kd
structure VT (w:w_)(bj g cap:Nat)(l:List af)(wr:w_):Prop where
 row:bl kp 46 wr bj g cap l
 mine:∀p∈l,ap wr bj p
 nodup:(g::l.flatMap af.Mc).Nodup
 kept:aI w wr (g::l.flatMap af.Mc)
def VT.apart {w wr:w_}{bj gs cap:Nat}{A B:List af}{x:af}(h:VT w bj gs cap (A++x::B) wr):gs∉x.Mc/\∀y,y∈A\/y∈B->∀b∈y.Mc,b∉x.Mc/\b≠gs:=by
 have hn:=h.nodup;rw[aej,aez,Lp,Kf,Kf]at hn;obtain⟨h1,h2,⟨h3,h4,h5⟩,h6⟩:=hn;refine⟨λhm=>h1 (Ly _ (Lz _ hm)),λy hy b hb=>⟨λhx=>?_,λe=>?_⟩⟩
 .rcases hy with hy|hy
  .exact h6 b (Rt.2 ⟨y,hy,hb⟩) b (Lz _ hx) rfl
  .exact h5 b hx b (Rt.2 ⟨y,hy,hb⟩) rfl
 .subst e
  rcases hy with hy|hy
  .exact h1 (Lz _ (Rt.2 ⟨y,hy,hb⟩))
  .exact h1 (Ly _ (Ly _ (Rt.2 ⟨y,hy,hb⟩)))
def VT.ju {w wr W:w_}{bj gs cap:Nat}{A B:List af}{x y:af}(h:VT w bj gs cap (A++x::B) wr)(hr:bl kp 46 W bj gs cap (A++y::B))(ho:ap W bj y)(hb:y.Mc=x.Mc)(hk:aI wr W (gs::x.Mc)):VT w bj gs cap (A++y::B) W:=by
 have e:(A++y::B).flatMap af.Mc=(A++x::B).flatMap af.Mc:=by simp only[aej,aez,hb]
 obtain ⟨-,hap⟩:=h.apart;refine ⟨hr,fun z hz=> ?_,by rw [e]; exact h.nodup,by rw [e]; exact h.kept.trans (hk.mono λb hb2=>by
  rcases Kt.1 hb2 with rfl|hb2
  .exact List.mem_cons_self
  .exact LB _ (by rw[aej,aez];exact Ly _ (Lz _ hb2)))⟩
 have hz2:z=y\/(z∈A\/z∈B):=by
  rcases Kg.1 hz with hz|hz
  .exact .inr (.inl hz)
  .rcases Kt.1 hz with hz|hz
   .exact .inl hz
   .exact .inr (.inr hz)
 rcases hz2 with rfl|hz2
 .exact ho
 .have hmz:ap wr bj z:=h.mine z (by rcases hz2 with hz2|hz2<;>simp[hz2])
  exact hmz.same λb hb2=>hk.same b (hmz.lt b hb2).2 λhm=>by
   rcases Kt.1 hm with hm|hm
   .exact (hap z hz2 b hb2).2 hm
   .exact (hap z hz2 b hb2).1 hm
def bl.vals {w:w_}{bj g cap:Nat}{A B:List af}{x y:af}(h:bl kp 46 w bj g cap (A++x::B))(hv:kp.vals y=kp.vals x):bl kp 46 w bj g cap (A++y::B):=by
 obtain⟨cur,h1,h2,h3,h4,h5,h6⟩:=h;refine⟨cur,h1,h2,by simpa using h3,h4,h5,?_⟩;have e:kp.flat (A++y::B)=kp.flat (A++x::B):=by simp only[Kind.flat,aej,aez,hv]
 rw[e,<-h6];simp
def eA.Mc (k:eA):List Nat:=blk k.vb++(blk k.qn++(blk k.qi++k.parts.flatMap af.Mc))
section
variable {w w':w_}{bj:Nat}{k:eA}
def gp.apart (h:gp w bj k):(∀g∈blk k.vb,g∉blk k.qn/\g∉blk k.qi/\g∉k.parts.flatMap af.Mc)/\(∀g∈blk k.qn,g∉blk k.qi/\g∉k.parts.flatMap af.Mc)/\∀g∈blk k.qi,g∉k.parts.flatMap af.Mc:=by
 obtain⟨-,h2,h3⟩:=Kf.1 h.nodup;obtain⟨-,h5,h6⟩:=Kf.1 h2;obtain⟨-,-,h9⟩:=Kf.1 h5;exact⟨λg hg=>⟨λhm=>h3 g hg g (Lz _ hm) rfl,λhm=>h3 g hg g (Ly _ (Lz _ hm)) rfl,λhm=>h3 g hg g (Ly _ (Ly _ hm)) rfl⟩,λg hg=>⟨λhm=>h6 g hg g (Lz _ hm) rfl,λhm=>h6 g hg g (Ly _ hm) rfl⟩,λg hg hm=>h9 g hg g hm rfl⟩
def gp.lt (h:gp w bj k){g:Nat}(hg:g∈k.Mc):bj<=g/\g<w.heap.size:=by
 unfold eA.Mc at hg;simp only[Kg]at hg;rcases hg with hg|hg|hg|hg
 .exact cf h.fn hg
 .exact cf h.parts hg
 .exact cf h.eC hg
 .obtain ⟨p,hp,l9⟩:=Rt.1 hg
  exact(h.mine p hp).lt g l9
end
end
section
open Go.Maps
attribute [local go_sem ↓] Kc Kd
def kD (p:aE)(id:Int):Option aE:=hU p id (λy=>decide (y.Md=0)&& !decide (p.next=1000000000)) (λy=>{y with Md:=1,RU:=p.next}) (p.next+1)
def Bk (q:af)(n bj:Nat)(x:ao)(w:w_)(h:ap w bj q)(hb:bj<=w.heap.size)(hx:q.L8[n]? =o_ x)(hn:0<=q.next/\q.next<=1000000000):
  k_ J3 138 #[a_ q.cells,i_ j_ n] w λe w'=>∃q2:af,e=r_ (a_ q2.cells)/\q2={q with next:=q.next+1,L8:=q.L8.set n {x with RU:=q.next}}/\ap w' bj q2/\B_ bj w w':=by
 obtain⟨gs,ha,hat⟩:=cn h.at.1 hx;have hb1:B_ w.heap.size w ((w.alloc (c_ (q.L6 gs) 46)).alloc (c_ ar 46)):=((Kp _ _).alloc (Ki _) _).alloc zy _;have hnl:n<q.L8.length:=(Lj.1 hx).1;have HB:da (av ((w.alloc (c_ (q.L6 gs) 46)).alloc (c_ ar 46)) w.heap.size q/\ap ((w.alloc (c_ (q.L6 gs) 46)).alloc (c_ ar 46)) bj q/\B_ w.heap.size w ((w.alloc (c_ (q.L6 gs) 46)).alloc (c_ ar 46))/\((w.alloc (c_ (q.L6 gs) 46)).alloc (c_ ar 46)).heap[w.heap.size+1]? =o_ (c_ ar 46)/\q.L8[n]? =o_ x/\q.aN=o_ ⟨gs,0,n_⟩/\bj<=w.heap.size/\gs<w.heap.size/\bj<=gs):=by
  have h5:=cf h.L8 (g:=gs) ZcJ;exact⟨by unfold av;rw[ha];exact(PU zy).trans (Kj _ _),h.below hb1,hb1,Kq _ _ _,hx,ha,hb,h5.2,h5.1⟩
 obtain⟨m0,m1,m2,m3,m4,m5,m6,m7⟩:=HB.I.1.cells;rw[ha]at m2;obtain⟨⟨u,pe⟩,f11⟩:(∃u,((w.alloc (c_ (q.L6 gs) 46)).alloc (c_ ar 46)).cell? ⟨gs,n*12+11,n_⟩=o_ u)/\((w.alloc (c_ (q.L6 gs) 46)).alloc (c_ ar 46)).frozen? ⟨gs,n*12+11,n_⟩=false:=by
  obtain⟨g,hg,hrow⟩:=bl.fX (K:=bg) HB.I.2.1.L8 zw;exact ZaS
 have j0:(0:Int)<=(n:Int):=zw
 have j1:(n:Int)<(q.L8.length:Int):=zw
 obtain⟨hn0,hn1⟩:=hn;have h5:=HB.I.2.1.kB (n:=n) (j:=11) (x:=x) (y:={x with RU:=q.next}) (vs:=[i_ j_ q.next]) hx ha ⟨rfl,rfl,rfl⟩ (by show 11+1<=12;omega) (λr hr=>by match r,hr with|0,_=>rfl) (λr hr hn=>by match r,hr,hn with|0,_,_=>rfl|1,_,_=>rfl|2,_,_=>rfl|3,_,_=>rfl|4,_,_=>rfl|5,_,_=>rfl|6,_,_=>rfl|7,_,_=>rfl|8,_,_=>rfl|9,_,_=>rfl|10,_,_=>rfl|11,_,hn=>exact absurd ⟨zw,by show 11<11+1;omega⟩ hn);simp only[bn]at h5;have HS:da (ap (((w.alloc (c_ (q.L6 gs) 46)).alloc (c_ ar 46)).setCell ⟨gs,n*12+11,n_⟩ (i_ j_ q.next)) bj ({q with L8:=q.L8.set n {x with RU:=q.next}}:af)/\B_ bj w (((w.alloc (c_ (q.L6 gs) 46)).alloc (c_ ar 46)).setCell ⟨gs,n*12+11,n_⟩ (i_ j_ q.next))/\av (((w.alloc (c_ (q.L6 gs) 46)).alloc (c_ ar 46)).setCell ⟨gs,n*12+11,n_⟩ (i_ j_ q.next)) w.heap.size q/\(((w.alloc (c_ (q.L6 gs) 46)).alloc (c_ ar 46)).setCell ⟨gs,n*12+11,n_⟩ (i_ j_ q.next)).heap[w.heap.size+1]? =o_ (c_ ar 46)):=by
  have hg:=HB.I.2.2.2.2.2.2;refine⟨h5.1,(hb1.mono hb).trans (h5.2.1.below (by have:=hb1.size;omega) ZbI),(aH zw).trans HB.I.1,(aH zw).trans HB.I.2.2.2.1⟩
 have hq8:(af.cells q)=(q.L6 gs):=by unfold af.cells;rw[ha]
 rw[hq8];have hbks:=h5.2.2;have apB:∀g∈q.Mc,g<w.heap.size:=λg hg=>(h.lt g hg).2
 have HBK:da (∀g∈({q with L8:=q.L8.set n {x with RU:=q.next}}:af).Mc,g<w.heap.size):=λg hg=>apB g (by rw[<-hbks];exact hg)
 have k1:(((w.alloc (c_ (q.L6 gs) 46)).alloc (c_ ar 46)).setCell ⟨gs,n*12+11,n_⟩ (i_ j_ q.next)).cell? ⟨w.heap.size,1,n_⟩=o_ (i_ j_ q.next):=by have h6:=HS.I.2.2.1;unfold av at h6;simp only[World.cell?,h6];rfl
 have k1f:(((w.alloc (c_ (q.L6 gs) 46)).alloc (c_ ar 46)).setCell ⟨gs,n*12+11,n_⟩ (i_ j_ q.next)).frozen? ⟨w.heap.size,1,n_⟩=false:=Ko _ _ _ _ _ HS.I.2.2.1;clear h hb hx hb1 h5 hat ha hq8
 go_enter func138,ntmps138
 have HT:da (((((w.alloc (c_ (q.L6 gs) 46)).alloc (c_ ar 46)).setCell ⟨gs,n*12+11,n_⟩ (i_ j_ q.next)).setCell ⟨w.heap.size,1,n_⟩ (i_ j_ (q.next+1))).heap[w.heap.size+1]? =o_ (c_ ar 46)/\ap ((((w.alloc (c_ (q.L6 gs) 46)).alloc (c_ ar 46)).setCell ⟨gs,n*12+11,n_⟩ (i_ j_ q.next)).setCell ⟨w.heap.size,1,n_⟩ (i_ j_ (q.next+1))) bj ({q with L8:=q.L8.set n {x with RU:=q.next}}:af)/\B_ bj w ((((w.alloc (c_ (q.L6 gs) 46)).alloc (c_ ar 46)).setCell ⟨gs,n*12+11,n_⟩ (i_ j_ q.next)).setCell ⟨w.heap.size,1,n_⟩ (i_ j_ (q.next+1)))):=by
  have hg:=HB.I.2.2.2.2.2.2;have hbl:∀g∈({q with L8:=q.L8.set n {x with RU:=q.next}}:af).Mc,g≠w.heap.size:=λg hg2 e=>by rw[hbks]at hg2;have:=apB g hg2;omega
  exact⟨(aH zw).trans HS.I.2.2.2,HS.I.1.same λg hg2=>aH (hbl g hg2),bP HS.I.2.1 zw⟩
 clear hbks apB;go_wp2_with(refine ec _ _ #[i_ j_ q.id,i_ j_ (q.next+1),s_ (o_ ⟨gs,0,n_⟩) q.L8.length q.aW,s_ q.bc q.aj.length q.bF,s_ q.ay q.L9.length q.aO,s_ q.ax q.ag.length q.aP,s_ q.am q.ae.length q.aG,s_ q.aK q.ai.length q.aV] HT.I.1 ?_);refine gZ results138 HT.I.1 ?_;have hg:=HB.I.2.2.2.2.2.2;have rN:∀g∈({q with L8:=q.L8.set n {x with RU:=q.next}}:af).Mc,g≠w.heap.size+1:=λg hg2 e=>by have:=HBK.I g hg2;omega
 have ho:=HT.I.2.1.same (w':=((((w.alloc (c_ (q.L6 gs) 46)).alloc (c_ ar 46)).setCell ⟨gs,n*12+11,n_⟩ (i_ j_ q.next)).setCell ⟨w.heap.size,1,n_⟩ (i_ j_ (q.next+1))).setRow (w.heap.size+1) #[i_ j_ q.id,i_ j_ (q.next+1),s_ (o_ ⟨gs,0,n_⟩) q.L8.length q.aW,s_ q.bc q.aj.length q.bF,s_ q.ay q.L9.length q.aO,s_ q.ax q.ag.length q.aP,s_ q.am q.ae.length q.aG,s_ q.aK q.ai.length q.aV]) λg hg2=>KH _ _ _ _ (rN g hg2)
 refine⟨_,?_,rfl,⟨ho.L8,ho.aj,ho.L9,ho.ag,ho.ae,ho.ai,ho.eI,ho.eE,ho.eR,ho.nodup⟩,q_ HT.I.2.2 zw _⟩;simp only[af.cells,LI,HB.I.2.2.2.2.2.1]
def tK (p:af)(id:Int)(w:w_)(hf:p.Fit)(hs:∀x∈p.L8,x.dX)(h:af.At w p):
  k_ J3 94 #[a_ p.cells,i_ j_ id] w λe w'=>gI w (kD p.pure id) e w':=by
 have HB:da (av ((w.alloc (c_ p.row 46)).alloc (c_ ar 46)) w.heap.size p/\af.At ((w.alloc (c_ p.row 46)).alloc (c_ ar 46)) p/\B_ w.heap.size w ((w.alloc (c_ p.row 46)).alloc (c_ ar 46))/\((w.alloc (c_ p.row 46)).alloc (c_ ar 46)).heap[w.heap.size+1]? =o_ (c_ ar 46)):=by
  have b1:B_ w.heap.size w ((w.alloc (c_ p.row 46)).alloc (c_ ar 46)):=((Kp _ _).alloc (Ki _) _).alloc zy _;exact⟨(PU zy).trans (Kj _ _),h.below b1,b1,Kq _ _ _⟩
 have fl:da (p.Fit/\∀x∈p.L8,x.dX):=⟨hf,hs⟩
 have hpl:=hf.short.L8;clear h hf hs;obtain⟨m0,m1,m2,m3,m4,m5,m6,m7⟩:=HB.I.1.cells;unfold af.cells
 go_enter func94,ntmps94
 go_wp2_with fail;generalize(w.alloc (c_ p.row 46)).alloc (c_ ar 46)=W at*;clear m0 m1 m2 m3 m4 m5 m6 m7;refine(lS p id W hpl HB.I.2.1).mono ?_;rintro e W1 ⟨rfl,hb⟩;replace HB:da (av W1 w.heap.size p/\af.At W1 p/\B_ w.heap.size w W1/\W1.heap[w.heap.size+1]? =o_ (c_ ar 46)):=⟨HB.I.1.below hb,HB.I.2.1.below hb,HB.I.2.2.1.trans (hb.mono HB.I.2.2.1.size),(hb.block _ (J2.1 HB.I.2.2.2).1).trans HB.I.2.2.2⟩
 clear hb;obtain⟨m0,m1,m2,m3,m4,m5,m6,m7⟩:=HB.I.1.cells;have hpf:=nK id p.pure.L8 0;rw[show p.pure.L8.map (·.id)=p.L8.map (·.id) by simp[af.pure,Ls]]at hpf;have Gh:da (_):=hpf;clear hpf;generalize place (p.L8.map (·.id)) id 0=z at*;go_wp2_with fail;clear m0 m1 m2 m3 m4 m5 m6 m7;refine(eV p W1 fl.I.1 fl.I.2 HB.I.2.1).mono ?_;rintro e W2 ⟨rfl,hb⟩;replace HB:da (av W2 w.heap.size p/\af.At W2 p/\B_ w.heap.size w W2/\W2.heap[w.heap.size+1]? =o_ (c_ ar 46)):=⟨HB.I.1.below hb,HB.I.2.1.below hb,HB.I.2.2.1.trans (hb.mono HB.I.2.2.1.size),(hb.block _ (J2.1 HB.I.2.2.2).1).trans HB.I.2.2.2⟩
 clear hb;obtain⟨m0,m1,m2,m3,m4,m5,m6,m7⟩:=HB.I.1.cells;cases h4:bK p.pure
 .have HN:da (kD p.pure id=n_):=vO h4
  clear h4;exact AM
 have H4:da (bK p.pure=true):=h4;clear h4;rcases Gh.I with⟨hz,hnf⟩|⟨n,y0,hz,hn,Dc⟩
 .have HN:da (kD p.pure id=n_):=tg hnf
  subst hz;clear hnf Gh;exact AM
 rw[Li]at hz;subst hz;have hnl:n<p.L8.length:=by have h5:=(Lj.1 hn).1;simpa[af.pure]using h5
 have afO:decide ((n:Int)<0)=false:=decide_eq_false zw;obtain⟨x0,hx0,hxy⟩:∃x,p.L8[n]? =o_ x/\x.toaD=y0:=by
  have h5:(p.L8.map (·.toaD))[n]? =o_ y0:=hn;rw[Kk,Kw]at h5;exact h5
 subst hxy;have HY:da (p.pure.L8[n]? =o_ x0.toaD/\p.pure.L8.find? (λx=>decide (x.id=id))=o_ x0.toaD):=⟨hn,Dc⟩
 obtain⟨gp,hap,Gn⟩:=cn HB.I.2.1.1 hx0;rw[hap]at m2;have wg:da (p.aN=o_ ⟨gp,0,n_⟩):=hap;have d3:=Gn.2.2.2.1;clear hn Dc Gh hx0 Gn hap;have j0:(0:Int)<=(n:Int):=zw
 have j1:(n:Int)<(p.L8.length:Int):=zw
 by_cases hst:x0.Md=0
 .by_cases hnx:p.next=1000000000
  .have HN:da (kD p.pure id=n_):=sx HY.I.2 (by have e:p.pure.next=1000000000:=hnx;simp[e])
   have e1:(x0.Md !=0)=false:=by simp[hst]
   have e2:(p.next==1000000000)=true:=by simp[hnx]
   clear hst hnx;exact AM
  have HN:da (kD p.pure id=o_ {p.pure with next:=p.next+1,L8:=ce id (λy:aD=>{y with Md:=1,RU:=p.next}) p.pure.L8}):=tT H4.I HY.I.2 (by have e:x0.toaD.Md=0:=hst;have e2:¬p.pure.next=1000000000:=hnx;simp[e,e2]);have e1:(x0.Md !=0)=false:=by simp[hst]
  have e2:(p.next==1000000000)=false:=by simp[hnx]
  clear hst hnx;go_wp2_with fail;clear m0 m1 m2 m3 m4 m5 m6 m7 d3 e1 e2;have Mb:=fR p W2 fl.I.1 fl.I.2 HB.I.2.1;rw[show af.cells p=(p.L6 gp) by unfold af.cells;rw[wg.I]]at Mb;refine Mb.mono ?_;clear Mb;rintro e W3 ⟨q,rfl,hown,gn,hb3⟩;obtain⟨x,hx,hxy⟩:∃x,q.L8[n]? =o_ x/\x.toaD=x0.toaD:=by
   have h5:(q.L8.map (·.toaD))[n]? =o_ x0.toaD:=by have h6:=HY.I.1;rw[<-gn]at h6;exact h6
   rw[Kk,Kw]at h5;exact h5
  obtain⟨gs,ha,hat⟩:=cn hown.at.1 hx;have hnq:n<q.L8.length:=(Lj.1 hx).1;have hgs:=cf hown.L8 (g:=gs) ZcJ;have hb4:B_ W3.heap.size W3 (W3.alloc (c_ (q.L6 gs) 46)):=(Kp _ _).alloc (Ki _) _;obtain⟨⟨u,c3⟩,f3⟩:(∃u,(W3.alloc (c_ (q.L6 gs) 46)).cell? ⟨gs,n*12+3,n_⟩=o_ u)/\(W3.alloc (c_ (q.L6 gs) 46)).frozen? ⟨gs,n*12+3,n_⟩=false:=by
   obtain⟨g,hg,hrow⟩:=bl.fX (K:=bg) (hown.below hb4).L8 zw;rw[ha]at hg;cases hg;exact⟨⟨_,(hrow.cell hx (r:=3) (by decide)).1⟩,(hrow.cell hx (r:=3) (by decide)).2⟩
  have h5:=(hown.below hb4).kB (n:=n) (j:=3) (x:=x) (y:={x with Md:=1}) (vs:=[i_ j_ 1]) hx ha ⟨rfl,rfl,rfl⟩ (by decide) (λr hr=>by match r,hr with|0,_=>rfl) (λr hr hn=>by match r,hr,hn with|0,_,_=>rfl|1,_,_=>rfl|2,_,_=>rfl|3,_,hn=>exact absurd ⟨zw,by decide⟩ hn|4,_,_=>rfl|5,_,_=>rfl|6,_,_=>rfl|7,_,_=>rfl|8,_,_=>rfl|9,_,_=>rfl|10,_,_=>rfl|11,_,_=>rfl);simp only[bn]at h5;have oX:w.heap.size+1<W2.heap.size:=(J2.1 HB.I.2.2.2).1;have Ix:=hb3.size;have HS:da (ap ((W3.alloc (c_ (q.L6 gs) 46)).setCell ⟨gs,n*12+3,n_⟩ (i_ j_ 1)) W2.heap.size ({q with L8:=q.L8.set n {x with Md:=1}}:af)/\av ((W3.alloc (c_ (q.L6 gs) 46)).setCell ⟨gs,n*12+3,n_⟩ (i_ j_ 1)) W3.heap.size q/\B_ w.heap.size w ((W3.alloc (c_ (q.L6 gs) 46)).setCell ⟨gs,n*12+3,n_⟩ (i_ j_ 1))/\((W3.alloc (c_ (q.L6 gs) 46)).setCell ⟨gs,n*12+3,n_⟩ (i_ j_ 1)).heap[w.heap.size+1]? =o_ (c_ ar 46)/\({q with L8:=q.L8.set n {x with Md:=1}}:af).L8[n]? =o_ {x with Md:=1}/\af.cells ({q with L8:=q.L8.set n {x with Md:=1}}:af)=(q.L6 gs)/\W2.heap.size<=((W3.alloc (c_ (q.L6 gs) 46)).setCell ⟨gs,n*12+3,n_⟩ (i_ j_ 1)).heap.size/\q.pure=p.pure/\x.toaD=x0.toaD):=by
   refine⟨h5.1,?_,?_,?_,by simp[hnq],by simp only[af.cells,LI,ha],?_,gn,hxy⟩
   .refine (aH zw).trans ?_
    rw[ha];exact Kj _ _
   .exact bP (HB.I.2.2.1.trans ((hb3.alloc Ix _).mono HB.I.2.2.1.size)) zw
   .exact (aH zw).trans ((hb4.block _ zw).trans ((hb3.block _ oX).trans HB.I.2.2.2))
   .have:=hb4.size;rw[show(((W3.alloc (c_ (q.L6 gs) 46)).setCell ⟨gs,n*12+3,n_⟩ (i_ j_ 1))).heap.size=_ from fH [_]];omega
  obtain⟨k0,k1,k2,k3,k4,k5,k6,k7⟩:=HS.I.2.1.cells;rw[ha]at k2;have u4:(n:Int)<(q.L8.length:Int):=zw
  rw[show af.cells q=(q.L6 gs) by unfold af.cells;rw[ha]];clear hown gn hb3 hx hxy ha hat hgs hb4 h5 Ix;go_wp2_with fail;clear k0 k1 k2 k3 k4 k5 k6 k7 c3 f3;generalize(W3.alloc (c_ (q.L6 gs) 46)).setCell ⟨gs,n*12+3,n_⟩ (i_ j_ 1)=W5 at*;have hnx:0<=q.next/\q.next<=1000000000:=by have h6:=bz.1 ((ch _).1 H4.I).next;rw[<-HS.I.2.2.2.2.2.2.2.1]at h6;have h7:q.pure.next=q.next:=rfl;omega
  have Mb:=Bk ({q with L8:=q.L8.set n {x with Md:=1}}:af) n W2.heap.size {x with Md:=1} W5 HS.I.1 HS.I.2.2.2.2.2.2.1 HS.I.2.2.2.2.1 hnx;rw[HS.I.2.2.2.2.2.1]at Mb;refine Mb.mono ?_;clear Mb;rintro e W6 ⟨q2,rfl,pv,DU,jQ⟩;have H6:da (ap W6 W2.heap.size q2/\B_ w.heap.size w W6/\W6.heap[w.heap.size+1]? =o_ (c_ ar 46)/\q2.pure={p.pure with next:=p.next+1,L8:=ce id (λy:aD=>{y with Md:=1,RU:=p.next}) p.pure.L8}/\w.heap.size+1<W2.heap.size):=by
   refine⟨DU,HS.I.2.2.1.trans (jQ.mono zw),(jQ.block _ oX).trans HS.I.2.2.2.1,?_,oX⟩;have hpp:=HS.I.2.2.2.2.2.2.2.1;have hid:x0.toaD.id=id:=by have h7:=List.find?_some HY.I.2;simpa using h7
   rw[rp (sc H4.I) HY.I.1 hid];have hnn:q.next=p.next:=congrArg aE.next hpp;have hpr:q.L8.map (·.toaD)=p.pure.L8:=congrArg aE.L8 hpp;have hxx:=HS.I.2.2.2.2.2.2.2.2;subst pv
   show({q.pure with next:=q.next+1,L8:=((q.L8.set n {x with Md:=1}).set n {{x with Md:=1}with RU:=q.next}).map (·.toaD)}:aE)=_
   rw[PV,PN,hpr,hpp,hnn,<-hxx]
  clear pv DU jQ HS hnx;go_wp2_with(refine ec _ _ (af.cells q2) H6.I.2.2.1 ?_);refine mG results94 (b_ true) H6.I.2.2.1 ?_;rw[HN.I];have hl:=H6.I.2.2.2.2;exact⟨q2,rfl,(H6.I.1.lower zw).same λg hg=>KH _ _ _ _ (by have:=(H6.I.1.lt g hg).1;omega),H6.I.2.2.2.1,q_ H6.I.2.1 zw _⟩
 .have HN:da (kD p.pure id=n_):=sx HY.I.2 (by have e:¬x0.toaD.Md=0:=hst;simp[e])
  have e1:(x0.Md !=0)=true:=by simp[hst]
  clear hst;exact AM
end
section
attribute [local go_sem ↓] Kc Kd
def Wj (W:w_)(X b:Nat)(k:eA):Prop:=Tk W X k/\gp W b k
section
variable {p q:af}{k:eA}{w W U V:w_}{B X b:Nat}{bs:List Nat}
def Wj.below (h:Wj U X b k)(hb:B_ U.heap.size U V):Wj V X b k:=⟨(hb.block _ (J2.1 h.1).1).trans h.1,h.2.below hb⟩
end
def kd.total (k:kd):Nat:=k.fn.length+(k.parts.length+g9 aE.total k.parts)+k.eC.length

end
end Go.Proofs.YtckenjkcmajicaaGreat
