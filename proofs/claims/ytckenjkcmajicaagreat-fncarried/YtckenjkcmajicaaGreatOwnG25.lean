/- What the proof leans on, part 25. -/
import Derived.Test.YtckenjkcmajicaaGreatOwnG20
import Derived.Test.YtckenjkcmajicaaGreatOwnG22
set_option linter.all false
set_option maxRecDepth 100000
set_option maxHeartbeats 8000000
open Option renaming some->o_
open Function renaming comp_def->Ls

open Go.RowKit renaming Hid->da
namespace Go.Proofs.YtckenjkcmajicaaGreat
open Go.RowKit
def aqF {α:Type}{f:α->Bool}{g:α->α}:∀{l:List α},(∀x,l.find? f=o_ x->g x=x)->abP f g l=l
 |[],_=>rfl
 |x::r,h=>by
  simp only[abP]
  split
  .rename_i hf
   rw[h x (by rw[aeC hf])]
  .rename_i hf
   rw[aqF λy hy=>h y (by rw[aeD hf];exact hy)]
section
variable {ps0 ps:List aE}{a b src:Int}{c d:eQ}{s t:dS}
def aqA (h:endP ps a b=o_ s):abK a b s.Ma ps=ps:=by
 unfold abK;refine aqF λp hp=>?_
 have e:ab7 b s.Ma p=p:=by
  unfold endP hP at h;rw[hp]at h;unfold ab7;rw[aqF λq hq=>?_];have h':p.ai.find? (λx:dS=>decide (x.id=b))=o_ s:=h;rw[hq]at h';cases h';rfl
 exact e
def art (h:pa ps c=true):∃s t,endP ps c.src c.ga=o_ s/\endP ps c.dst c.hI=o_ t/\s.I=true/\t.I=false:=by
 unfold pa at h;cases e1:endP ps c.src c.ga with
 |none=>rw[e1]at h;simp at h
 |some s=>
  cases e2:endP ps c.dst c.hI with
  |none=>rw[e1,e2]at h;simp at h
  |some t=>
   rw[e1,e2]at h;simp only[J7,PR]at h;exact⟨s,t,rfl,rfl,h.1.1.2,h.1.2⟩
def arY (h:abz ps0 ps)(hs:endP ps c.src c.ga=o_ s):zo ps0 c=s.Mf:=by
 have e:=acK h.acE c.src c.ga;rw[hs]at e;obtain⟨s0,h1,h2⟩:=Kw.1 e.symm;unfold zo;rw[h1];exact(congrArg dS.Mf h2:(abL s0).Mf=(abL s).Mf)
def aqO (h:abz ps0 ps)(hd:pa ps0 d=true)(h1:¬(a=d.dst/\b=d.hI))(h2:zo ps0 d=true->¬(a=d.src/\b=d.ga)):endP (abM ps d) a b=endP ps a b:=by
 obtain⟨s,t,hs,ht,-⟩:=h.ends hd;have hq:=arY h hs;unfold abM;rw[hs,ht];simp only
 split
 .rename_i hq1
  rw[acS,if_neg (h2 (hq.trans hq1)),acS,if_neg h1]
 .split
  .rfl
  .rw [acS,if_neg h1]
def ary (hs:endP ps d.src d.ga=o_ s)(ht:endP ps d.dst d.hI=o_ t)(hne:¬d.src=d.dst):endP (abM ps d) d.src d.ga=o_ (abO s t).1/\endP (abM ps d) d.dst d.hI=o_ (abO s t).2:=by
 have n1:¬(d.src=d.dst/\d.ga=d.hI):=λe=>hne e.1
 have n2:¬(d.dst=d.src/\d.hI=d.ga):=λe=>hne e.1.symm
 unfold abM abO;rw[hs,ht];simp only
 split
 .rw [acS,acS,acS,acS,if_pos ⟨rfl,rfl⟩,if_neg n1,hs,if_neg n2,if_pos ⟨rfl,rfl⟩,ht]
  exact⟨rfl,rfl⟩
 .split
  .exact ⟨hs,ht⟩
  .rw [acS,acS,if_neg n1,if_pos ⟨rfl,rfl⟩,hs,ht]
   exact⟨rfl,rfl⟩
def NoT (ps0:List aE)(d c:eQ):Prop:=¬(c.dst=d.dst/\c.hI=d.hI)/\(zo ps0 d=true->¬(c.src=d.src/\c.ga=d.ga))
def NoT.symm (h:NoT ps0 d c):NoT ps0 c d:=⟨λe=>h.1 ⟨e.1.symm,e.2.symm⟩,λhq e=>h.2 (by unfold zo at hq⊢;rw[e.1,e.2];exact hq) ⟨e.1.symm,e.2.symm⟩⟩
def arJ (h:hR ps c d=false):NoT ps d c:=by
 unfold hR at h;simp only[Bool.or_eq_false_iff,Bool.and_eq_false_iff,decide_eq_false_iff_not]at h;refine⟨λe=>?_,λhq e=>?_⟩
 .rcases h.1 with h5|h5
  .exact h5 e.1.symm
  .exact h5 e.2.symm
 .have hq':zo ps c=true:=by unfold zo at hq⊢;rw[e.1,e.2];exact hq
  rcases h.2 with(h5|h5)|h5
  .exact h5 e.1.symm
  .exact h5 e.2.symm
  .rw [hq']at h5;cases h5
def aq6:∀{l m:List eQ},fA ps m l=true->(∀c∈l,∀d∈m,NoT ps d c)/\l.Pairwise (NoT ps)
 |[],_,_=>⟨λc hc=>by(cases hc),List.Pairwise.nil⟩
 |x::r,m,h=>by
  simp only[fA,J7,PR,List.any_eq_false]at h;obtain⟨h1,h2⟩:=aq6 h.2;refine⟨λc hc d hd=>?_,List.Pairwise.cons (λc hc=>h1 c hc x zy) h2⟩;rcases Kt.1 hc with rfl|hc
  .exact arJ (by simpa using h.1.2 d hd)
  .exact h1 c hc d (Lz _ hd)
def ara (h:abz ps0 ps)(hc:pa ps0 c=true)(hd:pa ps0 d=true)(hn:NoT ps0 d c):endP (abM ps d) c.src c.ga=endP ps c.src c.ga/\endP (abM ps d) c.dst c.hI=endP ps c.dst c.hI:=by
 obtain⟨s,t,hs,ht,so,apd⟩:=art hc;obtain⟨s',t',hs',ht',so',tO'⟩:=art hd;refine⟨aqO h hd (λe=>?_) hn.2,aqO h hd hn.1 λ_ e=>?_⟩
 .rw [e.1,e.2,ht']at hs
  cases hs;rw[tO']at so;cases so
 .rw [e.1,e.2,hs']at ht
  cases ht;rw[so']at apd;cases apd
def aqZ:∀{l:List eQ}{ps:List aE},abz ps0 ps->pa ps0 c=true->(∀d∈l,pa ps0 d=true/\NoT ps0 d c)->endP (abI src ps l) c.src c.ga=endP ps c.src c.ga/\endP (abI src ps l) c.dst c.hI=endP ps c.dst c.hI
 |[],_,_,_,_=>⟨rfl,rfl⟩
 |d::r,ps,h,hc,hd=>by
  have h1:=hd d zy;unfold abI
  split
  .have h2:=ara h hc h1.1 h1.2
   have h3:=aqZ (h.carry h1.1) hc λx hx=>hd x (LB _ hx)
   exact⟨h3.1.trans h2.1,h3.2.trans h2.2⟩
  .exact aqZ h hc λx hx=>hd x (LB _ hx)
def aq3:∀{l:List eQ}{ps:List aE},abz ps0 ps->(∀d∈l,pa ps0 d=true)->l.Pairwise (NoT ps0)->c∈l->c.src=src->endP ps c.src c.ga=o_ s->endP ps c.dst c.hI=o_ t->¬c.src=c.dst->endP (abI src ps l) c.src c.ga=o_ (abO s t).1/\endP (abI src ps l) c.dst c.hI=o_ (abO s t).2
 |[],_,_,_,_,hc,_,_,_,_=>by cases hc
 |d::r,ps,h,hd,hp,hc,he,hs,ht,hne=>by
  obtain⟨p1,p2⟩:=LM.1 hp;have hr:=λx hx=>hd x (LB d hx)
  rcases Kt.1 hc with rfl|hc
  .unfold abI
   rw[if_pos he];have h1:=ary hs ht hne;have h2:=aqZ (src:=src) (h.carry (hd c zy)) (hd c zy) λx hx=>⟨hr x hx,(p1 x hx).symm⟩
   exact⟨h2.1.trans h1.1,h2.2.trans h1.2⟩
  .unfold abI
   split
   .have h1:=ara h (hr c hc) (hd d zy) (p1 c hc)
    exact aq3 (h.carry (hd d zy)) hr p2 hc he (h1.1.trans hs) (h1.2.trans ht) hne
   .exact aq3 h hr p2 hc he hs ht hne
def arw:abO (abO s t).1 (abO s t).2=abO s t:=by
 unfold abO;by_cases h:s.Mf=true
 .have e:min (s.Ma.drop (min s.Ma.length (ab4 t))).length (ab4 (abZ (t.Ma++s.Ma.take (min s.Ma.length (ab4 t))) t))=0:=by
   unfold ab4 abZ;simp only[Ql,Lf,Lk];omega
  simp only[h,if_true,abZ]at e⊢;rw[e];simp
 .simp only[h,if_false,J5]
  by_cases h0:s.Ma.length=0
  .simp [h0,h]
  .simp [h0,h,abZ]
def arH (hs:endP ps c.src c.ga=o_ s)(ht:endP ps c.dst c.hI=o_ t)(h:abO s t=(s,t)):abM ps c=ps:=by
 unfold abM;rw[hs,ht];simp only;unfold abO at h
 split at h
 .rename_i hq
  rw[if_pos hq];obtain⟨h1,h2⟩:=Prod.mk.inj h;have e1:s.Ma.drop (min s.Ma.length (ab4 t))=s.Ma:=congrArg dS.Ma h1;have e2:t.Ma++s.Ma.take (min s.Ma.length (ab4 t))=t.Ma:=congrArg dS.Ma h2;rw[e1,e2,aqA ht,aqA hs]
 .rename_i hq
  rw[if_neg hq]
  split at h
  .rename_i h0
   rw[if_pos h0]
  .rename_i h0
   rw[if_neg h0];have e2:s.Ma.take 1=t.Ma:=congrArg dS.Ma (Prod.mk.inj h).2;rw[e2,aqA ht]
def arf:∀{l:List eQ},(∀c∈l,c.src=src->abM ps c=ps)->abI src ps l=ps
 |[],_=>rfl
 |d::r,h=>by
  unfold abI
  split
  .rename_i he
   rw[h d zy he];exact arf λx hx=>h x (LB _ hx)
  .exact arf λx hx=>h x (LB _ hx)
end
def aq8 {k n:kd}{src:Int}(h:abJ k src=o_ n):eP k=true/\eP n=true/\n.eC=k.eC/\abJ n src=o_ n/\∀c∈k.eC,c.src=src->∃s t,endP k.parts c.src c.ga=o_ s/\endP k.parts c.dst c.hI=o_ t/\endP n.parts c.src c.ga=o_ (abO s t).1/\endP n.parts c.dst c.hI=o_ (abO s t).2/\s.Mf=t.Mf/\dj s=true/\dj t=true:=by
 unfold abJ at h
 split at h
 .rename_i hk
  cases h;have hl:fA k.parts [] k.eC=true:=by have h5:=hk.1;simp only[eP,J7]at h5;exact h5.2
  have hc:=ab1 hk.1;have hp:=(aq6 hl).2;have hr:=abz.refl (ab2 hk.1);obtain⟨r1,r2⟩:=aoL (src:=src) (Ww hk.1) hc;have hkn:eP {k with parts:=abI src k.parts k.eC}=true:=by
   have h5:=hk.1;have h6:=aoz (bE:=k.bE) hk.1 r1 r2 (by simp only[eP,J7]at h5;exact h5.1.1.1.1.1);exact h6
  have hall:∀c∈k.eC,c.src=src->∃s t,endP k.parts c.src c.ga=o_ s/\endP k.parts c.dst c.hI=o_ t/\endP (abI src k.parts k.eC) c.src c.ga=o_ (abO s t).1/\endP (abI src k.parts k.eC) c.dst c.hI=o_ (abO s t).2/\s.Mf=t.Mf/\dj s=true/\dj t=true:=λc hcm he=>by
   obtain⟨s,t,hs,ht,hq,hne,b1,b2⟩:=hr.ends (hc c hcm);have h5:=aq3 hr hc hp hcm he hs ht hne;exact⟨s,t,hs,ht,h5.1,h5.2,hq,b1,b2⟩
  refine⟨hk.1,hkn,rfl,?_,hall⟩;unfold abJ;have hfix:abI src (abI src k.parts k.eC) k.eC=abI src k.parts k.eC:=arf λc hcm he=>by
   obtain⟨s,t,-,-,h3,h4,-⟩:=hall c hcm he;exact arH h3 h4 arw
  have e:(abI src k.parts k.eC).map (λp:aE=>p.id)=k.parts.map (λp:aE=>p.id):=by
   have h5:=congrArg (List.map Prod.fst) r1;simpa[Lv,Ls]using h5
  have hi:(hP (λp:aE=>p.id) src (abI src k.parts k.eC)).isSome=true:=by
   have h5:=hk.2;unfold hP at h5⊢;rw[List.find?_isSome]at h5⊢;obtain⟨x,hx,sw⟩:=h5;have hm:src∈(abI src k.parts k.eC).map (λp:aE=>p.id):=by rw[e];exact Lr.2 ⟨x,hx,by simpa using sw⟩
   obtain⟨y,hy,hye⟩:=Lr.1 hm;exact⟨y,hy,by simpa using hye⟩
  rw[if_pos ⟨hkn,hi⟩]
  show o_ {k with parts:=abI src (abI src k.parts k.eC) k.eC}=_
  rw[hfix]
 .cases h
end Go.Proofs.YtckenjkcmajicaaGreat

namespace Go.Proofs.YtckenjkcmajicaaGreat
open Go.RowKit
def aqJ {α:Type}{num:α->Int}{ok:α->Bool}:∀{l:List α}{last:Int},aw num ok last l=true->(l.map num).Pairwise (· < ·)/\∀x∈l,last<num x
 |[],_,_=>⟨List.Pairwise.nil,λx hx=>Zcl⟩
 |x::r,last,h=>by
  simp only[aw,J7,decide_eq_true_eq]at h;obtain⟨h1,h2⟩:=aqJ h.2;refine⟨List.Pairwise.cons (λy hy=>?_) h1,λy hy=>?_⟩
  .obtain ⟨z,hz,rfl⟩:=Lr.1 hy
   exact h2 z hz
  .exact Za8
def aqk (port:Int)(ps:List dS):Bool×Bool:=ps.foldl (λr q=>if q.id=port then(q.Mf,decide (0<q.Ma.length))else r) (false,false)
def ar5 {port:Int}{l:List dS}{n:Nat}{x:dS}(h:l[n]? =o_ x):aqk port (l.take (n+1))=if x.id=port then(x.Mf,decide (0<x.Ma.length))else aqk port (l.take n):=by
 rw[show l.take (n+1)=l.take n++[x] by rw[List.take_add_one,h];rfl];unfold aqk;rw[List.foldl_append];rfl
def aq0 {port:Int}:∀{l:List dS}{r:Bool×Bool},(∀q∈l,¬q.id=port)->l.foldl (λr q=>if q.id=port then(q.Mf,decide (0<q.Ma.length))else r) r=r
 |[],_,_=>rfl
 |x::l,r,h=>by
  rw[List.foldl_cons,if_neg (h x zy)];exact aq0 λq hq=>h q (LB _ hq)
def aq9 {port:Int}{q:dS}:∀{l:List dS},(l.map (·.id)).Pairwise (· < ·)->hP (λq:dS=>q.id) port l=o_ q->aqk port l=(q.Mf,decide (0<q.Ma.length))
 |[],_,h=>by simp[hP]at h
 |x::r,hp,h=>by
  obtain⟨p1,p2⟩:=LM.1 hp;unfold aqk;rw[List.foldl_cons];by_cases hx:x.id=port
  .unfold hP at h
   rw[aeC ZdT]at h;cases h;rw[if_pos hx];refine aq0 λy hy e=>?_
   have h5:q.id<y.id:=p1 y.id (Lr.2 ⟨y,hy,rfl⟩);omega
  .unfold hP at h
   rw[aeD ZdT]at h;rw[if_neg hx];exact aq9 p2 h
def ar0 {ps:List aE}{a b:Int}{q:dS}(h:endP ps a b=o_ q):∃p∈ps,hP (λp:aE=>p.id) a ps=o_ p/\hP (λq:dS=>q.id) b p.ai=o_ q:=by
 unfold endP at h;cases hf:hP (λp:aE=>p.id) a ps with
 |none=>rw[hf]at h;cases h
 |some p=>rw[hf]at h;exact⟨p,List.mem_of_find?_eq_some hf,rfl,h⟩
def aqy {k:kd}{a b:Int}{q:dS}(hk:eP k=true)(h:endP k.parts a b=o_ q):aqb k a b=aqa ⟨#[]⟩ q.Ma/\∃p,V7 k a=o_ p/\aqk b p.ai=(q.Mf,decide (0<q.Ma.length)):=by
 obtain⟨p,hp,h1,h2⟩:=ar0 h;have hr:=(aqJ (Ww hk p hp).ai).1;have e:V7 k a=o_ p:=by unfold V7;rw[if_pos hk,h1]
 refine⟨?_,p,e,aq9 hr h2⟩;unfold aqb;rw[e];exact aqW hr h2
def aqY (a b:List ByteArray):aqa ⟨#[]⟩ a++aqa ⟨#[]⟩ b=aqa ⟨#[]⟩ (a++b):=by rw[arz,aqv b (aqa ⟨#[]⟩ a)]
structure CaOk (k n:kd)(c:eQ)(p:aE)(r:Bool×Bool):Prop where
 part:V7 k c.src=o_ p
 flags:aqk c.ga p.ai=r
 Mf:r.1=true->aqb k c.dst c.hI++aqb k c.src c.ga=aqb n c.dst c.hI++aqb n c.src c.ga
 full:r.1=false->r.2=true->aqb n c.dst c.hI=aqb k c.src c.ga
 stay:r.1=false->aqb n c.src c.ga=aqb k c.src c.ga
def arq {k n:kd}{src:Int}(h:abJ k src=o_ n):eP n=true/\n.eC=k.eC/\abJ n src=o_ n/\n.fn=k.fn/\∀c∈k.eC,c.src=src->∃p r,CaOk k n c p r:=by
 obtain⟨hk,hn,hch,hag,hall⟩:=aq8 h;refine⟨hn,hch,hag,?_,λc hc he=>?_⟩
 .unfold abJ at h
  split at h
  .cases h;rfl
  .cases h
 obtain⟨s,t,e1,e2,e3,e4,hq,b1,-⟩:=hall c hc he;obtain⟨t1,p,hp,hf⟩:=aqy hk e1;have t2:=(aqy hk e2).1;have t3:=(aqy hn e3).1;have t4:=(aqy hn e4).1;refine⟨p,_,hp,hf,λhs=>?_,λhs hfl=>?_,λhs=>?_⟩
 .rw [t1,t2,t3,t4,aqY,aqY]
  unfold abO;rw[if_pos hs]
  show aqa _ (t.Ma++s.Ma)=aqa _ ((t.Ma++s.Ma.take _)++s.Ma.drop _)
  rw[Lm,Qn]
 .rw [t1,t4]
  have hl:=(abT b1).2.2.2.2;have hm:=(abT b1).2.2.1 hs;have h0:0<s.Ma.length:=of_decide_eq_true hfl;unfold abO;rw[if_neg (by simpa using hs),if_neg zw]
  show aqa _ (s.Ma.take 1)=_
  rw[KF zw]
 .rw [t1,t3]
  unfold abO;rw[if_neg (by simpa using hs)]
  split<;>rfl
end Go.Proofs.YtckenjkcmajicaaGreat
