/- What the proof leans on, part 24. -/
import Derived.Test.YtckenjkcmajicaaGreatOwnG20
import Derived.Test.YtckenjkcmajicaaGreatOwnG21
import Derived.Test.YtckenjkcmajicaaGreatOwnG22
set_option linter.all false
set_option maxRecDepth 100000
set_option maxHeartbeats 8000000
open Go.Proofs.Tryz
open Go renaming World->w_,Value->v_,Calls->k_,Addr->d_,below_setRow->q_
open Go.Ending renaming returned->r_
open Go.IntKind renaming i64->j_
open Go.Obj renaming cells->c_
open Go.RowKit renaming Below->B_,Hid->da
open Go.Value renaming int->i_,slice->s_,bool->b_,agg->a_,pointer->p_,tuple->u_
open Option renaming some->o_,none->n_
open Go.Proofs.Tryz renaming prog->J3
open List renaming find?_map->aeu,find?_some->PS,flatMap_cons->aez,mem_of_find?_eq_some->RG

namespace Go.Proofs.YtckenjkcmajicaaGreat
section
open Go.RowKit Go.Maps
def acC {α:Type}{c:Nat}{f:α->α}:∀{l:List (α×Nat)},c∉l.map (·.2)->sU c f l=l
 |[],_=>rfl
 |p::r,h=>by
  rw[Lt,Kt]at h
  show(if p.2=c then(f p.1,p.2)else p)::sU c f r=p::r
  rw[if_neg (λe=>h (.inl e.symm)),acC λhm=>h (.inr hm)]
def acd {α β:Type}{num:α->Int}{adz:β->Int}{f:α->β}{g:β->β}(hnum:∀x,adz (f x)=num x){id:Int}{x x':α}{c:Nat}(hx:f x'=g (f x)):∀{l:List (α×Nat)},l.find? (λp=>num p.1==id)=o_ (x,c)->(l.map (·.2)).Nodup->(sU c (λ_=>x') l).map (λp=>f p.1)=abP (λy=>decide (adz y=id)) g (l.map λp=>f p.1)
 |[],h,_=>ZcF
 |p::r,h,hn=>by
  rw[Lt,Lp]at hn
  show((if p.2=c then(x',p.2)else p)::sU c (λ_=>x') r).map (λp=>f p.1)=abP _ g (f p.1::r.map λp=>f p.1)
  by_cases hp:num p.1=id
  .rw [aeC ZeC]at h
   cases h;simp only[abP,hnum,hp,decide_true,if_true,Lt,acC hn.1,hx]
  .rw [aeD ZeC]at h
   have hm:c∈r.map (·.2):=Lr.2 ⟨_,RG h,rfl⟩;have hne:¬p.2=c:=λe=>hn.1 (e▸hm)
   simp only[abP,hnum,hp,decide_false,if_neg hne,Lt,J5,if_false];rw[acd hnum hx h hn.2]
def aZ.setPort (S:aZ)(g:Nat)(x:aM):aZ:={S with lq:=sU g (λ_=>x) S.lq}
def adf {α:Type}{c:Nat}{x x':α}{l:List (α×Nat)}(hx:(x,c)∈l)(hn:(l.map (·.2)).Nodup):∃A B,l=A++(x,c)::B/\sU c (λ_=>x') l=A++(x',c)::B:=by
 obtain⟨A,B,rfl⟩:=List.append_of_mem hx;refine⟨A,B,rfl,?_⟩;rw[Kl,Lt]at hn;have h1:=Kf.1 hn;have h2:=Lp.1 h1.2.1;have hA:c∉A.map (·.2):=λhm=>h1.2.2 c hm c zy rfl
 show(A++(x,c)::B).map _=_
 rw[Kl,Lt];have e1:A.map (λp=>if p.2=c then(x',p.2)else p)=A:=acC (f:=λ_=>x') hA;have e2:B.map (λp=>if p.2=c then(x',p.2)else p)=B:=acC (f:=λ_=>x') h2.1;rw[e1,e2];simp
section
variable {w w':w_}{bj o g:Nat}{S:aZ}{x x':aM}
def abR (hx:(x,g)∈S.lq){b:Nat}(hb:b∈blk x.ak):b∈S.all o:=by
 have:b∈kids aU S.lq:=Lq.2 ⟨(x,g),hx,fZ.1 hb⟩
 unfold aZ.all aZ.kids;simp only[Kt,Kg];exact .inr (.inr (.inr (.inr this)))
def cJ.port (h:cJ w bj o S)(hx:(x,g)∈S.lq)(hb:PBx w' bj g x')(hid:x'.id=x.id)(hs:∀b∈S.all o,b≠g->b∉blk x.ak->w'.heap[b]? =w.heap[b]?)(hk:∀b∈blk x'.ak,b∈blk x.ak\/b∉S.all o):
  cJ w' bj o (S.setPort g x')/\∀b∈(S.setPort g x').all o,b∈S.all o\/b∈blk x'.ak:=by
 have hnd:(S.all o).Nodup:=h.nodup;have hpn:(S.lq.map (·.2)).Nodup:=(Lp.1 h.ai.nodup).2;obtain⟨A,B,hl,hu⟩:=adf (x':=x') hx hpn;have adw:∀(z:aM),kids aU (A++(z,g)::B)=kids aU A++(blk z.ak++kids aU B):=λz=>by
  have e:aU.bt z=z.ak.map (·.block):=rfl;unfold kids blk;rw[LW,List.filterMap_cons];simp only[e];cases z.ak<;>simp
 obtain⟨P,hPx⟩:∃P,P=o::(S.boxes++(kids aR S.lp++(kids aC S.lf++kids aU A))):=⟨_,rfl⟩
 have e1:S.all o=P++(blk x.ak++kids aU B):=by
  unfold aZ.all aZ.kids;rw[hPx]
  conv=>lhs;rw[hl,adw]
  simp[Lm]
 have eb:(S.setPort g x').boxes=S.boxes:=by simp only[aZ.boxes,aZ.setPort,qb]
 have e2:(S.setPort g x').all o=P++(blk x'.ak++kids aU B):=by
  unfold aZ.all;rw[eb,hPx];unfold aZ.kids aZ.setPort;simp only[hu];rw[adw];simp[Lm]
 have hndP:=hnd;rw[e1]at hndP;have n1:=Kf.1 hndP;have n2:=Kf.1 n1.2.1;have hg:g∈S.boxes:=by
  unfold aZ.boxes;simp only[Kg,Kt];exact .inr (.inr (.inr (.inr (.inr (.inr (Lr.2 ⟨(x,g),hx,rfl⟩))))))
 have hin:∀b,b∈P\/b∈kids aU B->b∈S.all o/\b∉blk x.ak:=λb hb'=>by
  rw[e1];rcases hb' with h5|h5
  .exact ⟨Lz _ h5,λhm=>n1.2.2 b h5 b (Lz _ hm) rfl⟩
  .exact ⟨Ly _ (Ly _ h5),λhm=>n2.2.2 b hm b h5 rfl⟩
 have hsame:∀b,b∈P\/b∈kids aU B->b≠g->w'.heap[b]? =w.heap[b]?:=λb hb' hne=>hs b (hin b hb').1 hne (hin b hb').2
 have inP:∀b,b=o\/b∈S.boxes\/b∈kids aR S.lp\/b∈kids aC S.lf\/b∈kids aU A->b∈P:=λb hb'=>by rw[hPx];simp only[Kt,Kg];exact hb'
 have hnd':(o::(S.boxes++S.kids)).Nodup:=hnd;have m1:=Lp.1 hnd';have m2:=Kf.1 m1.2;have hog:o≠g:=λe=>m1.1 (e▸Lz _ hg)
 have hkg:∀b∈S.kids,b≠g:=λb hb' e=>m2.2.2 g hg b hb' e.symm
 have jQ:=m2.1;unfold aZ.boxes at jQ;have bx:∀b,(b∈(S.q.bp::S.lp.map (·.2))\/b∈(S.q.bs::S.ls.map (·.2))\/b∈(S.q.be::S.le.map (·.2))\/b∈(S.q.bb::S.lb.map (·.2))\/b∈(S.q.bf::S.lf.map (·.2)))->b∈S.boxes/\b≠g:=λb hb'=>by
  refine⟨by unfold aZ.boxes;simp only[Kg];rcases hb' with h5|h5|h5|h5|h5<;>simp[h5],λe=>?_⟩;have hgq:g∈S.q.bq::S.lq.map (·.2):=LB _ (Lr.2 ⟨(x,g),hx,rfl⟩);have k1:=Kf.1 jQ;have k2:=Kf.1 k1.2.1;have k3:=Kf.1 k2.2.1;have k4:=Kf.1 k3.2.1;have k5:=Kf.1 k4.2.1;rcases hb' with h5|h5|h5|h5|h5
  .exact k1.2.2 b h5 g (by simp only[Kg];exact .inr (.inr (.inr (.inr hgq)))) e
  .exact k2.2.2 b h5 g (by simp only[Kg];exact .inr (.inr (.inr hgq))) e
  .exact k3.2.2 b h5 g (by simp only[Kg];exact .inr (.inr hgq)) e
  .exact k4.2.2 b h5 g (by simp only[Kg];exact .inr hgq) e
  .exact k5.2.2 b h5 g hgq e
 have sh:∀b,(b∈(S.q.bp::S.lp.map (·.2))\/b∈(S.q.bs::S.ls.map (·.2))\/b∈(S.q.be::S.le.map (·.2))\/b∈(S.q.bb::S.lb.map (·.2))\/b∈(S.q.bf::S.lf.map (·.2)))->w'.heap[b]? =w.heap[b]?:=λb hb'=>hsame b (.inl (inP b (.inr (.inl (bx b hb').1)))) (bx b hb').2
 have one:∀p∈S.lq,p.2=g->p=(x,g):=λp hp e=>h.ai.one hp hx e
 have kk:∀b,b∈kids aR S.lp\/b∈kids aC S.lf\/b∈kids aU A\/b∈kids aU B->w'.heap[b]? =w.heap[b]?:=λb hb'=>by
  have hm:b∈S.kids:=by
   unfold aZ.kids;rw[hl,adw];simp only[Kg];rcases hb' with h5|h5|h5|h5<;>simp[h5]
  refine hsame b ?_ (hkg b hm);rcases hb' with h5|h5|h5|h5
  .exact .inl (inP b (.inr (.inr (.inl h5))))
  .exact .inl (inP b (.inr (.inr (.inr (.inl h5)))))
  .exact .inl (inP b (.inr (.inr (.inr (.inr h5)))))
  .exact .inr h5
 have hbq:S.q.bq≠g:=λe=>(Lp.1 h.ai.nodup).1 (e▸Lr.2 ⟨(x,g),hx,rfl⟩)
 have hqs:∀b∈S.q.bq::S.lq.map (·.2),¬b=g->w'.heap[b]? =w.heap[b]?:=λb hb' hne=>hsame b (.inl (inP b (.inr (.inl (by unfold aZ.boxes;simp only[Kg];exact .inr (.inr (.inr (.inr (.inr hb'))))))))) hne
 refine⟨⟨?_,h.L8.same λb hb'=>sh b (.inl hb'),h.aj.same λb hb'=>sh b (.inr (.inl hb')),h.L9.same λb hb'=>sh b (.inr (.inr (.inl hb'))),h.ag.same λb hb'=>sh b (.inr (.inr (.inr (.inl hb')))),h.ae.same λb hb'=>sh b (.inr (.inr (.inr (.inr hb')))),?_,λp hp=>(h.eI p hp).same λb hb'=>kk b (.inl (Lq.2 ⟨p,hp,hb'⟩)),λp hp=>(h.eE p hp).same λb hb'=>kk b (.inr (.inl (Lq.2 ⟨p,hp,hb'⟩))),λp hp=>?_,?_,h.low⟩,λb hb'=>?_⟩
 .exact (hsame o (.inl (inP o (.inl rfl))) hog).trans h.opn
 .exact h.ai.sU (f:=λ_=>x') (λp hp e=>by rw[one p hp e];exact hid) (λ_ _ _=>hb.box) (hqs _ zy hbq) (λb hb' hne=>hqs b (LB _ hb') hne)
 .have hp':p∈A++(x',g)::B:=by rw[<-hu];exact hp
  rcases Kg.1 hp' with h5|h5
  .exact (h.eR p (by rw[hl];exact Lz _ h5)).same λb hb'=>kk b (.inr (.inr (.inl (Lq.2 ⟨p,h5,hb'⟩))))
  .rcases Kt.1 h5 with rfl|h5
   .exact hb.mine
   .exact (h.eR p (by rw[hl];exact Ly _ (LB _ h5))).same λb hb'=>kk b (.inr (.inr (.inr (Lq.2 ⟨p,h5,hb'⟩))))
 .show ((S.setPort g x').all o).Nodup
  rw[e2];refine acz hndP (by unfold blk;cases x'.ak<;>simp) λb hb'=>?_
  rcases hk b hb' with h5|h5
  .exact .inl h5
  .rw [e1]at h5
   exact .inr ⟨λhm=>h5 (Lz _ hm),λhm=>h5 (Ly _ (Ly _ hm))⟩
 .rw [e2]at hb'
  rw[e1];simp only[Kg]at hb'⊢;rcases hb' with h5|h5|h5
  .exact .inl (.inl h5)
  .exact .inr h5
  .exact .inl (.inr (.inr h5))
end
def acI {α:Type}{f:α->Bool}{g:α->α}:∀{l:List α},(∀x,l.find? f=o_ x->g x=x)->abP f g l=l
 |[],_=>rfl
 |x::r,h=>by
  simp only[abP];by_cases hx:f x=true
  .rw [if_pos hx,h x (by rw[aeC hx])]
  .rw [if_neg hx,acI λy hy=>h y (by rw[aeD hx];exact hy)]
def acL {ps:List aE}{part port:Int}{q:dS}(h:endP ps part port=o_ q):abK part port q.Ma ps=ps:=by
 refine acI λp hp=>?_
 unfold endP hP at h;rw[hp,Option.bind_some]at h;have e:abP (λy:dS=>decide (y.id=port)) (abZ q.Ma) p.ai=p.ai:=acI λy hy=>by
  rw[hy]at h;cases h;rfl
 unfold ab7;rw[e]
def acQ {l:List (aZ×Nat)}{part id:Int}{g:Nat}(h:kt l part id=o_ g):∃S o x,l.find? (λp=>p.1.q.id==part)=o_ (S,o)/\S.lq.find? (λp=>p.1.id==id)=o_ (x,g):=by
 unfold kt at h;cases hf:l.find? (λp=>p.1.q.id==part)with
 |none=>rw[hf]at h;cases h
 |some p=>
  rw[hf]at h;have e3:cz (RW (λx:aM=>x.id) p.1.lq) id=(p.1.lq.find? (λp=>p.1.id==id)).map (·.2):=by
   unfold cz RW;rw[aeu,Option.map_map];rfl
  have h':cz (RW (λx:aM=>x.id) p.1.lq) id=o_ g:=h;rw[e3]at h';obtain⟨q,hq,rfl⟩:=Kw.1 h';exact⟨p.1,p.2,q.1,rfl,hq⟩
def aci {l:List (aZ×Nat)}{part id:Int}{S:aZ}{o g:Nat}{x:aM}(h1:l.find? (λp=>p.1.q.id==part)=o_ (S,o))(h2:S.lq.find? (λp=>p.1.id==id)=o_ (x,g)):endP (l.map (·.1.pure)) part id=o_ x.todS:=by
 have e1:hP (λx:aE=>x.id) part (l.map (·.1.pure))=(l.find? (λp=>p.1.q.id==part)).map (·.1.pure):=by
  unfold hP;rw[aeu]
  congr 2
 have e2:hP (λx:dS=>x.id) id (S.lq.map (·.1.todS))=(S.lq.find? (λp=>p.1.id==id)).map (·.1.todS):=by
  unfold hP;rw[aeu]
  congr 2
 unfold endP;rw[e1,h1]
 show hP (λx:dS=>x.id) id (S.lq.map (·.1.todS))=_
 rw[e2,h2];rfl
def acX {α:Type}{R:α->α->Prop}(hs:∀a b,R a b->R b a):∀{l:List α},l.Pairwise R->∀a∈l,∀b∈l,a≠b->R a b
 |[],_,a,ha,_,_,_=>by cases ha
 |x::r,h,a,ha,b,hb,hne=>by
  rw[LM]at h;rcases Kt.1 ha with ea|ha'
  .rcases Kt.1 hb with eb|hb'
   .exact absurd (ea.trans eb.symm) hne
   .rw [ea];exact h.1 b hb'
  .rcases Kt.1 hb with eb|hb'
   .rw [eb];exact hs _ _ (h.1 a ha')
   .exact acX hs h.2 a ha' b hb' hne
section
variable {w w':w_}{K b:Nat}{l:List (aZ×Nat)}
def VK.far (h:VK w K b l){p q:aZ×Nat}(hp:p∈l)(hq:q∈l)(hne:p.2≠q.2):∀g∈p.1.all p.2,g∉q.1.all q.2:=λg hg hg'=>
 acX (R:=λp q:aZ×Nat=>∀g∈p.1.all p.2,∀g'∈q.1.all q.2,g≠g') (λ_ _ h g hg g' hg' e=>h g' hg' g hg e.symm) h.apart p hp q hq (λe=>hne (by rw[e])) g hg g hg' rfl
def acD {S:aZ}{o:Nat}:o∈S.all o:=by unfold aZ.all;simp
def VK.Mc (h:VK w K b l):(l.map (·.2)).Nodup:=by
 refine Qm.2 (h.apart.imp λhR e=>?_);exact hR _ acD _ (e▸acD) rfl
def SA (o1 o2:Nat)(S1 S2:aZ)(p:aZ×Nat):aZ×Nat:=if p.2=o1 then(S1,p.2)else if p.2=o2 then(S2,p.2)else p
def adh {o1 o2:Nat}{S1 S2:aZ}(hne:o1≠o2):l.map (SA o1 o2 S1 S2)=sU o1 (λ_=>S1) (sU o2 (λ_=>S2) l):=by
 unfold sU;rw[Lv];refine Lw λp _=>?_
 unfold SA;simp only[Function.comp];by_cases h2:p.2=o2
 .have h1:¬p.2=o1:=λe=>hne (e.symm.trans h2)
  simp only[h2,if_true]
 .simp [h2]
end
def acm {S:aZ}{g:Nat}{x x':aM}{port:Int}{its:List ByteArray}(h2:S.lq.find? (λp=>p.1.id==port)=o_ (x,g))(hn:(S.lq.map (·.2)).Nodup)(hx:x'.todS=abZ its x.todS):(S.setPort g x').pure=ab7 port its S.pure:=by
 have e:=acd (num:=λx:aM=>x.id) (adz:=λq:dS=>q.id) (f:=λx:aM=>x.todS) (g:=abZ its) (λ_=>rfl) hx h2 hn;unfold ab7 aZ.setPort aZ.pure;simp only;rw[<-e]
def cJ.keep {w w':w_}{bj o:Nat}{S:aZ}(h:cJ w bj o S)(hs:∀g∈S.all o,w'.heap[g]? =w.heap[g]?):cJ w' bj o S:=by
 have hb:∀g,(g∈(S.q.bp::S.lp.map (·.2))\/g∈(S.q.bs::S.ls.map (·.2))\/g∈(S.q.be::S.le.map (·.2))\/g∈(S.q.bb::S.lb.map (·.2))\/g∈(S.q.bf::S.lf.map (·.2))\/g∈(S.q.bq::S.lq.map (·.2)))->w'.heap[g]? =w.heap[g]?:=λg hg=>hs g (by unfold aZ.all aZ.boxes;simp only[Kt (a:=g) (b:=o),Kg];exact .inr (.inl hg))
 have hk:∀g,(g∈kids aR S.lp\/g∈kids aC S.lf\/g∈kids aU S.lq)->w'.heap[g]? =w.heap[g]?:=λg hg=>hs g (by unfold aZ.all aZ.kids;simp only[Kt (a:=g) (b:=o),Kg];exact .inr (.inr hg))
 exact⟨(hs o (by unfold aZ.all;simp)).trans h.opn,h.L8.same λg hg=>hb g (.inl hg),h.aj.same λg hg=>hb g (.inr (.inl hg)),h.L9.same λg hg=>hb g (.inr (.inr (.inl hg))),h.ag.same λg hg=>hb g (.inr (.inr (.inr (.inl hg)))),h.ae.same λg hg=>hb g (.inr (.inr (.inr (.inr (.inl hg))))),h.ai.same λg hg=>hb g (.inr (.inr (.inr (.inr (.inr hg))))),λp hp=>(h.eI p hp).same λg hg=>hk g (.inl (Lq.2 ⟨p,hp,hg⟩)),λp hp=>(h.eE p hp).same λg hg=>hk g (.inr (.inl (Lq.2 ⟨p,hp,hg⟩))),λp hp=>(h.eR p hp).same λg hg=>hk g (.inr (.inr (Lq.2 ⟨p,hp,hg⟩))),h.nodup,h.low⟩
def acF {α β:Type}{f g:α->List β}:∀{l:List α},(∀x∈l,f x=g x)->l.flatMap f=l.flatMap g
 |[],_=>rfl
 |x::r,h=>by rw[aez,aez,h x zy,acF λy hy=>h y Zdr]
def adr {l:List (aZ×Nat)}{o1 o2:Nat}{S1 S2:aZ}{part:Int}(hg:∀p∈l,((if p.2=o2 then(S2,p.2)else p):aZ×Nat).1.q.id=p.1.q.id)(h:l.find? (λp=>p.1.q.id==part)=o_ (S1,o1))(hne:o1≠o2):(sU o2 (λ_=>S2) l).find? (λp=>p.1.q.id==part)=o_ (S1,o1):=by
 induction l with
 |nil=>exact ZcF
 |cons p r ih=>
  show((if p.2=o2 then(S2,p.2)else p)::sU o2 (λ_=>S2) r).find? _=_
  have h1:=hg p zy;by_cases hp:(p.1.q.id==part)=true
  .rw [aeC (p:=λp:aZ×Nat=>p.1.q.id==part) hp]at h
   cases h;rw[aeC (p:=λp:aZ×Nat=>p.1.q.id==part) (by rw[h1];exact hp),if_neg hne]
  .rw [aeD (p:=λp:aZ×Nat=>p.1.q.id==part) hp]at h
   rw[aeD (p:=λp:aZ×Nat=>p.1.q.id==part) (by rw[h1];exact hp)];exact ih (λq hq=>hg q (LB _ hq)) h
def acq {w w':w_}{base1 base2 g1 g2:Nat}{x y:aM}(h1:PBx w base1 g1 x)(h2:PBx w base2 g2 y)(hk:aI w w' (g1::g2::(blk x.ak++blk y.ak))){g:Nat}{ob:Obj}(hg:w.heap[g]? =o_ ob)(hn:∀cs aaO,ob≠c_ cs 51 aaO/\ob≠c_ cs 9 aaO):w'.heap[g]? =o_ ob:=by
 have iH:∀{bj:Nat}{z:aM}{q:Nat},PBx w bj q z->g∉blk z.ak:=λhz hm=>by
  rcases hz.mine.2 with⟨h5,-⟩|⟨g',cap,cur,h5,-,h6,-⟩
  .simp only[LD]at h5
   rw[h5.1]at hm;simp[blk]at hm
  .simp only[LD]at h5
   rw[h5.1]at hm;simp[blk]at hm;rw[<-hm,hg]at h6;exact(hn _ _).2 (KC h6)
 refine(hk.same g (J2.1 hg).1 λhm=>?_).trans hg;simp only[Kt,Kg]at hm;rcases hm with rfl|rfl|hm|hm
 .have h5:=h1.box
  rw[hg]at h5;exact(hn _ _).1 (KC h5)
 .have h5:=h2.box
  rw[hg]at h5;exact(hn _ _).1 (KC h5)
 .exact iH h1 hm
 .exact iH h2 hm
structure Carr (w w':w_)(K b:Nat)(l l':List (aZ×Nat))(c:eQ):Prop where
 prt:VK w' K b l'
 pure:l'.map (·.1.pure)=abM (l.map (·.1.pure)) c
 ai:∀part id,kt l' part id=kt l part id
 fits:(∀p∈l,p.1.Fits)->∀p∈l',p.1.Fits
 ids:(l'.map λp=>(p.1.q.id,p.2))=l.map λp=>(p.1.q.id,p.2)
def ac6 {l l':List (aZ×Nat)}(h:(l'.map λp=>(p.1.q.id,RW (λx:aM=>x.id) p.1.lq))=l.map λp=>(p.1.q.id,RW (λx:aM=>x.id) p.1.lq))(part id:Int):kt l' part id=kt l part id:=by
 have key:∀m:List (aZ×Nat),kt m part id=((m.map λp=>(p.1.q.id,RW (λx:aM=>x.id) p.1.lq)).find? (λp=>p.1==part)).bind λp=>cz p.2 id:=λm=>by
  rw[aeu];unfold kt
  show(match m.find? (λp=>p.1.q.id==part)with|none=>n_|some p=>_)=((m.find? (λp=>p.1.q.id==part)).map _).bind _
  cases m.find? (λp=>p.1.q.id==part)<;>rfl
 rw[key,key,h]
def adj {w w':w_}{K b o1 o2 abn abC:Nat}{l:List (aZ×Nat)}{o:gi}{S1 S2:aZ}{x y:aM}{e:Ending}(hPx:VK w K b l)(hsd:¬o.c.src=o.c.dst)(hf1:l.find? (λp=>p.1.q.id==o.c.src)=o_ (S1,o1))(hq1:S1.lq.find? (λp=>p.1.id==o.c.ga)=o_ (x,o.s))(hf2:l.find? (λp=>p.1.q.id==o.c.dst)=o_ (S2,o2))(pv:S2.lq.find? (λp=>p.1.id==o.c.hI)=o_ (y,o.t))
  (ha1:cJ w abn o1 S1)(hk1:K<abn)(ha2:cJ w abC o2 S2)(hk2:K<abC)(hC:ab8 w o x y abn abC e w'):∃l',Carr w w' K b l l' o.c:=by
 obtain⟨-,x',y',hx',hy',abW,hkept,hkx,hky⟩:=hC;have m1:(S1,o1)∈l:=RG hf1;have m2:(S2,o2)∈l:=RG hf2;have i1:S1.q.id=o.c.src:=by have:=PS hf1;simpa using this
 have i2:S2.q.id=o.c.dst:=by have:=PS hf2;simpa using this
 have acU:(x,o.s)∈S1.lq:=RG hq1;have acT:(y,o.t)∈S2.lq:=RG pv;have hne:o1≠o2:=λe=>by
  have hn:=hPx.Mc;have h5:=map_inj (f:=λp:aZ×Nat=>p.2) hn m1 m2 e;cases h5;exact hsd (i1.symm.trans i2)
 have p1:PBx w abn o.s x:=⟨ha1.ai.box _ acU,ha1.eR _ acU⟩
 have p2:PBx w abC o.t y:=⟨ha2.ai.box _ acT,ha2.eR _ acT⟩
 have hxi:x'.todS=abZ x'.Ma x.todS/\y'.todS=abZ y'.Ma y.todS:=by
  unfold abO at abW
  split at abW
  .exact A_
  .split at abW
   .exact A_
   .exact A_
 have a1:∀g∈S1.all o1,g<w.heap.size:=λg hg=>(ha1.xy g hg).2
 have a2:∀g∈S2.all o2,g<w.heap.size:=λg hg=>(ha2.xy g hg).2
 have inC:∀g,g∈o.s::o.t::(blk x.ak++blk y.ak)->g∈S1.all o1\/g∈S2.all o2:=λg hg=>by
  simp only[Kt,Kg]at hg;rcases hg with rfl|rfl|hg|hg
  .exact .inl (abb (Lr.2 ⟨_,acU,rfl⟩))
  .exact .inr (abb (Lr.2 ⟨_,acT,rfl⟩))
  .exact .inl (abR acU hg)
  .exact .inr (abR acT hg)
 have f12: ∀ g∈S1.all o1,g∉S2.all o2:=hPx.far m1 m2 hne;have f21: ∀ g∈S2.all o2,g∉S1.all o1:=hPx.far m2 m1 hne.symm;obtain ⟨t1,t1b⟩:=ha1.port acU hx' (by rw [show x'.id=x'.todS.id from rfl,hxi.1]; rfl) (λb hb hn hk=>hkept.same b (a1 b hb) λhm=>by
  simp only[Kt,Kg]at hm;rcases hm with h5|h5|h5|h5
  .exact hn h5
  .exact f12 b hb (h5▸abb (Lr.2 ⟨_,acT,rfl⟩))
  .exact hk h5
  .exact f12 b hb (abR acT h5)) (λb hb=>.inl (hkx b hb))
 obtain ⟨t2,t2b⟩:=ha2.port acT hy' (by rw [show y'.id=y'.todS.id from rfl,hxi.2]; rfl) (λb hb hn hk=>hkept.same b (a2 b hb) λhm=>by
  simp only[Kt,Kg]at hm;rcases hm with h5|h5|h5|h5
  .exact f21 b hb (h5▸abb (Lr.2 ⟨_,acU,rfl⟩))
  .exact hn h5
  .exact f21 b hb (abR acU h5)
  .exact hk h5) (λb hb=>(hky b hb).imp_right λh5 hm=>by have:=a2 b hm;omega)
 have q1:(S1.setPort o.s x').q=S1.q:=rfl;have q2:(S2.setPort o.t y').q=S2.q:=rfl;have kq1:RW (λz:aM=>z.id) (S1.setPort o.s x').lq=RW (λz:aM=>z.id) S1.lq:=Al (num:=λz:aM=>z.id) (f:=λ_=>x') λp hp e=>by rw[ha1.ai.one hp acU e];show x'.id=x.id;rw[show x'.id=x'.todS.id from rfl,hxi.1];rfl
 have kq2:RW (λz:aM=>z.id) (S2.setPort o.t y').lq=RW (λz:aM=>z.id) S2.lq:=Al (num:=λz:aM=>z.id) (f:=λ_=>y') λp hp e=>by rw[ha2.ai.one hp acT e];show y'.id=y.id;rw[show y'.id=y'.todS.id from rfl,hxi.2];rfl
 obtain⟨F,hF⟩:∃F,F=SA o1 o2 (S1.setPort o.s x') (S2.setPort o.t y'):=⟨_,rfl⟩
 have one:∀p∈l,∀q∈l,p.2=q.2->p=q:=λp hp q hq e=>map_inj (f:=λp:aZ×Nat=>p.2) hPx.Mc hp hq e
 have abi:∀p∈l,(p=(S1,o1)/\F p=(S1.setPort o.s x',o1))\/(p=(S2,o2)/\F p=(S2.setPort o.t y',o2))\/(p.2≠o1/\p.2≠o2/\F p=p):=λp hp=>by
  rw[hF];unfold SA;by_cases h1:p.2=o1
  .have:=one p hp _ m1 h1
   subst this;exact .inl ⟨rfl,zy⟩
  .by_cases h2:p.2=o2
   .have:=one p hp _ m2 h2
    subst this;exact .inr (.inl ⟨rfl,Zea⟩)
   .exact .inr (.inr ⟨h1,h2,by simp[h1,h2]⟩)
 have aaY:∀p∈l,∀g∈(F p).1.all (F p).2,g∈p.1.all p.2\/(p.2=o2/\w.heap.size<=g):=λp hp g hg=>by
  rcases abi p hp with⟨rfl,e5⟩|⟨rfl,e5⟩|⟨-,-,e5⟩
  .rw [e5]at hg
   rcases t1b g hg with h5|h5
   .exact .inl h5
   .exact .inl (abR acU (hkx g h5))
  .rw [e5]at hg
   rcases t2b g hg with h5|h5
   .exact .inl h5
   .rcases hky g h5 with h6|h6
    .exact .inl (abR acT h6)
    .exact .inr ⟨rfl,h6⟩
  .rw [e5]at hg
   exact .inl hg
 have Ye:(l.map F).map (λp=>(p.1.q.id,p.2))=l.map λp=>(p.1.q.id,p.2):=by
  rw[Lv];refine Lw λp hp=>?_
  simp only[Function.comp];rcases abi p hp with⟨rfl,e5⟩|⟨rfl,e5⟩|⟨-,-,e5⟩<;>rw[e5]<;>rfl
 have hlq:∀p∈l,(F p).1.lq.map (·.2)=p.1.lq.map (·.2):=λp hp=>by
  rcases abi p hp with⟨rfl,e5⟩|⟨rfl,e5⟩|⟨-,-,e5⟩<;>rw[e5]
  .exact qb o.s (λ_=>x') S1.lq
  .exact qb o.t (λ_=>y') S2.lq
 refine⟨l.map F,⟨?_,λp hp=>?_,?_,hPx.kb,Kn hPx.k hkept.size,?_⟩,?_,ac6 ?_,λhfit p hp=>?_,Ye⟩
 .rw [Ye]
  obtain⟨ob,hob⟩:∃ob,w.heap[b]? =o_ ob:=⟨_,Qb hPx.map.lt⟩
  refine hPx.map.same ((acq p1 p2 hkept hob λcs aaO=>?_).trans hob.symm);obtain⟨es,clock,h5,-⟩:=hPx.map.1;rw[hob]at h5;cases h5;exact⟨(λh6=>by cases h6),λh6=>by cases h6⟩
 .obtain ⟨p0,hp0,rfl⟩:=Lr.1 hp
  rcases abi p0 hp0 with⟨rfl,e5⟩|⟨rfl,e5⟩|⟨n1,n2,e5⟩
  .rw [e5];exact⟨abn,hk1,t1⟩
  .rw [e5];exact⟨abC,hk2,t2⟩
  .rw [e5]
   obtain⟨bs,h5,h6⟩:=hPx.part p0 hp0;refine⟨bs,h5,h6.keep λg hg=>hkept.same g (h6.xy g hg).2 λhm=>?_⟩;rcases inC g hm with h7|h7
   .exact hPx.far hp0 m1 n1 g hg h7
   .exact hPx.far hp0 m2 n2 g hg h7
 .have e5:(l.map F).flatMap (λp=>p.1.lq.map (·.2))=l.flatMap λp=>p.1.lq.map (·.2):=by
   rw[List.flatMap_map];exact acF λp hp=>hlq p hp
  rw[e5];exact hPx.nodup
 .refine Qm.2 (hPx.apart.imp_of_mem λ{p q} hp hq hR g hg g' hg' e=>?_)
  subst e;rcases aaY p hp g hg with h5|⟨h5,h6⟩
  .rcases aaY q hq g hg' with h7|⟨h7,h8⟩
   .exact hR g h5 g h7 rfl
   .obtain ⟨bs,-,h9⟩:=hPx.part p hp
    have:=(h9.xy g h5).2
    omega
  .rcases aaY q hq g hg' with h7|⟨h7,h8⟩
   .obtain ⟨bs,-,h9⟩:=hPx.part q hq
    have:=(h9.xy g h7).2
    omega
   .have e9:=one p hp q hq (h5.trans h7.symm)
    subst e9;exact hR _ acD _ acD rfl
 .have hpure:(l.map F).map (·.1.pure)=abK o.c.src o.c.ga x'.Ma (abK o.c.dst o.c.hI y'.Ma (l.map (·.1.pure))):=by
   rw[hF,adh hne];have hb2:((sU o2 (λ_=>S2.setPort o.t y') l).map (·.2)).Nodup:=by rw[qb];exact hPx.Mc
   have hf1':(sU o2 (λ_=>S2.setPort o.t y') l).find? (λp=>p.1.q.id==o.c.src)=o_ (S1,o1):=by
    have hg:∀p∈l,((if p.2=o2 then(S2.setPort o.t y',p.2)else p):aZ×Nat).1.q.id=p.1.q.id:=λp hp=>by
     split
     .rename_i h5
      have:=one p hp _ m2 h5
      subst this;rfl
     .rfl
    exact adr hg hf1 (λe=>hne e)
   rw[acd (num:=λS:aZ=>S.q.id) (adz:=λq:aE=>q.id) (f:=aZ.pure) (g:=ab7 o.c.ga x'.Ma) (λ_=>rfl) (acm hq1 (Lp.1 ha1.ai.nodup).2 hxi.1) hf1' hb2];rw[acd (num:=λS:aZ=>S.q.id) (adz:=λq:aE=>q.id) (f:=aZ.pure) (g:=ab7 o.c.hI y'.Ma) (λ_=>rfl) (acm pv (Lp.1 ha2.ai.nodup).2 hxi.2) hf2 hPx.Mc];rfl
  rw[hpure];have e1:=aci hf1 hq1;have e2:=aci hf2 pv;unfold abM;rw[e1,e2];simp only;unfold abO at abW
  split at abW
  .rename_i hq
   rw[if_pos hq];have h1:=congrArg (λz=>z.1.Ma) abW;have h2:=congrArg (λz=>z.2.Ma) abW;simp only at h1 h2;rw[show x'.Ma=_ from h1,show y'.Ma=_ from h2];rfl
  .rename_i hq
   rw[if_neg hq]
   split at abW
   .rename_i hz
    rw[if_pos hz];have h1:=congrArg (λz=>z.1.Ma) abW;have h2:=congrArg (λz=>z.2.Ma) abW;simp only at h1 h2;rw[show x'.Ma=x.todS.Ma from h1,show y'.Ma=y.todS.Ma from h2,acL e2,acL e1]
   .rename_i hz
    rw[if_neg hz];have h1:=congrArg (λz=>z.1.Ma) abW;have h2:=congrArg (λz=>z.2.Ma) abW;simp only at h1 h2;rw[show x'.Ma=x.todS.Ma from h1,show y'.Ma=_ from h2];have e3:endP (abK o.c.dst o.c.hI (abZ (x.Ma.take 1) y.todS).Ma (l.map (·.1.pure))) o.c.src o.c.ga=o_ x.todS:=by rw[acS,if_neg (λh=>hsd h.1),e1]
    exact acL e3
 .rw [Lv]
  refine Lw λp hp=>?_
  simp only[Function.comp];rcases abi p hp with⟨rfl,e5⟩|⟨rfl,e5⟩|⟨-,-,e5⟩<;>rw[e5]
  .show (S1.q.id,RW _ (S1.setPort o.s x').lq)=_
   rw[kq1]
  .show (S2.q.id,RW _ (S2.setPort o.t y').lq)=_
   rw[kq2]
 .obtain ⟨p0,hp0,rfl⟩:=Lr.1 hp
  have h5:=hfit p0 hp0;rcases abi p0 hp0 with⟨rfl,e5⟩|⟨rfl,e5⟩|⟨-,-,e5⟩<;>rw[e5]
  .exact ⟨h5.dl,h5.Jl,h5.fx,h5.adG,h5.cD,h5.G4,h5.cC,h5.FP,h5.cb,h5.DW,by show(sU o.s (λ_=>x') S1.lq).length<=_;unfold sU;rw[KG];exact h5.dH,by rw[kq1];exact h5.Jz⟩
  .exact ⟨h5.dl,h5.Jl,h5.fx,h5.adG,h5.cD,h5.G4,h5.cC,h5.FP,h5.cb,h5.DW,by show(sU o.t (λ_=>y') S2.lq).length<=_;unfold sU;rw[KG];exact h5.dH,by rw[kq2];exact h5.Jz⟩
  .exact h5
end
section
open Go.RowKit Go.Maps
attribute [local go_sem ↓] Go.wp_at_zero Go.wp_at_succ
structure Y7 (w:w_)(K b:Nat)(bE:Int)(tab:Array v_)(a:Option d_)(cap B:Nat)(ls:List gi)(l:List (aZ×Nat))(W:w_):Prop where
 prt:VK W K b l
 TN:W.rowIs K 69 65 (B3 bE tab b a ls.length cap)
 own:W.ownsRow B 91 6 (s_ a ls.length cap) ls.length (qo.flat ls)
 adb:∀o∈ls,Joins l o
 fits:∀p∈l,p.1.Fits
 low:B_ K w W
section
variable {w W V:w_}{K b cap B:Nat}{bE:Int}{tab:Array v_}{a:Option d_}{ls:List gi}{l:List (aZ×Nat)}
def VK.below (h:VK W K b l) (hb:B_ W.heap.size W V):VK V K b l:=⟨h.map.below hb,λp hp=>by
 obtain⟨bs,h1,h2⟩:=h.part p hp;exact⟨bs,h1,h2.keep λg hg=>hb.block g (h2.xy g hg).2⟩,h.nodup,h.kb,Kn h.k hb.size,h.apart⟩
def Y7.below (h:Y7 w K b bE tab a cap B ls l W)(hb:B_ W.heap.size W V):Y7 w K b bE tab a cap B ls l V:=
 ⟨h.prt.below hb,h.TN.of_block (hb.block _ h.TN.lt),cR h.own hb,h.adb,h.fits,h.low.trans (hb.mono (aew h.prt.k))⟩
def Y7.carried {l':List (aZ×Nat)}{o:gi}{x y:aM}{abn abC:Nat}{e:Ending}(h:Y7 w K b bE tab a cap B ls l W)(hc:Carr W V K b l l' o.c)(p1:PBx W abn o.s x)(p2:PBx W abC o.t y)(hC:ab8 W o x y abn abC e V)(hK:∀g∈o.s::o.t::(blk x.ak++blk y.ak),K<g):Y7 w K b bE tab a cap B ls l' V:=by
 obtain⟨-,x',y',-,-,-,hk,-,-⟩:=hC;refine⟨hc.prt,?_,?_,λq hq=>⟨by rw[hc.ai];exact(h.adb q hq).1,by rw[hc.ai];exact(h.adb q hq).2⟩,hc.fits h.fits,h.low.trans (hk.below (aew h.prt.k) λg hg=>aew (hK g hg))⟩
 .obtain ⟨c,h1,h2⟩:=h.TN
  have h5:∀(cs:Array v_)(aaO:Nat×Nat),Obj.cells c 69 (0,0)≠c_ cs 51 aaO/\Obj.cells c 69 (0,0)≠c_ cs 9 aaO:=λcs aaO=>⟨(λe=>by simp at e),λe=>by simp at e⟩
  exact⟨c,acq p1 p2 hk h1 h5,h2⟩
 .refine ⟨h.own.1,?_⟩
  rcases h.own.2 with h1|⟨g,cp,cur,h1,h2,h3,h4⟩
  .exact .inl h1
  .have h5:∀(cs:Array v_)(aaO:Nat×Nat),Obj.cells cur 91 (0,0)≠c_ cs 51 aaO/\Obj.cells cur 91 (0,0)≠c_ cs 9 aaO:=λcs aaO=>⟨(λe=>by simp at e),λe=>by simp at e⟩
   exact .inr ⟨g,cp,cur,h1,h2,acq p1 p2 hk h3 h5,h4⟩
end
def ac4 {W:w_}{K b:Nat}{l:List (aZ×Nat)}{o:gi}{ps0:List aE}(hPx:VK W K b l)(hJ:Joins l o)(hcr:abz ps0 (l.map (·.1.pure)))(hc:pa ps0 o.c=true):∃(S1 S2:aZ)(o1 o2:Nat)(x y:aM)(abn abC:Nat),l.find? (λp=>p.1.q.id==o.c.src)=o_ (S1,o1)/\S1.lq.find? (λp=>p.1.id==o.c.ga)=o_ (x,o.s)/\l.find? (λp=>p.1.q.id==o.c.dst)=o_ (S2,o2)/\S2.lq.find? (λp=>p.1.id==o.c.hI)=o_ (y,o.t)/\cJ W abn o1 S1/\K<abn/\cJ W abC o2 S2/\K<abC/\PBx W abn o.s x/\PBx W abC o.t y/\LkF W o x y abn abC/\¬o.c.src=o.c.dst/\∀g∈o.s::o.t::(blk x.ak++blk y.ak),K<g:=by
 obtain⟨S1,o1,x,hf1,hq1⟩:=acQ hJ.1;obtain⟨S2,o2,y,hf2,pv⟩:=acQ hJ.2;have m1:(S1,o1)∈l:=RG hf1;have m2:(S2,o2)∈l:=RG hf2;have i1:S1.q.id=o.c.src:=by have:=PS hf1;simpa using this
 have i2:S2.q.id=o.c.dst:=by have:=PS hf2;simpa using this
 obtain⟨s,t,hs,ht,-,hsd,px,abw⟩:=hcr.ends hc;rw[aci hf1 hq1]at hs;rw[aci hf2 pv]at ht;cases hs;cases ht;obtain⟨abn,hk1,ha1⟩:=hPx.part _ m1;obtain⟨abC,hk2,ha2⟩:=hPx.part _ m2;have q1:(x,o.s)∈S1.lq:=RG hq1;have q2:(y,o.t)∈S2.lq:=RG pv;have hne:o1≠o2:=λe=>by
  have h5:=map_inj (f:=λp:aZ×Nat=>p.2) hPx.Mc m1 m2 e;cases h5;exact hsd (i1.symm.trans i2)
 have f12:∀g∈S1.all o1,g∉S2.all o2:=hPx.far m1 m2 hne;have b1:o.s∈S1.all o1:=abb (Lr.2 ⟨_,q1,rfl⟩);have b2:o.t∈S2.all o2:=abb (Lr.2 ⟨_,q2,rfl⟩);have ads:∀{S:aZ}{abA bb g:Nat}{z:aM},cJ W bb abA S->(z,g)∈S.lq->∀c∈blk z.ak,c≠g:=λ{S abA bb g z} ha hz c hc e=>by
  have hn:(abA::(S.boxes++S.kids)).Nodup:=ha.nodup;have h2:=Kf.1 (Lp.1 hn).2;have hg:g∈S.boxes:=by
   unfold aZ.boxes;simp only[Kg,Kt];exact .inr (.inr (.inr (.inr (.inr (.inr (Lr.2 ⟨_,hz,rfl⟩))))))
  have hkd:c∈S.kids:=by
   unfold aZ.kids;simp only[Kg];exact .inr (.inr (Lq.2 ⟨_,hz,fZ.1 hc⟩))
  exact h2.2.2 g hg c hkd e.symm
 have p1:PBx W abn o.s x:=⟨ha1.ai.box _ q1,ha1.eR _ q1⟩
 have p2:PBx W abC o.t y:=⟨ha2.ai.box _ q2,ha2.eR _ q2⟩
 refine⟨S1,S2,o1,o2,x,y,abn,abC,hf1,hq1,hf2,pv,ha1,hk1,ha2,hk2,p1,p2,⟨λe=>f12 _ b1 (e▸b2),λg hg=>⟨λhg'=>f12 g (abR q1 hg) (abR q2 hg'),ads ha1 q1 g hg,λe=>f12 g (abR q1 hg) (e▸b2)⟩,λg hg=>⟨λe=>f12 _ b1 (e▸abR q2 hg),ads ha2 q2 g hg⟩,⟨?_,?_⟩,px,abw,(ha1.xy _ b1).2,(ha2.xy _ b2).2⟩,hsd,λg hg=>?_⟩
 .have:=ha1.xy _ b1;omega
 .have:=ha2.xy _ b2;omega
 .simp only[Kt,Kg]at hg
  rcases hg with rfl|rfl|hg|hg
  .have:=(ha1.xy _ b1).1;omega
  .have:=(ha2.xy _ b2).1;omega
  .have:=(ha1.xy _ (abR q1 hg)).1;omega
  .have:=(ha2.xy _ (abR q2 hg)).1;omega
def KCEnd (w:w_)(K b:Nat)(bE:Int)(tab:Array v_)(a:Option d_)(cap B:Nat)(ls:List gi)(l:List (aZ×Nat))(ps0:List aE)(src:Int)(e:Ending)(W:w_):Prop:=e=r_ (u_ #[])/\∃l',Y7 w K b bE tab a cap B ls l' W/\l'.map (·.1.pure)=abI src (l.map (·.1.pure)) (ls.map (·.c))/\abz ps0 (l'.map (·.1.pure))/\(l'.map λp=>(p.1.q.id,p.2))=l.map λp=>(p.1.q.id,p.2)
def ac2 (K b:Nat)(bE:Int)(tab:Array v_)(a:Option d_)(cap B:Nat)(ls:List gi)(l:List (aZ×Nat))(ps0:List aE)(src:Int)(w:w_)(h:Y7 w K b bE tab a cap B ls l w)(hch:∀o∈ls,pa ps0 o.c=true)(hcr:abz ps0 (l.map (·.1.pure)))(hl:ls.length<=10):
  k_ J3 19 #[p_ (o_ ⟨K,0,n_⟩),i_ j_ src] w λe W=>KCEnd w K b bE tab a cap B ls l ps0 src e W:=by
 have c64:w.cell? ⟨K,64,n_⟩=o_ (s_ a ls.length cap):=h.TN.cell (i:=64) zw;have HH:=aA (And.intro h (And.intro hch hcr));clear h hch hcr
 go_enter func19,ntmps19
 go_wp2_with fail;clear c64
 go_loopw[11] (λi wr=>∃n:Nat,n<=ls.length/\i=i_ j_ n/\∃l1:List (aZ×Nat),da (Y7 w K b bE tab a cap B ls l1 wr/\l1.map (·.1.pure)=abI src (l.map (·.1.pure)) ((ls.map (·.c)).take n)/\abz ps0 (l1.map (·.1.pure))/\(l1.map λp=>(p.1.q.id,p.2))=l.map λp=>(p.1.q.id,p.2))) (λi _=>ls.length-(Go.RowKit.intOf i).toNat)
 case atStart=>exact⟨0,Ky _,rfl,l,HH.I.1,rfl,HH.I.2.2,rfl⟩
 case round=>
  obtain⟨n,hn,rfl,l1,S⟩:=hrel;by_cases hlt:n<ls.length
  .have i0:(0:Int)<=(n:Int):=zw
   have i1:(n:Int)<(ls.length:Int):=zw
   obtain⟨o,ho⟩:∃o,ls[n]? =o_ o:=⟨_,Kz hlt⟩
   obtain⟨gl,hgl,k0,k1,k2,k3,k4,k5⟩:=Vq (nP S.I.1.own) ho;have HO:=aA ho;have HSN:da (abI src (l.map (·.1.pure)) ((ls.map (·.c)).take (n+1))=if o.c.src=src then abM (l1.map (·.1.pure)) o.c else l1.map (·.1.pure)):=by
    show _=_
    rw[ace (c:=o.c) (by rw[Kk,ho];rfl),<-S.I.2.1]
   subst hgl;clear ho;have hz:B_ wr.heap.size wr (wr.alloc (c_ (fz o) 91)):=(Kp _ _).alloc (Ki _) _;have S1:da (Y7 w K b bE tab (o_ ⟨gl,0,n_⟩) cap B ls l1 (wr.alloc (c_ (fz o) 91))):=S.I.1.below hz;have HX:da ((wr.alloc (c_ (fz o) 91)).heap[wr.heap.size]? =o_ (c_ (fz o) 91)):=Kj _ _;have HP:=aA S.I.2;clear S hz;go_upto_region 3 with fail;clear k0 k1 k2 k3 k4 k5;generalize wr.alloc (c_ (fz o) 91)=W1 at*;generalize wr.heap.size=X at*;have hxx:=HX.I;have d0:W1.cell? ⟨X,0,n_⟩=o_ (i_ j_ o.c.src):=Zdh
   have d1:W1.cell? ⟨X,1,n_⟩=o_ (i_ j_ o.c.ga):=Zdh
   have d2:W1.cell? ⟨X,2,n_⟩=o_ (i_ j_ o.c.dst):=Zdh
   have d3:W1.cell? ⟨X,3,n_⟩=o_ (i_ j_ o.c.hI):=Zdh
   have d4:W1.cell? ⟨X,4,n_⟩=o_ (p_ (o_ ⟨o.s,0,n_⟩)):=Zdh
   have d5:W1.cell? ⟨X,5,n_⟩=o_ (p_ (o_ ⟨o.t,0,n_⟩)):=Zdh
   clear hxx;by_cases hne:¬o.c.src=src
   .have Jf:da (abI src (l.map (·.1.pure)) ((ls.map (·.c)).take (n+1))=l1.map (·.1.pure)):=by show _=_;rw[HSN.I,if_neg hne]
    clear HSN;go_wp2;go_roundw
    case rel=>exact⟨n+1,zw,by go_num,l1,S1.I,Jf.I.symm,HP.I.2⟩
    case measure=>exact ZbL
   .have hsrc:o.c.src=src:=Decidable.not_not.1 hne
    have Jf:da (abI src (l.map (·.1.pure)) ((ls.map (·.c)).take (n+1))=abM (l1.map (·.1.pure)) o.c):=by show _=_;rw[HSN.I,if_pos hsrc]
    have hb:(o.c.src==src)=true:=by rw[hsrc];simp
    have hom:o∈ls:=KA HO.I;obtain⟨aaD,abH,o1,o2,x,y,abn,abC,hf1,hq1,hf2,pv,ha1,hk1,ha2,hk2,p1,p2,hf,hsd,hK⟩:=ac4 S1.I.prt (S1.I.adb o hom) HP.I.2.1 (HH.I.2.1 o hom);have HF:da (l1.find? (λp=>p.1.q.id==o.c.src)=o_ (aaD,o1)/\aaD.lq.find? (λp=>p.1.id==o.c.ga)=o_ (x,o.s)/\l1.find? (λp=>p.1.q.id==o.c.dst)=o_ (abH,o2)/\abH.lq.find? (λp=>p.1.id==o.c.hI)=o_ (y,o.t)/\cJ W1 abn o1 aaD/\K<abn/\cJ W1 abC o2 abH/\K<abC/\PBx W1 abn o.s x/\PBx W1 abC o.t y/\¬o.c.src=o.c.dst/\∀g∈o.s::o.t::(blk x.ak++blk y.ak),K<g):=⟨hf1,hq1,hf2,pv,ha1,hk1,ha2,hk2,p1,p2,hsd,hK⟩
    have Mb:=acN o x y abn abC W1 p1 p2 hf;have HOM:=aA hom;have hde:decide (o.c.src=src)=true:=decide_eq_true hsrc;clear HSN hne hf1 hq1 hf2 pv ha1 hk1 ha2 hk2 p1 p2 hf hsd hK hom hsrc;go_wp2_with fail;clear d0 d1 d2 d3 d4 d5 hb hde;refine Mb.mono ?_;clear Mb;rintro e W2 hC;have he:e=r_ (u_ #[]):=hC.1;obtain⟨l2,hl2⟩:=adj S1.I.prt HF.I.2.2.2.2.2.2.2.2.2.2.1 HF.I.1 HF.I.2.1 HF.I.2.2.1 HF.I.2.2.2.1 HF.I.2.2.2.2.1 HF.I.2.2.2.2.2.1 HF.I.2.2.2.2.2.2.1 HF.I.2.2.2.2.2.2.2.1 hC;have S2:da (Y7 w K b bE tab (o_ ⟨gl,0,n_⟩) cap B ls l2 W2/\l2.map (·.1.pure)=abM (l1.map (·.1.pure)) o.c/\(l2.map λp=>(p.1.q.id,p.2))=l1.map λp=>(p.1.q.id,p.2)):=⟨S1.I.carried hl2 HF.I.2.2.2.2.2.2.2.2.1 HF.I.2.2.2.2.2.2.2.2.2.1 hC HF.I.2.2.2.2.2.2.2.2.2.2.2,hl2.pure,hl2.ids⟩
    have HC2:da (abz ps0 (l2.map (·.1.pure))):=by show abz _ _;rw[S2.I.2.1];exact HP.I.2.1.carry (HH.I.2.1 o HOM.I)
    subst he;clear hC hl2 S1 HF HX;go_wp2;go_roundw
    case rel=>exact⟨n+1,zw,by go_num,l2,S2.I.1,S2.I.2.1.trans Jf.I.symm,HC2.I,S2.I.2.2.trans HP.I.2.2⟩
    case measure=>exact ZbL
  .have i1:¬(n:Int)<(ls.length:Int):=zw
   have ek:n=ls.length:=zw
   subst ek;go_wp2
   go_end0
   refine⟨rfl,l1,S.I.1,?_,S.I.2.2⟩;have h5:=S.I.2.1;rw[KF zy]at h5;exact h5
def ab5 (k:eA)(id:Int)(g bj:Nat)(w:w_)(hid:(Lit.int j_ id).wf=true)(hs:k.pure.Small)(ho:gp w bj k)(hg:k.vb=o_ ⟨g,0,n_⟩/\g<w.heap.size):
  k_ J3 7 #[a_ k.row,i_ j_ id] w λe w'=>arT w (abJ k.pure id) e w':=by
 have S:=aA (KZK.first ho.at);have hz:B_ w.heap.size w ((w.alloc (c_ k.row 30)).alloc (c_ T9 30)):=((Kp _ _).alloc (Ki _) _).alloc zy _;have Mb:=Pq k g ((w.alloc (c_ k.row 30)).alloc (c_ T9 30)) hs (ho.at.below hz) (λp hp=>(U7 hs ho p hp).below hz) ⟨hg.1,Zdm⟩;have HI:=aA hid;clear hid hs ho hg hz
 go_enter func7,ntmps7
 go_upto_region 1 with fail;generalize(w.alloc (c_ k.row 30)).alloc (c_ T9 30)=W0 at*;obtain⟨m0,m1,m2,m3,m4⟩:=S.I.ks.box.cells;go_wp2_with fail;clear m0 m1 m2 m3 m4;refine Mb.mono ?_;clear Mb;rintro e W1 ⟨hb1,⟨hno,rfl⟩|⟨fm,K,rfl,hK⟩⟩
 .have HN:da (abJ k.pure id=n_):=acv hno
  replace S:=aA (S.I.below hb1);clear hno hb1;go_wp2_with(refine stK 4 17 T9 S.I.I ?_);exact Za9
 obtain⟨b,tab,l,ls,a,cap,B,ht,hJ⟩:=adR fm hK;have HT:=aA ht;have HY:=aA (And.intro fm hJ);have HW0:=aA (J2.1 S.I.I).1;have HP:da (hP (λp:aE=>p.id) id k.pure.parts=(l.find? (λp=>p.1.q.id==id)).map (·.1.pure)):=by
  show _=_
  rw[<-ht.pure];unfold hP;rw[aeu]
  congr 2
 replace S:=aA (S.I.below hb1);have c63:W1.cell? ⟨K,63,n_⟩=o_ (.map (o_ b)):=ht.TN.cell (i:=63) zw;have hlk:=ht.prt.map.look underlying66 (TQ W1) HI.I true;rw[Tf]at hlk;simp only[if_true]at hlk;clear fm hK hJ ht hb1 HI;cases hf:l.find? (λp=>p.1.q.id==id)with
 |none=>
  have HN:da (abJ k.pure id=n_):=acy (by rw[HP.I,hf];rfl);rw[hf]at hlk;simp only[Option.map_none,Option.isSome_none,qz]at hlk;clear hf HP;go_wp2_with(refine stK 4 29 T9 S.I.I ?_);exact Za9
 |some q=>
  have HN:da (abJ k.pure id=o_ {k.pure with parts:=abI id k.pure.parts k.pure.eC}):=acw HY.I.1 (p:=q.1.pure) (by rw[HP.I,hf];rfl);rw[hf]at hlk;simp only[Option.map_some,Option.isSome_some,qz,dt]at hlk;have HCK:da (Y7 W1 K b k.pure.bE tab a cap B ls l W1):=⟨HT.I.prt,HT.I.TN,HT.I.own,HY.I.2,HT.I.fits,Kp _ _⟩
  have Mb:=ac2 K b k.pure.bE tab a cap B ls l k.pure.parts id W1 HCK.I (λo ho=>ab1 HY.I.1 o.c (by rw[<-HT.I.eC];exact Lr.2 ⟨o,ho,rfl⟩)) (by rw[HT.I.pure];exact abz.refl (ab2 HY.I.1)) HT.I.short.2;clear hf HP;go_wp2_with fail;clear c63 hlk;refine Mb.mono ?_;clear Mb;rintro e W2 ⟨rfl,l2,hC,hp2,hcr,hid2⟩;have hlo:=HT.I.lo;have hw0:=HW0.I;have mO:da (B_ w.heap.size w W2/\W2.heap[w.heap.size+1]? =o_ (c_ T9 30)):=⟨S.I.ks.low.trans (hC.low.mono zw),(hC.low.block _ zw).trans S.I.I⟩
  have hlen:l2.length=l.length:=by have:=congrArg List.length hid2;simpa using this
  have xD:da (abE {k.pure with parts:=abI id k.pure.parts k.pure.eC} W0.heap.size K b tab l2 ls a cap B W2):=by
   refine⟨HT.I.aaq,HT.I.fn,hC.prt,?_,HT.I.eC,hC.TN,hC.own,hC.fits,⟨by rw[hlen];exact HT.I.short.1,HT.I.short.2⟩,HT.I.lo,λp hp=>?_⟩
   .rw [hp2,HT.I.pure,HT.I.eC]
   .have hm:(p.1.q.id,p.2)∈l.map λp=>(p.1.q.id,p.2):=by rw[<-hid2];exact Lr.2 ⟨p,hp,rfl⟩
    obtain⟨p0,hp0,e0⟩:=Lr.1 hm;have h5:=HT.I.wf p0 hp0;rw[show p.1.q.id=p0.1.q.id from(congrArg Prod.fst e0).symm];exact h5
  have Mb:=ZX _ W0.heap.size K b tab l2 ls a cap B W2 xD.I;clear hC hp2 hcr hid2 hlen hlo hw0;go_wp2_with fail;refine Mb.mono ?_;clear Mb;rintro e W3 ⟨k3,rfl,Bn,wu,hb3⟩;have EU:da (B_ w.heap.size w W3/\W3.heap[w.heap.size+1]? =o_ (c_ T9 30)/\gp W3 W0.heap.size k3/\k3.pure={k.pure with parts:=abI id k.pure.parts k.pure.eC}):=⟨mO.I.1.trans (hb3.mono mO.I.1.size),(hb3.block _ (J2.1 mO.I.2).1).trans mO.I.2,Bn,wu⟩
  clear Bn wu hb3;go_wp2_with(refine stK 4 34 k3.row EU.I.2.1 ?_);refine aaf results7 (b_ true) EU.I.2.1 ?_;rw[HN.I];have hw0:=HW0.I;exact⟨k3,rfl,(EU.I.2.2.1.lower zw).same λb hb=>KH _ _ _ _ (by have:=(EU.I.2.2.1.lt hb).1;omega),EU.I.2.2.2,q_ EU.I.1 zw _⟩
end
end Go.Proofs.YtckenjkcmajicaaGreat
