/- What the proof leans on, part 12. -/
import Derived.Test.YtckenjkcmajicaaGreatOwnG5
import Derived.Test.YtckenjkcmajicaaGreatOwnG10
import Derived.LaidEql
set_option linter.all false
set_option maxRecDepth 100000
set_option maxHeartbeats 8000000
open Go.Proofs.Tryz
open Go renaming World->w_,Value->v_,Calls->k_,Addr->d_,TypeId->T_
open Go.Ending renaming returned->r_
open Go.IntKind renaming i64->j_
open Go.Obj renaming cells->c_
open Go.RowKit renaming Below->B_,Hid->da
open Go.Value renaming int->i_,slice->s_,bool->b_,string->t_,agg->a_,pointer->p_,tuple->u_
open Option renaming some->o_,none->n_
open Bool renaming true_and->aeN
open Go.Deep renaming blk_setCell_other->ac5
open Go.Proofs.Tryz renaming prog->J3
open List renaming find?_map->aeu,find?_some->PS,flatMap_cons->aez,getElem_cons_succ->K1,getElem_cons_zero->K0,getElem_toArray->KZ,length_singleton->adg,mem_of_find?_eq_some->RG,pairwise_append->aeB
open Option renaming isSome_none->aeH,isSome_some->Qk,map_map->aeF,map_some->J9

namespace Go.Proofs.YtckenjkcmajicaaGreat
section
open Go.RowKit Go.Maps
def zf (Me:Int)(bj b:Nat)(l:List (aM×Nat))(w:w_)(h:Shelf cW (λx:aM=>x.id) 51 w bj b l)(hl:l.length<=1048576)(hwf:∀p∈(RW (λx:aM=>x.id) l),(Lit.int j_ p.1).wf=true):
  k_ J3 51 #[a_ #[i_ j_ Me,.map (o_ b)]] w λe w'=>mY bX 51 w (l.map (·.1)) e w':=by
 obtain⟨i0,hi,e0⟩:=Kw.1 na;simp only[Kx]at e0;have HI:da (Tryz.prog.info? 51=o_ i0/\i0.zero=o_ _/\i0.size=5/\i0.bytes=48):=⟨hi,e0⟩
 have H:da (Shelf cW (λx:aM=>x.id) 51 (w.alloc (c_ #[i_ j_ Me,.map (o_ b)] 119)) bj b l/\(∀p∈(RW (λx:aM=>x.id) l),(Lit.int j_ p.1).wf=true)/\B_ w.heap.size w (w.alloc (c_ #[i_ j_ Me,.map (o_ b)] 119))):=⟨h.below ((Kp _ _).alloc (Ki _) _),hwf,(Kp _ _).alloc (Ki _) _⟩
 have HK:da ((RW (λx:aM=>x.id) l).length=l.length):=bZ l;clear h hwf hi e0
 go_enter func51,ntmps51
 go_wp2_with fail;generalize w.alloc (c_ #[i_ j_ Me,.map (o_ b)] 119)=W at*;refine(Bx Me b (RW (λx:aM=>x.id) l) W H.I.1.map ZcS H.I.2.1).mono ?_;rintro e w2 ⟨a,cap,rfl,hown,hb2⟩;obtain⟨a',cap',hv,hrow⟩:=cr hown;cases hv;have HR:da (Row w2 a ((RW (λx:aM=>x.id) l).map λp=>dt p.2)):=hrow;have HO:da (Shelf cW (λx:aM=>x.id) 51 w2 bj b l/\B_ w.heap.size w w2):=⟨H.I.1.below hb2,H.I.2.2.trans (hb2.mono H.I.2.2.size)⟩
 rw[HK.I];clear hown hrow hb2;go_wp2_with fail
 go_loopw[3,9] (λt i wr=>∃k:Nat,k<=l.length/\i=i_ j_ k/\∃a' cap',t=s_ a' k cap'/\da (wr.ownsRow w2.heap.size 51 5 (s_ a' k cap') k (bX.flat ((l.take k).map (·.1)))/\B_ w2.heap.size w2 wr)) (λ_ i _=>l.length-(intOf i).toNat)
 case atStart=>exact ZbS
 case round=>
  obtain⟨k,hk,rfl,a',cap',rfl,HA⟩:=hrel;by_cases hlt:k<l.length
  .have qE:(0:Int)<=(k:Int):=zw
   have i1:(k:Int)<(l.length:Int):=zw
   obtain⟨p,hp⟩:∃p,l[k]? =o_ p:=⟨_,Kz hlt⟩
   obtain⟨g,ha,hc⟩:=(HR.I.below HA.I.2) k (dt p.2) Zdq;subst ha;unfold dt at hc;have HP:da (l[k]? =o_ p):=hp;obtain⟨s0,s1,s2,s3,s4⟩:=gE ((HO.I.1.below HA.I.2).box p (KA hp));have kT:=HA.I.2.size;clear hp;go_wp2_with(at_builtin;refine KD _ rfl _ _ 44 rfl w2.heap.size 51 i0 _ 5 48 underlying44 HI.I.1 HI.I.2.1 HI.I.2.2.1 HI.I.2.2.2 rfl (by decide) (s_ a' k cap') k (bX.flat ((l.take k).map (·.1))) rfl (HA.I.1.alloc _) ⟨wr.heap.size,0,n_⟩ 1 1 (bX.vals p.1) (by rfl) rfl (KE (cs:=#[i_ j_ p.1.id,b_ p.1.I,b_ p.1.Mf,i_ j_ p.1.max,s_ p.1.ak p.1.Ma.length p.1.aq]) (t:=51) (fr:=(0,0)) (Kj wr _)) (by simp[bX,qT,Value.oneCell']) Zb2 zw ZbI ?_;intro v' w5 hown' hgrow hnil jV;obtain⟨a5,im,rfl,-⟩:=cr hown';have HN:da (w5.ownsRow w2.heap.size 51 5 (s_ a5 (k+1) im) (k+1) (bX.flat ((l.take (k+1)).map (·.1)))/\B_ w2.heap.size w2 w5):=⟨by rw[cj HP.I,Kl,bX.dc];exact hown',(HA.I.2.alloc kT _).grown hgrow ZbI (λq hq=>(HA.I.1.lt q hq).1)⟩;clear hown' hgrow hnil jV);exact mi
  .exact jp
def wC (Me:Int)(bj b:Nat)(l:List (az×Nat))(w:w_)(h:Shelf cI (λx:az=>x.id) 134 w bj b l)(hl:l.length<=1048576)(hwf:∀p∈(RW (λx:az=>x.id) l),(Lit.int j_ p.1).wf=true):
  k_ J3 49 #[a_ #[i_ j_ Me,.map (o_ b)]] w λe w'=>mY bG 134 w (l.map (·.1)) e w':=by
 obtain⟨i0,hi,e0⟩:=Kw.1 sj;simp only[Kx]at e0;have HI:da (Tryz.prog.info? 134=o_ i0/\i0.zero=o_ _/\i0.size=3/\i0.bytes=32):=⟨hi,e0⟩
 have H:da (Shelf cI (λx:az=>x.id) 134 (w.alloc (c_ #[i_ j_ Me,.map (o_ b)] 113)) bj b l/\(∀p∈(RW (λx:az=>x.id) l),(Lit.int j_ p.1).wf=true)/\B_ w.heap.size w (w.alloc (c_ #[i_ j_ Me,.map (o_ b)] 113))):=⟨h.below ((Kp _ _).alloc (Ki _) _),hwf,(Kp _ _).alloc (Ki _) _⟩
 have HK:da ((RW (λx:az=>x.id) l).length=l.length):=bZ l;clear h hwf hi e0
 go_enter func49,ntmps49
 go_wp2_with fail;generalize w.alloc (c_ #[i_ j_ Me,.map (o_ b)] 113)=W at*;refine(yB Me b (RW (λx:az=>x.id) l) W H.I.1.map ZcS H.I.2.1).mono ?_;rintro e w2 ⟨a,cap,rfl,hown,hb2⟩;obtain⟨a',cap',hv,hrow⟩:=cr hown;cases hv;have HR:da (Row w2 a ((RW (λx:az=>x.id) l).map λp=>dt p.2)):=hrow;have HO:da (Shelf cI (λx:az=>x.id) 134 w2 bj b l/\B_ w.heap.size w w2):=⟨H.I.1.below hb2,H.I.2.2.trans (hb2.mono H.I.2.2.size)⟩
 rw[HK.I];clear hown hrow hb2;go_wp2_with fail
 go_loopw[3,9] (λt i wr=>∃k:Nat,k<=l.length/\i=i_ j_ k/\∃a' cap',t=s_ a' k cap'/\da (wr.ownsRow w2.heap.size 134 3 (s_ a' k cap') k (bG.flat ((l.take k).map (·.1)))/\B_ w2.heap.size w2 wr)) (λ_ i _=>l.length-(intOf i).toNat)
 case atStart=>exact ZbS
 case round=>
  obtain⟨k,hk,rfl,a',cap',rfl,HA⟩:=hrel;by_cases hlt:k<l.length
  .have qE:(0:Int)<=(k:Int):=zw
   have i1:(k:Int)<(l.length:Int):=zw
   obtain⟨p,hp⟩:∃p,l[k]? =o_ p:=⟨_,Kz hlt⟩
   obtain⟨g,ha,hc⟩:=(HR.I.below HA.I.2) k (dt p.2) Zdq;subst ha;unfold dt at hc;have HP:da (l[k]? =o_ p):=hp;obtain⟨s0,s1,s2⟩:=kJ ((HO.I.1.below HA.I.2).box p (KA hp));have kT:=HA.I.2.size;clear hp;go_wp2_with(at_builtin;refine KD _ rfl _ _ 42 rfl w2.heap.size 134 i0 _ 3 32 underlying42 HI.I.1 HI.I.2.1 HI.I.2.2.1 HI.I.2.2.2 rfl (by decide) (s_ a' k cap') k (bG.flat ((l.take k).map (·.1))) rfl (HA.I.1.alloc _) ⟨wr.heap.size,0,n_⟩ 1 1 (bG.vals p.1) (by rfl) rfl (KE (cs:=#[i_ j_ p.1.id,b_ p.1.shown,t_ p.1.text]) (t:=134) (fr:=(0,0)) (Kj wr _)) (by simp[bG,sn,Value.oneCell']) Zb2 zw ZbI ?_;intro v' w5 hown' hgrow hnil jV;obtain⟨a5,im,rfl,-⟩:=cr hown';have HN:da (w5.ownsRow w2.heap.size 134 3 (s_ a5 (k+1) im) (k+1) (bG.flat ((l.take (k+1)).map (·.1)))/\B_ w2.heap.size w2 w5):=⟨by rw[cj HP.I,Kl,bG.dc];exact hown',(HA.I.2.alloc kT _).grown hgrow ZbI (λq hq=>(HA.I.1.lt q hq).1)⟩;clear hown' hgrow hnil jV);exact mi
  .exact jp
end
section
open Go.RowKit Go.Maps
attribute [local go_sem ↓] Go.wp_at_zero Go.wp_at_succ
def gg {W:w_}{X:Nat}{x:aM}(h:W.heap[X]? =o_ (c_ (cW x) 51)):W.cell? ⟨X,1,n_⟩=o_ (b_ x.I)/\W.cell? ⟨X,2,n_⟩=o_ (b_ x.Mf):=by
 simp[World.cell?,h,cW]
def TY (X Y:Nat)(x y:aM)(w:w_)(hx:w.heap[X]? =o_ (c_ (cW x) 51))(hy:w.heap[Y]? =o_ (c_ (cW y) 51)):
  k_ J3 108 #[p_ (o_ ⟨X,0,n_⟩),p_ (o_ ⟨Y,0,n_⟩)] w λe w'=>e=r_ (b_ (x.I&& !y.I&&(x.Mf==y.Mf)))/\B_ w.heap.size w w':=by
 have S:da (w.heap[X]? =o_ (c_ (cW x) 51)/\w.heap[Y]? =o_ (c_ (cW y) 51)/\B_ w.heap.size w w):=⟨hx,hy,Kp _ _⟩
 clear hx hy
 go_enter func108,ntmps108
 go_upto_region 1 with fail;refine aT (λW=>W.heap[X]? =o_ (c_ (cW x) 51)/\W.heap[Y]? =o_ (c_ (cW y) 51)/\B_ w.heap.size w W) ZbG ⟨S.I.1,S.I.2.1,S.I.2.2.drew⟩ ?_;cases h1:x.I
 .skip
  iterate 5 (refine yl (v:=?_) ?_ ?_;rotate_left;(intro w0 hS0;obtain⟨a1,a2⟩:=gg hS0.1;obtain⟨b1,b2⟩:=gg hS0.2.1;go_simp;try with_reducible rfl);simp only[pt,sb,s0,s1])
  iterate 5 (refine nl ?_;simp only[pt,sb,s0,s1])
  iterate 2 (refine yl (v:=?_) ?_ ?_;rotate_left;(intro w0 hS0;obtain⟨a1,a2⟩:=gg hS0.1;obtain⟨b1,b2⟩:=gg hS0.2.1;go_simp;try with_reducible rfl);simp only[pt,sb,s0,s1])
  iterate 9 (refine nl ?_;simp only[pt,sb,s0,s1])
  iterate 2 (refine yl (v:=?_) ?_ ?_;rotate_left;(intro w0 hS0;obtain⟨a1,a2⟩:=gg hS0.1;obtain⟨b1,b2⟩:=gg hS0.2.1;go_simp;try with_reducible rfl);simp only[pt,sb,s0,s1])
  refine bk ZbG (λA3 NO=>?_) _;go_wp2;go_ret;exact⟨al Zea,NO.2.2⟩
 cases h2:y.I
 case true=>
  iterate 12 (refine yl (v:=?_) ?_ ?_;rotate_left;(intro w0 hS0;obtain⟨a1,a2⟩:=gg hS0.1;obtain⟨b1,b2⟩:=gg hS0.2.1;go_simp;try with_reducible rfl);simp only[pt,sb,s0,s1])
  iterate 9 (refine nl ?_;simp only[pt,sb,s0,s1])
  iterate 2 (refine yl (v:=?_) ?_ ?_;rotate_left;(intro w0 hS0;obtain⟨a1,a2⟩:=gg hS0.1;obtain⟨b1,b2⟩:=gg hS0.2.1;go_simp;try with_reducible rfl);simp only[pt,sb,s0,s1])
  exact Za0
 iterate 23 (refine yl (v:=?_) ?_ ?_;rotate_left;(intro w0 hS0;obtain⟨a1,a2⟩:=gg hS0.1;obtain⟨b1,b2⟩:=gg hS0.2.1;go_simp;try with_reducible rfl);simp only[pt,sb,s0,s1])
 exact Za0
structure KMap (w:w_)(K b:Nat)(l:List (aZ×Nat)):Prop where
 cell:w.cell? ⟨K,63,n_⟩=o_ (.map (o_ b))
 map:cF w b (l.map λp=>(p.1.q.id,p.2))
 part:∀p∈l,∃bj,cJ w bj p.2 p.1
def kt (l:List (aZ×Nat))(part id:Int):Option Nat:=match l.find? (λp=>p.1.q.id==part)with
 |none=>n_
 |some p=>cz (RW (λx:aM=>x.id) p.1.lq) id
def Tf (l:List (aZ×Nat))(k:Int):cz (l.map λp=>(p.1.q.id,p.2)) k=(l.find? (λp=>p.1.q.id==k)).map (·.2):=by
 unfold cz;rw[aeu,aeF];rfl
def TQ (w:w_):(zeroValue 59).run J3 w=.ok (p_ n_) w:=ZbG
def TJ (w:w_):(zeroValue 89).run J3 w=.ok (p_ n_) w:=ZbG
def TP (K b:Nat)(l:List (aZ×Nat))(part id:Int)(w:w_)(h:KMap w K b l)(hp:(Lit.int j_ part).wf=true)(hi:(Lit.int j_ id).wf=true):
  k_ J3 107 #[p_ (o_ ⟨K,0,n_⟩),i_ j_ part,i_ j_ id] w λe w'=>e=r_ (u_ #[qz (kt l part id),b_ (kt l part id).isSome])/\B_ w.heap.size w w':=by
 have c0:=h.cell;have hlk:=h.map.look underlying66 (TQ w) hp true;rw[Tf]at hlk;simp only[if_true]at hlk;cases hf:l.find? (λp=>p.1.q.id==part)with
 |none=>
  have HP:da (kt l part id=n_):=ZfN
  rw[hf]at hlk;simp only[Option.map_none,aeH,qz]at hlk;clear h hp hi hf
  exact Zbf
 |some p=>
  have HP:da (kt l part id=cz (RW (λx:aM=>x.id) p.1.lq) id):=ZfN
  rw[hf]at hlk;simp only[J9,Qk,qz,dt]at hlk;obtain⟨bj,ho⟩:=h.part p (RG hf);have c1:w.cell? ⟨p.2,13,n_⟩=o_ (.map (o_ p.1.q.bq)):=ho.opn.cell 13;have hlk2:=ho.ai.map.look underlying117 (TJ w) hi true;simp only[if_true]at hlk2;generalize cz (RW (λx:aM=>x.id) p.1.lq) id=r at*;clear h hp hi hf ho
  exact Zbf
def Shelf.frm {α:Type}{vs:α->Array v_}{num:α->Int}{T:T_}{w w':w_}{bj b:Nat}{l:List (α×Nat)}(h:Shelf vs num T w bj b l)(hs:∀g,bj<=g->g<w.heap.size->w'.heap[g]? =w.heap[g]?):Shelf vs num T w' bj b l:=h.same λg hg=>hs g (h.low g hg) (h.lt g hg)
def cJ.same {w w':w_}{bj o:Nat}{S:aZ}(h:cJ w bj o S)(hs:∀g,bj<=g->g<w.heap.size->w'.heap[g]? =w.heap[g]?):cJ w' bj o S:=
 ⟨(hs o h.low (J2.1 h.opn).1).trans h.opn,h.L8.frm hs,h.aj.frm hs,h.L9.frm hs,h.ag.frm hs,h.ae.frm hs,h.ai.frm hs,λp hp=>(h.eI p hp).same λg hg=>hs g ((h.eI p hp).lt hg).1 ((h.eI p hp).lt hg).2,λp hp=>(h.eE p hp).same λg hg=>hs g ((h.eE p hp).lt hg).1 ((h.eE p hp).lt hg).2,λp hp=>(h.eR p hp).same λg hg=>hs g ((h.eR p hp).lt hg).1 ((h.eR p hp).lt hg).2,h.nodup,h.low⟩
def aZ.all (S:aZ)(o:Nat):List Nat:=o::(S.boxes++S.kids)
def cJ.xy {w:w_}{bj o:Nat}{S:aZ}(h:cJ w bj o S):∀g∈S.all o,bj<=g/\g<w.heap.size:=λg hg=>by
 rcases Kt.1 hg with rfl|hg
 .exact ⟨h.low,(J2.1 h.opn).1⟩
 rcases Kg.1 hg with hg|hg
 .unfold aZ.boxes at hg
  simp only[Kg]at hg;rcases hg with hg|hg|hg|hg|hg|hg
  .exact ⟨h.L8.low g hg,h.L8.lt g hg⟩
  .exact ⟨h.aj.low g hg,h.aj.lt g hg⟩
  .exact ⟨h.L9.low g hg,h.L9.lt g hg⟩
  .exact ⟨h.ag.low g hg,h.ag.lt g hg⟩
  .exact ⟨h.ae.low g hg,h.ae.lt g hg⟩
  .exact ⟨h.ai.low g hg,h.ai.lt g hg⟩
 .simp only[aZ.kids,Kg,kids,Lq]at hg
  rcases hg with⟨q,hq,hk⟩|⟨q,hq,hk⟩|⟨q,hq,hk⟩
  .exact (h.eI q hq).lt hk
  .exact (h.eE q hq).lt hk
  .exact (h.eR q hq).lt hk
def abb {S:aZ}{o g:Nat}(hg:g∈S.lq.map (·.2)):g∈S.all o:=by
 unfold aZ.all aZ.boxes;simp only[Kt,Kg];exact .inr (.inl (.inr (.inr (.inr (.inr (.inr (.inr hg)))))))
structure B2 (w0 w:w_)(K b:Nat)(l:List (aZ×Nat))(W:w_):Prop where
 low:B_ w0.heap.size w0 W
 TN:W.heap[K]? =w.heap[K]?
 map:cF W b (l.map λp=>(p.1.q.id,p.2))
 part:∀p∈l,∃bj,b<bj/\K<bj/\cJ W bj p.2 p.1
 nodup:(l.flatMap λp=>p.1.lq.map (·.2)).Nodup
 apart:l.Pairwise λp q=>∀g∈p.1.all p.2,∀g'∈q.1.all q.2,g<g'
def B2.below {w0 w W W2:w_}{K b:Nat}{l:List (aZ×Nat)}(h:B2 w0 w K b l W)(hK:K<W.heap.size)(hb:B_ W.heap.size W W2):B2 w0 w K b l W2:=
 ⟨h.low.trans (hb.mono h.low.size),(hb.block K hK).trans h.TN,h.map.below hb,λp hp=>(h.part p hp).imp λ_ hp=>⟨hp.1,hp.2.1,hp.2.2.same λg _ hg=>hb.block g hg⟩,h.nodup,h.apart⟩
def kf {w w':w_}{b g:Nat}(h:w.mapTurned w' b)(hg:g≠b):w'.heap[g]? =w.heap[g]?:=by
 obtain⟨es,c,es',c',-,rfl⟩:=h;simp[ChangeMaps.setBlock,Ne.symm hg]
def T5 {w w':w_}{b:Nat}(h:w.mapTurned w' b):w'.heap.size=w.heap.size:=by
 obtain⟨es,c,es',c',-,rfl⟩:=h;simp[ChangeMaps.setBlock]
def TG {w0 w w':w_}{b:Nat}(h:w.mapTurned w' b)(hb:w0.heap.size<=b)(hl:B_ w0.heap.size w0 w):B_ w0.heap.size w0 w':=by
 have h2:=λg(hg:g≠b)=>kf (g:=g) h hg
 obtain⟨es,c,es',c',-,rfl⟩:=h;exact⟨hl.os,hl.tape,hl.output,by simpa[ChangeMaps.setBlock]using hl.size,λg hg=>(h2 g zw).trans (hl.block g hg)⟩
def B2.more {w0 w W1 W2:w_}{K b bj o:Nat}{l:List (aZ×Nat)}{S:aZ}(h:B2 w0 w K b l W1)(hb0:w0.heap.size<=b)(hKb:K≠b)(ho:cJ W1 bj o S)(hbase:b<bj)(hKbase:K<bj)(aa5:∀p∈l,∀g∈p.1.all p.2,g<bj)(hlast:∀p∈l,p.1.q.id<S.q.id)
  (hm:cF W2 b (oK (S.q.id,o) (l.map λp=>(p.1.q.id,p.2))))(ht:W1.mapTurned W2 b):B2 w0 w K b (l++[(S,o)]) W2:=by
 refine⟨TG ht hb0 h.low,(kf ht hKb).trans h.TN,?_,λp hp=>?_,?_,?_⟩
 .rw [Uz (λq hq=>by obtain⟨p,hp,rfl⟩:=Lr.1 hq;exact hlast p hp)]at hm
  simpa using hm
 .rcases Kg.1 hp with hp|hp
  .obtain ⟨bs,h1,h3,h2⟩:=h.part p hp
   exact⟨bs,h1,h3,h2.same λg hg _=>kf ht zw⟩
  .rw [KB.1 hp]
   exact⟨bj,hbase,hKbase,ho.same λg hg _=>kf ht zw⟩
 .rw [List.flatMap_append,Kf]
  refine⟨h.nodup,by simpa using(Lp.1 ho.ai.nodup).2,λg hg g' hg' e=>?_⟩;obtain⟨p,hp,hg⟩:=Rt.1 hg;have h1:=aa5 p hp g (abb hg);have h2:=ho.ai.low g' (LB _ (by simpa using hg'));omega
 .refine aeB.2 ⟨h.apart,List.pairwise_singleton _ _,λp hp q hq g hg g' hg'=>?_⟩
  rw[KB.1 hq]at hg';have h1:=aa5 p hp g hg;have h2:=(ho.xy g' hg').1;omega
def kwf_in {z:Int}(h:cv z 1 1000=true):(Lit.int j_ z).wf=true:=by
 have h2:=bz.1 h;exact ZaI
def D2 {α:Type}{num:α->Int}{ok:α->Bool}:∀{l:List α}{last:Int},aw num ok last l=true->(∀x∈l,last<num x)/\l.Pairwise (λx y=>num x<num y)
 |[],_,_=>⟨(λx hx=>Zcl),List.Pairwise.nil⟩
 |x::r,last,h=>by
  simp only[aw,J7,decide_eq_true_eq]at h;obtain⟨h1,h2⟩:=D2 h.2;exact Zas
def Vk (w0 w:w_)(K b:Nat)(ps:List af)(e:Ending)(W:w_):Prop:=B_ w0.heap.size w0 W/\((aw (·.id) bK 0 (ps.map (·.pure))=false/\e=r_ (b_ false))\/(aw (·.id) bK 0 (ps.map (·.pure))=true/\e=r_ (b_ true)/\∃l,l.map (·.1.pure)=ps.map (·.pure)/\B2 w0 w K b l W))
def Tr (w0 w:w_)(K b:Nat)(a:Option d_)(ps:List af)(cap:Nat)(hw:B_ w0.heap.size w0 w)(hb0:w0.heap.size<=b)(hK:K<w.heap.size)(hKb:K≠b)(hc:w.cell? ⟨K,63,n_⟩=o_ (.map (o_ b)))(hm:cF w b [])(hl:ps.length<=1048576)(hk:kp.bU w0 a ps)(hg:∀p∈ps,p.Good w0):
  k_ J3 35 #[p_ (o_ ⟨K,0,n_⟩),s_ a ps.length cap] w λe w'=>Vk w0 w K b ps e w':=by
 have S:da (B2 w0 w K b [] w):=⟨hw,rfl,hm,zy,zy,List.Pairwise.nil⟩
 have HC:=aA (And.intro hc (And.intro hK (And.intro hKb hb0)));have HG:=aA (And.intro hk hg);clear hw hm hc hk hg hK hKb hb0
 go_enter func35,ntmps35
 go_wp2_with fail
 go_loopw[5,12] (λq i wr=>∃(n:Nat)(l:List (aZ×Nat)),n<=ps.length/\i=i_ j_ n/\q=i_ j_ (bW (λx:aE=>x.id) 0 ((ps.map (·.pure)).take n))/\da (B2 w0 w K b l wr/\w.heap.size<=wr.heap.size/\l.map (·.1.pure)=(ps.map (·.pure)).take n/\aw (·.id) bK 0 ((ps.map (·.pure)).take n)=true)) (λ_ i _=>ps.length-(Go.RowKit.intOf i).toNat)
 case atStart=>exact⟨0,[],Ky _,rfl,rfl,S.I,Ki _,rfl,rfl⟩
 case round=>
  clear S;obtain⟨n,l,hn,rfl,rfl,S⟩:=hrel;by_cases hlt:n<ps.length
  .have i0:(0:Int)<=(n:Int):=zw
   have i1:(n:Int)<(ps.length:Int):=zw
   obtain⟨p,hp⟩:∃p,ps[n]? =o_ p:=⟨_,Kz hlt⟩
   have HP:da ((ps.map (·.pure))[n]? =o_ p.pure):=by show(ps.map (·.pure))[n]? =_;rw[Kk,hp];rfl
   have hmem:=KA hp;obtain⟨gs,rfl,⟨c0,c1,c2,c3,c4,c5,c6,c7⟩,-⟩:=ic (HG.I.1.below S.I.1.low) hp;go_upto_region 5 with fail;have hz:B_ wr.heap.size wr (wr.alloc (c_ p.row 46)):=(Kp _ _).alloc (Ki _) _;have HSZ:=aA S.I.2.1;have HL:=aA S.I.2.2;replace S:=aA (S.I.1.below (by have:=HC.I.2.1;have:=HSZ.I;omega) hz);have Uc:da ((wr.alloc (c_ p.row 46)).heap[wr.heap.size]? =o_ (c_ p.row 46)/\w.heap.size<=(wr.alloc (c_ p.row 46)).heap.size):=⟨Kj _ _,by have:=hz.size;have:=HSZ.I;omega⟩
   have Mb:=iO p (wr.alloc (c_ p.row 46)) ((HG.I.2 p hmem).below S.I.low);unfold af.cells at Mb;clear c0 c1 c2 c3 c4 c5 c6 c7 hz HSZ hmem hp;generalize wr.alloc (c_ p.row 46)=W at*;have c0:W.cell? ⟨wr.heap.size,0,n_⟩=o_ (i_ j_ p.id):=ZcB
   have c1:W.cell? ⟨wr.heap.size,1,n_⟩=o_ (i_ j_ p.next):=ZcB
   have c2:W.cell? ⟨wr.heap.size,2,n_⟩=o_ (s_ p.aN p.L8.length p.aW):=ZcB
   have c3:W.cell? ⟨wr.heap.size,3,n_⟩=o_ (s_ p.bc p.aj.length p.bF):=ZcB
   have c4:W.cell? ⟨wr.heap.size,4,n_⟩=o_ (s_ p.ay p.L9.length p.aO):=ZcB
   have c5:W.cell? ⟨wr.heap.size,5,n_⟩=o_ (s_ p.ax p.ag.length p.aP):=ZcB
   have c6:W.cell? ⟨wr.heap.size,6,n_⟩=o_ (s_ p.am p.ae.length p.aG):=ZcB
   have c7:W.cell? ⟨wr.heap.size,7,n_⟩=o_ (s_ p.aK p.ai.length p.aV):=ZcB
   go_wp2_with fail;clear c0 c1 c2 c3 c4 c5 c6 c7;refine Mb.mono ?_;clear Mb;rintro e W1 ⟨hb1,⟨hr,rfl⟩|⟨hr,o,T,rfl,ho,hp⟩⟩
   .have HN:da (aw (·.id) bK 0 (ps.map (·.pure))=false):=bS HP.I λhh=>hr ((ch _).1 hh.2.2)
    have HE:=aA (S.I.low.trans (hb1.mono S.I.low.size));clear hb1 hr;go_wp2;go_ret;exact⟨HE.I,.inl ⟨HN.I,rfl⟩⟩
   have HF:da (∀q∈l,∀g∈q.1.all q.2,g<W.heap.size):=λq hq g hg=>by
    obtain⟨bs,-,-,h2⟩:=S.I.part q hq;exact(h2.xy g hg).2
   have hmb:b<W.heap.size:=S.I.map.lt;replace S:=aA (S.I.below (by have:=HC.I.2.1;have:=Uc.I.2;omega) hb1);have hid:T.q.id=p.id:=congrArg aE.id hp;have d0:W1.cell? ⟨o,0,n_⟩=o_ (i_ j_ p.id):=by have h:=ho.opn.cell 0;rw[h];show o_ (Value.int IntKind.i64 T.q.id)=_;rw[hid]
   have HO:da (cJ W1 W.heap.size o T/\T.pure=p.pure/\b<W.heap.size/\w.heap.size<=W1.heap.size/\aQ p.pure):=⟨ho,hp,hmb,by have:=hb1.size;have:=Uc.I.2;omega,hr⟩
   have HKW:da (K<W.heap.size):=by show K<_;have:=HC.I.2.1;have:=Uc.I.2;omega
   have HID:=aA hid;clear ho hp hmb hb1 hid hr Uc;by_cases hle:p.id<=bW (λx:aE=>x.id) 0 ((ps.map (·.pure)).take n)
   .have HN:da (aw (·.id) bK 0 (ps.map (·.pure))=false):=bS HP.I λhh=>by have h2:=hh.2.1;have h3:bW (λx:aE=>x.id) 0 ((ps.map (·.pure)).take n)<p.id:=h2;omega
    go_wp2;go_ret;exact⟨S.I.low,.inl ⟨HN.I,rfl⟩⟩
   have HI:da (cv p.pure.id 1 1000=true):=by have h1:=HO.I.2.2.2.2.id;rw[bz]at h1;exact eB zw zw
   have HWF:da ((Lit.int j_ p.id).wf=true):=kwf_in HI.I;have HT:da (aw (·.id) bK 0 ((ps.map (·.pure)).take (n+1))=true):=ed HL.I.2 HP.I HI.I (by show _<p.id;omega) ((ch _).2 HO.I.2.2.2.2);have j6:da (∀q∈l,q.1.q.id<p.id):=λq hq=>by
    have h1:=(D2 HT.I).2;rw[cj HP.I,aeB]at h1;exact h1.2.2 q.1.pure (by rw[<-HL.I.1];exact Lr.2 ⟨q,hq,rfl⟩) p.pure zy
   obtain ⟨W2,hrun,hm2,ht2⟩:=(S.I.map.below (Kp _ _).drew).put underlying66 HWF.I o (by
    rw[Tf]
    have:l.find? (λq=>q.1.q.id==p.id)=n_:=List.find?_eq_none.2 λq hq=>by have:=j6.I q hq;simp;omega
    rw[this];rfl) (by have h5:=congrArg List.length HL.I.1;simp at h5⊢;omega)
   have HW:da (cF W2 b (oK (p.id,o) (l.map λp=>(p.1.q.id,p.2)))/\W1.drew.mapTurned W2 b):=⟨hm2,ht2⟩
   have hob:o≠b:=by have h1:=HO.I.1.low;have h2:=HO.I.2.2.1;omega
   have d1:W2.cell? ⟨o,0,n_⟩=o_ (i_ j_ p.id):=(J1 (w:=W1.drew) (a:=⟨o,0,n_⟩) (kf ht2 hob)).trans d0;have HD:=aA d1;clear hm2 ht2 hob d1;have VH:=aA d0;have hleB:decide (p.id<=bW (λx:aE=>x.id) 0 ((ps.map (·.pure)).take n))=false:=decide_eq_false hle;clear hle;go_upto_region 8 with fail;clear d0 hleB;replace S:=aA (S.I.below (by have:=HC.I.2.1;have:=HO.I.2.2.2.1;omega) (Kp _ _).drew);refine Kr (S:=λW=>W.heap[K]? =w.heap[K]? /\W.cell? ⟨o,0,n_⟩=o_ (i_ j_ p.id)) ZbG ⟨S.I.TN,VH.I⟩ (λ_=>?_);have mH:da (W1.drew.heap[K]? =w.heap[K]? /\W1.drew.cell? ⟨o,0,n_⟩=o_ (i_ j_ p.id)):=⟨S.I.TN,VH.I⟩
   have HCK:da (∀W:w_,W.heap[K]? =w.heap[K]? ->W.cell? ⟨K,63,n_⟩=o_ (.map (o_ b))):=λW h=>(J1 (w:=w) (a:=⟨K,63,n_⟩) h).trans HC.I.1
   refine tt 0 mH.I ?_;refine tt 1 mH.I ?_;refine tt 2 mH.I ?_;refine tt 3 mH.I ?_ (hy:=λw0 hS0=>by have e1:=HCK.I w0 hS0.1;go_simp;try with_reducible rfl);refine tt 4 mH.I ?_;refine tt 5 mH.I ?_;refine tt 6 mH.I ?_;refine tt 7 mH.I ?_ (hy:=λw0 hS0=>by have e1:=hS0.2;go_simp;try with_reducible rfl);refine tt 8 mH.I ?_;refine L7 9 (λQ hQ=>?_);have VG:=hrun;unfold dt at VG;clear hrun;go_wp2_with fail;have zz:da (W2.heap[K]? =w.heap[K]? /\W2.cell? ⟨o,0,n_⟩=o_ (i_ j_ p.id)):=⟨(kf HW.I.2 HC.I.2.2.1).trans S.I.TN,HD.I⟩
   refine hQ.out _ _ zz.I (λ_=>?_);clear hQ Q VG;refine K3 ZbG ?_ _;have d0:=HD.I;go_wp2;go_roundw
   case rel=>
    refine⟨n+1,l++[(T,o)],zw,by go_num,by rw[eG HP.I];rfl,?_,?_,?_,HT.I⟩
    .exact S.I.more HC.I.2.2.2 HC.I.2.2.1 (HO.I.1.same λg _ _=>rfl) HO.I.2.2.1 HKW.I HF.I (λq hq=>by rw[HID.I];exact j6.I q hq) (by rw[HID.I];exact HW.I.1) HW.I.2
    .rw [T5 HW.I.2];exact HO.I.2.2.2.1
    .rw [cj HP.I,Kl,HL.I.1];simp[HO.I.2.1]
   case measure=>exact ZbL
  .have i1:¬(n:Int)<(ps.length:Int):=zw
   go_wp2;go_ret;have h:=S.I.2.2;rw[KF ZbI]at h;exact⟨S.I.1.low,.inr ⟨h.2,rfl,l,h.1,S.I.1⟩⟩
structure gi where
 c:eQ
 s:Nat
 t:Nat
abbrev fz (l:gi):Array v_:=#[i_ j_ l.c.src,i_ j_ l.c.ga,i_ j_ l.c.dst,i_ j_ l.c.hI,p_ (o_ ⟨l.s,0,n_⟩),p_ (o_ ⟨l.t,0,n_⟩)]
def VI {a b:Nat}{w:w_}{x y:aM}(hx:w.heap[a]? =o_ (c_ (cW x) 51))(hy:w.heap[b]? =o_ (c_ (cW y) 51)):Sem.run J3 (binOp BinOp.eql 89 (p_ (o_ ⟨a,0,n_⟩)) (p_ (o_ ⟨b,0,n_⟩))) w=.ok (b_ (decide (a=b))) w:=by
 simp only[binOp,go_sem];unfold Op.equal Op.maxDepth;unfold Op.equalIn;simp[go_sem];by_cases h:a=b
 .subst h
  rw[run_sameAddr_same];simp
 .rw [run_sameAddr_other w (a:=⟨a,0,n_⟩) (b:=⟨b,0,n_⟩) zy hx hy]
  simp[h]
def TK (l m:gi)(x y u v:aM)(w:w_)(hx:w.heap[l.s]? =o_ (c_ (cW x) 51))(hy:w.heap[m.s]? =o_ (c_ (cW y) 51))(hu:w.heap[l.t]? =o_ (c_ (cW u) 51))(hv:w.heap[m.t]? =o_ (c_ (cW v) 51)):
  k_ J3 110 #[a_ (fz l),a_ (fz m)] w λe w'=>e=r_ (b_ (decide (l.t=m.t)||decide (l.s=m.s)&&x.Mf))/\B_ w.heap.size w w':=by
 have hb:B_ w.heap.size w ((w.alloc (c_ (fz l) 91)).alloc (c_ (fz m) 91)):=((Kp _ w).alloc (Ki _) _).alloc zy _;have up:∀{g:Nat}{z:aM},w.heap[g]? =o_ (c_ (cW z) 51)->((w.alloc (c_ (fz l) 91)).alloc (c_ (fz m) 91)).heap[g]? =o_ (c_ (cW z) 51):=λh=>(hb.block _ (J2.1 h).1).trans h
 have q2:=(gg (up hx)).2;have e1:=VI (up hu) (up hv);have e2:=VI (up hx) (up hy);have HB:=aA hb;clear hx hy hu hv up hb;cases h1:decide (l.t=m.t)
 .rw [h1]at e1
  cases h2:decide (l.s=m.s)
  .rw [h2]at e2
   go_enter func110,ntmps110
   go_wp2;go_ret;exact⟨rfl,HB.I⟩
  .rw [h2]at e2
   go_enter func110,ntmps110
   go_wp2;go_ret;exact⟨al zy,HB.I⟩
 .rw [h1]at e1
  go_enter func110,ntmps110
  go_wp2;go_ret;exact⟨al zy,HB.I⟩
def tA (l:gi):List v_:=(fz l).toList
def qo:Kind gi:=⟨6,tA,λ_=>[],by decide,λ_=>rfl⟩
def M2 {α:Type}(p:α->Bool):List α->Int
 |[]=> -1
 |x::r=>if p x then 0 else if M2 p r<0 then-1 else M2 p r+1
def Uv {α:Type}(p:α->Bool):∀l:List α,decide (0<=M2 p l)=l.any p
 |[]=>by simp[M2]
 |x::r=>by
  have h:=Uv p r;simp only[M2,List.any_cons];by_cases hp:p x=true
  .simp [hp]
  .rw [<-h]
   by_cases h0:M2 p r<0
   .simp [h0,hp]
   .simp [h0,hp];omega
def Vj {α:Type}{p:α->Bool}:∀{l:List α},(∀x∈l,p x=false)->M2 p l= -1
 |[],_=>rfl
 |x::r,h=>by simp[M2,h x zy,Vj (l:=r) (λy hy=>h y Zdr)]
def Us {α:Type}{p:α->Bool}:∀{l:List α}{k:Nat}{x:α},l[k]? =o_ x->p x=true->(∀y∈l.take k,p y=false)->M2 p l=k
 |[],k,x,h,_,_=>Zd2
 |y::r,0,x,h,hp,_=>by simp at h;subst h;simp[M2,hp]
 |y::r,k+1,x,h,hp,hn=>by
  have h1:=Us (l:=r) (k:=k) (x:=x) ZdK hp (λz hz=>hn z Zen);have h2:=hn y zy;simp[M2,h2,h1];omega
def rl (w:w_)(l:gi):Prop:=∃x y:aM,w.heap[l.s]? =o_ (c_ (cW x) 51)/\w.heap[l.t]? =o_ (c_ (cW y) 51)
def rl.below {w w':w_}{l:gi}(h:rl w l)(hb:B_ w.heap.size w w'):rl w' l:=by
 obtain⟨x,y,h1,h2⟩:=h;exact⟨x,y,(hb.block _ (J2.1 h1).1).trans h1,(hb.block _ (J2.1 h2).1).trans h2⟩
def ts (m:gi)(q:Bool)(o:gi):Bool:=decide (m.t=o.t)||decide (m.s=o.s)&&q
def Vq {w:w_}{a:Option d_}{l:List gi}(h:Row w a (qo.flat l)){i:Nat}{x:gi}(hx:l[i]? =o_ x):∃g,a=o_ ⟨g,0,n_⟩/\w.cell? ⟨g,i*6,n_⟩=o_ (i_ j_ x.c.src)/\w.cell? ⟨g,i*6+1,n_⟩=o_ (i_ j_ x.c.ga)/\w.cell? ⟨g,i*6+2,n_⟩=o_ (i_ j_ x.c.dst)/\w.cell? ⟨g,i*6+3,n_⟩=o_ (i_ j_ x.c.hI)/\w.cell? ⟨g,i*6+4,n_⟩=o_ (p_ (o_ ⟨x.s,0,n_⟩))/\w.cell? ⟨g,i*6+5,n_⟩=o_ (p_ (o_ ⟨x.t,0,n_⟩)):=by
 obtain⟨g,e,hc⟩:=Kind.bU.at (K:=qo) ⟨h,λx _ r hr=>by simp[qo]at hr⟩ hx;exact⟨g,e,hc 0 _ rfl,hc 1 _ rfl,hc 2 _ rfl,hc 3 _ rfl,hc 4 _ rfl,hc 5 _ rfl⟩
def T2 (a:Option d_)(ls:List gi)(cap:Nat)(m:gi)(z:aM)(w:w_)(hl:ls.length<=1048576)(hr:Row w a (qo.flat ls))(hz:w.heap[m.s]? =o_ (c_ (cW z) 51))(hm:rl w m)(hb:∀l∈ls,rl w l):
  k_ J3 149 #[s_ a ls.length cap,.func (.func 110) #[a_ (fz m)] #[]] w λe w'=>e=r_ (i_ j_ (M2 (ts m z.Mf) ls))/\B_ w.heap.size w w':=by
 have H:da (Row w a (qo.flat ls)/\w.heap[m.s]? =o_ (c_ (cW z) 51)/\rl w m/\∀l∈ls,rl w l):=⟨hr,hz,hm,hb⟩
 clear hr hz hm hb
 go_enter func149,ntmps149
 go_wp2_with fail
 go_loopw[8] (λi wr=>∃k:Nat,k<=ls.length/\i=i_ j_ k/\da ((∀y∈ls.take k,ts m z.Mf y=false)/\B_ w.heap.size w wr)) (λi _=>ls.length-(Go.RowKit.intOf i).toNat)
 case atStart=>exact⟨0,Ky _,rfl,(λy hy=>Zet),Kp _ _⟩
 case round=>
  obtain⟨k,hk,rfl,S⟩:=hrel;by_cases hlt:k<ls.length
  .have i0:(0:Int)<=(k:Int):=zw
   have i1:(k:Int)<(ls.length:Int):=zw
   obtain⟨p,hp⟩:∃p,ls[k]? =o_ p:=⟨_,Kz hlt⟩
   obtain⟨g,rfl,c0,c1,c2,c3,c4,c5⟩:=Vq (H.I.1.below S.I.2) hp;obtain⟨x,y,hx,hy⟩:=(H.I.2.2.1.below S.I.2)
   obtain⟨u,v,hu,hv⟩:=((H.I.2.2.2 p (KA hp)).below S.I.2)
   have hzz:=(S.I.2.block _ (J2.1 H.I.2.1).1).trans H.I.2.1;have Mb:=TK m p z u y v wr hzz hu hy hv;have HP:=aA hp;clear hp hx hy hu hv hzz;go_wp2_with fail;clear c0 c1 c2 c3 c4 c5;refine Mb.mono ?_;clear Mb;rintro e W1 ⟨rfl,hb1⟩;replace S:=aA (And.intro S.I.1 (S.I.2.trans (hb1.mono S.I.2.size)));clear hb1;have HM:da (ts m z.Mf p=(decide (m.t=p.t)||decide (m.s=p.s)&&z.Mf)):=rfl;generalize(decide (m.t=p.t)||decide (m.s=p.s)&&z.Mf)=r at*;cases r
   .go_wp2
    go_roundw
    case rel=>
     refine⟨k+1,zw,by go_num,λy hy=>?_,S.I.2⟩;rw[cj HP.I]at hy;rcases Kg.1 hy with hy|hy
     .exact S.I.1 y hy
     .rw [KB.1 hy];exact HM.I
    case measure=>exact ZbL
   .go_wp2
    go_ret;exact⟨by rw[Us HP.I HM.I S.I.1];rfl,S.I.2⟩
  .have i1:¬(k:Int)<(ls.length:Int):=zw
   go_wp2;go_ret;have h:=S.I.1;rw[KF zw]at h;exact⟨by rw[Vj h];rfl,S.I.2⟩
def UQ (a:Option d_)(ls:List gi)(cap:Nat)(m:gi)(z:aM)(w:w_)(hl:ls.length<=1048576)(hr:Row w a (qo.flat ls))(hz:w.heap[m.s]? =o_ (c_ (cW z) 51))(hm:rl w m)(hb:∀l∈ls,rl w l):
  k_ J3 109 #[s_ a ls.length cap,.func (.func 110) #[a_ (fz m)] #[]] w λe w'=>e=r_ (b_ (ls.any (ts m z.Mf)))/\B_ w.heap.size w w':=by
 have Mb:=T2 a ls cap m z w hl hr hz hm hb;have HA:=aA (Uv (ts m z.Mf) ls);clear hr hz hm hb hl;generalize M2 (ts m z.Mf) ls=i at*;generalize ls.any (ts m z.Mf)=r at*
 go_enter func109,ntmps109
 go_wp2_with fail;refine Mb.mono ?_;clear Mb;rintro e W1 ⟨rfl,hb1⟩;go_wp2;go_ret;exact⟨al HA.I,hb1⟩
structure T1 (w:w_)(K b:Nat)(bE:Int)(tab:Array v_)(a:Option d_)(cap:Nat)(ls:List gi)(W:w_):Prop where
 kept:aI w W [K]
 TN:W.rowIs K 69 65 (B3 bE tab b a ls.length cap)
 own:W.ownsRow w.heap.size 91 6 (s_ a ls.length cap) ls.length (qo.flat ls)
section
variable {w W W2:w_}{K b:Nat}{bE:Int}{tab:Array v_}{a:Option d_}{cap:Nat}{ls:List gi}{l:List (aZ×Nat)}{ps:List aE}
def T1.below (h:T1 w K b bE tab a cap ls W)(hb:B_ W.heap.size W W2):T1 w K b bE tab a cap ls W2:=⟨h.kept.trans (.dI hb),h.TN.of_block (hb.block _ h.TN.lt),cR h.own hb⟩
structure VK (w:w_)(K b:Nat)(l:List (aZ×Nat)):Prop where
 map:cF w b (l.map λp=>(p.1.q.id,p.2))
 part:∀p∈l,∃bj,K<bj/\cJ w bj p.2 p.1
 nodup:(l.flatMap λp=>p.1.lq.map (·.2)).Nodup
 kb:K≠b
 k:K<w.heap.size
 apart:l.Pairwise λp q=>∀g∈p.1.all p.2,∀g'∈q.1.all q.2,g≠g'
def VK.kept (h:VK w K b l)(hk:aI w W [K]):VK W K b l:=
 ⟨h.map.same (hk.same b h.map.lt (by simp[h.kb.symm])),λp hm=>by
  obtain⟨bs,h1,h2⟩:=h.part p hm;exact⟨bs,h1,h2.same λg hg hl=>hk.same g hl ZbI⟩,h.nodup,h.kb,by have:=hk.size;have:=h.k;omega,h.apart⟩
def T1.apL (h:T1 w K b bE tab a cap ls W)(hp:VK w K b l):KMap W K b l:=
 have h2:=hp.kept h.kept
 ⟨h.TN.cell (i:=63) zw,h2.map,λp hm=>(h2.part p hm).imp λ_ h=>h.2⟩
def D3 (hp:∀p∈l,∃bj,cJ w bj p.2 p.1)(hl:l.map (·.1.pure)=ps)(part id:Int):
  (kt l part id=n_/\endP ps part id=n_)\/ ∃g x,kt l part id=o_ g/\endP ps part id=o_ (aM.todS x)/\w.heap[g]? =o_ (c_ (cW x) 51):=by
 subst hl;have e1:hP (λx:aE=>x.id) part (l.map (·.1.pure))=(l.find? (λp=>p.1.q.id==part)).map (·.1.pure):=by
  unfold hP;rw[aeu]
  congr 2
 unfold kt endP;rw[e1];cases hf:l.find? (λp=>p.1.q.id==part)with
 |none=>exact .inl ⟨rfl,rfl⟩
 |some q=>
  have e2:hP (λx:dS=>x.id) id (q.1.lq.map (·.1.todS))=(q.1.lq.find? (λp=>p.1.id==id)).map (·.1.todS):=by
   unfold hP;rw[aeu]
   congr 2
  have e3:cz (RW (λx:aM=>x.id) q.1.lq) id=(q.1.lq.find? (λp=>p.1.id==id)).map (·.2):=by
   unfold cz RW;rw[aeu,aeF];rfl
  simp only[J9,Option.bind_some]
  show(cz (RW (λx:aM=>x.id) q.1.lq) id=n_/\hP (λx:dS=>x.id) id (q.1.lq.map (·.1.todS))=n_)\/_
  rw[e3,e2];cases hg:q.1.lq.find? (λp=>p.1.id==id)with
  |none=>exact .inl ⟨rfl,rfl⟩
  |some r=>
   obtain⟨bs,ho⟩:=hp q (RG hf);refine .inr ⟨r.2,r.1,rfl,?_,ho.ai.box r (RG hg)⟩
   show hP (λx:dS=>x.id) id (q.1.lq.map (·.1.todS))=_
   rw[e2,hg];rfl
def TW {α β:Type}{f:α->List β}:∀{l:List α},(l.flatMap f).Nodup->∀{x y:α}{g:β},x∈l->y∈l->g∈f x->g∈f y->x=y
 |[],_,_,_,_,h,_,_,_=>ZcF
 |z::r,h,x,y,g,hx,hy,h1,h2=>by
  rw[aez,Kf]at h;rcases Kt.1 hx with ex|hx'
  .rcases Kt.1 hy with ey|hy'
   .rw [ex,ey]
   .exact absurd rfl (h.2.2 g (by rw[<-ex];exact h1) g (Rt.2 ⟨y,hy',h2⟩))
  .rcases Kt.1 hy with ey|hy'
   .exact absurd rfl (h.2.2 g (by rw[<-ey];exact h2) g (Rt.2 ⟨x,hx',h1⟩))
   .exact TW h.2.1 hx' hy' h1 h2
def map_inj {α β:Type}{f:α->β}:∀{l:List α},(l.map f).Nodup->∀{x y:α},x∈l->y∈l->f x=f y->x=y
 |[],_,_,_,h,_,_=>ZcF
 |z::r,h,x,y,hx,hy,e=>by
  rw[Lt,Lp]at h;rcases Kt.1 hx with ex|hx'
  .rcases Kt.1 hy with ey|hy'
   .rw [ex,ey]
   .exact absurd (Lr.2 ⟨y,hy',by rw[<-e,ex]⟩) h.1
  .rcases Kt.1 hy with ey|hy'
   .exact absurd (Lr.2 ⟨x,hx',by rw[e,ey]⟩) h.1
   .exact map_inj h.2 hx' hy' e
def vl {α β:Type}{f:α->List β}:∀{l:List α},(l.flatMap f).Nodup->∀{x:α},x∈l->(f x).Nodup
 |[],_,_,h=>ZcF
 |z::r,h,x,hx=>by
  rw[aez,Kf]at h;rcases Kt.1 hx with rfl|hx
  .exact h.1
  .exact vl h.2.1 hx
def TC {part id:Int}{g:Nat}(h:kt l part id=o_ g):∃q∈l,q.1.q.id=part/\∃x∈q.1.lq,x.2=g/\x.1.id=id:=by
 unfold kt at h;cases hf:l.find? (λp=>p.1.q.id==part)with
 |none=>rw[hf]at h;cases h
 |some q=>
  rw[hf]at h;simp only[cz,RW,aeu,aeF,Kw]at h;obtain⟨x,hx,e⟩:=h;exact⟨q,RG hf,by simpa using PS hf,x,RG hx,e,by simpa using PS hx⟩
def UP (hn:(l.flatMap λp=>p.1.lq.map (·.2)).Nodup){p p' i i':Int}{g:Nat}(h:kt l p i=o_ g)(h':kt l p' i'=o_ g):p=p'/\i=i':=by
 obtain⟨q,hq,rfl,x,hx,e,rfl⟩:=TC h;obtain⟨q',hq',rfl,x',hx',e',rfl⟩:=TC h';have h1:=TW hn hq hq' (Lr.2 ⟨x,hx,e⟩) (Lr.2 ⟨x',hx',e'⟩);subst h1;have h2:=map_inj (vl hn hq) hx hx' (e.trans e'.symm);subst h2;exact⟨rfl,rfl⟩
def VC {a:Option d_}{n c g:Nat}(h:(Value.slice a n c).ownBlock=o_ g):g∈blk a:=by
 cases a with
 |none=>simp[Value.ownBlock]at h
 |some ad=>simpa[Value.ownBlock,blk,eq_comm]using h
def U8:(Tryz.prog.info? 91).map (λi=>(i.zero,i.size,i.bytes))=o_ (o_ (a_ #[i_ j_ 0,i_ j_ 0,i_ j_ 0,i_ j_ 0,p_ n_,p_ n_]),6,48):=ZbG
def Vc {bj:Nat}(m:gi)(ho:W.ownsRow bj 91 6 (s_ a ls.length cap) ls.length (qo.flat ls))(hn:ls.length<=10)(hb:bj<=W.heap.size):
  ∃a' cap' w',(Builtin.append_ #[67,67] 67 #[s_ a ls.length cap,s_ (o_ ⟨W.heap.size,0,n_⟩) 1 1]).run J3 (W.alloc (c_ (fz m) 91))=.ok (s_ a' (ls.length+1) cap') w'/\w'.ownsRow bj 91 6 (s_ a' (ls.length+1) cap') (ls.length+1) (qo.flat (ls++[m]))/\aI W w' (blk a):=by
 have hz:B_ W.heap.size W (W.alloc (c_ (fz m) 91)):=(Kp _ _).alloc (Ki _) _;obtain⟨i,hi,e⟩:=Kw.1 U8;simp only[Kx]at e;have hcell:∀j u,(tA m)[j]? =o_ u->(W.alloc (c_ (fz m) 91)).cell? ((⟨W.heap.size,0,n_⟩:d_).add j)=o_ u:=λj u hu=>by
  have h1:(W.alloc (c_ (fz m) 91)).heap[W.heap.size]? =o_ (c_ (fz m) 91):=Kj _ _;have h2:(fz m)[j]? =o_ u:=by rw[<-QJ];exact hu
  rw[qZ];unfold World.cell?;rw[h1];exact h2
 obtain ⟨v',w',hr,ho',hg,-,-⟩:=run_append_own_at (P:=J3) (W.alloc (c_ (fz m) 91)) bj 67 67 91 i _ 6 48 underlying67 hi e.1 e.2.1 e.2.2 rfl (by decide) (s_ a ls.length cap) ls.length (qo.flat ls) (cR ho hz) ⟨W.heap.size,0,n_⟩ 1 1 (tA m) rfl hcell (λu hu=>by
  simp only[tA,Kt,Ku,or_false]at hu;rcases hu with rfl|rfl|rfl|rfl|rfl|rfl<;>rfl) Zb2 zw Zdm
 obtain⟨a',cap',rfl,-⟩:=cr ho';have aS:qo.flat (ls++[m])=qo.flat ls++tA m:=by simp[Kind.flat,qo]
 refine⟨a',cap',w',hr,by rw[aS];exact ho',⟨hg.os,hg.tape,hg.output,LG hz.size hg.size,λg hgl hgn=>?_⟩⟩;have h1:=hz.block g hgl;rw[<-h1];exact hg.block g Zdm λe=>hgn (VC e.symm)
def T1.more {a2:Option d_}{Ta:Nat}{an1:w_}{m:gi}(h:T1 w K b bE tab a cap ls W)(hK:K<w.heap.size)(ho:an1.ownsRow w.heap.size 91 6 (s_ a2 (ls.length+1) Ta) (ls.length+1) (qo.flat (ls++[m])))(hk:aI W an1 (blk a)):T1 w K b bE tab a2 Ta (ls++[m]) (an1.setCell ⟨K,64,n_⟩ (s_ a2 (ls.length+1) Ta)):=by
 have hlow:∀g∈blk a,w.heap.size<=g:=λg hg=>(cf h.own hg).1
 have hr:an1.rowIs K 69 65 (B3 bE tab b a ls.length cap):=h.TN.of_block (hk.same K h.TN.lt λhm=>by have:=hlow K hm;omega);have h7:aI w an1 [K]:=⟨hk.os.trans h.kept.os,hk.tape.trans h.kept.tape,hk.output.trans h.kept.output,LG h.kept.size hk.size,λg hg hn=>(hk.same g ZeL λhm=>ZdH).trans (h.kept.same g hg hn)⟩
 refine⟨h7.trans (aI.set (off:=64) [_] zy),?_,?_⟩
 .rw [Lf,adg]
  refine(hr.set 64 _).congr λj hj=>?_
  unfold B3;by_cases e:j=64
  .subst e;simp
  .simp [e]
 .rw [Lf,adg]
  exact aL ho λg hg=>ac5 _ _ _ _ (by have:=(cf ho hg).1;show g≠K;omega)
def Joins (l:List (aZ×Nat))(o:gi):Prop:=kt l o.c.src o.c.ga=o_ o.s/\kt l o.c.dst o.c.hI=o_ o.t
def Joins.at (hp:∀p∈l,∃bj,cJ w bj p.2 p.1)(hl:l.map (·.1.pure)=ps){o:gi}(h:Joins l o):rl w o:=by
 rcases D3 hp hl o.c.src o.c.ga with⟨h1,-⟩|⟨g,x,h1,-,hx⟩
 .rw [h.1]at h1;cases h1
 rcases D3 hp hl o.c.dst o.c.hI with⟨h2,-⟩|⟨g2,y,h2,-,hy⟩
 .rw [h.2]at h2;cases h2
 have e1:=h.1.symm.trans h1;have e2:=h.2.symm.trans h2;simp only[LF]at e1 e2;rw[<-e1]at hx;rw[<-e2]at hy;exact⟨x,y,hx,hy⟩
def Ur {α:Type}{f g:α->Bool}:∀{l:List α},(∀x∈l,f x=g x)->l.any f=l.any g
 |[],_=>rfl
 |x::r,h=>by simp only[List.any_cons];rw[h x zy,Ur λy hy=>h y Zdr]
def TA (hn:(l.flatMap λp=>p.1.lq.map (·.2)).Nodup){p p' i i':Int}{g g':Nat}(h:kt l p i=o_ g)(h':kt l p' i'=o_ g'):decide (g=g')=(decide (p'=p)&&decide (i'=i)):=by
 by_cases e:g=g'
 .subst e
  obtain⟨rfl,rfl⟩:=UP hn h h';simp
 .rw [decide_eq_false e]
  by_cases e1:p'=p
  .by_cases e2:i'=i
   .subst e1 e2
    rw[h]at h';cases h';exact absurd rfl e
   .simp [e2]
  .simp [e1]
def Ub (hn:(l.flatMap λp=>p.1.lq.map (·.2)).Nodup){m:gi}(hm:Joins l m)(hL:∀o∈ls,Joins l o):ls.any (ts m (zo ps m.c))=(ls.map (·.c)).any (hR ps m.c):=by
 rw[List.any_map];refine Ur λo ho=>?_
 unfold ts
 show _=hR ps m.c o.c
 unfold hR;rw[TA hn hm.2 (hL o ho).2,TA hn hm.1 (hL o ho).1]
end
def ko (ps:List aE)(ls:List gi)(c:eQ):Bool:=pa ps c&& !(ls.map (·.c)).any (hR ps c)
def Vv (w:w_)(K b:Nat)(bE:Int)(tab:Array v_)(l:List (aZ×Nat))(ps:List aE)(ls:List gi)(c:eQ)(e:Ending)(W:w_):Prop:=
 (ko ps ls c=false/\e=r_ (b_ false)/\aI w W [K])\/(ko ps ls c=true/\e=r_ (b_ true)/\∃s t a cap,Joins l ⟨c,s,t⟩/\T1 w K b bE tab a cap (ls++[⟨c,s,t⟩]) W)
def P1 (W:w_)(X:Nat)(c:eQ):Prop:=W.heap[X]? =o_ (c_ (nx c) 37)
def P1.cells {W:w_}{X:Nat}{c:eQ}(h:P1 W X c):W.cell? ⟨X,0,n_⟩=o_ (i_ j_ c.src)/\W.cell? ⟨X,1,n_⟩=o_ (i_ j_ c.ga)/\W.cell? ⟨X,2,n_⟩=o_ (i_ j_ c.dst)/\W.cell? ⟨X,3,n_⟩=o_ (i_ j_ c.hI):=by
 unfold P1 at h;simp[World.cell?,h]
def P1.below {W W2:w_}{X:Nat}{c:eQ}(h:P1 W X c)(hb:B_ W.heap.size W W2):P1 W2 X c:=(hb.block _ (J2.1 h).1).trans h
structure LkS (w:w_)(K b:Nat)(bE:Int)(tab:Array v_)(a:Option d_)(cap:Nat)(ls:List gi)(X:Nat)(c:eQ)(W:w_):Prop where
 US:T1 w K b bE tab a cap ls W
 box:P1 W X c
def LkS.below {w W W2:w_}{K b:Nat}{bE:Int}{tab:Array v_}{a:Option d_}{cap:Nat}{ls:List gi}{X:Nat}{c:eQ}(h:LkS w K b bE tab a cap ls X c W)(hb:B_ W.heap.size W W2):LkS w K b bE tab a cap ls X c W2:=⟨h.US.below hb,h.box.below hb⟩
def Tj {W:w_}{X s t:Nat}{c:eQ}(h:W.heap[X]? =o_ (c_ (fz ⟨c,s,t⟩) 91)):W.cell? ⟨X,0,n_⟩=o_ (i_ j_ c.src)/\W.cell? ⟨X,1,n_⟩=o_ (i_ j_ c.ga)/\W.cell? ⟨X,2,n_⟩=o_ (i_ j_ c.dst)/\W.cell? ⟨X,3,n_⟩=o_ (i_ j_ c.hI)/\W.cell? ⟨X,4,n_⟩=o_ (p_ (o_ ⟨s,0,n_⟩))/\W.cell? ⟨X,5,n_⟩=o_ (p_ (o_ ⟨t,0,n_⟩)):=by
 simp[World.cell?,h]
def Vm (w:w_)(K b:Nat)(bE:Int)(tab:Array v_)(a:Option d_)(cap:Nat)(ls:List gi)(l:List (aZ×Nat))(ps:List aE)(c:eQ)(W:w_)(hp:VK w K b l)(hl:l.map (·.1.pure)=ps)(hL:∀o∈ls,Joins l o)(hn:ls.length<=10)(hc:c.Wf)(hS:T1 w K b bE tab a cap ls W):
  k_ J3 64 #[p_ (o_ ⟨K,0,n_⟩),a_ (nx c)] W λe W'=>Vv w K b bE tab l ps ls c e W':=by
 have hz:B_ W.heap.size W (W.alloc (c_ (nx c) 37)):=(Kp _ _).alloc (Ki _) _;have S:da (LkS w K b bE tab a cap ls W.heap.size c (W.alloc (c_ (nx c) 37))):=⟨hS.below hz,Kj _ _⟩
 have HP:=aA hp;have HL:=aA (And.intro hl (And.intro hL hn));have HC:=aA hc;clear hz hS hp hl hL hn hc
 go_enter func64,ntmps64
 go_upto_region 1 with fail;generalize W.alloc (c_ (nx c) 37)=W1 at*;generalize W.heap.size=X at*;have hc1:=TP K b l c.src c.ga W1 (S.I.US.apL HP.I) HC.I.1 HC.I.2.1;obtain⟨m0,m1,m2,m3⟩:=S.I.box.cells;go_wp2_with fail;clear m0 m1 m2 m3;refine hc1.mono ?_;clear hc1;rintro e W2 ⟨rfl,hb2⟩;replace S:=aA (S.I.below hb2);clear hb2;have hc1:=TP K b l c.dst c.hI W2 (S.I.US.apL HP.I) HC.I.2.2.1 HC.I.2.2.2;obtain⟨m0,m1,m2,m3⟩:=S.I.box.cells;go_wp2_with fail;clear m0 m1 m2 m3;refine hc1.mono ?_;clear hc1;rintro e W3 ⟨rfl,hb2⟩;replace S:=aA (S.I.below hb2);clear hb2;have h1:=D3 (λp hm=>((HP.I.kept S.I.US.kept).part p hm).imp λ_ h=>h.2) HL.I.1 c.src c.ga;have h2:=D3 (λp hm=>((HP.I.kept S.I.US.kept).part p hm).imp λ_ h=>h.2) HL.I.1 c.dst c.hI;rcases h1 with⟨h1,VF⟩|⟨s,x,h1,VF,hx⟩
 .have HN:da (ko ps ls c=false):=by show _=_;simp[ko,pa,VF]
  rw[h1];clear h1 h2 VF;generalize qz (kt l c.dst c.hI)=pv;generalize(kt l c.dst c.hI).isSome=pb;simp only[qz,aeH];exact Zag
 have bC:=aA h1;rw[h1];rcases h2 with⟨h2,h2e⟩|⟨t,y,h2,h2e,hy⟩
 .have HN:da (ko ps ls c=false):=by show _=_;simp[ko,pa,VF,h2e]
  rw[h2];clear h1 h2 VF h2e hx bC;simp only[qz,dt,aeH,Qk];exact Zag
 have eb:=aA h2;rw[h2];have HB:da (pa ps c=(!decide (c.src=c.dst)&&x.I&& !y.I&&(x.Mf==y.Mf))):=by show _=_;simp only[pa,VF,h2e]
 have HQ:da (zo ps c=x.Mf):=by show _=_;simp only[zo,VF]
 have Mb:=TY s t x y W3 hx hy;have UR:=aA (And.intro hx hy);clear h1 h2 VF h2e hx hy;simp only[qz,dt,Qk];obtain⟨m0,m1,m2,m3⟩:=S.I.box.cells;by_cases hsd:c.src=c.dst
 .have HN:da (ko ps ls c=false):=by show _=_;simp[ko,HB.I,hsd]
  have e1:(c.src==c.dst)=true:=by simp[hsd]
  clear hsd Mb;go_wp2;go_ret;exact .inl ⟨HN.I,rfl,S.I.US.kept⟩
 have e1:(c.src==c.dst)=false:=by simp[hsd]
 have HSD:da (decide (c.src=c.dst)=false):=decide_eq_false hsd;clear hsd;go_wp2_with fail;clear m0 m1 m2 m3 e1;refine Mb.mono ?_;clear Mb;rintro e W4 ⟨rfl,hb4⟩;replace S:=aA (S.I.below hb4);replace UR:da (W4.heap[s]? =o_ (c_ (cW x) 51)/\W4.heap[t]? =o_ (c_ (cW y) 51)):=⟨(hb4.block _ (J2.1 UR.I.1).1).trans UR.I.1,(hb4.block _ (J2.1 UR.I.2).1).trans UR.I.2⟩
 clear hb4;cases hlead:(x.I&& !y.I&&(x.Mf==y.Mf))
 .have HN:da (ko ps ls c=false):=by show _=_;rw[ko,HB.I,HSD.I];simp only[Bool.not_false,aeN,hlead,Bool.false_and]
  clear hlead;exact Zag
 have HCB:da (pa ps c=true):=by show _=_;rw[HB.I,HSD.I];simp only[Bool.not_false,aeN,hlead]
 clear hlead HB HSD;obtain⟨m0,m1,m2,m3⟩:=S.I.box.cells;go_upto_region 6 with fail;clear m0 m1 m2 m3;have hz:B_ W4.heap.size W4 (W4.alloc (c_ (fz ⟨c,s,t⟩) 91)):=(Kp _ _).alloc (Ki _) _;have HY:da ((∀g∈blk a,g<W4.heap.size)/\(W4.alloc (c_ (fz ⟨c,s,t⟩) 91)).heap[W4.heap.size]? =o_ (c_ (fz ⟨c,s,t⟩) 91)):=⟨λg hg=>(cf S.I.US.own hg).2,Kj _ _⟩
 replace UR:da ((W4.alloc (c_ (fz ⟨c,s,t⟩) 91)).heap[s]? =o_ (c_ (cW x) 51)):=(hz.block _ (J2.1 UR.I.1).1).trans UR.I.1;have HW4:=aA S.I.US.kept.size;replace S:=aA (S.I.US.below hz);have HYK:da (K<W4.heap.size):=by show K<_;have h1:=(HP.I.k);have h2:=HW4.I;omega
 clear hz HW4;generalize W4.alloc (c_ (fz ⟨c,s,t⟩) 91)=W5 at*;generalize W4.heap.size=Y at*;refine Kr (S:=λW=>W.cell? ⟨K,64,n_⟩=o_ (s_ a ls.length cap)/\W.heap[Y]? =o_ (c_ (fz ⟨c,s,t⟩) 91)) ZbG ⟨S.I.TN.cell (i:=64) zw,HY.I.2⟩ (λ_=>?_);replace S:=aA (S.I.below (Kp _ _).drew);replace UR:da (W5.drew.heap[s]? =o_ (c_ (cW x) 51)):=UR.I;replace HY:da ((∀g∈blk a,g<Y)/\W5.drew.heap[Y]? =o_ (c_ (fz ⟨c,s,t⟩) 91)):=HY.I;generalize World.drew _=V at*;have HS:da (V.cell? ⟨K,64,n_⟩=o_ (s_ a ls.length cap)/\V.heap[Y]? =o_ (c_ (fz ⟨c,s,t⟩) 91)):=⟨S.I.TN.cell (i:=64) zw,HY.I.2⟩
 refine tt 0 HS.I ?_;refine tt 1 HS.I ?_;refine tt 2 HS.I ?_;refine tt 3 HS.I ?_;refine tt 4 HS.I ?_ (hy:=λw0 hS0=>by obtain⟨q0,q1,q2,q3,q4,q5⟩:=Tj hS0.2;go_simp;try with_reducible rfl);refine tt 5 HS.I ?_;refine L7 6 (λQ hQ=>?_);go_wp2_with fail;have hAt:=λp hm=>((HP.I.kept S.I.kept).part p hm).imp λ_ h=>h.2
 refine(UQ a ls cap ⟨c,s,t⟩ x V (by have:=HL.I.2.2;omega) (nP S.I.own) UR.I (Joins.at hAt HL.I.1 ⟨bC.I,eb.I⟩) (λo ho=>Joins.at hAt HL.I.1 (HL.I.2.1 o ho))).mono ?_;clear hAt HS UR;rintro e W6 ⟨rfl,jQ⟩;replace S:=aA (S.I.below jQ);replace HY:da ((∀g∈blk a,g<Y)/\W6.heap[Y]? =o_ (c_ (fz ⟨c,s,t⟩) 91)):=⟨HY.I.1,(jQ.block _ (J2.1 HY.I.2).1).trans HY.I.2⟩
 clear jQ;refine hQ.out _ _ ⟨S.I.TN.cell (i:=64) zw,HY.I.2⟩ (λ_=>?_);clear hQ Q;refine K3 ZbG ?_ _;have HM:da (ls.any (ts ⟨c,s,t⟩ x.Mf)=(ls.map (·.c)).any (hR ps c)):=by have h:=Ub (ps:=ps) HP.I.nodup (m:=⟨c,s,t⟩) ⟨bC.I,eb.I⟩ HL.I.2.1;rw[HQ.I]at h;exact h
 generalize ls.any (ts ⟨c,s,t⟩ x.Mf)=r at*;cases r
 case true=>
  have HN:da (ko ps ls c=false):=ZfH
  go_wp2;go_ret;exact .inl ⟨HN.I,rfl,S.I.kept⟩
 have HT:da (ko ps ls c=true):=ZfH
 clear HM HCB HQ;go_upto_region 8 with fail;refine Kr (S:=λW=>W.heap[Y]? =o_ (c_ (fz ⟨c,s,t⟩) 91)) ZbG HY.I.2 (λ_=>?_);replace S:=aA (S.I.below (Kp _ _).drew);replace HY:da ((∀g∈blk a,g<Y)/\W6.drew.heap[Y]? =o_ (c_ (fz ⟨c,s,t⟩) 91)):=HY.I;generalize World.drew _=V2 at*;refine tt 0 HY.I.2 ?_;refine tt 1 HY.I.2 ?_;refine tt 2 HY.I.2 ?_;refine tt 3 HY.I.2 ?_;refine tt 5 HY.I.2 ?_ (hy:=λw0 hS0=>by obtain⟨q0,q1,q2,q3,q4,q5⟩:=Tj hS0;go_simp;try with_reducible rfl);obtain⟨a2,Ta,an1,hap,mP,hk7⟩:=Vc ⟨c,s,t⟩ S.I.own HL.I.2.2 S.I.kept.size;have HA:=aA (And.intro mP hk7);clear mP hk7;have c64:V2.cell? ⟨K,64,n_⟩=o_ (s_ a ls.length cap):=S.I.TN.cell (i:=64) zw;have d64:(V2.alloc (c_ (fz ⟨c,s,t⟩) 91)).cell? ⟨K,64,n_⟩=o_ (s_ a ls.length cap):=(S.I.TN.alloc _).cell (i:=64) zw;have hY1:(V2.alloc (c_ (fz ⟨c,s,t⟩) 91)).heap[Y]? =o_ (c_ (fz ⟨c,s,t⟩) 91):=(PU (J2.1 HY.I.2).1).trans HY.I.2;have Ul:da (K∉blk a/\Y∉blk a/\Y≠K):=⟨λhm=>by have h1:=(cf S.I.own hm).1;have h2:=HP.I.k;omega,λhm=>by have h1:=HY.I.1 Y hm;omega,by have:=HYK.I;omega⟩
 have HR7:da (an1.rowIs K 69 65 (B3 bE tab b a ls.length cap)/\an1.heap[Y]? =o_ (c_ (fz ⟨c,s,t⟩) 91)):=⟨S.I.TN.of_block (HA.I.2.same K S.I.TN.lt Ul.I.1),(HA.I.2.same Y (J2.1 HY.I.2).1 Ul.I.2.1).trans HY.I.2⟩
 have HE:da (∀W,W=an1.setCell ⟨K,64,n_⟩ (s_ a2 (ls.length+1) Ta)->T1 w K b bE tab a2 Ta (ls++[⟨c,s,t⟩]) W):=λW hW=>by rw[hW];exact S.I.more HP.I.k HA.I.1 HA.I.2
 refine KW (rs:=[4,6]) ZbG zy ?_;refine KX rfl (λQ hQ=>?_) (KX rfl (λQ hQ=>?_) KY)
 focus
  simp only[KZ,K0,K1];rw[if_pos (by rfl)];go_wp2_with fail;refine hQ.out _ _ HY.I.2 (λ_=>?_);clear hQ Q
  try simp only[pt,sb,s0,s1]
  refine L7 6 (λQ hQ=>?_);go_wp2_with fail;refine hQ.out _ _ hY1 (λ_=>?_);clear hQ Q
  try simp only[pt,sb,s0,s1]
 rotate_left
 focus
  simp only[KZ,K0,K1];rw[if_pos (by rfl)];go_wp2_with fail;refine hQ.out _ _ hY1 (λ_=>?_);clear hQ Q
  try simp only[pt,sb,s0,s1]
  refine L7 4 (λQ hQ=>?_);go_wp2_with fail;refine hQ.out _ _ hY1 (λ_=>?_);clear hQ Q
  try simp only[pt,sb,s0,s1]
 all_goals
  refine L7 7 (λQ hQ=>?_);refine cM _ _ _ rfl _ _ _ an1 rfl rfl hap ?_;refine hQ.out _ _ HR7.I.2 (λ_=>?_);clear hQ Q
  try simp only[pt,sb,s0,s1]
  refine tt 8 HR7.I.2 ?_;refine tt 9 HR7.I.2 ?_;refine L7 10 (λQ hQ=>?_);have k64:=HR7.I.1.cell (i:=64) zw;have f64:=HR7.I.1.frozen 64;go_wp2_with fail;refine hQ.out _ _ ((ac5 _ _ _ _ Ul.I.2.2).trans HR7.I.2) (λ_=>?_);clear hQ Q k64 f64;refine K3 ZbG ?_ _;go_wp2;go_ret;exact .inr ⟨HT.I,rfl,s,t,a2,Ta,⟨bC.I,eb.I⟩,HE.I _ rfl⟩
def UW (w:w_)(K b:Nat)(bE:Int)(tab:Array v_)(l:List (aZ×Nat))(ps:List aE)(cs:List eQ)(e:Ending)(W:w_):Prop:=
 aI w W [K]/\(((decide (cs.length<=10)&&fA ps [] cs)=false/\e=r_ (b_ false))\/((decide (cs.length<=10)&&fA ps [] cs)=true/\e=r_ (b_ true)/\∃ls a cap,ls.map (·.c)=cs/\(∀o∈ls,Joins l o)/\T1 w K b bE tab a cap ls W))
def T3 (w0 w:w_)(K b:Nat)(bE:Int)(tab:Array v_)(l:List (aZ×Nat))(ps:List aE)(cs:List eQ)(a:Option d_)(cap:Nat)(hp:VK w K b l)(hl:l.map (·.1.pure)=ps)(hk:w.rowIs K 69 65 (B3 bE tab b n_ 0 0))(hb:B_ w0.heap.size w0 w)(hK:w0.heap.size<=K)(hc:hM.bU w0 a cs)(hw:∀c∈cs,c.Wf)(hn:cs.length<=1048576):
  k_ J3 36 #[p_ (o_ ⟨K,0,n_⟩),s_ a cs.length cap] w λe W=>UW w K b bE tab l ps cs e W:=by
 have S:da (T1 w K b bE tab n_ 0 [] w):=⟨aI.refl _ _,hk,Ke _ _ _ _⟩
 have HP:=aA (And.intro hp (And.intro hl (And.intro hb (And.intro hK (And.intro hc hw)))));clear hp hl hk hb hK hc hw
 go_enter func36,ntmps36
 by_cases h10:10<cs.length
 .have i1:(10:Int)<(cs.length:Int):=zw
  have HN:da ((decide (cs.length<=10)&&fA ps [] cs)=false):=by show _=_;rw[decide_eq_false zw];rfl
  clear h10;go_wp2;go_ret;exact⟨S.I.kept,.inl ⟨HN.I,rfl⟩⟩
 have i1:¬(10:Int)<(cs.length:Int):=zw
 have eX:da (cs.length<=10):=by show _<=_;omega
 clear h10;go_wp2_with fail;clear i1
 go_loopw[12] (λi wr=>∃(n:Nat)(ls:List gi)(a2:Option d_)(Ta:Nat),n<=cs.length/\i=i_ j_ n/\da (T1 w K b bE tab a2 Ta ls wr/\ls.map (·.c)=cs.take n/\(∀o∈ls,Joins l o)/\fA ps [] (cs.take n)=true)) (λi _=>cs.length-(Go.RowKit.intOf i).toNat)
 case atStart=>exact⟨0,[],n_,0,Ky _,rfl,S.I,rfl,(λo ho=>by cases ho),rfl⟩
 case round=>
  clear S;obtain⟨n,ls,a2,Ta,hn2,rfl,S⟩:=hrel;by_cases hlt:n<cs.length
  .have i0:(0:Int)<=(n:Int):=zw
   have i1:(n:Int)<(cs.length:Int):=zw
   obtain⟨c,hc⟩:∃c,cs[n]? =o_ c:=⟨_,Kz hlt⟩
   have DM:da (ls.length<=10):=by show ls.length<=10;have h:=congrArg List.length S.I.2.1;simp at h;have:=eX.I;omega
   have hbl:B_ w0.heap.size w0 wr:=HP.I.2.2.1.trans (S.I.1.kept.below (by have h1:=HP.I.2.2.1.size;omega) (λg hg=>by rw[KB.1 hg];exact HP.I.2.2.2.1));obtain⟨gs,rfl,c0,c1,c2,c3⟩:=TH (HP.I.2.2.2.2.1.below hbl) hc;have HC:=aA hc;clear hbl hc;go_upto_region 6 with fail;clear c0 c1 c2 c3;have hz:B_ wr.heap.size wr (wr.alloc (c_ (nx c) 37)):=(Kp _ _).alloc (Ki _) _;have Uc:da (P1 (wr.alloc (c_ (nx c) 37)) wr.heap.size c):=Kj _ _;have mO:=aA S.I.2;replace S:=aA (S.I.1.below hz);clear hz;generalize wr.alloc (c_ (nx c) 37)=W1 at*;generalize wr.heap.size=X at*;have Mb:=Vm w K b bE tab a2 Ta ls l ps c W1 HP.I.1 HP.I.2.1 mO.I.2.1 DM.I (HP.I.2.2.2.2.2 c (KA HC.I)) S.I;obtain⟨m0,m1,m2,m3⟩:=Uc.I.cells;go_wp2_with fail;clear m0 m1 m2 m3 Uc;refine Mb.mono ?_;clear Mb S;rintro e W2 (⟨hno,rfl,hk2⟩|⟨fm,rfl,s,t,a3,UY,hj,hk3⟩)
   .have HE:da (aI w W2 [K] /\(decide (cs.length<=10) && fA ps [] cs)=false):=⟨hk2,by
     rw[kq HC.I,PP];simp only[ko,Bool.and_eq_false_iff,Bool.not_eq_false',mO.I.1]at hno;exact hno⟩
    clear hno hk2;go_wp2;go_ret;exact⟨HE.I.1,.inl ⟨HE.I.2,rfl⟩⟩
   .have HE:da (T1 w K b bE tab a3 UY (ls++[⟨c,s,t⟩]) W2/\(ls++[(⟨c,s,t⟩:gi)]).map (·.c)=cs.take (n+1)/\(∀o∈ls++[(⟨c,s,t⟩:gi)],Joins l o)/\fA ps [] (cs.take (n+1))=true):=by
     refine⟨hk3,by rw[cj HC.I,Kl,mO.I.1];rfl,λo ho=>?_,?_⟩
     .rcases Kg.1 ho with ho|ho
      .exact mO.I.2.1 o ho
      .rw [KB.1 ho];exact hj
     .simp only[ko,J7,PR,mO.I.1]at fm
      exact Tz mO.I.2.2 HC.I fm.1 fm.2
    clear fm hj hk3;go_wp2;go_roundw
    case rel=>exact⟨n+1,ls++[⟨c,s,t⟩],a3,UY,zw,by go_num,HE.I.1,HE.I.2⟩
    case measure=>exact ZbL
  .have i1:¬(n:Int)<(cs.length:Int):=zw
   go_wp2;go_ret;have h:=S.I;rw[KF zw]at h;exact⟨h.1.kept,.inr ⟨by rw[decide_eq_true eX.I,h.2.2.2];rfl,rfl,ls,a2,Ta,h.2.1,h.2.2.1,h.1⟩⟩
abbrev Xn (l:List Int):List v_:=l.map (Value.int j_)
end
end Go.Proofs.YtckenjkcmajicaaGreat
