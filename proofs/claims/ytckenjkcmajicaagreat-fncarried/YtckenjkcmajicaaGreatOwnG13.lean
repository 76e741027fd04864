/- What the proof leans on, part 13. -/
import Derived.Test.YtckenjkcmajicaaGreatOwnG10
set_option linter.all false
set_option maxRecDepth 100000
set_option maxHeartbeats 8000000
open Go.Proofs.Tryz
open Go renaming World->w_,Value->v_,Calls->k_,Addr->d_,below_setRow->q_
open Go.Ending renaming returned->r_
open Go.IntKind renaming i64->j_
open Go.Obj renaming cells->c_
open Go.RowKit renaming Below->B_,Hid->da
open Go.Value renaming int->i_,slice->s_,bool->b_,string->t_,agg->a_,tuple->u_
open Option renaming some->o_,none->n_
open Go renaming run_underlying->T0,wp_at_succ->Kd,wp_at_zero->Kc
open Go.Proofs.Tryz renaming prog->J3

open Go.RowKit
namespace Go.Proofs.YtckenjkcmajicaaGreat
section
open Go.Maps
def uk (Me:Int)(bj b:Nat)(l:List (au×Nat))(w:w_)(h:Shelf bQ (λx:au=>x.id) 137 w bj b l)(hl:l.length<=1048576)(hwf:∀p∈(RW (λx:au=>x.id) l),(Lit.int j_ p.1).wf=true):
  k_ J3 50 #[a_ #[i_ j_ Me,.map (o_ b)]] w λe w'=>mY bm 137 w (l.map (·.1)) e w':=by
 obtain⟨i0,hi,e0⟩:=Kw.1 kh;simp only[Kx]at e0;have HI:da (Tryz.prog.info? 137=o_ i0/\i0.zero=o_ _/\i0.size=3/\i0.bytes=40):=⟨hi,e0⟩
 have H:da (Shelf bQ (λx:au=>x.id) 137 (w.alloc (c_ #[i_ j_ Me,.map (o_ b)] 116)) bj b l/\(∀p∈(RW (λx:au=>x.id) l),(Lit.int j_ p.1).wf=true)/\B_ w.heap.size w (w.alloc (c_ #[i_ j_ Me,.map (o_ b)] 116))):=⟨h.below ((Kp _ _).alloc (Ki _) _),hwf,(Kp _ _).alloc (Ki _) _⟩
 have HK:da ((RW (λx:au=>x.id) l).length=l.length):=bZ l;clear h hwf hi e0
 go_enter func50,ntmps50
 go_wp2_with fail;generalize w.alloc (c_ #[i_ j_ Me,.map (o_ b)] 116)=W at*;refine(wF Me b (RW (λx:au=>x.id) l) W H.I.1.map ZcS H.I.2.1).mono ?_;rintro e w2 ⟨a,cap,rfl,hown,hb2⟩;obtain⟨a',cap',hv,hrow⟩:=cr hown;cases hv;have HR:da (Row w2 a ((RW (λx:au=>x.id) l).map λp=>dt p.2)):=hrow;have HO:da (Shelf bQ (λx:au=>x.id) 137 w2 bj b l/\B_ w.heap.size w w2):=⟨H.I.1.below hb2,H.I.2.2.trans (hb2.mono H.I.2.2.size)⟩
 rw[HK.I];clear hown hrow hb2;go_wp2_with fail
 go_loopw[3,9] (λt i wr=>∃k:Nat,k<=l.length/\i=i_ j_ k/\∃a' cap',t=s_ a' k cap'/\da (wr.ownsRow w2.heap.size 137 3 (s_ a' k cap') k (bm.flat ((l.take k).map (·.1)))/\B_ w2.heap.size w2 wr)) (λ_ i _=>l.length-(intOf i).toNat)
 case atStart=>exact ZbS
 case round=>
  obtain⟨k,hk,rfl,a',cap',rfl,HA⟩:=hrel;by_cases hlt:k<l.length
  .have qE:(0:Int)<=(k:Int):=zw
   have i1:(k:Int)<(l.length:Int):=zw
   obtain⟨p,hp⟩:∃p,l[k]? =o_ p:=⟨_,Kz hlt⟩
   obtain⟨g,ha,hc⟩:=(HR.I.below HA.I.2) k (dt p.2) Zdq;subst ha;unfold dt at hc;have HP:da (l[k]? =o_ p):=hp;obtain⟨s0,s1,s2⟩:=ia ((HO.I.1.below HA.I.2).box p (KA hp));have kT:=HA.I.2.size;clear hp;go_wp2_with(at_builtin;refine KD _ rfl _ _ 43 rfl w2.heap.size 137 i0 _ 3 40 underlying43 HI.I.1 HI.I.2.1 HI.I.2.2.1 HI.I.2.2.2 rfl (by decide) (s_ a' k cap') k (bm.flat ((l.take k).map (·.1))) rfl (HA.I.1.alloc _) ⟨wr.heap.size,0,n_⟩ 1 1 (bm.vals p.1) (by rfl) rfl (KE (cs:=#[i_ j_ p.1.id,i_ j_ p.1.max,s_ p.1.ak p.1.Ma.length p.1.aq]) (t:=137) (fr:=(0,0)) (Kj wr _)) (by simp[bm,nD,Value.oneCell']) Zb2 zw ZbI ?_;intro v' w5 hown' hgrow hnil jV;obtain⟨a5,im,rfl,-⟩:=cr hown';have HN:da (w5.ownsRow w2.heap.size 137 3 (s_ a5 (k+1) im) (k+1) (bm.flat ((l.take (k+1)).map (·.1)))/\B_ w2.heap.size w2 w5):=⟨by rw[cj HP.I,Kl,bm.dc];exact hown',(HA.I.2.alloc kT _).grown hgrow ZbI (λq hq=>(HA.I.1.lt q hq).1)⟩;clear hown' hgrow hnil jV);exact mi
  .exact jp
def AN (Me:Int)(bj b:Nat)(l:List (bD×Nat))(w:w_)(h:Shelf eH (λx:bD=>x.id) 128 w bj b l)(hl:l.length<=1048576)(hwf:∀p∈(RW (λx:bD=>x.id) l),(Lit.int j_ p.1).wf=true):
  k_ J3 47 #[a_ #[i_ j_ Me,.map (o_ b)]] w λe w'=>mY dm 128 w (l.map (·.1)) e w':=by
 obtain⟨i0,hi,e0⟩:=Kw.1 yS;simp only[Kx]at e0;have HI:da (Tryz.prog.info? 128=o_ i0/\i0.zero=o_ _/\i0.size=3/\i0.bytes=24):=⟨hi,e0⟩
 have H:da (Shelf eH (λx:bD=>x.id) 128 (w.alloc (c_ #[i_ j_ Me,.map (o_ b)] 107)) bj b l/\(∀p∈(RW (λx:bD=>x.id) l),(Lit.int j_ p.1).wf=true)/\B_ w.heap.size w (w.alloc (c_ #[i_ j_ Me,.map (o_ b)] 107))):=⟨h.below ((Kp _ _).alloc (Ki _) _),hwf,(Kp _ _).alloc (Ki _) _⟩
 have HK:da ((RW (λx:bD=>x.id) l).length=l.length):=bZ l;clear h hwf hi e0
 go_enter func47,ntmps47
 go_wp2_with fail;generalize w.alloc (c_ #[i_ j_ Me,.map (o_ b)] 107)=W at*;refine(CS Me b (RW (λx:bD=>x.id) l) W H.I.1.map ZcS H.I.2.1).mono ?_;rintro e w2 ⟨a,cap,rfl,hown,hb2⟩;obtain⟨a',cap',hv,hrow⟩:=cr hown;cases hv;have HR:da (Row w2 a ((RW (λx:bD=>x.id) l).map λp=>dt p.2)):=hrow;have HO:da (Shelf eH (λx:bD=>x.id) 128 w2 bj b l/\B_ w.heap.size w w2):=⟨H.I.1.below hb2,H.I.2.2.trans (hb2.mono H.I.2.2.size)⟩
 rw[HK.I];clear hown hrow hb2;go_wp2_with fail
 go_loopw[3,9] (λt i wr=>∃k:Nat,k<=l.length/\i=i_ j_ k/\∃a' cap',t=s_ a' k cap'/\da (wr.ownsRow w2.heap.size 128 3 (s_ a' k cap') k (dm.flat ((l.take k).map (·.1)))/\B_ w2.heap.size w2 wr)) (λ_ i _=>l.length-(intOf i).toNat)
 case atStart=>exact ZbS
 case round=>
  obtain⟨k,hk,rfl,a',cap',rfl,HA⟩:=hrel;by_cases hlt:k<l.length
  .have qE:(0:Int)<=(k:Int):=zw
   have i1:(k:Int)<(l.length:Int):=zw
   obtain⟨p,hp⟩:∃p,l[k]? =o_ p:=⟨_,Kz hlt⟩
   obtain⟨g,ha,hc⟩:=(HR.I.below HA.I.2) k (dt p.2) Zdq;subst ha;unfold dt at hc;have HP:da (l[k]? =o_ p):=hp;obtain⟨s0,s1,s2⟩:=gm ((HO.I.1.below HA.I.2).box p (KA hp));have kT:=HA.I.2.size;clear hp;go_wp2_with(at_builtin;refine KD _ rfl _ _ 40 rfl w2.heap.size 128 i0 _ 3 24 underlying40 HI.I.1 HI.I.2.1 HI.I.2.2.1 HI.I.2.2.2 rfl (by decide) (s_ a' k cap') k (dm.flat ((l.take k).map (·.1))) rfl (HA.I.1.alloc _) ⟨wr.heap.size,0,n_⟩ 1 1 (dm.vals p.1) (by rfl) rfl (KE (cs:=#[i_ j_ p.1.id,i_ j_ p.1.n,i_ j_ p.1.max]) (t:=128) (fr:=(0,0)) (Kj wr _)) (by simp[dm,yz,Value.oneCell']) Zb2 zw ZbI ?_;intro v' w5 hown' hgrow hnil jV;obtain⟨a5,im,rfl,-⟩:=cr hown';have HN:da (w5.ownsRow w2.heap.size 128 3 (s_ a5 (k+1) im) (k+1) (dm.flat ((l.take (k+1)).map (·.1)))/\B_ w2.heap.size w2 w5):=⟨by rw[cj HP.I,Kl,dm.dc];exact hown',(HA.I.2.alloc kT _).grown hgrow ZbI (λq hq=>(HA.I.1.lt q hq).1)⟩;clear hown' hgrow hnil jV);exact mi
  .exact jp
def wN (Me:Int)(bj b:Nat)(l:List (aB×Nat))(w:w_)(h:Shelf cG (λx:aB=>x.id) 131 w bj b l)(hl:l.length<=1048576)(hwf:∀p∈(RW (λx:aB=>x.id) l),(Lit.int j_ p.1).wf=true):
  k_ J3 48 #[a_ #[i_ j_ Me,.map (o_ b)]] w λe w'=>mY bJ 131 w (l.map (·.1)) e w':=by
 obtain⟨i0,hi,e0⟩:=Kw.1 so;simp only[Kx]at e0;have HI:da (Tryz.prog.info? 131=o_ i0/\i0.zero=o_ _/\i0.size=2/\i0.bytes=16):=⟨hi,e0⟩
 have H:da (Shelf cG (λx:aB=>x.id) 131 (w.alloc (c_ #[i_ j_ Me,.map (o_ b)] 110)) bj b l/\(∀p∈(RW (λx:aB=>x.id) l),(Lit.int j_ p.1).wf=true)/\B_ w.heap.size w (w.alloc (c_ #[i_ j_ Me,.map (o_ b)] 110))):=⟨h.below ((Kp _ _).alloc (Ki _) _),hwf,(Kp _ _).alloc (Ki _) _⟩
 have HK:da ((RW (λx:aB=>x.id) l).length=l.length):=bZ l;clear h hwf hi e0
 go_enter func48,ntmps48
 go_wp2_with fail;generalize w.alloc (c_ #[i_ j_ Me,.map (o_ b)] 110)=W at*;refine(yh Me b (RW (λx:aB=>x.id) l) W H.I.1.map ZcS H.I.2.1).mono ?_;rintro e w2 ⟨a,cap,rfl,hown,hb2⟩;obtain⟨a',cap',hv,hrow⟩:=cr hown;cases hv;have HR:da (Row w2 a ((RW (λx:aB=>x.id) l).map λp=>dt p.2)):=hrow;have HO:da (Shelf cG (λx:aB=>x.id) 131 w2 bj b l/\B_ w.heap.size w w2):=⟨H.I.1.below hb2,H.I.2.2.trans (hb2.mono H.I.2.2.size)⟩
 rw[HK.I];clear hown hrow hb2;go_wp2_with fail
 go_loopw[3,9] (λt i wr=>∃k:Nat,k<=l.length/\i=i_ j_ k/\∃a' cap',t=s_ a' k cap'/\da (wr.ownsRow w2.heap.size 131 2 (s_ a' k cap') k (bJ.flat ((l.take k).map (·.1)))/\B_ w2.heap.size w2 wr)) (λ_ i _=>l.length-(intOf i).toNat)
 case atStart=>exact ZbS
 case round=>
  obtain⟨k,hk,rfl,a',cap',rfl,HA⟩:=hrel;by_cases hlt:k<l.length
  .have qE:(0:Int)<=(k:Int):=zw
   have i1:(k:Int)<(l.length:Int):=zw
   obtain⟨p,hp⟩:∃p,l[k]? =o_ p:=⟨_,Kz hlt⟩
   obtain⟨g,ha,hc⟩:=(HR.I.below HA.I.2) k (dt p.2) Zdq;subst ha;unfold dt at hc;have HP:da (l[k]? =o_ p):=hp;obtain⟨s0,s1⟩:=kF ((HO.I.1.below HA.I.2).box p (KA hp));have kT:=HA.I.2.size;clear hp;go_wp2_with(at_builtin;refine KD _ rfl _ _ 41 rfl w2.heap.size 131 i0 _ 2 16 underlying41 HI.I.1 HI.I.2.1 HI.I.2.2.1 HI.I.2.2.2 rfl (by decide) (s_ a' k cap') k (bJ.flat ((l.take k).map (·.1))) rfl (HA.I.1.alloc _) ⟨wr.heap.size,0,n_⟩ 1 1 (bJ.vals p.1) (by rfl) rfl (KE (cs:=#[i_ j_ p.1.id,b_ p.1.up]) (t:=131) (fr:=(0,0)) (Kj wr _)) (by simp[bJ,rY,Value.oneCell']) Zb2 zw ZbI ?_;intro v' w5 hown' hgrow hnil jV;obtain⟨a5,im,rfl,-⟩:=cr hown';have HN:da (w5.ownsRow w2.heap.size 131 2 (s_ a5 (k+1) im) (k+1) (bJ.flat ((l.take (k+1)).map (·.1)))/\B_ w2.heap.size w2 w5):=⟨by rw[cj HP.I,Kl,bJ.dc];exact hown',(HA.I.2.alloc kT _).grown hgrow ZbI (λq hq=>(HA.I.1.lt q hq).1)⟩;clear hown' hgrow hnil jV);exact mi
  .exact jp
end
section
attribute [local go_sem ↓] Kc Kd
abbrev afB (q:af):List Nat:=blk q.am++(q.ae.filterMap aC.bt++(blk q.aK++(q.ai.filterMap aU.bt)))
abbrev afC (q:af):List Nat:=blk q.ax++(blk q.am++(q.ae.filterMap aC.bt++(blk q.aK++(q.ai.filterMap aU.bt))))
abbrev afw (q:af):List Nat:=blk q.ay++(blk q.ax++(blk q.am++(q.ae.filterMap aC.bt++(blk q.aK++(q.ai.filterMap aU.bt)))))
abbrev afo (q:af):List Nat:=blk q.bc++(blk q.ay++(blk q.ax++(blk q.am++(q.ae.filterMap aC.bt++(blk q.aK++(q.ai.filterMap aU.bt))))))
def ajy {w w':w_}{bj:Nat}{q:af}{Z A R:List Nat}(h:ap w bj q)(hbs:q.Mc=Z++(A++R))(hk:aI w w' A)(g:Nat)(bR:g∈Z\/g∈R):w'.heap[g]? =w.heap[g]?:=by
 have hnd:=h.nodup;rw[hbs]at hnd;obtain⟨-,h2,h3⟩:=Kf.1 hnd;obtain⟨-,-,h4⟩:=Kf.1 h2;have hb:g∈q.Mc/\g∉A:=by
  rw[hbs];rcases bR with bR|bR
  .exact ⟨Lz _ bR,λhA=>h3 g bR g (Lz _ hA) rfl⟩
  .exact ⟨Ly _ (Ly _ bR),λhA=>h4 g hA g bR rfl⟩
 exact hk.same g (h.lt g hb.1).2 hb.2
def ap.As {w w':w_}{bj:Nat}{q:af}{l:List ao}(h:ap w bj q)(ho:w'.ownsRow bj 125 12 (s_ q.aN q.L8.length q.aW) q.L8.length (bg.flat l))(hl:l.length=q.L8.length)(hm:∀y∈l,aR.cO w' bj y)(hki:l.filterMap aR.bt=q.L8.filterMap aR.bt)(hk:aI w w' (blk q.aN++q.L8.filterMap aR.bt)):
  ap w' bj ({q with L8:=l}:af)/\({q with L8:=l}:af).Mc=q.Mc:=by
 have hbs:q.Mc=[]++((blk q.aN++q.L8.filterMap aR.bt)++(afo q)):=ZdE
 have rN:({q with L8:=l}:af).Mc=q.Mc:=by simp only[af.Mc,hki]
 have hs:=ajy h hbs hk;refine⟨⟨Zey,aL h.aj λg bR=>hs g (.inr Zcm),aL h.L9 λg bR=>hs g (.inr Zcm),aL h.ag λg bR=>hs g (.inr Zcm),aL h.ae λg bR=>hs g (.inr Zcm),aL h.ai λg bR=>hs g (.inr Zcm),hm,λy hy=>(h.eE y hy).same λg hk=>hs g (.inr ZbW),λy hy=>(h.eR y hy).same λg hk=>hs g (.inr ZbW),?_⟩,rN⟩;rw[rN];exact h.nodup
def ap.DT {w w':w_}{bj:Nat}{q:af}{l:List bD}(h:ap w bj q)(ho:w'.ownsRow bj 128 3 (s_ q.bc q.aj.length q.bF) q.aj.length (dm.flat l))(hl:l.length=q.aj.length)(hk:aI w w' (blk q.bc)):
  ap w' bj ({q with aj:=l}:af)/\({q with aj:=l}:af).Mc=q.Mc:=by
 have hbs:q.Mc=(blk q.aN++q.L8.filterMap aR.bt)++((blk q.bc)++(afw q)):=ZdE
 have rN:({q with aj:=l}:af).Mc=q.Mc:=by rfl
 have hs:=ajy h hbs hk;refine⟨⟨aL h.L8 λg bR=>hs g (.inl Zcm),Zey,aL h.L9 λg bR=>hs g (.inr Zcm),aL h.ag λg bR=>hs g (.inr Zcm),aL h.ae λg bR=>hs g (.inr Zcm),aL h.ai λg bR=>hs g (.inr Zcm),λy hy=>(h.eI y hy).same λg hk=>hs g (.inl ZbW),λy hy=>(h.eE y hy).same λg hk=>hs g (.inr ZbW),λy hy=>(h.eR y hy).same λg hk=>hs g (.inr ZbW),?_⟩,rN⟩;rw[rN];exact h.nodup
def ap.xA {w w':w_}{bj:Nat}{q:af}{l:List aB}(h:ap w bj q)(ho:w'.ownsRow bj 131 2 (s_ q.ay q.L9.length q.aO) q.L9.length (bJ.flat l))(hl:l.length=q.L9.length)(hk:aI w w' (blk q.ay)):
  ap w' bj ({q with L9:=l}:af)/\({q with L9:=l}:af).Mc=q.Mc:=by
 have hbs:q.Mc=(blk q.aN++q.L8.filterMap aR.bt++blk q.bc)++((blk q.ay)++(afC q)):=ZdE
 have rN:({q with L9:=l}:af).Mc=q.Mc:=by rfl
 have hs:=ajy h hbs hk;refine⟨⟨aL h.L8 λg bR=>hs g (.inl Zcm),aL h.aj λg bR=>hs g (.inl Zcm),Zey,aL h.ag λg bR=>hs g (.inr Zcm),aL h.ae λg bR=>hs g (.inr Zcm),aL h.ai λg bR=>hs g (.inr Zcm),λy hy=>(h.eI y hy).same λg hk=>hs g (.inl ZbW),λy hy=>(h.eE y hy).same λg hk=>hs g (.inr ZbW),λy hy=>(h.eR y hy).same λg hk=>hs g (.inr ZbW),?_⟩,rN⟩;rw[rN];exact h.nodup
def ap.xM {w w':w_}{bj:Nat}{q:af}{l:List az}(h:ap w bj q)(ho:w'.ownsRow bj 134 3 (s_ q.ax q.ag.length q.aP) q.ag.length (bG.flat l))(hl:l.length=q.ag.length)(hk:aI w w' (blk q.ax)):
  ap w' bj ({q with ag:=l}:af)/\({q with ag:=l}:af).Mc=q.Mc:=by
 have hbs:q.Mc=(blk q.aN++q.L8.filterMap aR.bt++blk q.bc++blk q.ay)++((blk q.ax)++(afB q)):=ZdE
 have rN:({q with ag:=l}:af).Mc=q.Mc:=by rfl
 have hs:=ajy h hbs hk;refine⟨⟨aL h.L8 λg bR=>hs g (.inl Zcm),aL h.aj λg bR=>hs g (.inl Zcm),aL h.L9 λg bR=>hs g (.inl Zcm),Zey,aL h.ae λg bR=>hs g (.inr Zcm),aL h.ai λg bR=>hs g (.inr Zcm),λy hy=>(h.eI y hy).same λg hk=>hs g (.inl ZbW),λy hy=>(h.eE y hy).same λg hk=>hs g (.inr ZbW),λy hy=>(h.eR y hy).same λg hk=>hs g (.inr ZbW),?_⟩,rN⟩;rw[rN];exact h.nodup
end
section
def ce (id:Int)(f:aD->aD)(l:List aD):List aD:=l.map λx=>if x.id=id then f x else x
def hU (p:aE)(id:Int)(ok:aD->Bool)(f:aD->aD)(nx:Int):Option aE:=
 if bK p then match p.L8.find? (λx=>decide (x.id=id))with
  |some y=>if ok y then o_ {p with next:=nx,L8:=ce id f p.L8}else n_
  |none=>n_
 else n_
def cN:aE:=⟨0,0,[],[],[],[],[],[]⟩
def gI (w:w_)(r:Option aE)(e:Ending)(w':w_):Prop:=∃q:af,e=r_ (u_ #[a_ q.cells,b_ r.isSome])/\ap w' w.heap.size q/\q.pure=r.getD cN/\B_ w.heap.size w w'
def Ai (w:w_)(bj:Nat):ap w bj ⟨0,0,[],n_,0,[],n_,0,[],n_,0,[],n_,0,[],n_,0,[],n_,0⟩:=
 ⟨Ke _ _ _ _,Ke _ _ _ _,Ke _ _ _ _,Ke _ _ _ _,Ke _ _ _ _,Ke _ _ _ _,(λx hx=>Zcl),(λx hx=>Zcl),(λx hx=>Zcl),by simp[af.Mc,blk]⟩
def ca {w w':w_}{r:Option aE}(h:r=n_)(hb:B_ w.heap.size w w'):gI w r (r_ (u_ #[a_ ar,b_ false])) w':=by
 subst h;exact⟨_,rfl,Ai _ _,rfl,hb⟩
def vO {p:aE}{id nx:Int}{ok:aD->Bool}{f:aD->aD}(h:bK p=false):hU p id ok f nx=n_:=by simp[hU,h]
def tg {p:aE}{id nx:Int}{ok:aD->Bool}{f:aD->aD}(h:p.L8.find? (λx=>decide (x.id=id))=n_):hU p id ok f nx=n_:=by
 unfold hU
 split
 .rw [h]
 .rfl
def sx {p:aE}{id nx:Int}{ok:aD->Bool}{f:aD->aD}{y:aD}(h:p.L8.find? (λx=>decide (x.id=id))=o_ y)(ho:ok y=false):hU p id ok f nx=n_:=by
 unfold hU
 split
 .rw [h];simp[ho]
 .rfl
def tT {p:aE}{id nx:Int}{ok:aD->Bool}{f:aD->aD}{y:aD}(hp:bK p=true)(h:p.L8.find? (λx=>decide (x.id=id))=o_ y)(ho:ok y=true):hU p id ok f nx=o_ {p with next:=nx,L8:=ce id f p.L8}:=by
 unfold hU;rw[if_pos hp,h];simp[ho]
def db {α:Type}{num:α->Int}{ok:α->Bool}:∀{l:List α}{last:Int},aw num ok last l=true->(∀x∈l,last<num x)/\l.Pairwise (λx y=>num x<num y)
 |[],_,_=>⟨(λx hx=>Zcl),List.Pairwise.nil⟩
 |x::r,last,h=>by
  simp only[aw,J7,decide_eq_true_eq]at h;obtain⟨h1,h2⟩:=db h.2;exact Zas
def rp {l:List aD}{f:aD->aD}{id:Int}{n:Nat}{y:aD}(hr:l.Pairwise (λx y=>x.id<y.id))(hn:l[n]? =o_ y)(hy:y.id=id):ce id f l=l.set n (f y):=by
 induction l generalizing n with
 |nil=>simp at hn
 |cons x r ih=>
  obtain⟨h1,h2⟩:=LM.1 hr;cases n with
  |zero=>
   simp only[List.getElem?_cons_zero,LF]at hn;subst hn;have e:ce id f r=r:=by
    unfold ce
    conv=>rhs;rw[<-List.map_id r]
    refine Lw λz hz=>?_
    rw[if_neg (by have:=h1 z hz;omega)];rfl
   simp only[List.set_cons_zero]
   show(if x.id=id then f x else x)::ce id f r=_
   rw[if_pos hy,e]
  |succ n=>
   simp only[List.getElem?_cons_succ]at hn;have hlt:=h1 y (KA hn);simp only[List.set_cons_succ]
   show(if x.id=id then f x else x)::ce id f r=_
   rw[if_neg zw,ih h2 hn]
def sc {p:aE}(h:bK p=true):p.L8.Pairwise (λx y=>x.id<y.id):=(db ((ch _).1 h).L8).2
def GM (x:aD):Prop:=(x.prog.length<=1048576/\(∀o∈x.prog,o.2.2.2.size<=1048576)/\x.held.size<=1048576/\x.got.size<=1048576)/\(Lit.int j_ x.id).wf=true/\(Lit.int j_ x.on).wf=true/\(Lit.int j_ x.RU).wf=true
def IZ {p:aE}(h:bK p=true):(Lit.int j_ p.next).wf=true:=by
 have h2:=bz.1 ((ch _).1 h).next;have e1:IntKind.min j_<=0:=by decide
 have e2:2000000000<=IntKind.max j_:=by decide
 simp only[Lit.wf,J7,decide_eq_true_eq];omega
def hY:cN.Small:=⟨Ky _,Ky _,Ky _,Ky _,Ky _,Ky _,(λx hx=>Zcl),(λx hx=>Zcl),(λx hx=>Zcl),(λx hx=>Zcl),(λx hx=>Zcl),(λx hx=>Zcl)⟩
def qQ {p:aE}{id nx:Int}{ok:aD->Bool}{f:aD->aD}:(hU p id ok f nx).getD cN=cN\/bK p=true/\(hU p id ok f nx).getD cN={p with next:=nx,L8:=ce id f p.L8}:=by
 unfold hU
 split
 .rename_i hp
  split
  .split
   .exact .inr ⟨hp,rfl⟩
   .exact .inl rfl
  .exact .inl rfl
 .exact .inl rfl
def zJ {p:aE}{id nx:Int}{ok:aD->Bool}{f:aD->aD}(h:p.Small)(hf:bK p=true->∀y∈p.L8,GM y->GM (f y)):((hU p id ok f nx).getD cN).Small:=by
 rcases qQ (p:=p) (id:=id) (nx:=nx) (ok:=ok) (f:=f)with e|⟨hp,e⟩
 .rw [e];exact hY
 .rw [e]
  refine⟨by simpa[ce]using h.dl,h.fx,h.cD,h.cC,h.cb,h.dH,λx hx=>?_,h.aj,h.L9,h.ag,h.ae,h.ai⟩;obtain⟨y,hy,rfl⟩:=Lr.1 hx
  split
  .exact hf hp y hy (h.L8 y hy)
  .exact h.L8 y hy
def ap.kB {w:w_}{bj n j gs:Nat}{q:af}{x y:ao}{vs:List v_}(h:ap w bj q)(hx:q.L8[n]? =o_ x)(ha:q.aN=o_ ⟨gs,0,n_⟩)(hy:y.prog=x.prog/\y.aY=x.aY/\y.bH=x.bH)
  (hj:j+vs.length<=12)(h1:∀r,r<vs.length->(bg.vals y)[j+r]? =vs[r]?)(h2:∀r,r<12->¬(j<=r/\r<j+vs.length)->(bg.vals y)[r]? =(bg.vals x)[r]?):
  ap (bn w gs (n*12+j) vs) bj ({q with L8:=q.L8.set n y}:af)/\aI w (bn w gs (n*12+j) vs) [gs]/\({q with L8:=q.L8.set n y}:af).Mc=q.Mc:=by
 have hn:n<q.L8.length:=(Lj.1 hx).1;have hsp:=kL hx;have hset:q.L8.set n y=q.L8.take n++y::q.L8.drop (n+1):=by rw[RJ,if_pos hn]
 have hl:(q.L8.take n).length=n:=by rw[Lk];omega
 have hkb:aI w (bn w gs (n*12+j) vs) [gs]:=aI.set _ zy;have ho:=h.L8;rw[ha]at ho;obtain⟨g,hg,hrow⟩:=bl.fX (K:=bg) ho zw;cases hg;rw[hsp]at hrow;have h5:=bl.part (K:=bg) (x:=x) (y:=y) (j:=j) (vs:=vs) hrow hj h1 h2;rw[hl,show bg.n=12 from rfl,<-hset]at h5;have h6:=h5.owns;have hki:(q.L8.set n y).filterMap aR.bt=q.L8.filterMap aR.bt:=by
  rw[hset]
  conv=>rhs;rw[hsp]
  have e:aR.bt y=aR.bt x:=by show y.aY.map (·.block)=x.aY.map (·.block);rw[hy.2.1]
  simp only[LW,List.filterMap_cons,e]
 have Pp:aR.cO w bj y:=by
  have h7:=h.eI x (KA hx)
  show w.ownsRow bj _ 4 (s_ y.aY y.prog.length y.bH) y.prog.length (fk.flat y.prog)
  rw[hy.1,hy.2.1,hy.2.2];exact h7
 have EI:∀z∈q.L8,∀b,aR.bt z=o_ b->b≠gs:=λz hz b hb e=>by
  have h8:=h.nodup;rw[af.Mc,ha]at h8;have h9:=(Kf.1 h8).2.2 gs Zee b (Lz _ (Lq.2 ⟨z,hz,hb⟩));exact h9 e.symm
 have hsame:∀b,b≠gs->(bn w gs (n*12+j) vs).heap[b]? =w.heap[b]?:=λb hb=>de _ hb
 have hm:∀z∈q.L8.set n y,aR.cO (bn w gs (n*12+j) vs) bj z:=λz hz=>by
  rcases PO hz with hz|rfl
  .exact (h.eI z hz).same λb hb=>hsame b (EI z hz b hb)
  .refine Pp.same λb hb=>hsame b (EI x (KA hx) b ?_)
   rw[<-hb]
   show x.aY.map (·.block)=z.aY.map (·.block)
   rw[hy.2.1]
 have ht:=h.As (w':=bn w gs (n*12+j) vs) (l:=q.L8.set n y) (by rw[ha];rw[LI]at h6;exact h6) zy hm hki (hkb.mono (by simp[ha,blk]));exact⟨ht.1,hkb,ht.2⟩
def Di {α:Type}{N:gd α}{w w':w_}{bj:Nat}{x:α}(h:N.cO w bj x)(hb:B_ w.heap.size w w'):N.cO w' bj x:=h.same λg hk=>hb.block g (h.lt hk).2
def o8 (W:w_)(X b:Nat)(q:af):Prop:=av W X q/\ap W b q
def rT (W:w_)(X b:Nat)(x:ao):Prop:=jx W X x/\aR.cO W b x
section
variable {p q:af}{x:ao}{w W W':w_}{X b:Nat}{bs:List Nat}
def o8.below (h:o8 W X b q)(hb:B_ W.heap.size W W'):o8 W' X b q:=⟨h.1.below hb,h.2.below hb⟩
def o8.kept (h:o8 W X b q)(hk:aI W W' bs)(hs:X∉bs)(ho:∀g∈q.Mc,g∉bs):o8 W' X b q:=⟨(hk.same _ (J2.1 h.1).1 hs).trans h.1,h.2.same λg hg=>hk.same g (h.2.lt g hg).2 (ho g hg)⟩
def rT.below (h:rT W X b x)(hb:B_ W.heap.size W W'):rT W' X b x:=⟨h.1.below hb,Di h.2 hb⟩
def rT.kept (h:rT W X b x)(hk:aI W W' bs)(hs:X∉bs)(ho:∀g∈blk x.aY,g∉bs):rT W' X b x:=⟨(hk.same _ (J2.1 h.1).1 hs).trans h.1,h.2.same λg hg=>hk.same g (h.2.lt hg).2 (ho g (fZ.2 hg))⟩
def av.lt {W:w_}{X:Nat}{q:af}(h:av W X q):X<W.heap.size:=(J2.1 h).1
def jx.lt {W:w_}{X:Nat}{x:ao}(h:jx W X x):X<W.heap.size:=(J2.1 h).1
end
end
section
attribute [local go_sem ↓] Kc Kd


end
section
open Go.Maps
attribute [local go_sem ↓] Kc Kd
structure eA.ep (w:w_)(k:eA):Prop where
 fn:jq.ep w k.vb k.fn
 parts:kp.ep w k.qn k.parts
 eC:hM.ep w k.qi k.eC
def eA.ep.below {w w':w_}{k:eA}(h:k.ep w)(hb:B_ w.heap.size w w'):k.ep w':=⟨h.fn.below hb,h.parts.below hb,h.eC.below hb⟩
def sm (w:w_)(a a':Option d_)(l l':List af)(W:w_):Prop:=kp.bU W a l/\kp.bU W a' l'/\B_ w.heap.size w W
def sm.below {w W W2:w_}{a a':Option d_}{l l':List af}(h:sm w a a' l l' W)(hb:B_ W.heap.size W W2):sm w a a' l l' W2:=⟨h.1.below hb,h.2.1.below hb,h.2.2.trans (hb.mono h.2.2.size)⟩
structure VM (w w':w_)(l I:List af):Prop where
 row:w'.ownsRow w.heap.size 46 8 (s_ (o_ ⟨w.heap.size,0,n_⟩) l.length l.length) l.length (kp.flat I)
 alike:I.map (·.pure)=l.map (·.pure)
 mine:∀p∈I,ap w' (w.heap.size+1) p
 nodup:(I.flatMap af.Mc).Nodup
 cd:B_ w.heap.size w w'
structure qg (w wr:w_)(l I:List af)(k:Nat):Prop where
 fill:gb kp 46 w wr l.length I
 len:I.length=k
 alike:I.map (·.pure)=(l.take k).map (·.pure)
 mine:∀p∈I,ap wr (w.heap.size+1) p
 nodup:(I.flatMap af.Mc).Nodup
section
variable {w wr w':w_}{l I:List af}{k:Nat}{x q:af}
def qg.start (h:gb kp 46 w wr l.length []):qg w wr l [] 0:=⟨h,rfl,rfl,(λx hx=>Zcl),List.nodup_nil⟩
def qg.below (h:qg w wr l I k)(hb:B_ wr.heap.size wr w'):qg w w' l I k:=⟨h.fill.below hb,h.len,h.alike,λx hx=>(h.mine x hx).below hb,h.nodup⟩
def qg.more (h:qg w w' l I k)(hlt:k<l.length)(hx:l[k]? =o_ x)(ho:ap w' wr.heap.size q)(hp:q.pure=x.pure)(hr:qg w wr l I k):qg w (bn w' w.heap.size (k*8) (kp.vals q)) l (I++[q]) (k+1):=by
 have hf:=h.fill.more (by rw[h.len];exact hlt) q;rw[h.len]at hf;have hlw:=hr.fill.lt;refine⟨hf,by rw[Lf,h.len];rfl,?_,λy hy=>?_,?_⟩
 .rw [cj hx,Kl,Kl,h.alike]
  simp[hp]
 .have hmy:ap w' (w.heap.size+1) y:=by
   rcases Kg.1 hy with hy|hy
   .exact h.mine y hy
   .rw [KB.1 hy]
    exact ho.lower zw
  exact hmy.same λg hg=>de _ (by have:=(hmy.lt g hg).1;omega)
 .rw [List.flatMap_append,Kf]
  refine⟨h.nodup,by simpa using ho.nodup,λg hg g' hg' e=>?_⟩;obtain⟨y,hy,hgy⟩:=Rt.1 hg;have h1:=((hr.mine y hy).lt g hgy).2;have h2:=(ho.lt g' (by simpa using hg')).1;omega
def qg.done (h:qg w wr l I l.length)(hm:l.length<=maxLen):VM w wr l I:=
 ⟨h.fill.done h.len hm,by have:=h.alike;rwa[LQ]at this,h.mine,h.nodup,h.fill.cd⟩
end
abbrev T9:Array v_:=#[i_ j_ 0,i_ j_ 0,s_ n_ 0 0,s_ n_ 0 0,s_ n_ 0 0]
section
variable {w W W2:w_}{k:eA}{cur:Array v_}{F G:w_->Prop}
end
structure gp (w:w_)(bj:Nat)(k:eA):Prop where
 fn:w.ownsRow bj 62 3 (s_ k.vb k.fn.length k.Te) k.fn.length (jq.flat k.fn)
 parts:w.ownsRow bj 46 8 (s_ k.qn k.parts.length k.sa) k.parts.length (kp.flat k.parts)
 eC:w.ownsRow bj 37 4 (s_ k.qi k.eC.length k.tC) k.eC.length (hM.flat k.eC)
 mine:∀p∈k.parts,ap w bj p
 nodup:(blk k.vb++(blk k.qn++(blk k.qi++k.parts.flatMap af.Mc))).Nodup
structure EqK (w:w_)(X:Nat)(k k':eA)(W:w_):Prop where
 a:dr w X k W
 b:dr w (X+1) k' W
def EqK.below {w W W2:w_}{X:Nat}{k k':eA}(h:EqK w X k k' W)(hb:B_ W.heap.size W W2):EqK w X k k' W2:=⟨h.a.below hb,h.b.below hb⟩
structure kd.Small (k:kd):Prop where
 Ts:k.fn.length<=1048576
 sC:k.parts.length<=1048576
 w8:k.eC.length<=1048576
 win:∀j,-9223372036854775808<=sz k.fn j/\sz k.fn j<=9223372036854775807
 parts:∀p∈k.parts,p.Small
 eC:∀c∈k.eC,c.Wf
def pC {k:eA}(h:k.pure.Small){p:af}(hp:p∈k.parts):p.pure.Small:=h.parts p.pure (Lr.2 ⟨p,hp,rfl⟩)
def Ug {k:eA}(h:k.pure.Small):k.Fit:=
 ⟨h.Ts,by simpa[eA.pure]using h.sC,h.w8,h.win,λp hp=>⟨dV (pC h hp),λx hx=>(cY (pC h hp) hx).1⟩⟩
def Vz {w:w_}{p:af}(h:af.At w p):∀r∈il p,Row w r.1 r.2:=λr hr=>by
 simp only[il,Kg,Rt,Kt,Ku,or_false]at hr;rcases hr with((hr|⟨x,hx,hr⟩)|⟨x,hx,hr⟩)|⟨x,hx,hr⟩
 .rcases hr with rfl|rfl|rfl|rfl|rfl|rfl
  .exact h.1.1
  .exact h.2.1.1
  .exact h.2.2.1.1
  .exact h.2.2.2.1.1
  .exact h.2.2.2.2.1.1
  .exact h.2.2.2.2.2.1
 .exact h.1.2 x hx r hr
 .exact h.2.2.2.2.1.2 x hx r hr
 .exact h.2.2.2.2.2.2 x hx r hr
def gp.at {w:w_}{bj:Nat}{k:eA}(h:gp w bj k):eA.At w k:=
 ⟨⟨nP h.fn,λx _ r hr=>by simp[jq]at hr⟩,⟨nP h.parts,λp hp=>Vz (h.mine p hp).at⟩,⟨nP h.eC,λx _ r hr=>by simp[hM]at hr⟩⟩
def gp.below {w w':w_}{bj:Nat}{k:eA}(h:gp w bj k)(hb:B_ w.heap.size w w'):gp w' bj k:=
 ⟨cR h.fn hb,cR h.parts hb,cR h.eC hb,λp hp=>(h.mine p hp).below hb,h.nodup⟩
def A2:Prop:=∀(k:eA)(g bj:Nat)(w:w_),k.pure.Small->gp w bj k->(k.vb=o_ ⟨g,0,n_⟩/\g<w.heap.size)->k_ J3 12 #[a_ k.row] w λe w'=>e=r_ (b_ (eP k.pure))/\B_ w.heap.size w w'
end
section
structure Zg (k:eA)(We w:w_)(b0 d0 f b1 d1 b3 d3 e:Bool)(g0 g1 o:Nat)(a0 a1:Option d_)(c0 c1:Nat):Prop where
 cd:B_ We.heap.size We w
 src:Tk w We.heap.size k
 ret:w.heap[We.heap.size+1]? =o_ (c_ T9 30)
 s0:su w (We.heap.size+2) 62 3 k.fn.length (jq.flat k.fn) b0 d0 g0 a0 c0
 s1:su w (We.heap.size+2) 37 4 k.eC.length (hM.flat k.eC) b1 d1 g1 a1 c1
 I:b3=true->w.heap[o]? =o_ (c_ (bif d3 then#[i_ j_ k.bE,i_ j_ k.major,s_ a0 k.fn.length c0,s_ n_ 0 0,s_ a1 k.eC.length c1]else T9) 30)
 cl:(e=true->f=true/\d1=true)/\(d3=true->e=true/\b3=true)/\(f=true->d0=true)
 size:We.heap.size+2<=w.heap.size
 pR:mJ (We.heap.size+2) w.heap.size (four (bM b0 d0 g0 a0) (bM b1 d1 g1 a1) [] (bif b3 then[o]else[]))
 som:d0=true->∃q,a0=o_ ⟨q,0,n_⟩
section
variable {k:eA}{We w:w_}{b0 d0 f b1 d1 b3 d3 e:Bool}{g0 g1 o:Nat}{a0 a1:Option d_}{c0 c1:Nat}
def Zg.aaZ (h:Zg k We w false d0 f b1 d1 b3 d3 e g0 g1 o a0 a1 c0 c1):Zg k We (w.alloc (c_ #[] 62)) true d0 f b1 d1 b3 d3 e w.heap.size g1 o a0 a1 c0 c1:=by
 have hb:B_ w.heap.size w (w.alloc (c_ #[] 62)):=(Kp _ _).alloc (Ki _) _;have hlt:∀i,∀q∈four (bM false d0 g0 a0) (bM b1 d1 g1 a1) [] (bif b3 then[o]else[]) i,q<w.heap.size:=λi q hq=>(h.pR.xy i q hq).2
 exact⟨h.cd.trans (hb.mono h.cd.size),(hb.block _ Zb4).trans h.src,(hb.block _ Zb4).trans h.ret,⟨λ_ hd=>⟨Kj _ _,h.size⟩,λhd=>aL (h.s0.done hd) λq hq=>hb.block q (hlt 0 q ZcV)⟩,h.s1.same λq hq=>hb.block q (hlt 1 q hq),λe=>(hb.block _ (hlt 3 o ZcE)).trans (h.I e),h.cl,ZcR,h.pR.up 0 (λj hj=>ZbO) (λq hq=>by cases d0 with|true=>exact .inl Zch|false=>exact .inr Zch) zy h.size,h.som⟩
def Zg.abg (h:Zg k We w b0 d0 f false d1 b3 d3 e g0 g1 o a0 a1 c0 c1):Zg k We (w.alloc (c_ #[] 37)) b0 d0 f true d1 b3 d3 e g0 w.heap.size o a0 a1 c0 c1:=by
 have hb:B_ w.heap.size w (w.alloc (c_ #[] 37)):=(Kp _ _).alloc (Ki _) _;have hlt:∀i,∀q∈four (bM b0 d0 g0 a0) (bM false d1 g1 a1) [] (bif b3 then[o]else[]) i,q<w.heap.size:=λi q hq=>(h.pR.xy i q hq).2
 exact⟨h.cd.trans (hb.mono h.cd.size),(hb.block _ Zb4).trans h.src,(hb.block _ Zb4).trans h.ret,h.s0.same λq hq=>hb.block q (hlt 0 q hq),⟨λ_ hd=>⟨Kj _ _,h.size⟩,λhd=>aL (h.s1.done hd) λq hq=>hb.block q (hlt 1 q ZcV)⟩,λe=>(hb.block _ (hlt 3 o ZcE)).trans (h.I e),h.cl,ZcR,h.pR.up 1 (λj hj=>ZbO) (λq hq=>by cases d1 with|true=>exact .inl Zch|false=>exact .inr Zch) zy h.size,h.som⟩
def Zg.aa1 {w2:w_}{a:Option d_}{c:Nat}(h:Zg k We w true false f b1 d1 b3 d3 e g0 g1 o a0 a1 c0 c1)(ho:w2.ownsRow (We.heap.size+2) 62 3 (s_ a k.fn.length c) k.fn.length (jq.flat k.fn))(hg:w.grownBy w2 (o_ g0))(hq:∀q∈blk a,q=g0\/q=w.heap.size)(hs:∃q,a=o_ ⟨q,0,n_⟩):Zg k We w2 true true f b1 d1 b3 d3 e g0 g1 o a a1 c c1:=by
 have hlt:∀i,∀q∈four (bM true false g0 a0) (bM b1 d1 g1 a1) [] (bif b3 then[o]else[]) i,q<w.heap.size:=λi q hq=>(h.pR.xy i q hq).2
 have hgl:We.heap.size+2<=g0/\g0<w.heap.size:=h.pR.xy 0 g0 Zei;have hne:∀i,i≠0->∀q∈four (bM true false g0 a0) (bM b1 d1 g1 a1) [] (bif b3 then[o]else[]) i,w2.heap[q]? =w.heap[q]?:=λi hi q hq=>hg.block q (hlt i q hq) λe=>h.pR.apart i 0 hi q hq Zdf
 have hbe:B_ We.heap.size We w2:=h.cd.grown hg Zb4 (λk hk=>ZdW);have hf:f=false:=by cases hx:f with|false=>rfl|true=>have:=h.cl.2.2 hx;simp at this
 have he:e=false:=by cases hx:e with|false=>rfl|true=>have:=(h.cl.1 hx).1;rw[hf]at this;cases this
 have hd:d3=false:=ZdF
 subst he hd hf;have hz:=hg.size;have hsz:=h.size;refine⟨hbe,(hg.block _ zw (λe=>Zcb)).trans h.src,(hg.block _ zw (λe=>Zcb)).trans h.ret,⟨(λ_ hd=>by cases hd),λ_=>ho⟩,h.s1.same λq hq=>hne 1 (by decide) q hq,λe=>(hne 3 (by decide) o ZcE).trans (h.I e),⟨(λe=>Zdk),(λe=>Zdk),λe=>Zdk⟩,zw,?_,λ_=>hs⟩;by_cases hnew:∃q∈blk a,q=w.heap.size
 .exact Zbs
 .have hall:∀q∈blk a,q=g0:=λq hq'=>(hq q hq').resolve_right λe=>hnew ⟨q,hq',e⟩
  refine mJ.mono (n:=w.heap.size) ⟨λi i2 hij q hi hi2=>?_,λi q hi=>?_⟩ hz
  .have e1:∀i,∀q∈four (bM true true g0 a) (bM b1 d1 g1 a1) [] (bif b3 then[o]else[]) i,q∈four (bM true false g0 a0) (bM b1 d1 g1 a1) [] (bif b3 then[o]else[]) i:=λi q hq'=>by
    by_cases ei:i=0
    .exact I_
    .exact PM
   exact Zac
  .by_cases ei:i=0
   .exact PC
   .exact CE
def Zg.aa2 {w2:w_}{a:Option d_}{c:Nat}(h:Zg k We w b0 d0 f true false b3 d3 e g0 g1 o a0 a1 c0 c1)(ho:w2.ownsRow (We.heap.size+2) 37 4 (s_ a k.eC.length c) k.eC.length (hM.flat k.eC))(hg:w.grownBy w2 (o_ g1))(hq:∀q∈blk a,q=g1\/q=w.heap.size):Zg k We w2 b0 d0 f true true b3 d3 e g0 g1 o a0 a c0 c:=by
 have hlt:∀i,∀q∈four (bM b0 d0 g0 a0) (bM true false g1 a1) [] (bif b3 then[o]else[]) i,q<w.heap.size:=λi q hq=>(h.pR.xy i q hq).2
 have hgl:We.heap.size+2<=g1/\g1<w.heap.size:=h.pR.xy 1 g1 Zei;have hne:∀i,i≠1->∀q∈four (bM b0 d0 g0 a0) (bM true false g1 a1) [] (bif b3 then[o]else[]) i,w2.heap[q]? =w.heap[q]?:=λi hi q hq=>hg.block q (hlt i q hq) λe=>h.pR.apart i 1 hi q hq Zdf
 have hbe:B_ We.heap.size We w2:=h.cd.grown hg Zb4 (λk hk=>ZdW);have he:e=false:=by cases hx:e with|false=>rfl|true=>have:=(h.cl.1 hx).2;simp at this
 have hd:d3=false:=ZdF
 subst he hd;have hz:=hg.size;have hsz:=h.size;refine⟨hbe,(hg.block _ zw (λe=>Zcb)).trans h.src,(hg.block _ zw (λe=>Zcb)).trans h.ret,h.s0.same λq hq=>hne 0 (by decide) q hq,⟨(λ_ hd=>by cases hd),λ_=>ho⟩,λe=>(hne 3 (by decide) o ZcE).trans (h.I e),⟨(λe=>Zdk),(λe=>Zdk),h.cl.2.2⟩,zw,?_,h.som⟩;by_cases hnew:∃q∈blk a,q=w.heap.size
 .exact Zbt
 .have hall:∀q∈blk a,q=g1:=λq hq'=>(hq q hq').resolve_right λe=>hnew ⟨q,hq',e⟩
  refine mJ.mono (n:=w.heap.size) ⟨λi i2 hij q hi hi2=>?_,λi q hi=>?_⟩ hz
  .have e1:∀i,∀q∈four (bM b0 d0 g0 a0) (bM true true g1 a) [] (bif b3 then[o]else[]) i,q∈four (bM b0 d0 g0 a0) (bM true false g1 a1) [] (bif b3 then[o]else[]) i:=λi q hq'=>by
    by_cases ei:i=1
    .exact I_
    .exact PM
   exact Zac
  .by_cases ei:i=1
   .exact PC
   .exact CE
def Zg.aa9 (h:Zg k We w b0 d0 f b1 d1 false false e g0 g1 o a0 a1 c0 c1):Zg k We (w.alloc (c_ T9 30)) b0 d0 f b1 d1 true false e g0 g1 w.heap.size a0 a1 c0 c1:=by
 have hb:B_ w.heap.size w (w.alloc (c_ T9 30)):=(Kp _ _).alloc (Ki _) _;have hlt:∀i,∀q∈four (bM b0 d0 g0 a0) (bM b1 d1 g1 a1) [] (bif false then[o]else[]) i,q<w.heap.size:=λi q hq=>(h.pR.xy i q hq).2
 exact⟨h.cd.trans (hb.mono h.cd.size),(hb.block _ Zb4).trans h.src,(hb.block _ Zb4).trans h.ret,h.s0.same λq hq=>hb.block q (hlt 0 q hq),h.s1.same λq hq=>hb.block q (hlt 1 q hq),λ_=>Kj _ _,⟨h.cl.1,(λe=>Zdk),h.cl.2.2⟩,ZcR,h.pR.up 3 (λj hj=>ZbO) (λq hq=>.inr (by simpa[four]using hq)) zy h.size,h.som⟩
def Zg.frame (h:Zg k We w b0 d0 false b1 d1 b3 d3 e g0 g1 o a0 a1 c0 c1)(h0:d0=true):Zg k We w b0 d0 true b1 d1 b3 d3 e g0 g1 o a0 a1 c0 c1:=⟨h.cd,h.src,h.ret,h.s0,h.s1,h.I,⟨λhe=>⟨rfl,(h.cl.1 he).2⟩,h.cl.2.1,λ_=>h0⟩,h.size,h.pR,h.som⟩
def Zg.build (h:Zg k We w b0 d0 f b1 d1 b3 d3 false g0 g1 o a0 a1 c0 c1)(h0:f=true)(h1:d1=true):Zg k We w b0 d0 f b1 d1 b3 d3 true g0 g1 o a0 a1 c0 c1:=⟨h.cd,h.src,h.ret,h.s0,h.s1,h.I,⟨λ_=>⟨h0,h1⟩,λhd=>⟨rfl,(h.cl.2.1 hd).2⟩,h.cl.2.2⟩,h.size,h.pR,h.som⟩
def Zg.store (h:Zg k We w b0 d0 f b1 d1 true false true g0 g1 o a0 a1 c0 c1):Zg k We (w.setRow o #[i_ j_ k.bE,i_ j_ k.major,s_ a0 k.fn.length c0,s_ n_ 0 0,s_ a1 k.eC.length c1]) b0 d0 f b1 d1 true true true g0 g1 o a0 a1 c0 c1:=by
 have ho:=h.pR.xy 3 o ZdR;have hne:∀q,q≠o->(w.setRow o #[i_ j_ k.bE,i_ j_ k.major,s_ a0 k.fn.length c0,s_ n_ 0 0,s_ a1 k.eC.length c1]).heap[q]? =w.heap[q]?:=λq hq=>KH _ _ _ _ hq
 have hap:∀i,i≠3->∀q∈four (bM b0 d0 g0 a0) (bM b1 d1 g1 a1) [] (bif true then[o]else[]) i,q≠o:=λi hi q hq e=>h.pR.apart i 3 hi q hq (by subst e;simp[four])
 have hsz:=h.size;exact⟨q_ h.cd zw _,(hne _ zw).trans h.src,(hne _ zw).trans h.ret,h.s0.same λq hq=>hne q (hap 0 (by decide) q hq),h.s1.same λq hq=>hne q (hap 1 (by decide) q hq),λ_=>KU _ _ _ _ _ _ (h.I rfl),⟨h.cl.1,(λ_=>⟨rfl,rfl⟩),h.cl.2.2⟩,by rw[size_setRow];exact h.size,by rw[size_setRow];exact h.pR,h.som⟩
end
def aaL {l:List pA}:∀u∈jq.flat l,u.oneCell'=true:=λu hu=>by
 obtain⟨x,_,hx⟩:=Rt.1 hu;simp only[jq,VE,Kt,Ku,or_false]at hx;rcases hx with rfl|rfl|rfl<;>rfl
def ZS:(Tryz.prog.info? 62).map (λi=>(i.zero,i.size,i.bytes))=o_ (o_ (a_ #[i_ j_ 0,i_ j_ 0,i_ j_ 0]),3,24):=ZbG
def aaG (w:w_)(bj g:Nat)(hg:w.heap[g]? =o_ (c_ #[] 62))(hbg:bj<=g)(a:Option d_)(l:List pA)(cap:Nat)(h:Row w a (jq.flat l))(hl:l.length<=1048576)(lY:bj<=w.heap.size):
  ∃a' cap' w',(Builtin.append_ #[24,24] 24 #[s_ (o_ ⟨g,0,n_⟩) 0 0,s_ a l.length cap]).run J3 w=.ok (s_ a' l.length cap') w'/\w'.ownsRow bj 62 3 (s_ a' l.length cap') l.length (jq.flat l)/\w.grownBy w' (o_ g)/\∀q∈blk a',q=g\/q=w.heap.size:=by
 obtain⟨i,hi,e⟩:=Kw.1 ZS;simp only[Kx]at e;exact kK w bj _ _ 62 i _ 3 24 underlying24 hi e.1 e.2.1 e.2.2 rfl (by decide) g hg hbg a l.length cap _ h (jq.dM l) aaL hl (by decide) lY
def abu {l:List eQ}:∀u∈hM.flat l,u.oneCell'=true:=λu hu=>by
 obtain⟨x,_,hx⟩:=Rt.1 hu;simp only[hM,Vg,Kt,Ku,or_false]at hx;rcases hx with rfl|rfl|rfl|rfl<;>rfl
def aaN:(Tryz.prog.info? 37).map (λi=>(i.zero,i.size,i.bytes))=o_ (o_ (a_ #[i_ j_ 0,i_ j_ 0,i_ j_ 0,i_ j_ 0]),4,32):=ZbG
def abd (w:w_)(bj g:Nat)(hg:w.heap[g]? =o_ (c_ #[] 37))(hbg:bj<=g)(a:Option d_)(l:List eQ)(cap:Nat)(h:Row w a (hM.flat l))(hl:l.length<=1048576)(lY:bj<=w.heap.size):
  ∃a' cap' w',(Builtin.append_ #[28,28] 28 #[s_ (o_ ⟨g,0,n_⟩) 0 0,s_ a l.length cap]).run J3 w=.ok (s_ a' l.length cap') w'/\w'.ownsRow bj 37 4 (s_ a' l.length cap') l.length (hM.flat l)/\w.grownBy w' (o_ g)/\∀q∈blk a',q=g\/q=w.heap.size:=by
 obtain⟨i,hi,e⟩:=Kw.1 aaN;simp only[Kx]at e;exact kK w bj _ _ 37 i _ 4 32 underlying28 hi e.1 e.2.1 e.2.2 rfl (by decide) g hg hbg a l.length cap _ h (hM.dM l) abu hl (by decide) lY
def aaU (w:w_)(bj g:Nat)(hg:w.heap[g]? =o_ (c_ #[] 62))(hbg:bj<=g)(a:Option d_)(l:List pA)(cap:Nat)(h:Row w a (jq.flat l))(hl:l.length<=1048576)(lY:bj<=w.heap.size):
  ∃a' cap' w',(Builtin.append_ #[24,24] 24 #[s_ (o_ ⟨g,0,n_⟩) 0 0,s_ a l.length cap]).run J3 w=.ok (s_ a' l.length cap') w'/\w'.ownsRow bj 62 3 (s_ a' l.length cap') l.length (jq.flat l)/\w.grownBy w' (o_ g)/\(∀q∈blk a',q=g\/q=w.heap.size)/\∃q,a'=o_ ⟨q,0,n_⟩:=by
 cases l with
 |nil=>
  obtain⟨i,hi,e⟩:=Kw.1 ZS;simp only[Kx]at e;refine⟨o_ ⟨g,0,n_⟩,0,w,?_,i6 hg hbg,⟨rfl,rfl,rfl,Ki _,λ_ _ _=>rfl⟩,(λq hq=>by simp[blk]at hq;exact .inl hq),g,rfl⟩;cases a with
  |none=>simp[Builtin.append_,T0 underlying24,sizeOf,typeInfo,hi,Builtin.lenOf,Builtin.firstCells,storeCells]
  |some ad=>simp[Builtin.append_,T0 underlying24,sizeOf,typeInfo,hi,Builtin.lenOf,Builtin.firstCells,storeCells,loadCells,loadCellsFrom]
 |cons x r=>
  obtain⟨a',c',w',h1,h2,h3,h4⟩:=aaG w bj g hg hbg a (x::r) cap h hl lY;refine⟨a',c',w',h1,h2,h3,h4,?_⟩;obtain⟨a2,c2,e2,hr⟩:=cr h2;cases e2;obtain⟨q,hq,-⟩:=hr 0 (i_ j_ x.at_) (by simp[Kind.flat,jq,VE]);exact⟨q,hq⟩
end
section
open Go.Maps
attribute [local go_sem ↓] Kc Kd
def N4 (t:ByteArray)(x:aD):ByteArray:=t++⟨#[112,114,111,99,32]⟩++Ij x.id++⟨#[32]⟩++Ij x.RX++⟨#[32]⟩++Ij x.Md++⟨#[32]⟩++Ij x.pc++⟨#[32]⟩++Ij x.left++⟨#[32]⟩++Ij x.Mg++⟨#[32]⟩++Ij x.on++⟨#[32]⟩++Ij x.code++⟨#[32]⟩++Ij x.RU++⟨#[32,59]⟩++x.held++⟨#[59]⟩++x.got++⟨#[59]⟩++NQ x.prog++⟨#[10]⟩
def OT (t:ByteArray)(x:bD):ByteArray:=t++⟨#[115,101,109,32]⟩++Ij x.id++⟨#[32]⟩++Ij x.n++⟨#[32]⟩++Ij x.max++⟨#[10]⟩
def NE (t:ByteArray)(x:aB):ByteArray:=t++⟨#[101,118,101,110,116,32]⟩++Ij x.id++⟨#[32]⟩++Ij (MJ x.up)++⟨#[10]⟩
def NJ (t:ByteArray)(x:az):ByteArray:=t++⟨#[98,111,97,114,100,32]⟩++Ij x.id++⟨#[32]⟩++Ij (MJ x.shown)++⟨#[32]⟩++x.text++⟨#[10]⟩
def Nm (t:ByteArray)(x:ci):ByteArray:=t++⟨#[98,117,102,102,101,114,32]⟩++Ij x.id++⟨#[32]⟩++Ij x.max++MI x.Ma++⟨#[10]⟩
def N5 (t:ByteArray)(x:dS):ByteArray:=t++⟨#[112,111,114,116,32]⟩++Ij x.id++⟨#[32]⟩++Ij (MJ x.I)++⟨#[32]⟩++Ij (MJ x.Mf)++⟨#[32]⟩++Ij x.max++MI x.Ma++⟨#[10]⟩
def Pu (p:aE):ByteArray:=⟨#[112,97,114,116,32]⟩++Ij p.id++⟨#[32]⟩++Ij p.next++⟨#[10]⟩
def NF (p:aE):ByteArray:=if bK p=true then p.ai.foldl N5 (p.ae.foldl Nm (p.ag.foldl NJ (p.L9.foldl NE (p.aj.foldl OT (p.L8.foldl N4 (Pu p))))))else⟨#[]⟩
def M4 {α:Type}{F:ByteArray->α->ByteArray}{l:List α}{k:Nat}{x:α}{c:ByteArray}(h:l[k]? =o_ x):(l.take (k+1)).foldl F c=F ((l.take k).foldl F c) x:=by
 have hk:=(Lj.1 h).1;rw[QE hk,List.foldl_append,(Lj.1 h).2];rfl
structure MQ (w:w_)(B:Nat)(p:af)(W:w_):Prop where
 box:av W B p
 MT:af.At W p
 low:B_ w.heap.size w W
def MQ.below {w W W2:w_}{B:Nat}{p:af}(h:MQ w B p W)(hb:B_ W.heap.size W W2):MQ w B p W2:=⟨h.box.below hb,h.MT.below hb,h.low.trans (hb.mono h.low.size)⟩
def afO {n:Int}(h: -9999999999<=n/\n<=9999999999):(Ij n).size<=2000000000000:=by
 have:=MD h.1 h.2
 omega
def Mw {l:List ByteArray}(h:l.length<=1048576)(hs:∀x∈l,x.size<=1048576):(MI l).size<=2000000000000:=by
 have h1:=Nf (f:=NS) (l:=l) (m:=1048577) λy hy=>by have:=hs y hy;rw[Ny];omega
 have h2:=Nat.mul_le_mul_left 1048577 h;unfold MI;omega
def MQ.sem {w W:w_}{B gs k:Nat}{p:af}{x:bD}(h:MQ w B p W)(ha:p.bc=o_ ⟨gs,0,n_⟩)(hx:p.aj[k]? =o_ x):bD.At W gs k x:=by
 obtain⟨g,h1,h2⟩:=lQ h.MT.2.1 hx;exact ZaR
def MQ.event {w W:w_}{B gs k:Nat}{p:af}{x:aB}(h:MQ w B p W)(ha:p.ay=o_ ⟨gs,0,n_⟩)(hx:p.L9[k]? =o_ x):aB.At W gs k x:=by
 obtain⟨g,h1,h2⟩:=j4 h.MT.2.2.1 hx;exact ZaR
def MQ.ajl {w W:w_}{B gs k:Nat}{p:af}{x:az}(h:MQ w B p W)(ha:p.ax=o_ ⟨gs,0,n_⟩)(hx:p.ag[k]? =o_ x):az.At W gs k x:=by
 obtain⟨g,h1,h2⟩:=jr h.MT.2.2.2.1 hx;exact ZaR
def MQ.buffer {w W:w_}{B gs k:Nat}{p:af}{x:au}(h:MQ w B p W)(ha:p.am=o_ ⟨gs,0,n_⟩)(hx:p.ae[k]? =o_ x):au.At W gs k x:=by
 obtain⟨g,h1,h2⟩:=iA h.MT.2.2.2.2.1 hx;exact ZaR
def MQ.port {w W:w_}{B gs k:Nat}{p:af}{x:aM}(h:MQ w B p W)(ha:p.aK=o_ ⟨gs,0,n_⟩)(hx:p.ai[k]? =o_ x):aM.At W gs k x:=by
 obtain⟨g,h1,h2⟩:=lm h.MT.2.2.2.2.2 hx;exact ZaR
def MQ.proc {w W:w_}{B gs k:Nat}{p:af}{x:ao}(h:MQ w B p W)(ha:p.aN=o_ ⟨gs,0,n_⟩)(hx:p.L8[k]? =o_ x):ao.At W gs k x:=by
 obtain⟨g,h1,h2⟩:=cn h.MT.1 hx;exact ZaR
def MS (p:af)(w:w_)(hf:p.Fit)(hs:∀x∈p.L8,x.dX)(h:af.At w p):
  k_ J3 45 #[a_ p.cells] w λe w'=>e=r_ (t_ (NF p.pure))/\B_ w.heap.size w w':=by
 have S:da (MQ w w.heap.size p (w.alloc (c_ p.cells 46))):=⟨Kj _ _,h.below ((Kp _ _).alloc (Ki _) _),(Kp _ _).alloc (Ki _) _⟩
 have HF:da (p.Fit/\∀x∈p.L8,x.dX):=⟨hf,hs⟩
 clear h hf hs
 go_enter func45,ntmps45
 go_upto_region 1 with fail;generalize w.alloc (c_ p.cells 46)=A at*;have Mb:=eV p A HF.I.1 HF.I.2 S.I.MT;go_wp2_with(refine eT _ S.I.box ?_);refine Mb.mono ?_;clear Mb;rintro e af8 ⟨rfl,hb⟩;replace S:=aA (S.I.below hb);clear hb;cases hr:bK p.pure
 .have HT:da (NF p.pure=⟨#[]⟩):=if_neg (by rw[hr];decide)
  clear hr;exact AD
 have HR:=aA ((ch _).1 hr);have HT:=aA (show NF p.pure=_ from if_pos hr);clear hr;have bi: -9999999999<=p.id/\p.id<=9999999999:=by have:=bz.1 HR.I.id;simp only[af.pure]at this;omega
 have Ml: -9999999999<=p.next/\p.next<=9999999999:=by have:=bz.1 HR.I.next;simp only[af.pure]at this;omega
 go_upto_region 3 with fail;refine aT (λW=>da (MQ w w.heap.size p W)) ZbG (S.I.below (Kp _ _).drew) ?_
 iterate 2 (refine PI ?_ (hy:=λw0 hS0=>ZcL))
 refine b9 (Ij p.id) 73 #[i_ j_ p.id] (λw0 h0=>(MC _ bi.1 bi.2 w0).mono λe w1 h=>⟨h.1,h0.I.below h.2⟩) ?_;refine ad (u:=⟨#[112,97,114,116,32]⟩) 1 (by decide) (afO bi) (λc1 e1 z1=>?_);refine y7 _ z1 (λc2 e2 z2=>?_)
 iterate 2 (refine PI ?_ (hy:=λw0 hS0=>ZcL))
 refine b9 (Ij p.next) 73 #[i_ j_ p.next] (λw0 h0=>(MC _ Ml.1 Ml.2 w0).mono λe w1 h=>⟨h.1,h0.I.below h.2⟩) ?_;refine ad _ z2 (afO Ml) (λc3 e3 z3=>?_);refine y7 _ z3 (λMn e4 Mj=>?_);refine PI ?_ (hy:=λw0 hS0=>ZcL);refine bk ZbG (λA2 y5=>?_) _;have Mh:da (Mn=Pu p.pure):=by show _=_;rw[e4.I,e3.I,e2.I,e1.I];rfl
 clear e4 e3 e2 e1 z1 z2 z3 S bi Ml;have S:=y5;clear y5;go_wp2_with fail;have hlProc:p.L8.length<=6:=by have:=HR.I.dl;simp only[af.pure,KG]at this;exact this
 go_loopw[3,4] (λs i wr=>∃(k:Nat)(c:ByteArray),k<=p.L8.length/\i=i_ j_ k/\s=t_ c/\c.size<=2000000000000*(10+25*k)/\da (c=(p.L8.take k).foldl (λt x=>N4 t x.toaD) Mn/\MQ w w.heap.size p wr)) (λ_ i _=>p.L8.length-(Go.RowKit.intOf i).toNat)
 case atStart=>exact⟨0,Mn,Ky _,rfl,rfl,zw,rfl,S.I⟩
 case round=>
  clear S;obtain⟨k,c,hk,rfl,rfl,z0,HA⟩:=hrel;by_cases hlt:k<p.L8.length
  .as_aux_lemma=>
    have i0:(0:Int)<=(k:Int):=zw
    have i1:(k:Int)<(p.L8.length:Int):=zw
    obtain⟨x,hx⟩:∃x,p.L8[k]? =o_ x:=⟨_,Kz hlt⟩
    obtain⟨gs,ha,hat⟩:=cn HA.I.2.MT.1 hx;have HL:=aA (Oy HR.I (x:=x) (Lr.2 ⟨x,KA hx,rfl⟩) (lA HA.I.2.MT.1 hx));have HX:da (p.aN=o_ ⟨gs,0,n_⟩/\p.L8[k]? =o_ x):=⟨ha,hx⟩
    have Nv:=HL.I.1 x.id zy;have OM:=HL.I.1 x.RX zy;have Oe:=HL.I.1 x.Md zy;have bpc:=HL.I.1 x.pc zy;have O7:=HL.I.1 x.left zy;have OW:=HL.I.1 x.Mg zy;have bon:=HL.I.1 x.on zy;have O9:=HL.I.1 x.code zy;have Og:=HL.I.1 x.RU zy;obtain⟨d0,d1,d2,d3,d4,d5,d6,d7,d8,d9,tH,tS⟩:=hat;obtain⟨-,-,m2,-,-,-,-,-⟩:=HA.I.2.box.cells;rw[ha]at m2;clear hx ha;have HS:da (MQ w w.heap.size p (wr.alloc (c_ x.row 125))/\(wr.alloc (c_ x.row 125)).heap[wr.heap.size]? =o_ (c_ x.row 125)):=⟨HA.I.2.below ((Kp _ _).alloc (Ki _) _),Kj _ _⟩
    go_upto_region 8 with fail;generalize wr.alloc (c_ x.row 125)=V at*;generalize wr.heap.size=X at*;clear d0 d1 d2 d3 d4 d5 d6 d7 d8 d9 tH tS m2;have NR:da (∀W W2:w_,da (MQ w w.heap.size p W/\W.heap[X]? =o_ (c_ x.row 125))->B_ W.heap.size W W2->da (MQ w w.heap.size p W2/\W2.heap[X]? =o_ (c_ x.row 125))):=λW W2 h hb=>⟨h.I.1.below hb,(hb.block _ (J2.1 h.I.2).1).trans h.I.2⟩
    refine aT (λW=>da (MQ w w.heap.size p W/\W.heap[X]? =o_ (c_ x.row 125))) ZbG (NR.I _ _ HS (Kp _ _).drew) ?_;refine PI ?_ (hy:=λw0 hS0=>ZbJ);refine y7 _ z0 (λc1 e1 z1=>?_)
    iterate 2 (refine PI ?_ (hy:=λw0 hS0=>ZbJ))
    refine b9 (Ij x.id) 73 #[i_ j_ x.id] (λw0 h0=>(MC _ Nv.1 Nv.2 w0).mono λe w1 h=>⟨h.1,NR.I _ _ h0 h.2⟩) ?_;refine ad _ z1 (afO Nv) (λc2 e2 z2=>?_);refine y7 _ z2 (λc3 e3 z3=>?_)
    iterate 2 (refine PI ?_ (hy:=λw0 hS0=>ZbJ))
    refine b9 (Ij x.RX) 73 #[i_ j_ x.RX] (λw0 h0=>(MC _ OM.1 OM.2 w0).mono λe w1 h=>⟨h.1,NR.I _ _ h0 h.2⟩) ?_;refine ad _ z3 (afO OM) (λc4 e4 z4=>?_);refine y7 _ z4 (λc5 e5 z5=>?_)
    iterate 2 (refine PI ?_ (hy:=λw0 hS0=>ZbJ))
    refine b9 (Ij x.Md) 73 #[i_ j_ x.Md] (λw0 h0=>(MC _ Oe.1 Oe.2 w0).mono λe w1 h=>⟨h.1,NR.I _ _ h0 h.2⟩) ?_;refine ad _ z5 (afO Oe) (λc6 e6 z6=>?_);refine y7 _ z6 (λc7 e7 z7=>?_)
    iterate 2 (refine PI ?_ (hy:=λw0 hS0=>ZbJ))
    refine b9 (Ij x.pc) 73 #[i_ j_ x.pc] (λw0 h0=>(MC _ bpc.1 bpc.2 w0).mono λe w1 h=>⟨h.1,NR.I _ _ h0 h.2⟩) ?_;refine ad _ z7 (afO bpc) (λc8 e8 KI=>?_);refine y7 _ KI (λc9 e9 z9=>?_)
    iterate 2 (refine PI ?_ (hy:=λw0 hS0=>ZbJ))
    refine b9 (Ij x.left) 73 #[i_ j_ x.left] (λw0 h0=>(MC _ O7.1 O7.2 w0).mono λe w1 h=>⟨h.1,NR.I _ _ h0 h.2⟩) ?_;refine ad _ z9 (afO O7) (λqF Pn z10=>?_);refine y7 _ z10 (λpe e11 z11=>?_)
    iterate 2 (refine PI ?_ (hy:=λw0 hS0=>ZbJ))
    refine b9 (Ij x.Mg) 73 #[i_ j_ x.Mg] (λw0 h0=>(MC _ OW.1 OW.2 w0).mono λe w1 h=>⟨h.1,NR.I _ _ h0 h.2⟩) ?_;refine ad _ z11 (afO OW) (λc12 PF z12=>?_);refine y7 _ z12 (λc13 PG z13=>?_)
    iterate 2 (refine PI ?_ (hy:=λw0 hS0=>ZbJ))
    refine b9 (Ij x.on) 73 #[i_ j_ x.on] (λw0 h0=>(MC _ bon.1 bon.2 w0).mono λe w1 h=>⟨h.1,NR.I _ _ h0 h.2⟩) ?_;refine ad _ z13 (afO bon) (λc14 e14 z14=>?_);refine y7 _ z14 (λc15 e15 z15=>?_)
    iterate 2 (refine PI ?_ (hy:=λw0 hS0=>ZbJ))
    refine b9 (Ij x.code) 73 #[i_ j_ x.code] (λw0 h0=>(MC _ O9.1 O9.2 w0).mono λe w1 h=>⟨h.1,NR.I _ _ h0 h.2⟩) ?_;refine ad _ z15 (afO O9) (λc16 e16 z16=>?_);refine y7 _ z16 (λc17 PH z17=>?_)
    iterate 2 (refine PI ?_ (hy:=λw0 hS0=>ZbJ))
    refine b9 (Ij x.RU) 73 #[i_ j_ x.RU] (λw0 h0=>(MC _ Og.1 Og.2 w0).mono λe w1 h=>⟨h.1,NR.I _ _ h0 h.2⟩) ?_;refine ad _ z17 (afO Og) (λc18 e18 z18=>?_);refine y7 _ z18 (λc19 e19 z19=>?_)
    iterate 2 (refine PI ?_ (hy:=λw0 hS0=>ZbJ))
    refine ad _ z19 (show x.held.size<=2000000000000 by have:=HL.I.2.2.1.held;omega) (λc20 e20 z20=>?_);refine y7 _ z20 (λc21 e21 z21=>?_)
    iterate 2 (refine PI ?_ (hy:=λw0 hS0=>ZbJ))
    refine ad _ z21 (show x.got.size<=2000000000000 by have:=HL.I.2.2.1.got;omega) (λc22 e22 z22=>?_);refine y7 _ z22 (λc23 e23 z23=>?_)
    iterate 2 (refine PI ?_ (hy:=λw0 hS0=>ZbJ))
    refine b9 (NQ x.prog) 74 #[s_ x.aY x.prog.length x.bH] (λw0 h0=>(NP _ _ _ w0 HL.I.2.1 HL.I.2.2.1.prog HL.I.2.2.1.ops (lA h0.I.1.MT.1 HX.I.2)).mono λe w1 h=>⟨h.1,NR.I _ _ h0 h.2⟩) ?_;refine ad _ z23 (show(NQ x.prog).size<=2000000000000 by have:=N8 x.prog;omega) (λc24 e24 z24=>?_);refine y7 _ z24 (λc25 e25 z25=>?_);refine PI ?_ (hy:=λw0 hS0=>ZbJ);refine bk ZbG (λA3 NO=>?_) _;have HE:da (c25=(p.L8.take (k+1)).foldl (λt x=>N4 t x.toaD) Mn):=by
     show _=_
     rw[M4 HX.I.2,<-HA.I.1,e25.I,e24.I,e23.I,e22.I,e21.I,e20.I,e19.I,e18.I,PH.I,e16.I,e15.I,e14.I,PG.I,PF.I,e11.I,Pn.I,e9.I,e8.I,e7.I,e6.I,e5.I,e4.I,e3.I,e2.I,e1.I];rfl
    clear e1 e2 e3 e4 e5 e6 e7 e8 e9 Pn e11 PF PG e14 e15 e16 PH e18 e19 e20 e21 e22 e23 e24 e25 z1 z2 z3 z4 z5 z6 z7 KI z9 z10 z11 z12 z13 z14 z15 z16 z17 z18 z19 z20 z21 z22 z23 z24;go_wp2;go_roundw
    case rel=>exact⟨k+1,c25,zw,by go_num,rfl,zw,HE.I,NO.I.1⟩
    case measure=>exact ZbL
  have i1:¬(k:Int)<(p.L8.length:Int):=zw
  have ek:k=p.L8.length:=zw
  obtain⟨NH,NA⟩:∃t,da (t=c/\c=p.L8.foldl (λt x=>N4 t x.toaD) Mn):=⟨c,rfl,ZcG⟩
  have yProc:NH.size<=2000000000000*160:=by rw[NA.I.1];omega
  have S:da (MQ w w.heap.size p wr):=HA.I.2;have Mi:=NA.I.1;replace NA:da (NH=p.L8.foldl (λt x=>N4 t x.toaD) Mn):=NA.I.1.trans NA.I.2;rw[<-Mi];clear Mi HA z0 ek;obtain⟨wproc,Pc⟩:∃W:w_,W=wr:=⟨_,rfl⟩
  rw[<-Pc]at S⊢;clear Pc;obtain⟨-,-,m2,-,-,-,-,-⟩:=S.I.box.cells;go_wp2_with fail;clear m2 i1;have hlSem:p.aj.length<=5:=by have:=HR.I.fx;simp only[af.pure]at this;exact this
  go_loopw[3,6] (λs i wr=>∃(k:Nat)(c:ByteArray),k<=p.aj.length/\i=i_ j_ k/\s=t_ c/\c.size<=2000000000000*(160+7*k)/\da (c=(p.aj.take k).foldl (λt x=>OT t x) NH/\MQ w w.heap.size p wr)) (λ_ i _=>p.aj.length-(Go.RowKit.intOf i).toNat)
  case atStart=>exact⟨0,NH,Ky _,rfl,rfl,zw,rfl,S.I⟩
  case round=>
   clear S;obtain⟨k,c,hk,rfl,rfl,z0,HA⟩:=hrel;by_cases hlt:k<p.aj.length
   .as_aux_lemma=>
     have i0:(0:Int)<=(k:Int):=zw
     have i1:(k:Int)<(p.aj.length:Int):=zw
     obtain⟨x,hx⟩:∃x,p.aj[k]? =o_ x:=⟨_,Kz hlt⟩
     obtain⟨gs,ha,hat⟩:=lQ HA.I.2.MT.2.1 hx;have HL:=aA (O2 HR.I wr (x:=x) (KA hx));have HX:da (p.bc=o_ ⟨gs,0,n_⟩/\p.aj[k]? =o_ x):=⟨ha,hx⟩
     have Nv:=HL.I x.id zy;have Ml:=HL.I x.n zy;have Nz:=HL.I x.max zy;have HC:da (∀W,MQ w w.heap.size p W->W.cell? ⟨w.heap.size,3,n_⟩=o_ (s_ (o_ ⟨gs,0,n_⟩) p.aj.length p.bF)/\bD.At W gs k x):=λW h=>⟨by obtain⟨-,-,-,m,-,-,-,-⟩:=h.box.cells;rw[<-HX.I.1];exact m,h.sem HX.I.1 HX.I.2⟩
     obtain⟨-,-,-,m3,-,-,-,-⟩:=HA.I.2.box.cells;clear hx ha hat;go_upto_region 12 with fail;clear m3;refine aT (λW=>da (MQ w w.heap.size p W)) ZbG (HA.I.2.below (Kp _ _).drew) ?_;refine PI ?_ (hy:=λw0 hS0=>ZbK);refine y7 _ z0 (λc1 e1 z1=>?_)
     iterate 6 (refine PI ?_ (hy:=λw0 hS0=>ZbK))
     refine b9 (Ij x.id) 73 #[i_ j_ x.id] (λw0 h0=>(MC _ Nv.1 Nv.2 w0).mono λe w1 h=>⟨h.1,h0.I.below h.2⟩) ?_;refine ad _ z1 (afO Nv) (λc2 e2 z2=>?_);refine y7 _ z2 (λc3 e3 z3=>?_)
     iterate 6 (refine PI ?_ (hy:=λw0 hS0=>ZbK))
     refine b9 (Ij x.n) 73 #[i_ j_ x.n] (λw0 h0=>(MC _ Ml.1 Ml.2 w0).mono λe w1 h=>⟨h.1,h0.I.below h.2⟩) ?_;refine ad _ z3 (afO Ml) (λc4 e4 z4=>?_);refine y7 _ z4 (λc5 e5 z5=>?_)
     iterate 6 (refine PI ?_ (hy:=λw0 hS0=>ZbK))
     refine b9 (Ij x.max) 73 #[i_ j_ x.max] (λw0 h0=>(MC _ Nz.1 Nz.2 w0).mono λe w1 h=>⟨h.1,h0.I.below h.2⟩) ?_;refine ad _ z5 (afO Nz) (λc6 e6 z6=>?_);refine y7 _ z6 (λc7 e7 z7=>?_);refine PI ?_ (hy:=λw0 hS0=>ZbK);refine bk ZbG (λA3 NO=>?_) _;have HE:da (c7=(p.aj.take (k+1)).foldl (λt x=>OT t x) NH):=by
      exact Zbg
     exact Zaf
   have i1:¬(k:Int)<(p.aj.length:Int):=zw
   have ek:k=p.aj.length:=zw
   obtain⟨N7,Oh⟩:∃t,da (t=c/\c=p.aj.foldl (λt x=>OT t x) NH):=⟨c,rfl,ZcG⟩
   have ySem:N7.size<=2000000000000*195:=by rw[Oh.I.1];omega
   have S:da (MQ w w.heap.size p wr):=HA.I.2;have Mi:=Oh.I.1;replace Oh:da (N7=p.aj.foldl (λt x=>OT t x) NH):=Oh.I.1.trans Oh.I.2;rw[<-Mi];clear Mi HA z0 ek;obtain⟨wsem,Pr⟩:∃W:w_,W=wr:=⟨_,rfl⟩
   rw[<-Pr]at S⊢;clear Pr;obtain⟨-,-,-,m3,-,-,-,-⟩:=S.I.box.cells;go_wp2_with fail;clear m3 i1;have hlEvent:p.L9.length<=5:=by have:=HR.I.cD;simp only[af.pure]at this;exact this
   go_loopw[3,7] (λs i wr=>∃(k:Nat)(c:ByteArray),k<=p.L9.length/\i=i_ j_ k/\s=t_ c/\c.size<=2000000000000*(195+5*k)/\da (c=(p.L9.take k).foldl (λt x=>NE t x) N7/\MQ w w.heap.size p wr)) (λ_ i _=>p.L9.length-(Go.RowKit.intOf i).toNat)
   case atStart=>exact⟨0,N7,Ky _,rfl,rfl,zw,rfl,S.I⟩
   case round=>
    clear S;obtain⟨k,c,hk,rfl,rfl,z0,HA⟩:=hrel;by_cases hlt:k<p.L9.length
    .as_aux_lemma=>
      have i0:(0:Int)<=(k:Int):=zw
      have i1:(k:Int)<(p.L9.length:Int):=zw
      obtain⟨x,hx⟩:∃x,p.L9[k]? =o_ x:=⟨_,Kz hlt⟩
      obtain⟨gs,ha,hat⟩:=j4 HA.I.2.MT.2.2.1 hx;have HL:=aA (Oi HR.I wr (x:=x) (KA hx));have HX:da (p.ay=o_ ⟨gs,0,n_⟩/\p.L9[k]? =o_ x):=⟨ha,hx⟩
      have Nv:=HL.I x.id zy;have HC:da (∀W,MQ w w.heap.size p W->W.cell? ⟨w.heap.size,4,n_⟩=o_ (s_ (o_ ⟨gs,0,n_⟩) p.L9.length p.aO)/\aB.At W gs k x):=λW h=>⟨by obtain⟨-,-,-,-,m,-,-,-⟩:=h.box.cells;rw[<-HX.I.1];exact m,h.event HX.I.1 HX.I.2⟩
      obtain⟨-,-,-,-,m4,-,-,-⟩:=HA.I.2.box.cells;clear hx ha hat;go_upto_region 16 with fail;clear m4;refine aT (λW=>da (MQ w w.heap.size p W)) ZbG (HA.I.2.below (Kp _ _).drew) ?_;refine PI ?_ (hy:=λw0 hS0=>Zco);refine y7 _ z0 (λc1 e1 z1=>?_)
      iterate 6 (refine PI ?_ (hy:=λw0 hS0=>Zco))
      refine b9 (Ij x.id) 73 #[i_ j_ x.id] (λw0 h0=>(MC _ Nv.1 Nv.2 w0).mono λe w1 h=>⟨h.1,h0.I.below h.2⟩) ?_;refine ad _ z1 (afO Nv) (λc2 e2 z2=>?_);refine y7 _ z2 (λc3 e3 z3=>?_)
      iterate 6 (refine PI ?_ (hy:=λw0 hS0=>Zco))
      refine b9 (Ij (MJ x.up)) 75 #[b_ x.up] (λw0 h0=>(MX _ w0).mono λe w1 h=>⟨h.1,ZdD⟩) ?_;refine ad _ z3 (afO (MM _)) (λc4 e4 z4=>?_);refine y7 _ z4 (λc5 e5 z5=>?_);refine PI ?_ (hy:=λw0 hS0=>Zco);refine bk ZbG (λA3 NO=>?_) _;have HE:da (c5=(p.L9.take (k+1)).foldl (λt x=>NE t x) N7):=by
       show _=_
       rw[M4 HX.I.2,<-HA.I.1,e5.I,e4.I,e3.I,e2.I,e1.I];rfl
      clear e1 e2 e3 e4 e5 z1 z2 z3 z4;go_wp2;go_roundw
      case rel=>exact⟨k+1,c5,zw,by go_num,rfl,zw,HE.I,NO.I⟩
      case measure=>exact ZbL
    have i1:¬(k:Int)<(p.L9.length:Int):=zw
    have ek:k=p.L9.length:=zw
    obtain⟨Ni,Ng⟩:∃t,da (t=c/\c=p.L9.foldl (λt x=>NE t x) N7):=⟨c,rfl,ZcG⟩
    have yEvent:Ni.size<=2000000000000*220:=by rw[Ng.I.1];omega
    have S:da (MQ w w.heap.size p wr):=HA.I.2;have Mi:=Ng.I.1;replace Ng:da (Ni=p.L9.foldl (λt x=>NE t x) N7):=Ng.I.1.trans Ng.I.2;rw[<-Mi];clear Mi HA z0 ek;obtain⟨wevent,Ol⟩:∃W:w_,W=wr:=⟨_,rfl⟩
    rw[<-Ol]at S⊢;clear Ol;obtain⟨-,-,-,-,m4,-,-,-⟩:=S.I.box.cells;go_wp2_with fail;clear m4 i1;have hlBoard:p.ag.length<=5:=by have:=HR.I.cC;simp only[af.pure]at this;exact this
    go_loopw[3,8] (λs i wr=>∃(k:Nat)(c:ByteArray),k<=p.ag.length/\i=i_ j_ k/\s=t_ c/\c.size<=2000000000000*(220+7*k)/\da (c=(p.ag.take k).foldl (λt x=>NJ t x) Ni/\MQ w w.heap.size p wr)) (λ_ i _=>p.ag.length-(Go.RowKit.intOf i).toNat)
    case atStart=>exact⟨0,Ni,Ky _,rfl,rfl,zw,rfl,S.I⟩
    case round=>
     clear S;obtain⟨k,c,hk,rfl,rfl,z0,HA⟩:=hrel;by_cases hlt:k<p.ag.length
     .as_aux_lemma=>
       have i0:(0:Int)<=(k:Int):=zw
       have i1:(k:Int)<(p.ag.length:Int):=zw
       obtain⟨x,hx⟩:∃x,p.ag[k]? =o_ x:=⟨_,Kz hlt⟩
       obtain⟨gs,ha,hat⟩:=jr HA.I.2.MT.2.2.2.1 hx;have HL:=aA (N9 HR.I wr (x:=x) (KA hx));have HX:da (p.ax=o_ ⟨gs,0,n_⟩/\p.ag[k]? =o_ x):=⟨ha,hx⟩
       have Nv:=HL.I.1 x.id zy;have HC:da (∀W,MQ w w.heap.size p W->W.cell? ⟨w.heap.size,5,n_⟩=o_ (s_ (o_ ⟨gs,0,n_⟩) p.ag.length p.aP)/\az.At W gs k x):=λW h=>⟨by obtain⟨-,-,-,-,-,m,-,-⟩:=h.box.cells;rw[<-HX.I.1];exact m,h.ajl HX.I.1 HX.I.2⟩
       obtain⟨-,-,-,-,-,m5,-,-⟩:=HA.I.2.box.cells;clear hx ha hat;go_upto_region 20 with fail;clear m5;refine aT (λW=>da (MQ w w.heap.size p W)) ZbG (HA.I.2.below (Kp _ _).drew) ?_;refine PI ?_ (hy:=λw0 hS0=>ZbK);refine y7 _ z0 (λc1 e1 z1=>?_)
       iterate 6 (refine PI ?_ (hy:=λw0 hS0=>ZbK))
       refine b9 (Ij x.id) 73 #[i_ j_ x.id] (λw0 h0=>(MC _ Nv.1 Nv.2 w0).mono λe w1 h=>⟨h.1,h0.I.below h.2⟩) ?_;refine ad _ z1 (afO Nv) (λc2 e2 z2=>?_);refine y7 _ z2 (λc3 e3 z3=>?_)
       iterate 6 (refine PI ?_ (hy:=λw0 hS0=>ZbK))
       refine b9 (Ij (MJ x.shown)) 75 #[b_ x.shown] (λw0 h0=>(MX _ w0).mono λe w1 h=>⟨h.1,ZdD⟩) ?_;refine ad _ z3 (afO (MM _)) (λc4 e4 z4=>?_);refine y7 _ z4 (λc5 e5 z5=>?_)
       iterate 6 (refine PI ?_ (hy:=λw0 hS0=>ZbK))
       refine ad _ z5 (show x.text.size<=2000000000000 by have:=HL.I.2;omega) (λc6 e6 z6=>?_);refine y7 _ z6 (λc7 e7 z7=>?_);refine PI ?_ (hy:=λw0 hS0=>ZbK);refine bk ZbG (λA3 NO=>?_) _;have HE:da (c7=(p.ag.take (k+1)).foldl (λt x=>NJ t x) Ni):=by
        exact Zbg
       exact Zaf
     have i1:¬(k:Int)<(p.ag.length:Int):=zw
     have ek:k=p.ag.length:=zw
     obtain⟨Nd,Nc⟩:∃t,da (t=c/\c=p.ag.foldl (λt x=>NJ t x) Ni):=⟨c,rfl,ZcG⟩
     have yBoard:Nd.size<=2000000000000*255:=by rw[Nc.I.1];omega
     have S:da (MQ w w.heap.size p wr):=HA.I.2;have Mi:=Nc.I.1;replace Nc:da (Nd=p.ag.foldl (λt x=>NJ t x) Ni):=Nc.I.1.trans Nc.I.2;rw[<-Mi];clear Mi HA z0 ek;obtain⟨wboard,Om⟩:∃W:w_,W=wr:=⟨_,rfl⟩
     rw[<-Om]at S⊢;clear Om;obtain⟨-,-,-,-,-,m5,-,-⟩:=S.I.box.cells;go_wp2_with fail;clear m5 i1;have hlBuffer:p.ae.length<=5:=by have:=HR.I.cb;simp only[af.pure,KG]at this;exact this
     go_loopw[3,9] (λs i wr=>∃(k:Nat)(c:ByteArray),k<=p.ae.length/\i=i_ j_ k/\s=t_ c/\c.size<=2000000000000*(255+6*k)/\da (c=(p.ae.take k).foldl (λt x=>Nm t x.toci) Nd/\MQ w w.heap.size p wr)) (λ_ i _=>p.ae.length-(Go.RowKit.intOf i).toNat)
     case atStart=>exact⟨0,Nd,Ky _,rfl,rfl,zw,rfl,S.I⟩
     case round=>
      clear S;obtain⟨k,c,hk,rfl,rfl,z0,HA⟩:=hrel;by_cases hlt:k<p.ae.length
      .as_aux_lemma=>
        have i0:(0:Int)<=(k:Int):=zw
        have i1:(k:Int)<(p.ae.length:Int):=zw
        obtain⟨x,hx⟩:∃x,p.ae[k]? =o_ x:=⟨_,Kz hlt⟩
        obtain⟨gs,ha,hat⟩:=iA HA.I.2.MT.2.2.2.2.1 hx;have HL:=aA (N3 HR.I (x:=x) (Lr.2 ⟨x,KA hx,rfl⟩) (lj HA.I.2.MT.2.2.2.2.1 hx));have HX:da (p.am=o_ ⟨gs,0,n_⟩/\p.ae[k]? =o_ x):=⟨ha,hx⟩
        have Nv:=HL.I.1 x.id zy;have Nz:=HL.I.1 x.max zy;have HC:da (∀W,MQ w w.heap.size p W->W.cell? ⟨w.heap.size,6,n_⟩=o_ (s_ (o_ ⟨gs,0,n_⟩) p.ae.length p.aG)/\au.At W gs k x):=λW h=>⟨by obtain⟨-,-,-,-,-,-,m,-⟩:=h.box.cells;rw[<-HX.I.1];exact m,h.buffer HX.I.1 HX.I.2⟩
        obtain⟨-,-,-,-,-,-,m6,-⟩:=HA.I.2.box.cells;clear hx ha hat;go_upto_region 24 with fail;clear m6;refine aT (λW=>da (MQ w w.heap.size p W)) ZbG (HA.I.2.below (Kp _ _).drew) ?_;refine PI ?_ (hy:=λw0 hS0=>ZbK);refine y7 _ z0 (λc1 e1 z1=>?_)
        iterate 6 (refine PI ?_ (hy:=λw0 hS0=>ZbK))
        refine b9 (Ij x.id) 73 #[i_ j_ x.id] (λw0 h0=>(MC _ Nv.1 Nv.2 w0).mono λe w1 h=>⟨h.1,h0.I.below h.2⟩) ?_;refine ad _ z1 (afO Nv) (λc2 e2 z2=>?_);refine y7 _ z2 (λc3 e3 z3=>?_)
        iterate 6 (refine PI ?_ (hy:=λw0 hS0=>ZbK))
        refine b9 (Ij x.max) 73 #[i_ j_ x.max] (λw0 h0=>(MC _ Nz.1 Nz.2 w0).mono λe w1 h=>⟨h.1,h0.I.below h.2⟩) ?_;refine ad _ z3 (afO Nz) (λc4 e4 z4=>?_)
        iterate 6 (refine PI ?_ (hy:=λw0 hS0=>ZbK))
        refine b9 (MI x.Ma) 76 #[s_ x.ak x.Ma.length x.aq] (λw0 h0=>(Nx _ _ _ w0 HL.I.2.1 HL.I.2.2.1 (lj h0.I.MT.2.2.2.2.1 HX.I.2)).mono λe w1 h=>⟨h.1,ZdD⟩) ?_;refine ad _ z4 (Mw HL.I.2.1 HL.I.2.2.1) (λc5 e5 z5=>?_);refine y7 _ z5 (λc6 e6 z6=>?_);refine PI ?_ (hy:=λw0 hS0=>ZbK);refine bk ZbG (λA3 NO=>?_) _;have HE:da (c6=(p.ae.take (k+1)).foldl (λt x=>Nm t x.toci) Nd):=by
         show _=_
         rw[M4 HX.I.2,<-HA.I.1,e6.I,e5.I,e4.I,e3.I,e2.I,e1.I];rfl
        clear e1 e2 e3 e4 e5 e6 z1 z2 z3 z4 z5;go_wp2;go_roundw
        case rel=>exact⟨k+1,c6,zw,by go_num,rfl,zw,HE.I,NO.I⟩
        case measure=>exact ZbL
      have i1:¬(k:Int)<(p.ae.length:Int):=zw
      have ek:k=p.ae.length:=zw
      obtain⟨MW,MV⟩:∃t,da (t=c/\c=p.ae.foldl (λt x=>Nm t x.toci) Nd):=⟨c,rfl,ZcG⟩
      have yBuffer:MW.size<=2000000000000*285:=by rw[MV.I.1];omega
      have S:da (MQ w w.heap.size p wr):=HA.I.2;have Mi:=MV.I.1;replace MV:da (MW=p.ae.foldl (λt x=>Nm t x.toci) Nd):=MV.I.1.trans MV.I.2;rw[<-Mi];clear Mi HA z0 ek;obtain⟨wbuffer,NZ⟩:∃W:w_,W=wr:=⟨_,rfl⟩
      rw[<-NZ]at S⊢;clear NZ;obtain⟨-,-,-,-,-,-,m6,-⟩:=S.I.box.cells;go_wp2_with fail;clear m6 i1;have hlPort:p.ai.length<=5:=by have:=HR.I.dH;simp only[af.pure,KG]at this;exact this
      go_loopw[3,10] (λs i wr=>∃(k:Nat)(c:ByteArray),k<=p.ai.length/\i=i_ j_ k/\s=t_ c/\c.size<=2000000000000*(285+10*k)/\da (c=(p.ai.take k).foldl (λt x=>N5 t x.todS) MW/\MQ w w.heap.size p wr)) (λ_ i _=>p.ai.length-(Go.RowKit.intOf i).toNat)
      case atStart=>exact⟨0,MW,Ky _,rfl,rfl,zw,rfl,S.I⟩
      case round=>
       clear S;obtain⟨k,c,hk,rfl,rfl,z0,HA⟩:=hrel;by_cases hlt:k<p.ai.length
       .as_aux_lemma=>
         have i0:(0:Int)<=(k:Int):=zw
         have i1:(k:Int)<(p.ai.length:Int):=zw
         obtain⟨x,hx⟩:∃x,p.ai[k]? =o_ x:=⟨_,Kz hlt⟩
         obtain⟨gs,ha,hat⟩:=lm HA.I.2.MT.2.2.2.2.2 hx;have HL:=aA (OA HR.I (x:=x) (Lr.2 ⟨x,KA hx,rfl⟩) (nJ HA.I.2.MT.2.2.2.2.2 hx));have HX:da (p.aK=o_ ⟨gs,0,n_⟩/\p.ai[k]? =o_ x):=⟨ha,hx⟩
         have Nv:=HL.I.1 x.id zy;have Nz:=HL.I.1 x.max zy;obtain⟨d0,d1,d2,d3,d4⟩:=hat;obtain⟨-,-,-,-,-,-,-,m7⟩:=HA.I.2.box.cells;rw[ha]at m7;clear hx ha;have HS:da (MQ w w.heap.size p (wr.alloc (c_ #[i_ j_ x.id,b_ x.I,b_ x.Mf,i_ j_ x.max,s_ x.ak x.Ma.length x.aq] 51))/\(wr.alloc (c_ #[i_ j_ x.id,b_ x.I,b_ x.Mf,i_ j_ x.max,s_ x.ak x.Ma.length x.aq] 51)).heap[wr.heap.size]? =o_ (c_ #[i_ j_ x.id,b_ x.I,b_ x.Mf,i_ j_ x.max,s_ x.ak x.Ma.length x.aq] 51)):=⟨HA.I.2.below ((Kp _ _).alloc (Ki _) _),Kj _ _⟩
         go_upto_region 29 with fail;generalize wr.alloc (c_ #[i_ j_ x.id,b_ x.I,b_ x.Mf,i_ j_ x.max,s_ x.ak x.Ma.length x.aq] 51)=V at*;generalize wr.heap.size=X at*;clear d0 d1 d2 d3 d4 m7;have NR:da (∀W W2:w_,da (MQ w w.heap.size p W/\W.heap[X]? =o_ (c_ #[i_ j_ x.id,b_ x.I,b_ x.Mf,i_ j_ x.max,s_ x.ak x.Ma.length x.aq] 51))->B_ W.heap.size W W2->da (MQ w w.heap.size p W2/\W2.heap[X]? =o_ (c_ #[i_ j_ x.id,b_ x.I,b_ x.Mf,i_ j_ x.max,s_ x.ak x.Ma.length x.aq] 51))):=λW W2 h hb=>⟨h.I.1.below hb,(hb.block _ (J2.1 h.I.2).1).trans h.I.2⟩
         refine aT (λW=>da (MQ w w.heap.size p W/\W.heap[X]? =o_ (c_ #[i_ j_ x.id,b_ x.I,b_ x.Mf,i_ j_ x.max,s_ x.ak x.Ma.length x.aq] 51))) ZbG (NR.I _ _ HS (Kp _ _).drew) ?_;refine PI ?_ (hy:=λw0 hS0=>ZbT);refine y7 _ z0 (λc1 e1 z1=>?_)
         iterate 2 (refine PI ?_ (hy:=λw0 hS0=>ZbT))
         refine b9 (Ij x.id) 73 #[i_ j_ x.id] (λw0 h0=>(MC _ Nv.1 Nv.2 w0).mono λe w1 h=>⟨h.1,NR.I _ _ h0 h.2⟩) ?_;refine ad _ z1 (afO Nv) (λc2 e2 z2=>?_);refine y7 _ z2 (λc3 e3 z3=>?_)
         iterate 2 (refine PI ?_ (hy:=λw0 hS0=>ZbT))
         refine b9 (Ij (MJ x.I)) 75 #[b_ x.I] (λw0 h0=>(MX _ w0).mono λe w1 h=>⟨h.1,ZdD⟩) ?_;refine ad _ z3 (afO (MM _)) (λc4 e4 z4=>?_);refine y7 _ z4 (λc5 e5 z5=>?_)
         iterate 2 (refine PI ?_ (hy:=λw0 hS0=>ZbT))
         refine b9 (Ij (MJ x.Mf)) 75 #[b_ x.Mf] (λw0 h0=>(MX _ w0).mono λe w1 h=>⟨h.1,ZdD⟩) ?_;refine ad _ z5 (afO (MM _)) (λc6 e6 z6=>?_);refine y7 _ z6 (λc7 e7 z7=>?_)
         iterate 2 (refine PI ?_ (hy:=λw0 hS0=>ZbT))
         refine b9 (Ij x.max) 73 #[i_ j_ x.max] (λw0 h0=>(MC _ Nz.1 Nz.2 w0).mono λe w1 h=>⟨h.1,NR.I _ _ h0 h.2⟩) ?_;refine ad _ z7 (afO Nz) (λc8 e8 KI=>?_)
         iterate 2 (refine PI ?_ (hy:=λw0 hS0=>ZbT))
         refine b9 (MI x.Ma) 76 #[s_ x.ak x.Ma.length x.aq] (λw0 h0=>(Nx _ _ _ w0 HL.I.2.1 HL.I.2.2.1 (nJ h0.I.1.MT.2.2.2.2.2 HX.I.2)).mono λe w1 h=>⟨h.1,ZdD⟩) ?_;refine ad _ KI (Mw HL.I.2.1 HL.I.2.2.1) (λc9 e9 z9=>?_);refine y7 _ z9 (λqF Pn z10=>?_);refine PI ?_ (hy:=λw0 hS0=>ZbT);refine bk ZbG (λA3 NO=>?_) _;have HE:da (qF=(p.ai.take (k+1)).foldl (λt x=>N5 t x.todS) MW):=by
          show _=_
          rw[M4 HX.I.2,<-HA.I.1,Pn.I,e9.I,e8.I,e7.I,e6.I,e5.I,e4.I,e3.I,e2.I,e1.I];rfl
         clear e1 e2 e3 e4 e5 e6 e7 e8 e9 Pn z1 z2 z3 z4 z5 z6 z7 KI z9;go_wp2;go_roundw
         case rel=>exact⟨k+1,qF,zw,by go_num,rfl,zw,HE.I,NO.I.1⟩
         case measure=>exact ZbL
       have i1:¬(k:Int)<(p.ai.length:Int):=zw
       have ek:k=p.ai.length:=zw
       obtain⟨O3,NM⟩:∃t,da (t=c/\c=p.ai.foldl (λt x=>N5 t x.todS) MW):=⟨c,rfl,ZcG⟩
       have yPort:O3.size<=2000000000000*335:=by rw[NM.I.1];omega
       have S:da (MQ w w.heap.size p wr):=HA.I.2;have Mi:=NM.I.1;replace NM:da (O3=p.ai.foldl (λt x=>N5 t x.todS) MW):=NM.I.1.trans NM.I.2;rw[<-Mi];clear Mi HA z0 ek;obtain⟨wport,O8⟩:∃W:w_,W=wr:=⟨_,rfl⟩
       rw[<-O8]at S⊢;clear O8;obtain⟨-,-,-,-,-,-,-,m7⟩:=S.I.box.cells;have HQ:da (O3=NF p.pure):=by
        show _=_
        rw[HT.I,NM.I,MV.I,Nc.I,Ng.I,Oh.I,NA.I,Mh.I];simp only[af.pure,List.foldl_map]
       clear HT NM MV Nc Ng Oh NA Mh;go_wp2;go_ret;exact⟨by rw[<-HQ.I];rfl,S.I.low⟩
end
end Go.Proofs.YtckenjkcmajicaaGreat
