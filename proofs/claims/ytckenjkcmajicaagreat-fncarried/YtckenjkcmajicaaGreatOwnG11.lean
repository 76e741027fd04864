/- What the proof leans on, part 11. -/
import Derived.Test.YtckenjkcmajicaaGreatOwnG10
set_option linter.all false
set_option maxRecDepth 100000
set_option maxHeartbeats 8000000
open Go.Proofs.Tryz
open Go renaming World->w_,Calls->k_,Addr->d_,below_setRow->q_
open Go.Ending renaming returned->r_
open Go.IntKind renaming i64->j_
open Go.Obj renaming cells->c_
open Go.RowKit renaming Below->B_,Hid->da
open Go.Value renaming int->i_,slice->s_,agg->a_,pointer->p_
open Option renaming some->o_,none->n_
open Go renaming wp_at_succ->Kd,wp_at_zero->Kc
open List renaming find?_cons->LL

open Go.RowKit
namespace Go.Proofs.YtckenjkcmajicaaGreat
section
attribute [local go_sem ↓] Kc Kd
def CY (p:af)(B:Nat)(b0 d0 b1 d1 b2 d2 b3 e:Bool)(g0 g1 g2 o:Nat)(a0 a1 a2:Option d_)(c0 c1 c2:Nat):Act:=⟨#[a_ #[i_ j_ p.id,i_ j_ p.next,s_ p.aN p.L8.length p.aW,s_ p.bc p.aj.length p.bF,s_ p.ay p.L9.length p.aO,s_ p.ax p.ag.length p.aP,s_ p.am p.ae.length p.aG,s_ p.aK p.ai.length p.aV],p_ (o_ ⟨B,0,n_⟩),p_ (o_ ⟨(B+1),0,n_⟩),bif b3 then p_ (o_ ⟨o,0,n_⟩)else undef,undef,undef,undef,undef,undef,undef,p_ (o_ ⟨B,0,n_⟩),i_ j_ p.id,p_ (o_ ⟨B,1,n_⟩),i_ j_ p.next,bif b0 then s_ (o_ ⟨g0,0,n_⟩) 0 0 else undef,p_ (o_ ⟨B,3,n_⟩),s_ p.bc p.aj.length p.bF,bif d0 then s_ a0 p.aj.length c0 else undef,bif b1 then s_ (o_ ⟨g1,0,n_⟩) 0 0 else undef,p_ (o_ ⟨B,4,n_⟩),s_ p.ay p.L9.length p.aO,bif d1 then s_ a1 p.L9.length c1 else undef,bif b2 then s_ (o_ ⟨g2,0,n_⟩) 0 0 else undef,p_ (o_ ⟨B,5,n_⟩),s_ p.ax p.ag.length p.aP,bif d2 then s_ a2 p.ag.length c2 else undef,bif e then a_ #[i_ j_ p.id,i_ j_ p.next,s_ n_ 0 0,s_ a0 p.aj.length c0,s_ a1 p.L9.length c1,s_ a2 p.ag.length c2,s_ n_ 0 0,s_ n_ 0 0]else undef,undef,undef,undef,undef,undef,undef,undef,undef,undef,undef,undef,undef,undef,undef,undef,undef,undef,undef,undef,undef,undef,undef,undef,undef,undef,undef,undef,undef,undef,undef,undef,undef,undef,undef,undef,undef,undef,undef,undef,undef,undef,undef,undef,undef,undef,undef,undef,undef,undef,undef,undef,undef,undef,undef,undef,undef,undef,undef,undef,undef,undef,undef,undef,undef,undef,undef,undef,undef,undef,undef],[]⟩
def IP (p:af)(We:w_)(l:Array Bool)(a:Act)(w:w_):Prop:=∃(b0 d0 b1 d1 b2 d2 b3 d3 e:Bool)(g0 g1 g2 o:Nat)(a0 a1 a2:Option d_)(c0 c1 c2:Nat),l=#[true,true,true,true,b0,true,true,d0,b1,true,true,d1,b2,true,true,d2,e,b3,d3]/\a=CY p We.heap.size b0 d0 b1 d1 b2 d2 b3 e g0 g1 g2 o a0 a1 a2 c0 c1 c2/\fI p We w b0 d0 b1 d1 b2 d2 b3 d3 e g0 g1 g2 o a0 a1 a2 c0 c1 c2
structure cL (p:af)(We w:w_)(o:Nat)(q:af):Prop where
  cd:B_ We.heap.size We w
  part:av w We.heap.size p
  ret:w.heap[We.heap.size+1]? =o_ (c_ ar 46)
  I:av w o q
  own:ap w (We.heap.size+2) q
  low:We.heap.size+2<=o
  free:o∉q.Mc
def cL.below {p:af}{We w w':w_}{o:Nat}{q:af}(h:cL p We w o q)(hb:B_ w.heap.size w w'):cL p We w' o q:=
  ⟨h.cd.trans (hb.mono h.cd.size),h.part.below hb,(hb.block _ (J2.1 h.ret).1).trans h.ret,h.I.below hb,h.own.below hb,h.low,h.free⟩
def cL.start {p:af}{We w:w_}{g0 g1 g2 o:Nat}{a0 a1 a2:Option d_}{c0 c1 c2:Nat}(h:fI p We w true true true true true true true true true g0 g1 g2 o a0 a1 a2 c0 c1 c2):
    cL p We w o ⟨p.id,p.next,[],n_,0,p.aj,a0,c0,p.L9,a1,c1,p.ag,a2,c2,[],n_,0,[],n_,0⟩:=by
  have hap:=h.pR.apart;refine⟨h.cd,h.part,h.ret,h.I rfl,⟨Ke _ _ _ _,h.s0.done rfl,h.s1.done rfl,h.s2.done rfl,Ke _ _ _ _,Ke _ _ _ _,(λx hx=>by cases hx),(λx hx=>by cases hx),(λx hx=>by cases hx),?_⟩,(h.pR.xy 3 o ZdR).1,?_⟩
  . have e:af.Mc ⟨p.id,p.next,[],n_,0,p.aj,a0,c0,p.L9,a1,c1,p.ag,a2,c2,[],n_,0,[],n_,0⟩=blk a0++(blk a1++blk a2):=by simp[af.Mc,blk]
    rw[e];simp only[Kf,Kg];refine⟨fN _,⟨fN _,fN _,λa ha b hb e=>?_⟩,λa ha b hb e=>?_⟩
    . subst e
      exact hap 1 2 (by decide) a ZeI Zc0
    . subst e
      rcases hb with hb|hb
      . exact hap 0 1 (by decide) a ZeI Zc0
      . exact hap 0 2 (by decide) a ZeI Zc0
  . have e:af.Mc ⟨p.id,p.next,[],n_,0,p.aj,a0,c0,p.L9,a1,c1,p.ag,a2,c2,[],n_,0,[],n_,0⟩=blk a0++(blk a1++blk a2):=by simp[af.Mc,blk]
    rw[e];simp only[Kg];rintro(hb|hb|hb)
    . exact hap 3 0 (by decide) o ZdR Zc0
    . exact hap 3 1 (by decide) o ZdR Zc0
    . exact hap 3 2 (by decide) o ZdR Zc0
def rB {x:ao}:∀u∈bg.vals x,u.oneCell'=true:=λu hu=>by
  simp only[bg,qN,Kt,Ku,or_false]at hu;rcases hu with rfl|rfl|rfl|rfl|rfl|rfl|rfl|rfl|rfl|rfl|rfl|rfl<;>rfl
def nz {x:au}:∀u∈bm.vals x,u.oneCell'=true:=λu hu=>by
  simp only[bm,nD,Kt,Ku,or_false]at hu;rcases hu with rfl|rfl|rfl<;>rfl
def qX {x:aM}:∀u∈bX.vals x,u.oneCell'=true:=λu hu=>by
  simp only[bX,qT,Kt,Ku,or_false]at hu;rcases hu with rfl|rfl|rfl|rfl|rfl<;>rfl
def aqX {Z M R:List Nat}(h:(Z++R).Nodup)(hM:M.Nodup)(hd:∀g∈M,g∉Z/\g∉R):(Z++(M++R)).Nodup:=by
  obtain⟨h1,h2,h3⟩:=Kf.1 h;refine Kf.2 ⟨h1,Kf.2 ⟨hM,h2,λg hg x hx e=>(hd g hg).2 (e▸hx)⟩,λg hg x hx e=>?_⟩;subst e;exact(Kg.1 hx).elim (λhm=>(hd g hm).1 hg) λhm=>h3 g hg g hm rfl
section
variable {p q:af}{w W3 W:w_}{o n cap:Nat}{a:Option d_}
def cL.nest {α:Type}{N:gd α}{K:Kind α}{l I:List α}{i:Nat}{Z R:List Nat}(q':af)(h:cL p w W3 o q)(hl:ap5 N K w W3 o i q.cells l n I a cap W)(e0:q.Mc=Z++R)(e1:q'.Mc=Z++((blk a++I.filterMap N.bt)++R))(lD:av W o q')
    (hown:ap W (w.heap.size+2) q->W.ownsRow (w.heap.size+2) N.T K.n (s_ a I.length cap) I.length (K.flat I)->(∀x∈I,N.cO W (w.heap.size+2) x)->q'.Mc.Nodup->ap W (w.heap.size+2) q'):cL p w W o q':=by
  have p7:o<W3.heap.size:=(J2.1 h.I).1;have hlo:=h.low;have hb:w.heap.size+2<=W3.heap.size:=by omega
  have hf:=h.free;have hnd:=h.own.nodup;rw[e0]at hf hnd;refine⟨hl.cd,(hl.same _ zw zw).trans h.part,(hl.same _ zw zw).trans h.ret,lD,hown (h.own.same λg hg=>hl.same g (h.own.lt g hg).2 λe=>h.free (e▸hg)) (cq hl.ap7.own hb) (λx hx=>(hl.ap7.mine x hx).low hb) ?_,hlo,λhm=>?_⟩
  . rw[e1]
    refine aqX hnd hl.ap7.nodup λg hg=>?_
    have h5:g∉q.Mc:=λhm=>by have:=(hl.ap7.lt g hg).1;have:=(h.own.lt g hm).2;omega
    rw[e0]at h5;exact⟨λhm=>h5 (Lz _ hm),λhm=>h5 (Ly _ hm)⟩
  . rw[e1]at hm
    rcases Kg.1 hm with hm|hm
    . exact hf (Lz _ hm)
    . rcases Kg.1 hm with hm|hm
      . have:=(hl.ap7.lt o hm).1;omega
      . exact hf (Ly _ hm)
def cL.arV {l I:List ao}(h:cL p w W3 o q)(hq:q.L8=[]/\q.aN=n_)(hl:ap5 aR bg w W3 o 2 q.cells l n I a cap W):cL p w W o {q with L8:=I,aN:=a,aW:=cap}:=
  h.nest (Z:=[]) (R:=blk q.bc++(blk q.ay++(blk q.ax++(blk q.am++(q.ae.filterMap aC.bt++(blk q.aK++q.ai.filterMap aU.bt)))))) _ hl Zem ZcZ hl.box λhS hg hm hn=>⟨hg,hS.aj,hS.L9,hS.ag,hS.ae,hS.ai,hm,hS.eE,hS.eR,hn⟩
def cL.arA {l I:List au}(h:cL p w W3 o q)(hq:q.ae=[]/\q.am=n_)(hl:ap5 aC bm w W3 o 6 q.cells l n I a cap W):cL p w W o {q with ae:=I,am:=a,aG:=cap}:=
  h.nest (Z:=blk q.aN++(q.L8.filterMap aR.bt++(blk q.bc++(blk q.ay++blk q.ax)))) (R:=blk q.aK++q.ai.filterMap aU.bt) _ hl Zem ZcZ hl.box λhS hg hm hn=>⟨hS.L8,hS.aj,hS.L9,hS.ag,hg,hS.ai,hS.eI,hm,hS.eR,hn⟩
def cL.ar4 {l I:List aM}(h:cL p w W3 o q)(hq:q.ai=[]/\q.aK=n_)(hl:ap5 aU bX w W3 o 7 q.cells l n I a cap W):cL p w W o {q with ai:=I,aK:=a,aV:=cap}:=
  h.nest (Z:=blk q.aN++(q.L8.filterMap aR.bt++(blk q.bc++(blk q.ay++(blk q.ax++(blk q.am++q.ae.filterMap aC.bt)))))) (R:=[]) _ hl Zem ZcZ hl.box λhS hg hm hn=>⟨hS.L8,hS.aj,hS.L9,hS.ag,hS.ae,hg,hS.eI,hS.eE,hm,hn⟩
end
abbrev Jn (p:af)(w w':w_):Prop:=w'.cell? ⟨w.heap.size,0,n_⟩=o_ (i_ j_ p.id)/\w'.cell? ⟨w.heap.size,1,n_⟩=o_ (i_ j_ p.next)/\w'.cell? ⟨w.heap.size,3,n_⟩=o_ (s_ p.bc p.aj.length p.bF)/\w'.cell? ⟨w.heap.size,4,n_⟩=o_ (s_ p.ay p.L9.length p.aO)/\w'.cell? ⟨w.heap.size,5,n_⟩=o_ (s_ p.ax p.ag.length p.aP)
def fR (p:af)(w:w_)(hf:p.Fit)(hsh:∀x∈p.L8,x.dX)(h:af.At w p):
    k_ Tryz.prog 44 #[a_ p.cells] w λe w'=>∃p',e=r_ (a_ p'.cells)/\ap w' w.heap.size p'/\p'.pure=p.pure/\B_ w.heap.size w w':=by
  have HF:da (p.Fit/\af.At w p):=⟨hf,h⟩
  have HFS:da (∀x∈p.L8,x.dX):=hsh;have HC:da (fI p w (((w.alloc (c_ p.row 46)).alloc (c_ ar 46))).drew false false false false false false false false false 0 0 0 0 n_ n_ n_ 0 0 0):=by
    have b1:B_ w.heap.size w ((w.alloc (c_ p.row 46)).alloc (c_ ar 46)):=((Kp _ _).alloc (Ki _) _).alloc zy _;exact⟨b1.drew,(PU zy).trans (Kj _ _),Kq _ _ _,⟨(λh=>by cases h),λh=>by cases h⟩,⟨(λh=>by cases h),λh=>by cases h⟩,⟨(λh=>by cases h),λh=>by cases h⟩,(λh=>by cases h),⟨(λh=>by cases h),λh=>by cases h⟩,zy,⟨λi j _ q hq=>by rcases i with _|_|_|_|_<;>simp[four,bM]at hq,λi q hq=>by rcases i with _|_|_|_|_<;>simp[four,bM]at hq⟩⟩
  have HS:da (Jn p w (((w.alloc (c_ p.row 46)).alloc (c_ ar 46))).drew):=by obtain⟨m0,m1,m2,m3,m4,m5,m6,m7⟩:=HC.I.part.cells;exact⟨m0,m1,m3,m4,m5⟩
  clear hf h hsh;unfold af.cells
  go_enter func44,ntmps44
  go_wp2_with fail;generalize(w.alloc (c_ p.row 46)).alloc (c_ ar 46)=W at*;refine Kr (S:=Jn p w) ZbG HS.I (λbN=>?_);refine tt 0 bN ?_;refine tt 1 bN ?_;refine tt 2 bN ?_;refine tt 3 bN ?_;refine tt 5 bN ?_;refine tt 6 bN ?_;refine tt 9 bN ?_;refine tt 10 bN ?_;refine tt 13 bN ?_;refine tt 14 bN ?_;refine wild (IP p w) (λl a w1 hI=>?_) (λl a w1 hI i hi=>?_) (λl a w1 hI h0=>?_) _ _ _ _ ⟨false,false,false,false,false,false,false,false,false,0,0,0,0,n_,n_,n_,0,0,0,by kernel_rfl,rfl,HC.I⟩ (of_decide_eq_true ZbG)
  . obtain⟨b0,d0,b1,d1,b2,d2,b3,d3,e,g0,g1,g2,o,a0,a1,a2,c0,c1,c2, -, -,hC⟩:=hI
    obtain⟨m0,m1,m2,m3,m4,m5,m6,m7⟩:=hC.part.cells;exact⟨m0,m1,m3,m4,m5⟩
  . obtain⟨b0,d0,b1,d1,b2,d2,b3,d3,e,g0,g1,g2,o,a0,a1,a2,c0,c1,c2,rfl,rfl,hC⟩:=hI
    have HI:da (fI p w w1 b0 d0 b1 d1 b2 d2 b3 d3 e g0 g1 g2 o a0 a1 a2 c0 c1 c2):=hC;clear hC;unfold CY
    match i,hi with
    |0,hi=>exact absurd (cX hi) zy
    |1,hi=>exact absurd (cX hi) zy
    |2,hi=>exact absurd (cX hi) zy
    |3,hi=>exact absurd (cX hi) zy
    |4,hi=>
      have hb:b0=false:=by have h5:=cX hi;simpa using h5
      subst hb;refine ln (o:=_) rfl ZbG (λK hK=>?_);go_wp2_with fail;exact hK.out _ _ ⟨true,d0,b1,d1,b2,d2,b3,d3,e,w1.heap.size,g1,g2,o,a0,a1,a2,c0,c1,c2,by rfl,by rfl,HI.I.aaZ⟩
    |5,hi=>exact absurd (cX hi) zy
    |6,hi=>exact absurd (cX hi) zy
    |7,hi=>
      have hb:d0=false:=by have h5:=cX hi;simpa using h5
      have hn4:b0=true:=by have h5:=hF [4,6] hi ZbG 4 (by decide);simpa using h5
      subst hb hn4;refine ln (o:=_) rfl ZbG (λK hK=>?_);obtain⟨a',c',w2,hr,ho,hg,hq⟩:=Iq w1 (w.heap.size+2) g0 (HI.I.s0.made rfl rfl).1 (HI.I.s0.made rfl rfl).2 p.bc p.aj p.bF ((HF.I.2.below HI.I.cd).2.1.1) HF.I.1.short.aj HI.I.size;refine cM _ _ _ rfl _ _ _ w2 rfl rfl hr ?_;have he:e=false:=by cases e with|false=>rfl|true=>(have h5:=HI.I.cl.1 rfl;simp at h5)
      subst he;exact hK.out _ _ ⟨true,true,b1,d1,b2,d2,b3,d3,false,g0,g1,g2,o,a',a1,a2,c',c1,c2,by rfl,by rfl,HI.I.aa1 ho hg hq⟩
    |8,hi=>
      have hb:b1=false:=by have h5:=cX hi;simpa using h5
      subst hb;refine ln (o:=_) rfl ZbG (λK hK=>?_);go_wp2_with fail;exact hK.out _ _ ⟨b0,d0,true,d1,b2,d2,b3,d3,e,g0,w1.heap.size,g2,o,a0,a1,a2,c0,c1,c2,by rfl,by rfl,HI.I.abg⟩
    |9,hi=>exact absurd (cX hi) zy
    |10,hi=>exact absurd (cX hi) zy
    |11,hi=>
      have hb:d1=false:=by have h5:=cX hi;simpa using h5
      have hn8:b1=true:=by have h5:=hF [8,10,7] hi ZbG 8 (by decide);simpa using h5
      subst hb hn8;refine ln (o:=_) rfl ZbG (λK hK=>?_);obtain⟨a',c',w2,hr,ho,hg,hq⟩:=Fp w1 (w.heap.size+2) g1 (HI.I.s1.made rfl rfl).1 (HI.I.s1.made rfl rfl).2 p.ay p.L9 p.aO ((HF.I.2.below HI.I.cd).2.2.1.1) HF.I.1.short.L9 HI.I.size;refine cM _ _ _ rfl _ _ _ w2 rfl rfl hr ?_;have he:e=false:=by cases e with|false=>rfl|true=>(have h5:=HI.I.cl.1 rfl;simp at h5)
      subst he;exact hK.out _ _ ⟨b0,d0,true,true,b2,d2,b3,d3,false,g0,g1,g2,o,a0,a',a2,c0,c',c2,by rfl,by rfl,HI.I.aa2 ho hg hq⟩
    |12,hi=>
      have hb:b2=false:=by have h5:=cX hi;simpa using h5
      subst hb;refine ln (o:=_) rfl ZbG (λK hK=>?_);go_wp2_with fail;exact hK.out _ _ ⟨b0,d0,b1,d1,true,d2,b3,d3,e,g0,g1,w1.heap.size,o,a0,a1,a2,c0,c1,c2,by rfl,by rfl,HI.I.make2⟩
    |13,hi=>exact absurd (cX hi) zy
    |14,hi=>exact absurd (cX hi) zy
    |15,hi=>
      have hb:d2=false:=by have h5:=cX hi;simpa using h5
      have adF:b2=true:=by have h5:=hF [12,14,11] hi ZbG 12 (by decide);simpa using h5
      subst hb adF;refine ln (o:=_) rfl ZbG (λK hK=>?_);obtain⟨a',c',w2,hr,ho,hg,hq⟩:=ED w1 (w.heap.size+2) g2 (HI.I.s2.made rfl rfl).1 (HI.I.s2.made rfl rfl).2 p.ax p.ag p.aP ((HF.I.2.below HI.I.cd).2.2.2.1.1) HF.I.1.short.ag HI.I.size;refine cM _ _ _ rfl _ _ _ w2 rfl rfl hr ?_;have he:e=false:=by cases e with|false=>rfl|true=>(have h5:=HI.I.cl.1 rfl;simp at h5)
      subst he;exact hK.out _ _ ⟨b0,d0,b1,d1,true,true,b3,d3,false,g0,g1,g2,o,a0,a1,a',c0,c1,c',by rfl,by rfl,HI.I.copy2 ho hg hq⟩
    |16,hi=>
      have hb:e=false:=by have h5:=cX hi;simpa using h5
      have hn7:d0=true:=by have h5:=hF [1,3,7,11,15] hi ZbG 7 (by decide);simpa using h5
      have hn11:d1=true:=by have h5:=hF [1,3,7,11,15] hi ZbG 11 (by decide);simpa using h5
      have hn15:d2=true:=by have h5:=hF [1,3,7,11,15] hi ZbG 15 (by decide);simpa using h5
      subst hb hn7 hn11 hn15;refine ln (o:=_) rfl ZbG (λK hK=>?_);go_wp2_with fail;exact hK.out _ _ ⟨b0,true,b1,true,b2,true,b3,d3,true,g0,g1,g2,o,a0,a1,a2,c0,c1,c2,by rfl,by rfl,HI.I.build rfl rfl rfl⟩
    |17,hi=>
      have hb:b3=false:=by have h5:=cX hi;simpa using h5
      subst hb;refine ln (o:=_) rfl ZbG (λK hK=>?_);have hd3:d3=false:=by cases d3 with|false=>rfl|true=>(have h5:=HI.I.cl.2 rfl;simp at h5)
      subst hd3;go_wp2_with fail;exact hK.out _ _ ⟨b0,d0,b1,d1,b2,d2,true,false,e,g0,g1,g2,w1.heap.size,a0,a1,a2,c0,c1,c2,by rfl,by rfl,HI.I.aa9⟩
    |18,hi=>
      have hb:d3=false:=by have h5:=cX hi;simpa using h5
      have hn17:b3=true:=by have h5:=hF [17,16,15,0,1,2,3,4,5,6,7,8,9,10,11,12,13,14,15,16,17] hi ZbG 17 (by decide);simpa using h5
      have hn16:e=true:=by have h5:=hF [17,16,15,0,1,2,3,4,5,6,7,8,9,10,11,12,13,14,15,16,17] hi ZbG 16 (by decide);simpa using h5
      subst hb hn17 hn16;refine ln (o:=_) rfl ZbG (λK hK=>?_);refine qd _ _ _ rfl o _ _ _ rfl rfl (HI.I.I rfl) ZbG rfl ZbG ?_;exact hK.out _ _ ⟨b0,d0,b1,d1,b2,d2,true,true,true,g0,g1,g2,o,a0,a1,a2,c0,c1,c2,by rfl,by rfl,HI.I.store⟩
    |n+19,hi=>exact absurd (cX hi) zy
  . obtain⟨b0,d0,b1,d1,b2,d2,b3,d3,e,g0,g1,g2,o,a0,a1,a2,c0,c1,c2,rfl,rfl,hC⟩:=hI
    have hno:∀i,i∉Region.ready .any _ _:=λi hi=>by rw[h0]at hi;cases hi
    have hb0:b0=true:=by cases hx:b0 with|true=>rfl|false=>exact absurd (jW [] ZbG ZbG Zcz (λj hj=>by cases hj)) (hno 4)
    have hd0:d0=true:=by cases hx:d0 with|true=>rfl|false=>exact absurd (jW [4,6] ZbG ZbG Zcz (λj hj=>by simp only[Kt,Ku,or_false]at hj;rcases hj with rfl|rfl<;>first|rfl|simp[hb0])) (hno 7)
    have hb1:b1=true:=by cases hx:b1 with|true=>rfl|false=>exact absurd (jW [] ZbG ZbG Zcz (λj hj=>by cases hj)) (hno 8)
    have hd1:d1=true:=by cases hx:d1 with|true=>rfl|false=>exact absurd (jW [8,10,7] ZbG ZbG Zcz (λj hj=>by simp only[Kt,Ku,or_false]at hj;rcases hj with rfl|rfl|rfl<;>first|rfl|simp[hb1,hd0])) (hno 11)
    have hb2:b2=true:=by cases hx:b2 with|true=>rfl|false=>exact absurd (jW [] ZbG ZbG Zcz (λj hj=>by cases hj)) (hno 12)
    have hd2:d2=true:=by cases hx:d2 with|true=>rfl|false=>exact absurd (jW [12,14,11] ZbG ZbG Zcz (λj hj=>by simp only[Kt,Ku,or_false]at hj;rcases hj with rfl|rfl|rfl<;>first|rfl|simp[hb2,hd1])) (hno 15)
    have he:e=true:=by cases hx:e with|true=>rfl|false=>exact absurd (jW [1,3,7,11,15] ZbG ZbG Zcz (λj hj=>by simp only[Kt,Ku,or_false]at hj;rcases hj with rfl|rfl|rfl|rfl|rfl<;>first|rfl|simp[hd0,hd1,hd2])) (hno 16)
    have hb3:b3=true:=by cases hx:b3 with|true=>rfl|false=>exact absurd (jW [] ZbG ZbG Zcz (λj hj=>by cases hj)) (hno 17)
    have hd3:d3=true:=by cases hx:d3 with|true=>rfl|false=>exact absurd (jW [17,16,15,0,1,2,3,4,5,6,7,8,9,10,11,12,13,14,15,16,17] ZbG ZbG Zcz (λj hj=>by simp only[Kt,Ku,or_false]at hj;rcases hj with rfl|rfl|rfl|rfl|rfl|rfl|rfl|rfl|rfl|rfl|rfl|rfl|rfl|rfl|rfl|rfl|rfl|rfl|rfl|rfl|rfl<;>first|rfl|simp[hb0,hd0,hb1,hd1,hb2,hd2,he,hb3])) (hno 18)
    subst hb0 hd0 hb1 hd1 hb2 hd2 he hb3 hd3;have HI:da (fI p w w1 true true true true true true true true true g0 g1 g2 o a0 a1 a2 c0 c1 c2):=hC;clear hC hno h0;simp only[CY,cond_true];obtain⟨q0,HLS⟩:∃q0,da (cL p w w1 o q0/\(q0.L8=[]/\q0.aN=n_/\q0.aW=0)/\(q0.ae=[]/\q0.am=n_/\q0.aG=0)/\(q0.ai=[]/\q0.aK=n_/\q0.aV=0)/\q0.pure={p.pure with L8:=[],ae:=[],ai:=[]}):=⟨_,cL.start HI.I,⟨rfl,rfl,rfl⟩,⟨rfl,rfl,rfl⟩,⟨rfl,rfl,rfl⟩,rfl⟩
    clear HI HC HS bN;have hpProc:p.L8.length<=1048576:=HF.I.1.short.L8;go_wp2_with fail
    go_loopw[4] (λi wr=>∃k:Nat,k<=p.L8.length/\i=i_ j_ k/\da (∃I a cap,ap5 aR bg w w1 o 2 q0.cells p.L8 k I a cap wr)) (λi _=>p.L8.length-(Go.RowKit.intOf i).toNat)
    case atStart=>exact⟨0,Ky _,rfl,⟨[],n_,0,ap5.start HLS.I.1.I ZcM HLS.I.1.cd⟩⟩
    case round=>
      obtain⟨k,hk,rfl,HA⟩:=hrel;obtain⟨I,a,cap,hL⟩:=HA.I;have hlo:=HLS.I.1.low;have p7:o<w1.heap.size:=(J2.1 HLS.I.1.I).1;have mp:wr.cell? ⟨w.heap.size,2,n_⟩=o_ (s_ p.aN p.L8.length p.aW):=by obtain⟨m0,m1,m2,m3,m4,m5,m6,m7⟩:=av.cells ((hL.same w.heap.size zw zw).trans HLS.I.1.part);exact m2
      by_cases hlt:k<p.L8.length
      . have i0:(0:Int)<=(k:Int):=by omega
        have i1:(k:Int)<(p.L8.length:Int):=by omega
        obtain⟨x,hx⟩:∃x,p.L8[k]? =o_ x:=⟨_,Kz hlt⟩
        have hAt:=HF.I.2.below hL.cd;obtain⟨gs,ha,d0,d1,d2,d3,d4,d5,d6,d7,d8,d9,tH,tS⟩:=cn hAt.1 hx;rw[ha]at mp;have hb2:B_ wr.heap.size wr ((wr.alloc (c_ (aX x) 125)).alloc (c_ #[] 217)):=((Kp _ _).alloc (Ki _) _).alloc zy _;obtain⟨a2,c2,w7,hap,how,Fw,nW⟩:=Gg ((wr.alloc (c_ (aX x) 125)).alloc (c_ #[] 217)) wr.heap.size (wr.heap.size+1) (Kq _ _ _) zw x.aY x.prog x.bH ((hAt.1.2 x (KA hx) (x.aY,fk.flat x.prog) (KB.2 rfl):Row wr x.aY (fk.flat x.prog)).below hb2) (HFS.I x (KA hx)).prog ZbI;obtain⟨⟨DO,hC8,hX8,hs8⟩,a',cap',w',r1,hX',hL'⟩:=hL.copy (s:=2) (t:=39) hx ⟨zw,p7⟩ zw Fw how nW (λ_=>rfl) rfl (λ_=>rfl) (λv u hu=>rB u hu) underlying39 nb rfl (by decide);have z0:w7.frozen? ⟨wr.heap.size,2,n_⟩=false:=Ko _ _ _ _ _ DO;have z1:w7.cell? ⟨wr.heap.size,2,n_⟩=o_ (s_ x.aY x.prog.length x.bH):=by rw[K5 _ _ _ _ _ _ DO];rfl
        obtain⟨e0,e1,e2,e3,e4,e5,e6,e7,e8,e9,Pn,e11⟩:=bo (W:=w7.setCell ⟨wr.heap.size,2,n_⟩ (s_ a2 x.prog.length c2)) (x:={x with aY:=a2,bH:=c2}) hC8;have co:(w7.setCell ⟨wr.heap.size,2,n_⟩ (s_ a2 x.prog.length c2)).cell? ⟨o,2,n_⟩=o_ (s_ a I.length cap):=by rw[K5 _ _ _ _ _ _ ((show(w7.setCell ⟨wr.heap.size,2,n_⟩ (s_ a2 x.prog.length c2)).heap[o]? =_ from hX8).trans hL.box)];rfl
        have co':w'.cell? ⟨o,2,n_⟩=o_ (s_ a I.length cap):=by rw[K5 _ _ _ _ _ _ (hX'.trans hL.box)];rfl
        have cf':w'.frozen? ⟨o,2,n_⟩=false:=Ko _ _ _ _ _ (hX'.trans hL.box);have HN:=aA hL';clear hs8;clear hx ha hAt hb2 how Fw nW DO hC8 hX8 hX' hL' hL HA;go_wp2_with(at_builtin;first|(refine br _ rfl _ _ 123 rfl _ _ _ _ rfl rfl hap ?_;clear hap)|(refine br _ rfl _ _ 39 rfl _ _ _ _ rfl rfl r1 ?_;clear r1));exact Tu
      . have i1:¬(k:Int)<(p.L8.length:Int):=by omega
        obtain ⟨q9, HL9⟩ : ∃ q0, da (cL p w wr o q0 /\ (q0.ae = [] /\ q0.am = n_ /\ q0.aG = 0) /\ (q0.ai = [] /\ q0.aK = n_ /\ q0.aV = 0) /\ q0.pure = { p.pure with ae := [], ai := [] }) := ⟨{q0 with L8:=I,aN:=a,aW:=cap},HLS.I.1.arV ⟨HLS.I.2.1.1,HLS.I.2.1.2.1⟩ hL,HLS.I.2.2.1,HLS.I.2.2.2.1,by
                      have h5:=hL.pure (f:=λx:ao=>x.toaD) (λ_=>rfl) zw
                      show({q0.pure with L8:=I.map (·.toaD)}:aE)=_
                      rw[h5,HLS.I.2.2.2.2];rfl⟩
        clear HLS HA hL hk hlt p7 hlo hpProc
        rename w_=>W9
        obtain⟨q0,HLS⟩:∃q0,da (cL p w W9 o q0/\(q0.ae=[]/\q0.am=n_/\q0.aG=0)/\(q0.ai=[]/\q0.aK=n_/\q0.aV=0)/\q0.pure={p.pure with ae:=[],ai:=[]}):=⟨q9,HL9.I⟩
        clear HL9;have arP:p.ae.length<=1048576:=HF.I.1.short.ae;go_wp2_with fail
        go_loopw[6] (λi wr=>∃k:Nat,k<=p.ae.length/\i=i_ j_ k/\da (∃I a cap,ap5 aC bm w W9 o 6 q0.cells p.ae k I a cap wr)) (λi _=>p.ae.length-(Go.RowKit.intOf i).toNat)
        case atStart=>exact⟨0,Ky _,rfl,⟨[],n_,0,ap5.start HLS.I.1.I ZcM HLS.I.1.cd⟩⟩
        case round=>
          obtain⟨k,hk,rfl,HA⟩:=hrel;obtain⟨I,a,cap,hL⟩:=HA.I;have hlo:=HLS.I.1.low;have p7:o<W9.heap.size:=(J2.1 HLS.I.1.I).1;have mp:wr.cell? ⟨w.heap.size,6,n_⟩=o_ (s_ p.am p.ae.length p.aG):=by obtain⟨m0,m1,m2,m3,m4,m5,m6,m7⟩:=av.cells ((hL.same w.heap.size zw zw).trans HLS.I.1.part);exact m6
          by_cases hlt:k<p.ae.length
          . have i0:(0:Int)<=(k:Int):=by omega
            have i1:(k:Int)<(p.ae.length:Int):=by omega
            obtain⟨x,hx⟩:∃x,p.ae[k]? =o_ x:=⟨_,Kz hlt⟩
            have hAt:=HF.I.2.below hL.cd;obtain⟨gs,ha,d0,d1,d2⟩:=iA hAt.2.2.2.2.1 hx;rw[ha]at mp;have hb2:B_ wr.heap.size wr ((wr.alloc (c_ (bQ x) 137)).alloc (c_ #[] 9)):=((Kp _ _).alloc (Ki _) _).alloc zy _;obtain⟨a2,c2,w7,hap,how,Fw,nW⟩:=tO ((wr.alloc (c_ (bQ x) 137)).alloc (c_ #[] 9)) wr.heap.size (wr.heap.size+1) (Kq _ _ _) zw x.ak x.Ma x.aq ((hAt.2.2.2.2.1.2 x (KA hx) (x.ak,bT.flat x.Ma) (KB.2 rfl):Row wr x.ak (bT.flat x.Ma)).below hb2) (HF.I.1.ae x (KA hx)).1 ZbI;obtain⟨⟨DO,hC8,hX8,hs8⟩,a',cap',w',r1,hX',hL'⟩:=hL.copy (s:=2) (t:=43) hx ⟨zw,p7⟩ zw Fw how nW (λ_=>rfl) rfl (λ_=>rfl) (λv u hu=>nz u hu) underlying43 kh rfl (by decide);have z0:w7.frozen? ⟨wr.heap.size,2,n_⟩=false:=Ko _ _ _ _ _ DO;have z1:w7.cell? ⟨wr.heap.size,2,n_⟩=o_ (s_ x.ak x.Ma.length x.aq):=by rw[K5 _ _ _ _ _ _ DO];rfl
            obtain⟨e0,e1,e2⟩:=ia (W:=w7.setCell ⟨wr.heap.size,2,n_⟩ (s_ a2 x.Ma.length c2)) (x:={x with ak:=a2,aq:=c2}) hC8;have co:(w7.setCell ⟨wr.heap.size,2,n_⟩ (s_ a2 x.Ma.length c2)).cell? ⟨o,6,n_⟩=o_ (s_ a I.length cap):=by rw[K5 _ _ _ _ _ _ ((show(w7.setCell ⟨wr.heap.size,2,n_⟩ (s_ a2 x.Ma.length c2)).heap[o]? =_ from hX8).trans hL.box)];rfl
            have co':w'.cell? ⟨o,6,n_⟩=o_ (s_ a I.length cap):=by rw[K5 _ _ _ _ _ _ (hX'.trans hL.box)];rfl
            have cf':w'.frozen? ⟨o,6,n_⟩=false:=Ko _ _ _ _ _ (hX'.trans hL.box);have HN:=aA hL';clear hs8;clear hx ha hAt hb2 how Fw nW DO hC8 hX8 hX' hL' hL HA;go_wp2_with(at_builtin;first|(refine br _ rfl _ _ 49 rfl _ _ _ _ rfl rfl hap ?_;clear hap)|(refine br _ rfl _ _ 43 rfl _ _ _ _ rfl rfl r1 ?_;clear r1));exact Tu
          . have i1:¬(k:Int)<(p.ae.length:Int):=by omega
            obtain ⟨q9, HL9⟩ : ∃ q0, da (cL p w wr o q0 /\ (q0.ai = [] /\ q0.aK = n_ /\ q0.aV = 0) /\ q0.pure = { p.pure with ai := [] }) := ⟨{q0 with ae:=I,am:=a,aG:=cap},HLS.I.1.arA ⟨HLS.I.2.1.1,HLS.I.2.1.2.1⟩ hL,HLS.I.2.2.1,by
                          have h5:=hL.pure (f:=λx:au=>x.toci) (λ_=>rfl) zw
                          show({q0.pure with ae:=I.map (·.toci)}:aE)=_
                          rw[h5,HLS.I.2.2.2];rfl⟩
            clear HLS HA hL hk hlt p7 hlo arP
            rename w_=>W10
            obtain⟨q0,HLS⟩:∃q0,da (cL p w W10 o q0/\(q0.ai=[]/\q0.aK=n_/\q0.aV=0)/\q0.pure={p.pure with ai:=[]}):=⟨q9,HL9.I⟩
            clear HL9;have hpPort:p.ai.length<=1048576:=HF.I.1.short.ai;go_wp2_with fail
            go_loopw[8] (λi wr=>∃k:Nat,k<=p.ai.length/\i=i_ j_ k/\da (∃I a cap,ap5 aU bX w W10 o 7 q0.cells p.ai k I a cap wr)) (λi _=>p.ai.length-(Go.RowKit.intOf i).toNat)
            case atStart=>exact⟨0,Ky _,rfl,⟨[],n_,0,ap5.start HLS.I.1.I ZcM HLS.I.1.cd⟩⟩
            case round=>
              obtain⟨k,hk,rfl,HA⟩:=hrel;obtain⟨I,a,cap,hL⟩:=HA.I;have hlo:=HLS.I.1.low;have p7:o<W10.heap.size:=(J2.1 HLS.I.1.I).1;have mp:wr.cell? ⟨w.heap.size,7,n_⟩=o_ (s_ p.aK p.ai.length p.aV):=by obtain⟨m0,m1,m2,m3,m4,m5,m6,m7⟩:=av.cells ((hL.same w.heap.size zw zw).trans HLS.I.1.part);exact m7
              by_cases hlt:k<p.ai.length
              . have i0:(0:Int)<=(k:Int):=by omega
                have i1:(k:Int)<(p.ai.length:Int):=by omega
                obtain⟨x,hx⟩:∃x,p.ai[k]? =o_ x:=⟨_,Kz hlt⟩
                have hAt:=HF.I.2.below hL.cd;obtain⟨gs,ha,d0,d1,d2,d3,d4⟩:=lm hAt.2.2.2.2.2 hx;rw[ha]at mp;have hb2:B_ wr.heap.size wr ((wr.alloc (c_ (cW x) 51)).alloc (c_ #[] 9)):=((Kp _ _).alloc (Ki _) _).alloc zy _;obtain⟨a2,c2,w7,hap,how,Fw,nW⟩:=tO ((wr.alloc (c_ (cW x) 51)).alloc (c_ #[] 9)) wr.heap.size (wr.heap.size+1) (Kq _ _ _) zw x.ak x.Ma x.aq ((hAt.2.2.2.2.2.2 x (KA hx) (x.ak,bT.flat x.Ma) (KB.2 rfl):Row wr x.ak (bT.flat x.Ma)).below hb2) (HF.I.1.ai x (KA hx)).1 ZbI;obtain⟨⟨DO,hC8,hX8,hs8⟩,a',cap',w',r1,hX',hL'⟩:=hL.copy (s:=4) (t:=44) hx ⟨zw,p7⟩ zw Fw how nW (λ_=>rfl) rfl (λ_=>rfl) (λv u hu=>qX u hu) underlying44 na rfl (by decide);have z0:w7.frozen? ⟨wr.heap.size,4,n_⟩=false:=Ko _ _ _ _ _ DO;have z1:w7.cell? ⟨wr.heap.size,4,n_⟩=o_ (s_ x.ak x.Ma.length x.aq):=by rw[K5 _ _ _ _ _ _ DO];rfl
                obtain⟨e0,e1,e2,e3,e4⟩:=gE (W:=w7.setCell ⟨wr.heap.size,4,n_⟩ (s_ a2 x.Ma.length c2)) (x:={x with ak:=a2,aq:=c2}) hC8;have co:(w7.setCell ⟨wr.heap.size,4,n_⟩ (s_ a2 x.Ma.length c2)).cell? ⟨o,7,n_⟩=o_ (s_ a I.length cap):=by rw[K5 _ _ _ _ _ _ ((show(w7.setCell ⟨wr.heap.size,4,n_⟩ (s_ a2 x.Ma.length c2)).heap[o]? =_ from hX8).trans hL.box)];rfl
                have co':w'.cell? ⟨o,7,n_⟩=o_ (s_ a I.length cap):=by rw[K5 _ _ _ _ _ _ (hX'.trans hL.box)];rfl
                have cf':w'.frozen? ⟨o,7,n_⟩=false:=Ko _ _ _ _ _ (hX'.trans hL.box);have HN:=aA hL';clear hs8;clear hx ha hAt hb2 how Fw nW DO hC8 hX8 hX' hL' hL HA;go_wp2_with(at_builtin;first|(refine br _ rfl _ _ 49 rfl _ _ _ _ rfl rfl hap ?_;clear hap)|(refine br _ rfl _ _ 44 rfl _ _ _ _ rfl rfl r1 ?_;clear r1));exact Tu
              . have i1:¬(k:Int)<(p.ai.length:Int):=by omega
                have HZ : da (∃ q0, cL p w wr o q0 /\ q0.pure = p.pure) := ⟨{q0 with ai:=I,aK:=a,aV:=cap},HLS.I.1.ar4 ⟨HLS.I.2.1.1,HLS.I.2.1.2.1⟩ hL,by
                              have h5:=hL.pure (f:=λx:aM=>x.todS) (λ_=>rfl) zw
                              show({q0.pure with ai:=I.map (·.todS)}:aE)=_
                              rw[h5,HLS.I.2.2];rfl⟩
                clear HLS HA hL;obtain⟨q,hq,hqp⟩:=HZ.I;replace HZ:da (cL p w wr o q/\q.pure=p.pure):=⟨hq,hqp⟩
                obtain⟨m0,m1,m2,m3,m4,m5,m6,m7⟩:=hq.I.cells;clear hq hqp
                repeat (first|(go_big_may;refine ec _ _ q.row HZ.I.1.ret ?_)|go_values|go_skip|go_guarded|go_step|go_upon|go_back)
                repeat (first|go_values|go_skip|go_guarded|go_step|go_upon)
                refine gZ results44 HZ.I.1.ret ?_;have hne:∀g∈q.Mc,g≠w.heap.size+1:=λg hg e=>by have:=(HZ.I.1.own.lt g hg).1;omega
                exact⟨q,rfl,(HZ.I.1.own.lower zw).same λg hg=>KH _ _ _ _ (hne g hg),HZ.I.2,q_ HZ.I.1.cd zw _⟩
end
section
open Go.Maps
attribute [local go_sem ↓] Kc Kd
def nK (id:Int):∀(l:List aD)(k:Nat),(place (l.map (·.id)) id k= -1/\l.find? (λx=>decide (x.id=id))=n_)\/ ∃n x,place (l.map (·.id)) id k=((k+n:Nat):Int)/\l[n]? =o_ x/\l.find? (λx=>decide (x.id=id))=o_ x
 |[],k=>.inl ⟨rfl,rfl⟩
 |x::r,k=>by
  by_cases h:x.id=id
  .refine .inr ⟨0,x,?_,rfl,by simp[h]⟩
   simp[place,h]
  .rcases nK id r (k+1)with⟨h1,h2⟩|⟨n,y,h1,h2,h3⟩
   .exact ZaU
   .refine .inr ⟨n+1,y,?_,h2,ZfA⟩
    simp only[Lt,place];rw[if_neg h,h1];omega
end
section
attribute [local go_sem ↓] Kc Kd


end
end Go.Proofs.YtckenjkcmajicaaGreat
