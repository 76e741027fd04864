/- What the proof leans on, part 18. -/
import Derived.Test.YtckenjkcmajicaaGreatOwnG14
import Derived.Test.YtckenjkcmajicaaGreatOwnG16
set_option linter.all false
set_option maxRecDepth 100000
set_option maxHeartbeats 8000000
open Go.Proofs.Tryz
open Go renaming World->w_,Value->v_,Calls->k_,Addr->d_,TypeId->T_,below_setRow->q_
open Go.Ending renaming returned->r_
open Go.IntKind renaming i64->j_
open Go.Obj renaming cells->c_
open Go.RowKit renaming Below->B_,Hid->da
open Go.Value renaming int->i_,slice->s_,agg->a_,pointer->p_
open Option renaming some->o_,none->n_
open Array renaming length_toList->aen
open Function renaming comp_def->Ls
open Go.Deep renaming blk_setCell_other->ac5
open Go.Proofs.Tryz renaming prog->J3
open Go.RowKit.Below renaming heap_alloc->adD
open List renaming getElem_cons_succ->K1,getElem_cons_zero->K0,getElem_toArray->KZ,length_singleton->adg,map_singleton->adl

namespace Go.Proofs.YtckenjkcmajicaaGreat
section
open Go.RowKit Go.Maps
def Zq (k:kd)(aw:Option d_)(Y3:Nat)(p c:v_):Array v_:=#[i_ j_ k.bE,i_ j_ k.major,s_ aw k.fn.length Y3,p,c]
structure Zt (w W3:w_)(X lo:Nat)(k:kd)(aw:Option d_)(Y3:Nat)(l:List (aZ×Nat))(n:Nat)(I:List af)(Zj:Option d_)(cp:Nat)(W:w_):Prop where
 box:W.heap[X]? =o_ (c_ (Zq k aw Y3 (s_ Zj I.length cp) (s_ n_ 0 0)) 30)
 pg:YR W3.heap.size lo I Zj cp W
 pure:I.map (·.pure)=(l.take n).map (·.1.pure)
 bl:∀q∈I,∀g∈q.Mc,W3.heap.size<=g\/ ∃p∈l.take n,g∈p.1.kids
 same:∀g,g<W3.heap.size->g≠X->W.heap[g]? =W3.heap[g]?
 cd:B_ w.heap.size w W
 size:W3.heap.size<=W.heap.size
def Zt.len {w W3 W:w_}{X lo n Y3 cp:Nat}{k:kd}{aw Zj:Option d_}{l:List (aZ×Nat)}{I:List af}(h:Zt w W3 X lo k aw Y3 l n I Zj cp W):I.length<=n:=by
 have h1:=congrArg List.length h.pure;simp at h1;omega
def Zt.step {w W3 W W5:w_}{X lo n Y3 cp:Nat}{k:kd}{aw Zj:Option d_}{l:List (aZ×Nat)}{I:List af}{p:aZ×Nat}{r:af}(h:Zt w W3 X lo k aw Y3 l n I Zj cp W)(hp:l[n]? =o_ p)
  (hap:l.Pairwise λp q=>∀g∈p.1.all p.2,∀g'∈q.1.all q.2,g≠g')(hall:∀p∈l,∀g∈p.1.all p.2,g<w.heap.size)(hX:w.heap.size<=X/\X<W3.heap.size)(hn:l.length<=6)
  (hr:ap W5 lo r)(gn:r.pure=p.1.pure)(hb:B_ W.heap.size W W5)(hbl:∀g∈r.Mc,g∈p.1.kids\/W.heap.size<=g):
  ∃a' cap' w',(Builtin.append_ #[27,27] 27 #[s_ Zj I.length cp,s_ (o_ ⟨W5.heap.size,0,n_⟩) 1 1]).run J3 (W5.alloc (c_ r.cells 46))=.ok (s_ a' (I.length+1) cap') w'/\B_ w.heap.size w w'/\w'.heap[X]? =o_ (c_ (Zq k aw Y3 (s_ Zj I.length cp) (s_ n_ 0 0)) 30)/\Zt w W3 X lo k aw Y3 l (n+1) (I++[r]) a' cap' (w'.setCell ⟨X,3,n_⟩ (s_ a' (I.length+1) cap')):=by
 have hlt:n<l.length:=(Lj.1 hp).1;have hlen:=h.len;have hsz:=h.size;have aaX:=hb.size;have hxl:X<W.heap.size:=zw
 have bt:∀q∈l,∀g∈q.1.kids,g∈q.1.all q.2:=λq _ g hg=>LB _ (Ly _ hg)
 have hpm:p∈l:=KA hp;have hpd:p∈l.drop n:=by rw[adH hlt];rw[Kz hlt]at hp;cases hp;exact List.mem_cons_self
 have hlow:∀g∈blk Zj,W3.heap.size<=g:=λg hg=>(cf h.pg.own hg).1
 have hf:∀g∈r.Mc,g∉blk Zj++I.flatMap af.Mc:=λg hg hm=>by
  rcases hbl g hg with hk|hk
  .have h1:=hall p hpm g (bt p hpm g hk)
   rcases Kg.1 hm with hm|hm
   .have:=hlow g hm;omega
   .obtain ⟨q,hq,hgq⟩:=Rt.1 hm
    rcases h.bl q hq g hgq with h2|⟨q',hq',hg'⟩
    .omega
    .rw [<-Qn n l]at hap
     exact(List.pairwise_append.1 hap).2.2 q' hq' p hpd g (bt q' (RK hq') g hg') g (bt p hpm g hk) rfl
  .have:=h.pg.lt g hm;omega
 obtain⟨a',cap',w',h1,h2,h3,h4⟩:=aaw (h.pg.below hb) hr hf zw zw;have hw':=h3.size;have lY:B_ w.heap.size w w':=(h.cd.trans (hb.mono h.cd.size)).trans (h3.below ZdX λg hg=>ZdC);have hsame:∀g,g<W3.heap.size->w'.heap[g]? =W.heap[g]?:=λg hg=>(h3.same g zw λhm=>ZdH).trans (hb.block g zw)
 have lD:w'.heap[X]? =o_ (c_ (Zq k aw Y3 (s_ Zj I.length cp) (s_ n_ 0 0)) 30):=(hsame X zw).trans h.box;have hmore:∀q∈I++[r],∀g∈q.Mc,W3.heap.size<=g\/ ∃p∈l.take (n+1),g∈p.1.kids:=λq hq g hg=>by
  rw[cj hp];rcases Kg.1 hq with hq|hq
  .rcases h.bl q hq g hg with h5|⟨q',h5,h6⟩
   .exact .inl h5
   .exact .inr ⟨q',Lz _ h5,h6⟩
  .rw [KB.1 hq]at hg
   rcases hbl g hg with h5|h5
   .exact .inr ⟨p,Ly _ (KB.2 rfl),h5⟩
   .exact .inl zw
 refine⟨a',cap',w',h1,lY,lD,?_,h2.same λg hg=>ac5 _ _ _ _ ?_,?_,hmore,λg hg hx=>(ac5 _ _ _ _ hx).trans ((hsame g hg).trans (h.same g hg hx)),lY.setCell hX.1 _,?_⟩
 .rw [Lf,adg]
  exact K7 _ _ _ _ _ _ lD
 .show g≠X
  rcases Kg.1 hg with hg|hg
  .have:=(cf h2.own hg).1;omega
  .obtain ⟨q,hq,hgq⟩:=Rt.1 hg
   rcases hmore q hq g hgq with h5|⟨q',h5,h6⟩
   .omega
   .have hm':=RK h5
    have:=hall q' hm' g (bt q' hm' g h6)
    omega
 .rw [cj hp,Kl,Kl,h.pure,adl,adl,gn]
 .simp [World.setCell];omega
def aa8:(Tryz.prog.info? 37).map (λi=>(i.zero,i.size,i.bytes))=o_ (o_ (a_ #[i_ j_ 0,i_ j_ 0,i_ j_ 0,i_ j_ 0]),4,32):=ZbG
structure aaI (w W4:w_)(X:Nat)(k:kd)(aw:Option d_)(Y3:Nat)(pv:v_)(ls:List gi)(n:Nat)(ac:Option d_)(cc:Nat)(W:w_):Prop where
 box:W.heap[X]? =o_ (c_ (Zq k aw Y3 pv (s_ ac n cc)) 30)
 own:W.ownsRow W4.heap.size 37 4 (s_ ac n cc) n (hM.flat ((ls.take n).map (·.c)))
 same:∀g,g<W4.heap.size->g≠X->W.heap[g]? =W4.heap[g]?
 cd:B_ w.heap.size w W
 size:W4.heap.size<=W.heap.size
def aaI.step {w W4 W W5:w_}{X n Y3 cc:Nat}{k:kd}{aw ac:Option d_}{pv:v_}{ls:List gi}{m:gi}(h:aaI w W4 X k aw Y3 pv ls n ac cc W)(hm:ls[n]? =o_ m)(hX:w.heap.size<=X/\X<W4.heap.size)(hn:ls.length<=10)(hb:B_ W.heap.size W W5):
  ∃a' cap' w',(Builtin.append_ #[28,28] 28 #[s_ ac n cc,s_ (o_ ⟨W5.heap.size,0,n_⟩) 1 1]).run J3 (W5.alloc (c_ (nx m.c) 37))=.ok (s_ a' (n+1) cap') w'/\w'.heap[X]? =o_ (c_ (Zq k aw Y3 pv (s_ ac n cc)) 30)/\aaI w W4 X k aw Y3 pv ls (n+1) a' cap' (w'.setCell ⟨X,4,n_⟩ (s_ a' (n+1) cap')):=by
 have hlt:n<ls.length:=(Lj.1 hm).1;have hsz:=h.size;have aaX:=hb.size;have hlow:∀g∈blk ac,W4.heap.size<=g:=λg hg=>(cf h.own hg).1
 obtain ⟨a',cap',w',h1,h2,h3,h4⟩:=aad underlying28 aa8 rfl (by decide) (by decide) (nx m.c) rfl (λu hu=>by
  simp only[Kt,Ku,or_false]at hu;rcases hu with rfl|rfl|rfl|rfl<;>rfl) (cR h.own hb) zw zw
 have hw':=h3.size;have lY:B_ w.heap.size w w':=(h.cd.trans (hb.mono h.cd.size)).trans (h3.below ZdX λg hg=>ZdC);have hsame:∀g,g<W4.heap.size->w'.heap[g]? =W.heap[g]?:=λg hg=>(h3.same g zw λhm=>ZdH).trans (hb.block g zw)
 have lD:=(hsame X zw).trans h.box;refine⟨a',cap',w',h1,lD,K7 _ _ _ _ _ _ lD,?_,λg hg hx=>(ac5 _ _ _ _ hx).trans ((hsame g hg).trans (h.same g hg hx)),lY.setCell hX.1 _,?_⟩
 .have e:hM.flat ((ls.take (n+1)).map (·.c))=hM.flat ((ls.take n).map (·.c))++(nx m.c).toList:=by
   rw[cj hm,Kl,hM.dc];simp[Kind.flat,hM,Vg]
  rw[e];exact aL h2 λg hg=>ac5 _ _ _ _ (by have:=(cf h2 hg).1;show g≠X;omega)
 .simp [World.setCell];omega
end
section
open Go.RowKit Go.Maps
attribute [local go_sem ↓] Go.wp_at_zero Go.wp_at_succ
def cutK (Post:Act->w_->Prop)(Q:Exit->Act->w_->Prop)(e:Exit)(a:Act)(w:w_):Prop:=match e with
 |.normal=>Post a w
 |e=>Q e a w
def ZN {P:Program}{c:Code}{Q:Exit->Act->w_->Prop}{a:Act}{w:w_}(Post:Act->Act->w_->Prop)(h:c.wp P (cutK (Post a) Q) a w)(hk:∀a' w',Post a a' w'->Q .normal a' w'):c.wp P Q a w:=
 Code.wp_mono (λe a' w' h'=>by
  cases e with
  |normal=>exact hk a' w' h'
  |_=>exact h') h
def Zk (a:Act):List (Nat×v_)->Act
 |[]=>a
 |(d,v)::r=>Zk (a.put (o_ d) v) r
def aaS {W:w_}{K n:Nat}{T:T_}{f:Nat->v_}(h:W.rowIs K T n f){o m:Nat}(vs:List v_)(hv:vs.length=m)(hm:o+m<=n)(he:∀j,j<m->vs[j]? =o_ (f (o+j))):W.rangeAt K o vs:=λj v hj=>by
 have hlt:j<m:=by rw[<-hv];exact(Lj.1 hj).1
 have h1:=h.cell (i:=o+j) zw;rw[h1,<-he j hlt,hj]
structure abE (k:kd)(lo K b:Nat)(tab:Array v_)(l:List (aZ×Nat))(ls:List gi)(a:Option d_)(cap B:Nat)(W:w_):Prop where
 aaq:P2 k.major k.fn.length (sz k.fn) tab
 fn:k.fn.length<=20
 prt:VK W K b l
 pure:l.map (·.1.pure)=k.parts
 eC:ls.map (·.c)=k.eC
 TN:W.rowIs K 69 65 (B3 k.bE tab b a ls.length cap)
 own:W.ownsRow B 91 6 (s_ a ls.length cap) ls.length (qo.flat ls)
 fits:∀p∈l,p.1.Fits
 short:l.length<=6/\ls.length<=10
 lo:lo<=K
 wf:∀p∈l,(Lit.int j_ p.1.q.id).wf=true
def rtK {Zb:Func}{R:Ending->w_->Prop}{a:Act}{w:w_}{old:Array v_}{p:Tmp}(hr:Zb.results=#[.cell p 30]){g:Nat}{cs:Array v_}(hg:w.heap[g]? =o_ (c_ old 30))(h:R (r_ (a_ cs)) (w.setRow g cs))(hp:a.tmps.getD p undef=p_ (o_ ⟨g,0,n_⟩):=by exact rfl)(hd:a.defers=[]:=by exact rfl)
  (hi:(Tryz.prog.info? 30).map (·.size)=o_ cs.size:=by kernel_rfl):bodyPost J3 Zb R .ret a (w.setRow g cs):=
 KT (v:=a_ cs) (K9 hr _ _ g _ _ (0,0) _ hp (KU _ _ _ _ _ _ hg) underlying30 rfl hi) hd h
def Zt.drew {w W3 W:w_}{X lo n Y3 cp:Nat}{k:kd}{aw Zj:Option d_}{l:List (aZ×Nat)}{I:List af}(h:Zt w W3 X lo k aw Y3 l n I Zj cp W):Zt w W3 X lo k aw Y3 l n I Zj cp W.drew:=⟨h.box,h.pg.same λ_ _=>rfl,h.pure,h.bl,h.same,h.cd.drew,h.size⟩
def ZX (k:kd)(lo K b:Nat)(tab:Array v_)(l:List (aZ×Nat))(ls:List gi)(a:Option d_)(cap B:Nat)(w:w_)(h:abE k lo K b tab l ls a cap B w):
  k_ J3 20 #[p_ (o_ ⟨K,0,n_⟩)] w λe W=>∃k':eA,e=r_ (a_ k'.row)/\gp W lo k'/\k'.pure=k/\B_ w.heap.size w W:=by
 have HT:=aA h;have HK:da (w.rowIs K 69 65 (B3 k.bE tab b a ls.length cap)):=h.TN;clear h;have hz:B_ w.heap.size w (w.alloc (c_ T9 30)):=(Kp _ _).alloc (Ki _) _;have S:da ((w.alloc (c_ T9 30)).heap[w.heap.size]? =o_ (c_ T9 30)/\B_ w.heap.size w (w.alloc (c_ T9 30))):=⟨Kj _ _,hz⟩
 clear hz
 go_enter func20,ntmps20
 go_upto_region 1 with fail;generalize w.alloc (c_ T9 30)=W0 at*;have HKC:da (∀W:w_,B_ w.heap.size w W->W.cell? ⟨K,0,n_⟩=o_ (i_ j_ k.bE)/\W.rangeAt K 1 tab.toList):=λW hW=>by
  have hr:W.rowIs K 69 65 (B3 k.bE tab b a ls.length cap):=HK.I.of_block (hW.block K HK.I.lt);refine⟨hr.cell (i:=0) zw,aaS (m:=62) hr tab.toList (by rw[aen];exact HT.I.aaq.1) zw λj hj=>?_⟩;have hlt:j<tab.size:=by rw[HT.I.aaq.1];exact hj
  rw[QJ];unfold B3;rw[if_neg zw,if_neg zw,if_neg zw,show 1+j-1=j by omega,Qb hlt];rfl
 refine ZN (λa0 a' w'=>∃(X:Nat)(aw:Option d_)(Y3:Nat)(d0 d1 d2 d3 d4 d5 d6 d7 d8 d9:v_),a'=Zk a0 [(8,d0),(9,d1),(10,d2),(11,d3),(12,d4),(13,d5),(14,d6),(15,d7),(16,d8),(17,d9),(3,p_ (o_ ⟨X,0,n_⟩))]/\w'.heap[X]? =o_ (c_ #[i_ j_ k.bE,i_ j_ k.major,s_ aw k.fn.length Y3,s_ n_ 0 0,s_ n_ 0 0] 30)/\w'.ownsRow W0.heap.size 62 3 (s_ aw k.fn.length Y3) k.fn.length (jq.flat k.fn)/\W0.heap.size<=X/\X∉blk aw/\B_ W0.heap.size W0 w') ?_ ?_
 .refine Kr (S:=λW=>B_ w.heap.size w W) ZbG S.I.2.drew (λ_=>?_)
  have HV:da (B_ W0.heap.size W0 W0.drew/\B_ w.heap.size w W0.drew):=⟨(Kp _ _).drew,S.I.2.drew⟩
  generalize World.drew _=V at*;refine tt 0 HV.I.2 ?_;refine tt 1 HV.I.2 ?_;refine tt 2 HV.I.2 ?_;refine tt 3 HV.I.2 ?_ (hy:=λw0 hS0=>by have q0:=(HKC.I w0 hS0).1;go_simp;try with_reducible rfl);refine tt 4 HV.I.2 ?_;refine tt 5 HV.I.2 ?_;refine tt 6 HV.I.2 ?_;refine abe 7 (v:=a_ tab) rfl (yieldsIf_load_mid (by rfl) _ _ rfl K 1 (by rfl) tab.toList _ (λ_ h=>(HKC.I _ h).2) underlying65 rfl (by rw[Dw,aen,HT.I.aaq.1])) HV.I.2 ?_
  try simp only[pt,sb,s0,s1]
  have abF:Zr (sz k.fn) k.fn.length=jq.flat k.fn:=by have h5:=Z8 k.fn k.fn.length (Ki _);rwa[LQ]at h5
  have HFL:=aA abF;clear abF;refine KW (rs:=[8,10]) ZbG zy ?_;refine KX rfl (λQ hQ=>?_) (KX rfl (λQ hQ=>?_) KY)
  focus
   simp only[KZ,K0,K1];rw[if_pos (by rfl)];go_wp2_with fail;refine(ZE tab k.major k.fn.length (sz k.fn) V HT.I.aaq HT.I.fn).mono ?_;rintro e W1 ⟨aw,Y3,rfl,ho,hb⟩;rw[HFL.I]at ho;have HW:da (W1.ownsRow V.heap.size 62 3 (s_ aw k.fn.length Y3) k.fn.length (jq.flat k.fn)/\B_ W0.heap.size W0 W1/\B_ w.heap.size w W1):=⟨ho,HV.I.1.trans (hb.mono HV.I.1.size),HV.I.2.trans (hb.mono HV.I.2.size)⟩
   clear ho hb;refine hQ.out _ _ HW.I.2.2 (λ_=>?_);clear hQ Q
   try simp only[pt,sb,s0,s1]
   refine tt 9 HW.I.2.2 ?_;refine L7 10 (λQ hQ=>?_);go_wp2_with fail;have hz:B_ W1.heap.size W1 (W1.alloc (c_ T9 30)):=(Kp _ _).alloc (Ki _) _;refine hQ.out _ _ (HW.I.2.2.trans (hz.mono HW.I.2.2.size)) (λ_=>?_);clear hQ Q hz
   try simp only[pt,sb,s0,s1]
   refine L7 11 (λQ hQ=>?_);go_wp2_with fail;have hz:B_ W1.heap.size W1 (W1.alloc (c_ #[i_ j_ k.bE,i_ j_ k.major,s_ aw k.fn.length Y3,s_ n_ 0 0,s_ n_ 0 0] 30)):=(Kp _ _).alloc (Ki _) _;have hv0:W0.heap.size<=V.heap.size:=HV.I.1.size;refine hQ.out _ _ (HW.I.2.2.trans (hz.mono HW.I.2.2.size)) (λ_=>?_);clear hQ Q;refine K3 ZbG ?_ _;exact⟨W1.heap.size,aw,Y3,_,_,_,_,_,_,_,_,_,_,Zcx,Kj _ _,cq (cR HW.I.1 hz) hv0,HW.I.2.1.size,λhm=>by have:=(cf HW.I.1 hm).2;omega,HW.I.2.1.trans (hz.mono HW.I.2.1.size)⟩
  .simp only[KZ,K0,K1]
   rw[if_pos (by rfl)];go_wp2_with fail;have hz:B_ V.heap.size V (V.alloc (c_ T9 30)):=(Kp _ _).alloc (Ki _) _;have HU:da (B_ W0.heap.size W0 (V.alloc (c_ T9 30))/\B_ w.heap.size w (V.alloc (c_ T9 30))/\(V.alloc (c_ T9 30)).heap[V.heap.size]? =o_ (c_ T9 30)/\W0.heap.size<=V.heap.size):=⟨HV.I.1.trans (hz.mono HV.I.1.size),HV.I.2.trans (hz.mono HV.I.2.size),Kj _ _,HV.I.1.size⟩
   refine hQ.out _ _ HU.I.2.1 (λ_=>?_);clear hQ Q hz
   try simp only[pt,sb,s0,s1]
   generalize V.alloc (c_ T9 30)=U at*;generalize V.heap.size=X at*;refine L7 8 (λQ hQ=>?_);go_wp2_with fail;refine(ZE tab k.major k.fn.length (sz k.fn) U HT.I.aaq HT.I.fn).mono ?_;rintro e W1 ⟨aw,Y3,rfl,ho,hb⟩;rw[HFL.I]at ho;have hxu:=(J2.1 HU.I.2.2.1).1;have HW:da (W1.ownsRow U.heap.size 62 3 (s_ aw k.fn.length Y3) k.fn.length (jq.flat k.fn)/\B_ W0.heap.size W0 W1/\B_ w.heap.size w W1/\W1.heap[X]? =o_ (c_ T9 30)/\X<U.heap.size):=⟨ho,HU.I.1.trans (hb.mono HU.I.1.size),HU.I.2.1.trans (hb.mono HU.I.2.1.size),(hb.block _ hxu).trans HU.I.2.2.1,hxu⟩
   clear ho hb hxu;refine hQ.out _ _ HW.I.2.2.1 (λ_=>?_);clear hQ Q
   try simp only[pt,sb,s0,s1]
   refine tt 9 HW.I.2.2.1 ?_;refine L7 11 (λQ hQ=>?_);refine qd _ _ _ rfl X _ _ #[i_ j_ k.bE,i_ j_ k.major,s_ aw k.fn.length Y3,s_ n_ 0 0,s_ n_ 0 0] rfl rfl HW.I.2.2.2.1 ZbG rfl Zcw ?_;have hx0:W0.heap.size<=X:=HU.I.2.2.2;have hw0:w.heap.size<=X:=by have:=S.I.2.size;omega
   refine hQ.out _ _ (q_ HW.I.2.2.1 hw0 _) (λ_=>?_);clear hQ Q;refine K3 ZbG ?_ _;exact⟨X,aw,Y3,_,_,_,_,_,_,_,_,_,_,Zcx,KU _ _ _ _ _ _ HW.I.2.2.2.1,cq (aL HW.I.1 λg hg=>KH _ _ _ _ (by have:=(cf HW.I.1 hg).1;have:=HW.I.2.2.2.2;omega)) (by have:=HW.I.2.2.2.2;omega),hx0,λhm=>by have:=(cf HW.I.1 hm).1;have:=HW.I.2.2.2.2;omega,q_ HW.I.2.1 hx0 _⟩
 .rintro a' W1 ⟨X,aw,Y3,d0,d1,d2,d3,d4,d5,d6,d7,d8,d9,rfl,hX,hw,hx0,hxa,hb⟩
  have HX:da (W1.heap[X]? =o_ (c_ #[i_ j_ k.bE,i_ j_ k.major,s_ aw k.fn.length Y3,s_ n_ 0 0,s_ n_ 0 0] 30)/\W1.ownsRow W0.heap.size 62 3 (s_ aw k.fn.length Y3) k.fn.length (jq.flat k.fn)/\W0.heap.size<=X/\X∉blk aw/\B_ W0.heap.size W0 W1):=⟨hX,hw,hx0,hxa,hb⟩
  clear hX hw hx0 hxa hb HKC;simp only[Zk,pt,sb,s0,s1];have HB:da (B_ w.heap.size w W1):=S.I.2.trans (HX.I.2.2.2.2.mono S.I.2.size);have c63:W1.cell? ⟨K,63,n_⟩=o_ (.map (o_ b)):=(J1 (w:=w) (a:=⟨K,63,n_⟩) (HB.I.block K HK.I.lt)).trans (HK.I.cell (i:=63) zw);go_wp2_with fail;refine(Z2 _ _).mono ?_;rintro e W2 ⟨rfl,hw2⟩;have hmap:cF w b (l.map λp=>(p.1.q.id,p.2)):=HT.I.prt.map;have hb2:B_ W1.heap.size W1 W2:=by rw[hw2];exact(Kp _ _).alloc (Ki _) _
  have c0:W2.cell? ⟨W1.heap.size,0,n_⟩=o_ (.map (o_ b)):=by rw[hw2];simp
  have oX:W1.heap.size<W2.heap.size:=by rw[hw2];simp
  have Mb:=ZF W1.heap.size b (l.map λp=>(p.1.q.id,p.2)) W2 oX c0 ((hmap.below HB.I).below hb2) (by have:=HT.I.short.1;simp;omega);have cy:da (B_ W1.heap.size W1 W2):=hb2;clear hmap hb2 c0 oX c63 hw2;go_wp2_with fail;refine Mb.mono ?_;clear Mb;rintro e W3 ⟨v,rfl,hov,hb3⟩;obtain⟨YN,Y0,hv,hrow⟩:=cr hov;rw[KG]at hv;rw[hv];have HR:da (Row W3 YN (Xn (l.map λp=>p.1.q.id))):=by show Row W3 YN _;rw[Lv]at hrow;simpa[Lv,Ls]using hrow
  have oh:da (B_ W1.heap.size W1 W3):=cy.I.trans (hb3.mono cy.I.size);have SC:da (∀g∈blk YN,W1.heap.size<=g/\g<W3.heap.size):=λg hg=>by rw[hv]at hov;have h5:=cf (by rw[KG]at hov;exact hov) hg;have h6:=cy.I.size;exact⟨zw,h5.2⟩
  clear hv hov hrow hb3 cy;have HPR:da (VK w K b l):=HT.I.prt;have HXX:da (w.heap.size<=X/\X<W3.heap.size):=⟨by have:=S.I.2.size;have:=HX.I.2.2.1;omega,by have:=(J2.1 HX.I.1).1;have:=oh.I.size;omega⟩
  have HALL:da (∀p∈l,∀g∈p.1.all p.2,g<w.heap.size):=λp hp g hg=>by obtain⟨bs,-,ho⟩:=HPR.I.part p hp;exact(ho.xy g hg).2
  have HC:da (∀W:w_,B_ w.heap.size w W->W.cell? ⟨K,63,n_⟩=o_ (.map (o_ b))):=λW hW=>(J1 (w:=w) (a:=⟨K,63,n_⟩) (hW.block K HK.I.lt)).trans (HK.I.cell (i:=63) zw)
  have HLK:da (∀p∈l,∀W:w_,B_ w.heap.size w W->(Instr.lookup 66 (.map (o_ b)) (i_ j_ p.1.q.id) false).run J3 W=.ok (p_ (o_ ⟨p.2,0,n_⟩)) W):=λp hp W hW=>by
   have h5:=(HPR.I.map.below hW).look underlying66 (TQ W) (HT.I.wf p hp) false;rw[jI HPR.I.map.2 (p:=(p.1.q.id,p.2)) (Lr.2 ⟨p,hp,rfl⟩)]at h5;exact h5
  go_wp2_with fail
  go_loopw[25] (λi wr=>∃n:Nat,n<=l.length/\i=i_ j_ n/\da (∃(I:List af)(Zj:Option d_)(cp:Nat),Zt w W3 X lo k aw Y3 l n I Zj cp wr)) (λi _=>l.length-(intOf i).toNat)
  case atStart=>exact⟨0,Ky _,rfl,⟨[],n_,0,(oh.I.block X (J2.1 HX.I.1).1).trans HX.I.1,YR.start _ _ _,rfl,zy,λ_ _ _=>rfl,HB.I.trans (oh.I.mono HB.I.size),Ki _⟩⟩
  case round=>
   obtain⟨n,hk,rfl,HA⟩:=hrel;by_cases hlt:n<l.length
   .have qE:(0:Int)<=(n:Int):=zw
    have i1:(n:Int)<(l.length:Int):=zw
    obtain⟨p,hp⟩:∃p,l[n]? =o_ p:=⟨_,Kz hlt⟩
    obtain⟨I,Zj,cp,hA⟩:=HA.I;replace HA:=aA hA;clear hA;obtain⟨g,ha,hc⟩:=HR.I n (i_ j_ p.1.q.id) (by simp[Xn,hp]);have hgl:=SC.I g ZcJ;have hgx:g≠X:=by have:=(J2.1 HX.I.1).1;omega
    replace hc:=(J1 (HA.I.same g hgl.2 hgx)).trans hc;subst ha;have HP:da (l[n]? =o_ p):=hp;have hpm:da (p∈l):=KA hp;clear hgl hgx hp;go_upto_region 5 with fail;refine ZN (λa0 a' w'=>∃(e0 e1 e2 e3 e4 e5 e6 e7 e8 e9 Pn e11:v_)(aaF:List af)(ap2:Option d_)(cp2:Nat),a'=Zk a0 [(29,e0),(30,e1),(31,e2),(32,e3),(33,e4),(34,e5),(35,e6),(36,e7),(37,e8),(38,e9),(39,Pn),(40,e11)]/\Zt w W3 X lo k aw Y3 l (n+1) aaF ap2 cp2 w') ?_ ?_
    .refine Kr (S:=λW=>B_ w.heap.size w W) ZbG HA.I.cd.drew (λ_=>?_)
     replace HA:=aA HA.I.drew;generalize World.drew _=V at*;clear hc;refine tt 0 HA.I.cd ?_;refine tt 2 HA.I.cd ?_;refine tt 3 HA.I.cd ?_;refine tt 4 HA.I.cd ?_;refine tt 5 HA.I.cd ?_ (hy:=λw0 hS0=>by have q0:=HC.I w0 hS0;go_simp;try with_reducible rfl);refine tt 6 HA.I.cd ?_;refine tt 7 HA.I.cd ?_ (hy:=λw0 hS0=>by have q0:=HLK.I p hpm.I w0 hS0;go_simp;try with_reducible rfl)
     try simp only[pt,sb,s0,s1]
     have HCX:da (∀W:w_,W.heap[X]? =o_ (c_ (Zq k aw Y3 (s_ Zj I.length cp) (s_ n_ 0 0)) 30)->W.cell? ⟨X,3,n_⟩=o_ (s_ Zj I.length cp)):=λW h=>by simp[World.cell?,h,Zq]
     have abD:da (k_ J3 27 #[p_ (o_ ⟨p.2,0,n_⟩)] V λe W5=>∃r:af,e=r_ (a_ r.cells)/\B_ V.heap.size V W5/\∃a' cap' w',(Builtin.append_ #[27,27] 27 #[s_ Zj I.length cp,s_ (o_ ⟨W5.heap.size,0,n_⟩) 1 1]).run J3 (W5.alloc (c_ r.cells 46))=.ok (s_ a' (I.length+1) cap') w'/\B_ w.heap.size w w'/\w'.heap[X]? =o_ (c_ (Zq k aw Y3 (s_ Zj I.length cp) (s_ n_ 0 0)) 30)/\Zt w W3 X lo k aw Y3 l (n+1) (I++[r]) a' cap' (w'.setCell ⟨X,3,n_⟩ (s_ a' (I.length+1) cap'))):=by
      obtain⟨bs,hK,ho⟩:=HPR.I.part p hpm.I;refine adn (ZZ p.2 bs p.1 V (ho.same λg _ hl=>HA.I.cd.block g hl) (HT.I.fits p hpm.I)) ?_;rintro e W5 ⟨r,rfl,hr,gn,hb,hbl⟩;exact⟨r,rfl,hb,HA.I.step HP.I HPR.I.apart HALL.I HXX.I HT.I.short.1 (hr.lower (by have:=HT.I.lo;omega)) gn hb hbl⟩
     refine KW (rs:=[1,8]) ZbG zy ?_;refine KX rfl (λQ hQ=>?_) (KX rfl (λQ hQ=>?_) KY)
     focus
      simp only[KZ,K0,K1];rw[if_pos (by rfl)];have c3:=HCX.I V HA.I.box
      skip
      go_wp2_with fail;clear c3;refine hQ.out _ _ HA.I.cd (λ_=>?_);clear hQ Q
      try simp only[pt,sb,s0,s1]
      refine L7 8 (λQ hQ=>?_);go_wp2_with fail;refine abD.I.mono ?_;rintro e W5 ⟨r,rfl,iJ,a',cap',w',hap,lY,lW,hpl⟩;have H5:da (B_ w.heap.size w W5/\B_ w.heap.size w (W5.alloc (c_ r.cells 46))/\W5.heap[X]? =V.heap[X]? /\(W5.alloc (c_ r.cells 46)).heap[X]? =V.heap[X]?):=by
       exact S_
      have HN:da ((Builtin.append_ #[27,27] 27 #[s_ Zj I.length cp,s_ (o_ ⟨W5.heap.size,0,n_⟩) 1 1]).run J3 (W5.alloc (c_ r.cells 46))=.ok (s_ a' (I.length+1) cap') w'):=hap;have HM:da (B_ w.heap.size w w'/\w'.heap[X]? =o_ (c_ (Zq k aw Y3 (s_ Zj I.length cp) (s_ n_ 0 0)) 30)/\Zt w W3 X lo k aw Y3 l (n+1) (I++[r]) a' cap' (w'.setCell ⟨X,3,n_⟩ (s_ a' (I.length+1) cap'))):=⟨lY,lW,hpl⟩
      clear hap lY lW hpl iJ;refine hQ.out _ _ H5.I.1 (λ_=>?_);clear hQ Q
      try simp only[pt,sb,s0,s1]
      refine L7 9 (λQ hQ=>?_);simp only[af.cells];go_wp2_with fail;refine hQ.out _ _ H5.I.2.1 (λ_=>?_);clear hQ Q
      try simp only[pt,sb,s0,s1]
     rotate_left
     focus
      simp only[KZ,K0,K1];rw[if_pos (by rfl)];go_wp2_with fail;refine abD.I.mono ?_;rintro e W5 ⟨r,rfl,iJ,a',cap',w',hap,lY,lW,hpl⟩;have H5:da (B_ w.heap.size w W5/\B_ w.heap.size w (W5.alloc (c_ r.cells 46))/\W5.heap[X]? =V.heap[X]? /\(W5.alloc (c_ r.cells 46)).heap[X]? =V.heap[X]?):=by
       exact S_
      have HN:da ((Builtin.append_ #[27,27] 27 #[s_ Zj I.length cp,s_ (o_ ⟨W5.heap.size,0,n_⟩) 1 1]).run J3 (W5.alloc (c_ r.cells 46))=.ok (s_ a' (I.length+1) cap') w'):=hap;have HM:da (B_ w.heap.size w w'/\w'.heap[X]? =o_ (c_ (Zq k aw Y3 (s_ Zj I.length cp) (s_ n_ 0 0)) 30)/\Zt w W3 X lo k aw Y3 l (n+1) (I++[r]) a' cap' (w'.setCell ⟨X,3,n_⟩ (s_ a' (I.length+1) cap'))):=⟨lY,lW,hpl⟩
      clear hap lY lW hpl iJ;refine hQ.out _ _ H5.I.1 (λ_=>?_);clear hQ Q
      try simp only[pt,sb,s0,s1]
      refine KW (rs:=[1,9]) ZbG zy ?_;refine KX rfl (λQ hQ=>?_) (KX rfl (λQ hQ=>?_) KY)
      focus
       simp only[KZ,K0,K1];rw[if_pos (by rfl)];have c3:=HCX.I W5 (H5.I.2.2.1.trans HA.I.box)
       skip
       go_wp2_with fail;clear c3;refine hQ.out _ _ H5.I.1 (λ_=>?_);clear hQ Q
       try simp only[pt,sb,s0,s1]
       refine L7 9 (λQ hQ=>?_);simp only[af.cells];go_wp2_with fail;refine hQ.out _ _ H5.I.2.1 (λ_=>?_);clear hQ Q
       try simp only[pt,sb,s0,s1]
      rotate_left
      focus
       simp only[KZ,K0,K1];rw[if_pos (by rfl)];simp only[af.cells];go_wp2_with fail;refine hQ.out _ _ H5.I.2.1 (λ_=>?_);clear hQ Q
       try simp only[pt,sb,s0,s1]
       refine L7 1 (λQ hQ=>?_);have c3:=HCX.I _ (H5.I.2.2.2.trans HA.I.box);simp only[af.cells]at c3;go_wp2_with fail;clear c3;refine hQ.out _ _ H5.I.2.1 (λ_=>?_);clear hQ Q
       try simp only[pt,sb,s0,s1]
     all_goals
      refine L7 10 (λQ hQ=>?_);refine cM _ _ 27 rfl _ _ _ w' rfl rfl HN.I ?_;refine hQ.out _ _ HM.I.1 (λ_=>?_);clear hQ Q
      try simp only[pt,sb,s0,s1]
      refine tt 11 HM.I.1 ?_;refine L7 12 (λQ hQ=>?_);have c3:w'.cell? ⟨X,3,n_⟩=o_ (s_ Zj I.length cp):=HCX.I _ HM.I.2.1;have u3:w'.frozen? ⟨X,3,n_⟩=false:=by have:=HM.I.2.1;simp[World.frozen?,this,Zq]
      go_wp2_with fail;clear c3 u3;refine hQ.out _ _ HM.I.2.2.cd (λ_=>?_);clear hQ Q;refine K3 ZbG ?_ _;exact⟨_,_,_,_,_,_,_,_,_,_,_,_,I++[r],a',cap',Zcx,HM.I.2.2⟩
    .rintro a' W4 ⟨e0,e1,e2,e3,e4,e5,e6,e7,e8,e9,Pn,e11,aaF,ap2,cp2,rfl,hpl⟩
     have HN:=aA hpl;clear hpl hc;simp only[Zk,pt,sb,s0,s1];have hl6:=HT.I.short.1;go_wp2_with fail;go_roundw
     case rel=>exact⟨n+1,zw,by go_num,⟨aaF,ap2,cp2,HN.I⟩⟩
     case measure=>exact Zcc
   .have i1:¬(n:Int)<(l.length:Int):=zw
    have ek:n=l.length:=zw
    subst ek;obtain⟨I,Zj,cp,hA⟩:=HA.I;replace HA:=aA hA;clear hA;obtain⟨W4,hW4⟩:∃W4,W4=wr:=⟨_,rfl⟩
    subst hW4;have c64:W4.cell? ⟨K,64,n_⟩=o_ (s_ a ls.length cap):=(J1 (w:=w) (a:=⟨K,64,n_⟩) (HA.I.cd.block K HK.I.lt)).trans (HK.I.cell (i:=64) zw);have hx4:X<W4.heap.size:=Zfv
    have HX4:da (w.heap.size<=X/\X<W4.heap.size):=⟨HXX.I.1,hx4⟩
    clear hx4;go_wp2_with fail;clear c64;have hls:ls.length<=10:=HT.I.short.2
    go_loopw[47] (λi YE=>∃n:Nat,n<=ls.length/\i=i_ j_ n/\da (∃(ac:Option d_)(cc:Nat),aaI w W4 X k aw Y3 (s_ Zj I.length cp) ls n ac cc YE)) (λi _=>ls.length-(intOf i).toNat)
    case atStart=>exact⟨0,Ky _,rfl,⟨n_,0,HA.I.box,Ke _ _ _ _,λ_ _ _=>rfl,HA.I.cd,Ki _⟩⟩
    case round=>
     obtain⟨n,hk2,rfl,HD⟩:=hrel;obtain⟨ac,cc,hD⟩:=HD.I;replace HD:=aA hD;clear hD;by_cases hlt:n<ls.length
     .have qE:(0:Int)<=(n:Int):=zw
      have i1:(n:Int)<(ls.length:Int):=zw
      obtain⟨m,hm⟩:∃m,ls[n]? =o_ m:=⟨_,Kz hlt⟩
      have hrow:Row w a (qo.flat ls):=by obtain⟨a2,c2,e2,hr⟩:=cr HT.I.own;cases e2;exact hr
      obtain⟨gl,ha,k0,k1,k2,k3,k4,k5⟩:=Vq (hrow.same (w':=wr) λg e=>HD.I.cd.block g (cf HT.I.own (by rw[e];simp[blk])).2) hm;subst ha;clear hrow;go_upto_region 10 with fail;clear k0 k1 k2 k3 k4 k5;have hz:B_ wr.heap.size wr (wr.alloc (c_ (fz m) 91)):=(Kp _ _).alloc (Ki _) _;have lW:(wr.alloc (c_ (fz m) 91)).heap[X]? =o_ (c_ (Zq k aw Y3 (s_ Zj I.length cp) (s_ ac n cc)) 30):=(hz.block X (J2.1 HD.I.box).1).trans HD.I.box;have wU:(wr.alloc (c_ (fz m) 91)).heap[wr.heap.size]? =o_ (c_ (fz m) 91):=Kj _ _;have hstep:=HD.I.step hm HX4.I hls hz;clear hz;generalize wr.alloc (c_ (fz m) 91)=W6 at*;obtain⟨a',cap',w',hap,lY,hpl⟩:=hstep;have HN:=aA hpl;have b4:W6.cell? ⟨X,4,n_⟩=o_ (s_ ac n cc):=Zc7
      have m0:W6.cell? ⟨wr.heap.size,0,n_⟩=o_ (i_ j_ m.c.src):=Zeq
      have m1:W6.cell? ⟨wr.heap.size,1,n_⟩=o_ (i_ j_ m.c.ga):=Zeq
      have m2:W6.cell? ⟨wr.heap.size,2,n_⟩=o_ (i_ j_ m.c.dst):=Zeq
      have m3:W6.cell? ⟨wr.heap.size,3,n_⟩=o_ (i_ j_ m.c.hI):=Zeq
      have anX:w'.cell? ⟨X,4,n_⟩=o_ (s_ ac n cc):=by simp[World.cell?,lY,Zq]
      have z4:w'.frozen? ⟨X,4,n_⟩=false:=by simp[World.frozen?,lY,Zq]
      clear hpl lY lW wU hm;go_wp2_with(at_builtin;refine br _ rfl _ _ 28 rfl _ _ _ _ rfl rfl hap ?_);go_roundw
      case rel=>exact⟨n+1,zw,by go_num,⟨a',cap',HN.I⟩⟩
      case measure=>exact Zcc
     .have i1:¬(n:Int)<(ls.length:Int):=zw
      have ek:n=ls.length:=zw
      subst ek;have hne:w.heap.size≠X:=by have:=(J2.1 S.I.1).1;have:=HX.I.2.2.1;omega
      have hz0:wr.heap[w.heap.size]? =o_ (c_ T9 30):=by
       have h0:=(J2.1 S.I.1).1;have h1:=HX.I.2.2.2.2.size;have h3:=oh.I.size;have h4:=HA.I.size;exact(HD.I.same _ zw hne).trans ((HA.I.same _ zw hne).trans ((oh.I.block _ zw).trans ((HX.I.2.2.2.2.block _ h0).trans S.I.1)))
      have lW:=HD.I.box;have b0:wr.cell? ⟨X,0,n_⟩=o_ (i_ j_ k.bE):=Zc7
      have b1:wr.cell? ⟨X,1,n_⟩=o_ (i_ j_ k.major):=Zc7
      have b2:wr.cell? ⟨X,2,n_⟩=o_ (s_ aw k.fn.length Y3):=Zc7
      have b3:wr.cell? ⟨X,3,n_⟩=o_ (s_ Zj I.length cp):=Zc7
      have b4:wr.cell? ⟨X,4,n_⟩=o_ (s_ ac ls.length cc):=Zc7
      clear lW;go_wp2_with(refine wpList_store_row rfl 30 (.tmp 2) (.tmp 59) rfl _ _ _ #[i_ j_ k.bE,i_ j_ k.major,s_ aw k.fn.length Y3,s_ Zj I.length cp,s_ ac ls.length cc] rfl rfl hz0 ZbG rfl Zcw ?_);refine rtK results20 hz0 ?_;have q0:=(J2.1 S.I.1).1;have q1:=HX.I.2.2.2.2.size;have q3:=oh.I.size;have q4:=HA.I.size;have q5:=HD.I.size;have qk:=HK.I.lt;have YM:=HT.I.lo;have flat:∀g∈I.flatMap af.Mc,(W3.heap.size<=g\/g<w.heap.size)/\g<W4.heap.size:=λg hg=>by
       refine⟨?_,HA.I.pg.lt g (Ly _ hg)⟩;obtain⟨q,hq,hgq⟩:=Rt.1 hg;rcases HA.I.bl q hq g hgq with h5|⟨q',h5,h6⟩
       .exact .inl h5
       .exact .inr (HALL.I q' (RK h5) g (LB _ (Ly _ h6)))
      have TX:∀g∈blk aw,W0.heap.size<=g/\g<W1.heap.size/\g≠X:=λg hg=>⟨(cf HX.I.2.1 hg).1,(cf HX.I.2.1 hg).2,λe=>HX.I.2.2.2.1 (by rw[<-e];exact hg)⟩
      have hpar:∀g∈blk Zj,W3.heap.size<=g/\g<W4.heap.size:=λg hg=>cf HA.I.pg.own hg
      have aao:∀g∈blk ac,W4.heap.size<=g:=λg hg=>(cf HD.I.own hg).1
      generalize hcs:#[Value.int j_ k.bE,i_ j_ k.major,s_ aw k.fn.length Y3,s_ Zj I.length cp,s_ ac ls.length cc]=cs;have sm:∀g,g<W4.heap.size->g≠X->g≠w.heap.size->(wr.setRow w.heap.size cs).heap[g]? =W4.heap[g]?:=λg h1 h2 h3=>(KH _ _ _ _ h3).trans (HD.I.same g h1 h2)
      have sm1:∀g,g<W1.heap.size->g≠X->g≠w.heap.size->(wr.setRow w.heap.size cs).heap[g]? =W1.heap[g]?:=λg h1 h2 h3=>(sm g zw h2 h3).trans ((HA.I.same g zw h2).trans (oh.I.block g h1))
      have hx:=HXX.I;have pg2:=HA.I.pg.same (W1:=wr.setRow w.heap.size cs) λg hg=>by
       rcases Kg.1 hg with hg|hg
       .have:=hpar g hg;exact sm g zw zw zw
       .have:=flat g hg;exact sm g zw zw zw
      have own1:=aL (w':=wr.setRow w.heap.size cs) HX.I.2.1 λg hg=>Zex
      have abv:=aL (w':=wr.setRow w.heap.size cs) HD.I.own λg hg=>KH _ _ _ _ (by have:=aao g hg;omega)
      rw[LQ]at abv;have e1:I.map (·.pure)=k.parts:=by rw[HA.I.pure,LQ];exact HT.I.pure
      have e2:ls.map (·.c)=k.eC:=HT.I.eC;refine⟨⟨k.bE,k.major,k.fn,aw,Y3,I,Zj,cp,ls.map (·.c),ac,cc⟩,by simp[<-hcs],⟨cq own1 zw,cq pg2.own zw,?_,pg2.mine,?_⟩,by show kd.mk k.bE k.major k.fn (I.map (·.pure)) (ls.map (·.c))=k;rw[e1,e2],q_ HD.I.cd (Ki _) _⟩
      .rw [KG]
       exact cq abv zw
      .have hb1:∀x:Option d_,(blk x).Nodup:=λx=>by cases x<;>simp[blk]
       have hn:=Kf.1 HA.I.pg.nodup;refine Kf.2 ⟨hb1 _,Kf.2 ⟨hb1 _,Kf.2 ⟨hb1 _,hn.2.1,λg hg g' hg' e=>?_⟩,λg hg g' hg' e=>?_⟩,λg hg g' hg' e=>?_⟩
       .have:=aao g hg;have:=flat g' hg';omega
       .rcases Kg.1 hg' with h5|h5
        .have:=hpar g hg;have:=aao g' h5;omega
        .exact hn.2.2 g hg g' h5 e
       .have:=TX g hg
        rcases Kg.1 hg' with h5|h5
        .have:=hpar g' h5;omega
        .rcases Kg.1 h5 with h5|h5
         .have:=aao g' h5;omega
         .have:=flat g' h5;omega
def aac (k:eA)(B:Nat)(b0 d0 f b1 d1 b3 e:Bool)(g0 g1 o:Nat)(a0 a1:Option d_)(c0 c1:Nat):Act:=⟨#[a_ k.row,p_ (o_ ⟨B,0,n_⟩),p_ (o_ ⟨(B+1),0,n_⟩),bif b3 then p_ (o_ ⟨o,0,n_⟩)else undef,undef,p_ (o_ ⟨B,0,n_⟩),i_ j_ k.bE,p_ (o_ ⟨B,1,n_⟩),p_ (o_ ⟨B,1,n_⟩),i_ j_ k.major,bif b0 then s_ (o_ ⟨g0,0,n_⟩) 0 0 else undef,p_ (o_ ⟨B,1,n_⟩),p_ (o_ ⟨B,2,n_⟩),s_ k.vb k.fn.length k.Te,bif d0 then s_ a0 k.fn.length c0 else undef,bif f then a_ #[i_ j_ k.major,s_ a0 k.fn.length c0]else undef,bif b1 then s_ (o_ ⟨g1,0,n_⟩) 0 0 else undef,p_ (o_ ⟨B,4,n_⟩),s_ k.qi k.eC.length k.tC,bif d1 then s_ a1 k.eC.length c1 else undef,bif e then a_ #[i_ j_ k.bE,i_ j_ k.major,s_ a0 k.fn.length c0,s_ n_ 0 0,s_ a1 k.eC.length c1]else undef,undef,undef,undef,undef,undef,undef,undef,undef,undef,undef,undef,undef,undef,undef,undef,undef,undef,undef,undef],[]⟩
def aa0 (k:eA)(We:w_)(l:Array Bool)(a:Act)(w:w_):Prop:=∃(b0 d0 f b1 d1 b3 d3 e:Bool)(g0 g1 o:Nat)(a0 a1:Option d_)(c0 c1:Nat),l=#[true,true,true,true,true,b0,true,true,true,d0,f,b1,true,true,d1,e,b3,d3]/\a=aac k We.heap.size b0 d0 f b1 d1 b3 e g0 g1 o a0 a1 c0 c1/\Zg k We w b0 d0 f b1 d1 b3 d3 e g0 g1 o a0 a1 c0 c1
abbrev aa4 (k:eA)(w w':w_):Prop:=w'.cell? ⟨w.heap.size,0,n_⟩=o_ (i_ j_ k.bE)/\w'.cell? ⟨w.heap.size,1,n_⟩=o_ (i_ j_ k.major)/\w'.cell? ⟨w.heap.size,2,n_⟩=o_ (s_ k.vb k.fn.length k.Te)/\w'.cell? ⟨w.heap.size,4,n_⟩=o_ (s_ k.qi k.eC.length k.tC)
structure YY (w W3:w_)(X:Nat)(k:eA)(a0 a1:Option d_)(c0 c1 n:Nat)(I:List af)(Zj:Option d_)(cp:Nat)(W:w_):Prop where
 box:W.heap[X]? =o_ (c_ #[i_ j_ k.bE,i_ j_ k.major,s_ a0 k.fn.length c0,s_ Zj I.length cp,s_ a1 k.eC.length c1] 30)
 pg:YR W3.heap.size W3.heap.size I Zj cp W
 pure:I.map (·.pure)=(k.parts.take n).map (·.pure)
 same:∀g,g<W3.heap.size->g≠X->W.heap[g]? =W3.heap[g]?
 cd:B_ w.heap.size w W
 size:W3.heap.size<=W.heap.size
section
variable {w W3 W W5:w_}{X n c0 c1 cp:Nat}{k:eA}{a0 a1 Zj:Option d_}{I:List af}{p r:af}
def YY.drew (h:YY w W3 X k a0 a1 c0 c1 n I Zj cp W):YY w W3 X k a0 a1 c0 c1 n I Zj cp W.drew:=⟨h.box,h.pg.same λ_ _=>rfl,h.pure,h.same,h.cd.drew,h.size⟩
def YY.len (h:YY w W3 X k a0 a1 c0 c1 n I Zj cp W):I.length<=n:=by
 have h1:=congrArg List.length h.pure;simp at h1;omega
def YY.step (h:YY w W3 X k a0 a1 c0 c1 n I Zj cp W)(hp:k.parts[n]? =o_ p)(hX:w.heap.size<=X/\X<W3.heap.size)(hn:k.parts.length<=1048576)(hr:ap W5 W.heap.size r)(gn:r.pure=p.pure)(hb:B_ W.heap.size W W5):
  ∃a' cap' w',(Builtin.append_ #[27,27] 27 #[s_ Zj I.length cp,s_ (o_ ⟨W5.heap.size,0,n_⟩) 1 1]).run J3 (W5.alloc (c_ r.cells 46))=.ok (s_ a' (I.length+1) cap') w'/\(∀g,g<W3.heap.size->w'.heap[g]? =W.heap[g]?)/\B_ w.heap.size w w'/\w'.heap[X]? =o_ (c_ #[i_ j_ k.bE,i_ j_ k.major,s_ a0 k.fn.length c0,s_ Zj I.length cp,s_ a1 k.eC.length c1] 30)/\YY w W3 X k a0 a1 c0 c1 (n+1) (I++[r]) a' cap' (w'.setCell ⟨X,3,n_⟩ (s_ a' (I.length+1) cap')):=by
 have hlt:n<k.parts.length:=(Lj.1 hp).1;have hlen:=h.len;have hsz:=h.size;have aaX:=hb.size;have hlow:∀g∈blk Zj,W3.heap.size<=g:=λg hg=>(cf h.pg.own hg).1
 have hf:∀g∈r.Mc,g∉blk Zj++I.flatMap af.Mc:=λg hg hm=>by
  have:=h.pg.lt g hm
  have:=(hr.lt g hg).1
  omega
 obtain⟨a',cap',w',h1,h2,h3,h4⟩:=aaw (h.pg.below hb) (hr.lower hsz) hf zw zw;have hw':=h3.size;have lY:B_ w.heap.size w w':=(h.cd.trans (hb.mono h.cd.size)).trans (h3.below ZdX λg hg=>ZdC);have hsame:∀g,g<W3.heap.size->w'.heap[g]? =W.heap[g]?:=λg hg=>(h3.same g zw λhm=>ZdH).trans (hb.block g zw)
 have lD:=(hsame X zw).trans h.box;refine⟨a',cap',w',h1,hsame,lY,lD,?_,h2.same λg hg=>ac5 _ _ _ _ ?_,?_,λg hg hx=>(ac5 _ _ _ _ hx).trans ((hsame g hg).trans (h.same g hg hx)),lY.setCell hX.1 _,?_⟩
 .rw [Lf,adg]
  exact K7 _ _ _ _ _ _ lD
 .show g≠X
  rcases Kg.1 hg with hg|hg
  .have:=(cf h2.own hg).1;omega
  .obtain ⟨q,hq,hgq⟩:=Rt.1 hg
   have:=((h2.mine q hq).lt g hgq).1
   omega
 .rw [cj hp,Kl,Kl,h.pure,adl,adl,gn]
 .simp [World.setCell];omega
end
def abq (w:w_)(k:eA)(e:Ending)(w':w_):Prop:=∃(k':eA)(g:Nat),e=r_ (a_ k'.row)/\gp w' w.heap.size k'/\k'.pure=k.pure/\(k'.vb=o_ ⟨g,0,n_⟩/\g<w'.heap.size)/\B_ w.heap.size w w'
def aaz (k:eA)(w:w_)(hf:k.Fit)(h:eA.At w k):
  k_ J3 24 #[a_ k.row] w λe w'=>abq w k e w':=by
 have HF:da (k.Fit/\eA.At w k):=⟨hf,h⟩
 have HC:da (Zg k w ((w.alloc (c_ k.row 30)).alloc (c_ T9 30)).drew false false false false false false false false 0 0 0 n_ n_ 0 0):=by
  have b1:B_ w.heap.size w ((w.alloc (c_ k.row 30)).alloc (c_ T9 30)):=((Kp _ _).alloc (Ki _) _).alloc zy _;exact⟨b1.drew,(PU zy).trans (Kj _ _),Kq _ _ _,⟨(λh=>ZcF),λh=>ZcF⟩,⟨(λh=>ZcF),λh=>ZcF⟩,(λh=>ZcF),⟨(λh=>ZcF),(λh=>ZcF),λh=>ZcF⟩,zy,⟨λi j _ q hq=>ZeG,λi q hq=>ZeG⟩,λh=>ZcF⟩
 have HS:da (aa4 k w ((w.alloc (c_ k.row 30)).alloc (c_ T9 30)).drew):=by obtain⟨m0,m1,m2,m3,m4⟩:=HC.I.src.cells;exact⟨m0,m1,m2,m4⟩
 clear hf h
 go_enter func24,ntmps24
 go_upto_region 1 with fail;generalize(w.alloc (c_ k.row 30)).alloc (c_ T9 30)=W at*;refine ZN (λa0 a' w'=>∃(e5 e6 e7 e8 e9 Pn e11 PF PG e14 e15 e16 PH e18 e19 e20:v_)(g0 g1 o:Nat)(a0' a1':Option d_)(c0 c1:Nat),a'=Zk a0 [(3,p_ (o_ ⟨o,0,n_⟩)),(5,e5),(6,e6),(7,e7),(8,e8),(9,e9),(10,Pn),(11,e11),(12,PF),(13,PG),(14,e14),(15,e15),(16,e16),(17,PH),(18,e18),(19,e19),(20,e20)]/\Zg k w w' true true true true true true true true g0 g1 o a0' a1' c0 c1) ?_ ?_
 .refine Kr (S:=aa4 k w) ZbG HS.I (λbN=>?_)
  refine tt 0 bN ?_;refine tt 1 bN ?_;refine tt 2 bN ?_;refine tt 3 bN ?_;refine tt 4 bN ?_;refine tt 6 bN ?_;refine tt 7 bN ?_;refine tt 8 bN ?_;refine tt 12 bN ?_;refine tt 13 bN ?_;refine wild (aa0 k w) (λl a w1 hI=>?_) (λl a w1 hI i hi=>?_) (λl a w1 hI h0=>?_) _ _ _ _ ⟨false,false,false,false,false,false,false,false,0,0,0,n_,n_,0,0,ZbG,rfl,HC.I⟩ (of_decide_eq_true ZbG)
  .obtain ⟨b0,d0,f,b1,d1,b3,d3,e,g0,g1,o,a0,a1,c0,c1,-,-,hC⟩:=hI
   obtain⟨m0,m1,m2,m3,m4⟩:=hC.src.cells;exact⟨m0,m1,m2,m4⟩
  .obtain ⟨b0,d0,f,b1,d1,b3,d3,e,g0,g1,o,a0,a1,c0,c1,rfl,rfl,hC⟩:=hI
   have HI:da (Zg k w w1 b0 d0 f b1 d1 b3 d3 e g0 g1 o a0 a1 c0 c1):=hC;clear hC;unfold aac
   match i,hi with
   |0,hi=>exact absurd (cX hi) zy
   |1,hi=>exact absurd (cX hi) zy
   |2,hi=>exact absurd (cX hi) zy
   |3,hi=>exact absurd (cX hi) zy
   |4,hi=>exact absurd (cX hi) zy
   |5,hi=>
    have hb:b0=false:=Zcn
    subst hb;refine ln (o:=_) rfl ZbG (λK hK=>?_);go_wp2_with fail;exact hK.out _ _ ⟨true,d0,f,b1,d1,b3,d3,e,w1.heap.size,g1,o,a0,a1,c0,c1,by rfl,by rfl,HI.I.aaZ⟩
   |6,hi=>exact absurd (cX hi) zy
   |7,hi=>exact absurd (cX hi) zy
   |8,hi=>exact absurd (cX hi) zy
   |9,hi=>
    have hb:d0=false:=Zcn
    have hn5:b0=true:=by have h5:=hF [5,8] hi ZbG 5 (by decide);simpa using h5
    subst hb hn5;refine ln (o:=_) rfl ZbG (λK hK=>?_);obtain⟨a',c',w2,hr,ho,hg,hq,hs⟩:=aaU w1 (w.heap.size+2) g0 (HI.I.s0.made rfl rfl).1 (HI.I.s0.made rfl rfl).2 k.vb k.fn k.Te ((HF.I.2.below HI.I.cd).fn.1) HF.I.1.Ts HI.I.size;refine cM _ _ _ rfl _ _ _ w2 rfl rfl hr ?_;have hf:f=false:=by cases f with|false=>rfl|true=>(have h5:=HI.I.cl.2.2 rfl;simp at h5)
    subst hf;have he:e=false:=by cases e with|false=>rfl|true=>(have h5:=(HI.I.cl.1 rfl).1;simp at h5)
    subst he;exact hK.out _ _ ⟨true,true,false,b1,d1,b3,d3,false,g0,g1,o,a',a1,c',c1,by rfl,by rfl,HI.I.aa1 ho hg hq hs⟩
   |10,hi=>
    have hb:f=false:=Zcn
    have hn9:d0=true:=by have h5:=hF [4,9] hi ZbG 9 (by decide);simpa using h5
    subst hb hn9;refine ln (o:=_) rfl ZbG (λK hK=>?_);go_wp2_with fail;exact hK.out _ _ ⟨b0,true,true,b1,d1,b3,d3,e,g0,g1,o,a0,a1,c0,c1,by rfl,by rfl,HI.I.frame rfl⟩
   |11,hi=>
    have hb:b1=false:=Zcn
    subst hb;refine ln (o:=_) rfl ZbG (λK hK=>?_);go_wp2_with fail;exact hK.out _ _ ⟨b0,d0,f,true,d1,b3,d3,e,g0,w1.heap.size,o,a0,a1,c0,c1,by rfl,by rfl,HI.I.abg⟩
   |12,hi=>exact absurd (cX hi) zy
   |13,hi=>exact absurd (cX hi) zy
   |14,hi=>
    have hb:d1=false:=Zcn
    have hn11:b1=true:=by have h5:=hF [11,13,9] hi ZbG 11 (by decide);simpa using h5
    subst hb hn11;refine ln (o:=_) rfl ZbG (λK hK=>?_);obtain⟨a',c',w2,hr,ho,hg,hq⟩:=abd w1 (w.heap.size+2) g1 (HI.I.s1.made rfl rfl).1 (HI.I.s1.made rfl rfl).2 k.qi k.eC k.tC ((HF.I.2.below HI.I.cd).eC.1) HF.I.1.w8 HI.I.size;refine cM _ _ _ rfl _ _ _ w2 rfl rfl hr ?_;have he:e=false:=by cases e with|false=>rfl|true=>(have h5:=(HI.I.cl.1 rfl).2;simp at h5)
    subst he;exact hK.out _ _ ⟨b0,d0,f,true,true,b3,d3,false,g0,g1,o,a0,a',c0,c',by rfl,by rfl,HI.I.aa2 ho hg hq⟩
   |15,hi=>
    have hb:e=false:=Zcn
    have hn10:f=true:=by have h5:=hF [1,10,14] hi ZbG 10 (by decide);simpa using h5
    have hn14:d1=true:=by have h5:=hF [1,10,14] hi ZbG 14 (by decide);simpa using h5
    subst hb hn10 hn14;refine ln (o:=_) rfl ZbG (λK hK=>?_);go_wp2_with fail;exact hK.out _ _ ⟨b0,d0,true,b1,true,b3,d3,true,g0,g1,o,a0,a1,c0,c1,by rfl,by rfl,HI.I.build rfl rfl⟩
   |16,hi=>
    have hb:b3=false:=Zcn
    subst hb;refine ln (o:=_) rfl ZbG (λK hK=>?_);have hd3:d3=false:=by cases d3 with|false=>rfl|true=>(have h5:=HI.I.cl.2.1 rfl;simp at h5)
    subst hd3;go_wp2_with fail;exact hK.out _ _ ⟨b0,d0,f,b1,d1,true,false,e,g0,g1,w1.heap.size,a0,a1,c0,c1,by rfl,by rfl,HI.I.aa9⟩
   |17,hi=>
    have hb:d3=false:=Zcn
    have hn16:b3=true:=by have h5:=hF [16,15,14,0,1,2,3,4,5,6,7,8,9,10,11,12,13,14,15,16] hi ZbG 16 (by decide);simpa using h5
    have hn15:e=true:=by have h5:=hF [16,15,14,0,1,2,3,4,5,6,7,8,9,10,11,12,13,14,15,16] hi ZbG 15 (by decide);simpa using h5
    subst hb hn16 hn15;refine ln (o:=_) rfl ZbG (λK hK=>?_);refine qd _ _ _ rfl o _ _ _ rfl rfl (HI.I.I rfl) ZbG rfl ZbG ?_;exact hK.out _ _ ⟨b0,d0,f,b1,d1,true,true,true,g0,g1,o,a0,a1,c0,c1,by rfl,by rfl,HI.I.store⟩
   |n+18,hi=>exact absurd (cX hi) zy
  .obtain ⟨b0,d0,f,b1,d1,b3,d3,e,g0,g1,o,a0,a1,c0,c1,rfl,rfl,hC⟩:=hI
   have hno:∀i,i∉Region.ready .any _ _:=λi hi=>by rw[h0]at hi;cases hi
   have hb0:b0=true:=by cases hx:b0 with|true=>rfl|false=>exact absurd (jW [] ZbG ZbG Zcz (λj hj=>by cases hj)) (hno 5)
   have hd0:d0=true:=by cases hx:d0 with|true=>rfl|false=>exact absurd (jW [5,8] ZbG ZbG Zcz (λj hj=>by simp only[Kt,Ku,or_false]at hj;rcases hj with rfl|rfl<;>first|rfl|simp[hb0])) (hno 9)
   have hf:f=true:=by cases hx:f with|true=>rfl|false=>exact absurd (jW [4,9] ZbG ZbG Zcz (λj hj=>by simp only[Kt,Ku,or_false]at hj;rcases hj with rfl|rfl<;>first|rfl|simp[hd0])) (hno 10)
   have hb1:b1=true:=by cases hx:b1 with|true=>rfl|false=>exact absurd (jW [] ZbG ZbG Zcz (λj hj=>by cases hj)) (hno 11)
   have hd1:d1=true:=by cases hx:d1 with|true=>rfl|false=>exact absurd (jW [11,13,9] ZbG ZbG Zcz (λj hj=>by simp only[Kt,Ku,or_false]at hj;rcases hj with rfl|rfl|rfl<;>first|rfl|simp[hb1,hd0])) (hno 14)
   have he:e=true:=by cases hx:e with|true=>rfl|false=>exact absurd (jW [1,10,14] ZbG ZbG Zcz (λj hj=>by simp only[Kt,Ku,or_false]at hj;rcases hj with rfl|rfl|rfl<;>first|rfl|simp[hf,hd1])) (hno 15)
   have hb3:b3=true:=by cases hx:b3 with|true=>rfl|false=>exact absurd (jW [] ZbG ZbG Zcz (λj hj=>by cases hj)) (hno 16)
   have hd3:d3=true:=by cases hx:d3 with|true=>rfl|false=>exact absurd (jW [16,15,14,0,1,2,3,4,5,6,7,8,9,10,11,12,13,14,15,16] ZbG ZbG Zcz (λj hj=>by simp only[Kt,Ku,or_false]at hj;rcases hj with rfl|rfl|rfl|rfl|rfl|rfl|rfl|rfl|rfl|rfl|rfl|rfl|rfl|rfl|rfl|rfl|rfl|rfl|rfl|rfl<;>first|rfl|simp[hb0,hd0,hf,hb1,hd1,he,hb3])) (hno 17)
   subst hb0 hd0 hf hb1 hd1 he hb3 hd3;simp only[aac,cond_true];exact⟨_,_,_,_,_,_,_,_,_,_,_,_,_,_,_,_,g0,g1,o,a0,a1,c0,c1,Zcx,hC⟩
 .rintro a' W3 ⟨e5,e6,e7,e8,e9,Pn,e11,PF,PG,e14,e15,e16,PH,e18,e19,e20,g0,g1,X,a0,a1,c0,c1,rfl,hC⟩
  have HI:=aA hC;clear hC HC HS;simp only[Zk,pt,sb,s0,s1];have HX:da (w.heap.size+2<=X/\X<W3.heap.size):=HI.I.pR.xy 3 X ZdR;go_wp2_with fail
  go_loopw[4] (λi wr=>∃n:Nat,n<=k.parts.length/\i=i_ j_ n/\da (∃(I:List af)(Zj:Option d_)(cp:Nat),YY w W3 X k a0 a1 c0 c1 n I Zj cp wr)) (λi _=>k.parts.length-(Go.RowKit.intOf i).toNat)
  case atStart=>exact⟨0,Ky _,rfl,⟨[],n_,0,HI.I.I rfl,YR.start _ _ _,rfl,λ_ _ _=>rfl,HI.I.cd,Ki _⟩⟩
  case round=>
   obtain⟨n,hk,rfl,HA⟩:=hrel;obtain⟨I,Zj,cp,hA⟩:=HA.I;replace HA:=aA hA;clear hA;have hkb:Tk wr w.heap.size k:=(HA.I.same _ Zew Zew).trans HI.I.src;by_cases hlt:n<k.parts.length
   .have i0:(0:Int)<=(n:Int):=zw
    have i1:(n:Int)<(k.parts.length:Int):=zw
    have hl20:=HF.I.1.sC;obtain⟨p,hp⟩:∃p,k.parts[n]? =o_ p:=⟨_,Kz hlt⟩
    have HP:=aA hp;clear hp;have Ul:=aA hkb;obtain⟨m0,m1,m2,m3,m4⟩:=hkb.cells;clear hkb;go_upto_region 5 with fail;clear m0 m1 m2 m3 m4;refine ZN (λa0' a' w'=>∃(e28 e29 e30 e31 e32 e33 e34 e35 e36 e37 e38:v_)(aaF:List af)(ap2:Option d_)(cp2:Nat),a'=Zk a0' [(28,e28),(29,e29),(30,e30),(31,e31),(32,e32),(33,e33),(34,e34),(35,e35),(36,e36),(37,e37),(38,e38)]/\YY w W3 X k a0 a1 c0 c1 (n+1) aaF ap2 cp2 w') ?_ ?_
    .refine Kr (S:=(λW=>B_ w.heap.size w W/\Tk W w.heap.size k)) ZbG ⟨HA.I.cd.drew,Ul.I⟩ (λ_=>?_)
     replace HA:=aA HA.I.drew;replace Ul:da (Tk (World.drew _) w.heap.size k):=Ul.I;generalize World.drew _=V at*;have HSV:da (B_ w.heap.size w V/\Tk V w.heap.size k):=⟨HA.I.cd,Ul.I⟩
     obtain⟨gs,iE,-,-⟩:=ic HF.I.2.parts HP.I;have HG:da (∀W,B_ w.heap.size w W->af.In W gs n p):=λW hW=>by obtain⟨g2,h2,h3,-⟩:=ic (HF.I.2.below hW).parts HP.I;rw[iE]at h2;cases h2;exact h3
     have HGA:=aA iE;clear iE;refine tt 0 HSV.I ?_;refine tt 2 HSV.I ?_;refine tt 3 HSV.I ?_ (hy:=λw0 hS0=>by obtain⟨m0,m1,m2,m3,m4⟩:=hS0.2.cells;rw[HGA.I]at m3;go_simp;try with_reducible rfl);refine tt 4 HSV.I ?_;refine tt 5 HSV.I ?_;refine tt 6 HSV.I ?_ (hy:=λw0 hS0=>by obtain⟨q0,q1,q2,q3,q4,q5,q6,q7⟩:=HG.I w0 hS0.1;go_simp;try with_reducible rfl)
     try simp only[pt,sb,s0,s1]
     have HCX:da (∀W:w_,W.heap[X]? =o_ (c_ #[i_ j_ k.bE,i_ j_ k.major,s_ a0 k.fn.length c0,s_ Zj I.length cp,s_ a1 k.eC.length c1] 30)->W.cell? ⟨X,3,n_⟩=o_ (s_ Zj I.length cp)):=λW h=>by simp[World.cell?,h]
     have HT:da (k_ J3 44 #[a_ p.cells] V λe W5=>∃r:af,e=r_ (a_ r.cells)/\B_ V.heap.size V W5/\∃a' cap' w',(Builtin.append_ #[27,27] 27 #[s_ Zj I.length cp,s_ (o_ ⟨W5.heap.size,0,n_⟩) 1 1]).run J3 (W5.alloc (c_ r.cells 46))=.ok (s_ a' (I.length+1) cap') w'/\(∀g,g<W3.heap.size->w'.heap[g]? =V.heap[g]?)/\B_ w.heap.size w w'/\w'.heap[X]? =o_ (c_ #[i_ j_ k.bE,i_ j_ k.major,s_ a0 k.fn.length c0,s_ Zj I.length cp,s_ a1 k.eC.length c1] 30)/\YY w W3 X k a0 a1 c0 c1 (n+1) (I++[r]) a' cap' (w'.setCell ⟨X,3,n_⟩ (s_ a' (I.length+1) cap'))):=by
      have hfp:=HF.I.1.parts p (KA HP.I);refine adn (fR p V hfp.1 hfp.2 (by obtain⟨g2,-,-,h3⟩:=ic (HF.I.2.below HA.I.cd).parts HP.I;exact h3)) ?_;rintro e W5 ⟨r,rfl,ho,gn,hb⟩;exact⟨r,rfl,hb,HA.I.step HP.I ⟨by have:=HX.I.1;omega,HX.I.2⟩ HF.I.1.sC ho gn hb⟩
     refine KW (rs:=[1,7]) ZbG zy ?_;refine KX rfl (λQ hQ=>?_) (KX rfl (λQ hQ=>?_) KY)
     focus
      simp only[KZ,K0,K1];rw[if_pos (by rfl)];have c3:=HCX.I V HA.I.box
      try simp only[af.cells]at c3
      go_wp2_with fail;clear c3;refine hQ.out _ _ HSV.I (λ_=>?_);clear hQ Q
      try simp only[pt,sb,s0,s1]
      refine L7 7 (λQ hQ=>?_)
      try simp only[af.cells]at HT
      go_wp2_with fail;refine HT.I.mono ?_;rintro e W5 ⟨r,rfl,iJ,a',cap',w',hap,qY,lY,lW,hpl⟩;have H5:da ((B_ w.heap.size w W5/\Tk W5 w.heap.size k)/\(B_ w.heap.size w (W5.alloc (c_ r.cells 46))/\Tk (W5.alloc (c_ r.cells 46)) w.heap.size k)/\W5.heap[X]? =V.heap[X]? /\(W5.alloc (c_ r.cells 46)).heap[X]? =V.heap[X]?):=by
       exact G_
      have HN:da ((Builtin.append_ #[27,27] 27 #[s_ Zj I.length cp,s_ (o_ ⟨W5.heap.size,0,n_⟩) 1 1]).run J3 (W5.alloc (c_ r.cells 46))=.ok (s_ a' (I.length+1) cap') w'):=hap;have HM:da ((B_ w.heap.size w w'/\Tk w' w.heap.size k)/\w'.heap[X]? =o_ (c_ #[i_ j_ k.bE,i_ j_ k.major,s_ a0 k.fn.length c0,s_ Zj I.length cp,s_ a1 k.eC.length c1] 30)/\YY w W3 X k a0 a1 c0 c1 (n+1) (I++[r]) a' cap' (w'.setCell ⟨X,3,n_⟩ (s_ a' (I.length+1) cap'))/\Tk (w'.setCell ⟨X,3,n_⟩ (s_ a' (I.length+1) cap')) w.heap.size k):=by
       exact Zan
      clear hap qY lY lW hpl iJ;refine hQ.out _ _ H5.I.1 (λ_=>?_);clear hQ Q
      try simp only[pt,sb,s0,s1]
      refine L7 8 (λQ hQ=>?_)
      try simp only[af.cells]
      go_wp2_with fail;refine hQ.out _ _ H5.I.2.1 (λ_=>?_);clear hQ Q
      try simp only[pt,sb,s0,s1]
     rotate_left
     focus
      simp only[KZ,K0,K1];rw[if_pos (by rfl)]
      try simp only[af.cells]at HT
      go_wp2_with fail;refine HT.I.mono ?_;rintro e W5 ⟨r,rfl,iJ,a',cap',w',hap,qY,lY,lW,hpl⟩;have H5:da ((B_ w.heap.size w W5/\Tk W5 w.heap.size k)/\(B_ w.heap.size w (W5.alloc (c_ r.cells 46))/\Tk (W5.alloc (c_ r.cells 46)) w.heap.size k)/\W5.heap[X]? =V.heap[X]? /\(W5.alloc (c_ r.cells 46)).heap[X]? =V.heap[X]?):=by
       exact G_
      have HN:da ((Builtin.append_ #[27,27] 27 #[s_ Zj I.length cp,s_ (o_ ⟨W5.heap.size,0,n_⟩) 1 1]).run J3 (W5.alloc (c_ r.cells 46))=.ok (s_ a' (I.length+1) cap') w'):=hap;have HM:da ((B_ w.heap.size w w'/\Tk w' w.heap.size k)/\w'.heap[X]? =o_ (c_ #[i_ j_ k.bE,i_ j_ k.major,s_ a0 k.fn.length c0,s_ Zj I.length cp,s_ a1 k.eC.length c1] 30)/\YY w W3 X k a0 a1 c0 c1 (n+1) (I++[r]) a' cap' (w'.setCell ⟨X,3,n_⟩ (s_ a' (I.length+1) cap'))/\Tk (w'.setCell ⟨X,3,n_⟩ (s_ a' (I.length+1) cap')) w.heap.size k):=by
       exact Zan
      clear hap qY lY lW hpl iJ;refine hQ.out _ _ H5.I.1 (λ_=>?_);clear hQ Q
      try simp only[pt,sb,s0,s1]
      refine KW (rs:=[1,8]) ZbG zy ?_;refine KX rfl (λQ hQ=>?_) (KX rfl (λQ hQ=>?_) KY)
      focus
       simp only[KZ,K0,K1];rw[if_pos (by rfl)];have c3:=HCX.I W5 (H5.I.2.2.1.trans HA.I.box)
       try simp only[af.cells]at c3
       go_wp2_with fail;clear c3;refine hQ.out _ _ H5.I.1 (λ_=>?_);clear hQ Q
       try simp only[pt,sb,s0,s1]
       refine L7 8 (λQ hQ=>?_)
       try simp only[af.cells]
       go_wp2_with fail;refine hQ.out _ _ H5.I.2.1 (λ_=>?_);clear hQ Q
       try simp only[pt,sb,s0,s1]
      rotate_left
      focus
       simp only[KZ,K0,K1];rw[if_pos (by rfl)]
       try simp only[af.cells]
       go_wp2_with fail;refine hQ.out _ _ H5.I.2.1 (λ_=>?_);clear hQ Q
       try simp only[pt,sb,s0,s1]
       refine L7 1 (λQ hQ=>?_);have c3:=HCX.I _ (H5.I.2.2.2.trans HA.I.box)
       try simp only[af.cells]at c3
       go_wp2_with fail;clear c3;refine hQ.out _ _ H5.I.2.1 (λ_=>?_);clear hQ Q
       try simp only[pt,sb,s0,s1]
     all_goals
      refine L7 9 (λQ hQ=>?_);refine cM _ _ 27 rfl _ _ _ w' rfl rfl HN.I ?_;refine hQ.out _ _ HM.I.1 (λ_=>?_);clear hQ Q
      try simp only[pt,sb,s0,s1]
      refine tt 10 HM.I.1 ?_;refine L7 11 (λQ hQ=>?_);have c3:w'.cell? ⟨X,3,n_⟩=o_ (s_ Zj I.length cp):=HCX.I _ HM.I.2.1;have u3:w'.frozen? ⟨X,3,n_⟩=false:=by have:=HM.I.2.1;simp[World.frozen?,this]
      go_wp2_with fail;clear c3 u3;refine hQ.out _ _ ⟨HM.I.2.2.1.cd,HM.I.2.2.2⟩ (λ_=>?_);clear hQ Q;refine K3 ZbG ?_ _;exact⟨_,_,_,_,_,_,_,_,_,_,_,I++[r],a',cap',Zcx,HM.I.2.2.1⟩
    .rintro a' W5 ⟨e28,e29,e30,e31,e32,e33,e34,e35,e36,e37,e38,aaF,ap2,cp2,rfl,hA2⟩
     replace HA:=aA hA2;clear hA2;simp only[Zk,pt,sb,s0,s1];go_wp2;go_roundw
     case rel=>exact⟨n+1,zw,by go_num,⟨aaF,ap2,cp2,HA.I⟩⟩
     case measure=>exact ZbL
   .have i1:¬(n:Int)<(k.parts.length:Int):=zw
    have ek:n=k.parts.length:=zw
    subst ek;obtain⟨m0,m1,m2,m3,m4⟩:=hkb.cells;clear hkb;have hz0:wr.heap[w.heap.size+1]? =o_ (c_ T9 30):=(HA.I.same _ Zew Zew).trans HI.I.ret;have lW:=HA.I.box;have b0:wr.cell? ⟨X,0,n_⟩=o_ (i_ j_ k.bE):=ZcU
    have b1:wr.cell? ⟨X,1,n_⟩=o_ (i_ j_ k.major):=ZcU
    have b2:wr.cell? ⟨X,2,n_⟩=o_ (s_ a0 k.fn.length c0):=ZcU
    have b3:wr.cell? ⟨X,3,n_⟩=o_ (s_ Zj I.length cp):=ZcU
    have b4:wr.cell? ⟨X,4,n_⟩=o_ (s_ a1 k.eC.length c1):=ZcU
    clear lW;go_wp2_with(refine wpList_store_row rfl 30 (.tmp 2) (.tmp 39) rfl _ _ _ #[i_ j_ k.bE,i_ j_ k.major,s_ a0 k.fn.length c0,s_ Zj I.length cp,s_ a1 k.eC.length c1] rfl rfl hz0 ZbG rfl Zcw ?_);refine rtK results24 hz0 ?_;have q0:=HX.I;have q4:=HA.I.size;have ap0:=HI.I.pR;have o1:=HI.I.s0.done rfl;have o2:=HI.I.s1.done rfl;have TX:∀g∈blk a0,w.heap.size+2<=g/\g<W3.heap.size/\g≠X:=λg hg=>⟨(cf o1 hg).1,(cf o1 hg).2,λe=>ap0.apart 0 3 (by decide) g ZeP ZcE⟩
    have aao:∀g∈blk a1,w.heap.size+2<=g/\g<W3.heap.size/\g≠X:=λg hg=>⟨(cf o2 hg).1,(cf o2 hg).2,λe=>ap0.apart 1 3 (by decide) g ZeP ZcE⟩
    have hpar:∀g∈blk Zj++I.flatMap af.Mc,W3.heap.size<=g:=λg hg=>by
     rcases Kg.1 hg with hg|hg
     .exact (cf HA.I.pg.own hg).1
     .obtain ⟨q,hq,hgq⟩:=Rt.1 hg
      exact((HA.I.pg.mine q hq).lt g hgq).1
    generalize hcs:#[Value.int j_ k.bE,i_ j_ k.major,s_ a0 k.fn.length c0,s_ Zj I.length cp,s_ a1 k.eC.length c1]=cs;have sm:∀g,g≠w.heap.size+1->(wr.setRow (w.heap.size+1) cs).heap[g]? =wr.heap[g]?:=λg h3=>KH _ _ _ _ h3
    have sm1:∀g,g<W3.heap.size->g≠X->g≠w.heap.size+1->(wr.setRow (w.heap.size+1) cs).heap[g]? =W3.heap[g]?:=λg h1 h2 h3=>(sm g h3).trans (HA.I.same g h1 h2)
    have pg2:=HA.I.pg.same (W1:=wr.setRow (w.heap.size+1) cs) λg hg=>by have:=hpar g hg;exact sm g zw
    have own1:=aL (w':=wr.setRow (w.heap.size+1) cs) o1 λg hg=>Zex
    have abv:=aL (w':=wr.setRow (w.heap.size+1) cs) o2 λg hg=>by have:=aao g hg;exact sm1 g zw zw zw
    obtain⟨gw,Fw⟩:=HI.I.som rfl;have hgl:gw<W3.heap.size:=(TX gw (by rw[Fw];simp[blk])).2.1;refine⟨⟨k.bE,k.major,k.fn,a0,c0,I,Zj,cp,k.eC,a1,c1⟩,gw,by simp[<-hcs],⟨cq own1 zw,cq pg2.own zw,cq abv zw,λq hq=>(pg2.mine q hq).lower zw,?_⟩,?_,⟨Fw,by rw[size_setRow];omega⟩,q_ HA.I.cd zw _⟩
    .have hb1:∀x:Option d_,(blk x).Nodup:=λx=>by cases x<;>simp[blk]
     have hn:=Kf.1 HA.I.pg.nodup;refine Kf.2 ⟨hb1 _,Kf.2 ⟨hb1 _,Kf.2 ⟨hb1 _,hn.2.1,λg hg g' hg' e=>?_⟩,λg hg g' hg' e=>?_⟩,λg hg g' hg' e=>?_⟩
     .have:=aao g hg;have:=hpar g' (Ly _ hg');omega
     .rcases Kg.1 hg' with h5|h5
      .have:=hpar g (Lz _ hg);have:=aao g' h5;omega
      .exact hn.2.2 g hg g' h5 e
     .have:=TX g hg
      rcases Kg.1 hg' with h5|h5
      .have:=hpar g' (Lz _ h5);omega
      .rcases Kg.1 h5 with h5|h5
       .exact ap0.apart 0 1 (by decide) g ZeP (by rw[e];simpa[four,bM]using h5)
       .have:=hpar g' (Ly _ h5);omega
    .show kd.mk k.bE k.major k.fn (I.map (·.pure)) k.eC=k.pure
     rw[HA.I.pure,LQ];rfl
end
end Go.Proofs.YtckenjkcmajicaaGreat
