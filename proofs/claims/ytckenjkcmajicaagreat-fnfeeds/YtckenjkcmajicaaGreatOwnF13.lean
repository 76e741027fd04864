/- What the proof leans on, part 13. -/
import Derived.Test.YtckenjkcmajicaaGreatOwnF10
set_option linter.all false
set_option maxRecDepth 100000
set_option maxHeartbeats 8000000
open Go renaming World->w_,Value->v_,Addr->d_,TypeId->T_
open Go.Ending renaming returned->r_
open Go.IntKind renaming i64->j_
open Go.Obj renaming cells->c_
open Go.RowKit renaming Below->B_,Hid->bN
open Go.Value renaming slice->s_,bool->b_,agg->a_,tuple->u_
open Option renaming some->o_,none->n_
open Go renaming wp_at_succ->Kd,wp_at_zero->Kc
open List renaming filterMap_cons->LH,length_cons->Lg

open Go.RowKit
namespace Go.Proofs.YtckenjkcmajicaaGreat
section
structure aI (w w':w_) (bs:List Nat):Prop where
 os:w'.os=w.os
 tape:w'.tape=w.tape
 output:w'.output=w.output
 size:w.heap.size<=w'.heap.size
 same: ∀ g,g < w.heap.size->g∉bs->w'.heap[g]? =w.heap[g]?
section
variable {w w1 w2:w_} {bs bs':List Nat}
def aI.refl (w:w_) (bs:List Nat):aI w w bs:=⟨rfl,rfl,rfl,Ki _,fun _ _ _=>rfl⟩
def aI.trans (h:aI w w1 bs) (h':aI w1 w2 bs):aI w w2 bs:=
 ⟨h'.os.trans h.os,h'.tape.trans h.tape,h'.output.trans h.output,LG h.size h'.size,fun g hg hn=>(h'.same g (Kn hg h.size) hn).trans (h.same g hg hn)⟩
def aI.mono (h:aI w w1 bs) (hs: ∀ g∈bs,g∈bs'):aI w w1 bs':=⟨h.os,h.tape,h.output,h.size,fun g hg hn=>h.same g hg fun hm=>hn (hs g hm)⟩
def aI.dI (h:B_ w.heap.size w w1):aI w w1 bs:=⟨h.os,h.tape,h.output,h.size,fun g hg _=>h.block g hg⟩
def aI.below {bi:Nat} (h:aI w w1 bs) (hb:bi<=w.heap.size) (hs: ∀ g∈bs,bi<=g):B_ bi w w1:=⟨h.os,h.tape,h.output,h.size,fun g hg=>h.same g zw fun hm=>by have:=hs g hm; omega⟩
def aI.set {g off:Nat} (vs:List v_) (hg:g∈bs):aI w (bn w g off vs) bs:=
 have hb: ∀ (vs:List v_) (w:w_) (off:Nat),(bn w g off vs).os=w.os/\(bn w g off vs).tape=w.tape/\(bn w g off vs).output=w.output:=fun vs=>by
  induction vs with
  | nil=>exact fun _ _=>⟨rfl,rfl,rfl⟩
  | cons v r ih=>exact fun w off=>ih (w.setCell ⟨g,off,n_⟩ v) (off+1)
 ⟨(hb vs w off).1,(hb vs w off).2.1,(hb vs w off).2.2,by rw [fH]; exact Ki _,fun k _ hn=>de vs fun e=>hn (by rw [e]; exact hg)⟩
end
def oY: ∀ (vs:List v_) (cur:Array v_) (off j:Nat),off+vs.length<=j->(iD cur off vs)[j]? =cur[j]?
 | [],_,_,_,_=>rfl
 | v :: r,cur,off,j,h=>by
  simp only [Lg] at h;rw [iD,oY r _ _ _ zw,Array.getElem?_setIfInBounds_ne zw]
section
variable {α:Type} {K:Kind α}
def Kind.GG {xs:List v_} {l:List α} (hl:xs.length=l.length * K.n) (h: ∀ i y r,l[i]? =o_ y->r < K.n->xs[i * K.n+r]? =(K.vals y)[r]?):xs=K.flat l:=by
 apply List.ext_getElem?;intro q;by_cases hq:q < l.length * K.n
 .have hi:q / K.n < l.length:=Nat.div_lt_of_lt_mul (by rw [adM]; exact hq)
  have hr:q % K.n < K.n:=Nat.mod_lt _ K.pos;have e:q / K.n * K.n+q % K.n=q:=by rw [adM]; exact Nat.div_add_mod q K.n
  obtain ⟨y,hy⟩: ∃ y,l[q / K.n]? =o_ y:=⟨_,Kz hi⟩
  have h1:=h _ y _ hy hr;rw [<- K.jw hy hr,e] at h1;exact h1
 .rw [List.getElem?_eq_none zw,List.getElem?_eq_none (by rw [K.dM]; omega)]
def Gf {cur:Array v_} {A B:List α} {x y:α} {j:Nat} {vs:List v_} (h:cur.toList.take ((A ++ x :: B).length * K.n)=K.flat (A ++ x :: B)) (hs:(A ++ x :: B).length * K.n<=cur.size) (hj:j+vs.length<=K.n)
  (h1: ∀ r,r < vs.length->(K.vals y)[j+r]? =vs[r]?) (h2: ∀ r,r < K.n-> ¬ (j<=r/\r < j+vs.length)->(K.vals y)[r]? =(K.vals x)[r]?):
  (iD cur (A.length * K.n+j) vs).toList.take ((A ++ y :: B).length * K.n)=K.flat (A ++ y :: B):=by
 have hlen:(A ++ y :: B).length=(A ++ x :: B).length:=by simp
 have hA:A.length < (A ++ x :: B).length:=by rw [Lf,Lg]; omega
 have hle:A.length * K.n+K.n<=(A ++ x :: B).length * K.n:=by rw [<- Lh]; exact Rs _ hA
 have hcur: ∀ q,q < (A ++ x :: B).length * K.n->cur[q]? =(K.flat (A ++ x :: B))[q]? :=fun q hq=>by
  rw [<- h,QW,if_pos hq,QJ]
 have e0:(iD cur (A.length * K.n+j) vs).toList.length=cur.size:=by rw [Array.length_toList,kM]
 refine Kind.GG (by rw [Lk,e0,hlen]; omega) fun i z r hz hr=> ?_
 have hi:i < (A ++ x :: B).length:=by rw [<- hlen]; exact (Lj.1 hz).1
 have hq:i * K.n+r < (A ++ x :: B).length * K.n:=by
  have:(i+1) * K.n<=(A ++ x :: B).length * K.n:=Rs _ hi
  rw [Lh] at this;omega
 rw [QW,hlen,if_pos hq,QJ];by_cases e:i=A.length
 .subst e
  have hzy:z=y:=by
   rw [Qo (Ki _)] at hz;simpa using hz.symm
  subst hzy;have hx:(A ++ x :: B)[A.length]? =o_ x:=by rw [Qo (Ki _)]; simp
  by_cases hr2:j<=r/\r < j+vs.length
  .obtain ⟨d,rfl⟩: ∃ d,r=j+d:=⟨r - j,zw⟩
   rw [h1 d zw,show A.length * K.n+(j+d)=A.length * K.n+j+d by omega,Kz zw];exact sv vs cur (A.length * K.n+j) d _ zw (Kz zw)
  .rw [h2 r hr hr2,<- K.jw hx hr,<- hcur _ hq]
   by_cases h3:r < j
   .exact lL vs cur _ _ zw
   .exact oY vs cur _ _ zw
 .have hx:(A ++ x :: B)[i]? =o_ z:=by
   by_cases h3:i < A.length
   .rw [Qp h3] at hz ⊢
    exact hz
   .rw [Qo zw] at hz ⊢
    obtain ⟨d,hd⟩: ∃ d,i - A.length=d+1:=⟨i - A.length - 1,zw⟩
    rw [hd] at hz ⊢;exact hz
  rw [<- K.jw hx hr,<- hcur _ hq];by_cases h3:i < A.length
  .have:(i+1) * K.n<=A.length * K.n:=Rs _ h3
   rw [Lh] at this;exact lL vs cur _ _ zw
  .have:(A.length+1) * K.n<=i * K.n:=Rs _ zw
   rw [Lh] at this;exact oY vs cur _ _ zw
def bl (K:Kind α) (T:T_) (w:w_) (bi g cap:Nat) (l:List α):Prop:= ∃ cur:Array v_,w.heap[g]? =o_ (c_ cur T)/\bi<=g/\l.length<=cap/\cap<=maxLen/\cur.size=cap * K.n/\cur.toList.take (l.length * K.n)=K.flat l
def bl.owns {T:T_} {w:w_} {bi g cap:Nat} {l:List α} (h:bl K T w bi g cap l):w.ownsRow bi T K.n (s_ (o_ ⟨g,0,n_⟩) l.length cap) l.length (K.flat l):=by
 obtain ⟨cur,h1,h2,h3,h4,h5,h6⟩:=h;exact ⟨K.dM l,.inr ⟨g,cap,cur,rfl,h2,h1,h3,h4,h5,h6⟩⟩
def bl.fX {T:T_} {w:w_} {bi cap:Nat} {a:Option d_} {l:List α} (h:w.ownsRow bi T K.n (s_ a l.length cap) l.length (K.flat l)) (hl: ¬ l.length=0): ∃ g,a=o_ ⟨g,0,n_⟩/\bl K T w bi g cap l:=by
 rcases h.2 with ⟨_,h0⟩ | ⟨g,c,cur,hv,h1,h2,h3,h4,h5,h6⟩
 .exact absurd h0 hl
 .simp only [LD] at hv
  obtain ⟨rfl,-,rfl⟩:=hv;exact ⟨g,rfl,cur,h2,h1,h3,h4,h5,h6⟩
def bl.same {T:T_} {w w':w_} {bi g cap:Nat} {l:List α} (h:bl K T w bi g cap l) (hs:w'.heap[g]? =w.heap[g]?):bl K T w' bi g cap l:=by
 obtain ⟨cur,h1,h2⟩:=h;exact ⟨cur,hs.trans h1,h2⟩
def bl.lt {T:T_} {w:w_} {bi g cap:Nat} {l:List α} (h:bl K T w bi g cap l):g < w.heap.size:=by
 obtain ⟨cur,h1,_⟩:=h;exact (J2.1 h1).1
def bl.cell {T:T_} {w:w_} {bi g cap:Nat} {l:List α} (h:bl K T w bi g cap l) {i:Nat} {x:α} (hx:l[i]? =o_ x) {r:Nat} (hr:r < K.n):w.cell? ⟨g,i * K.n+r,n_⟩=(K.vals x)[r]? /\w.frozen? ⟨g,i * K.n+r,n_⟩=false:=by
 obtain ⟨cur,h1,h2,h3,h4,h5,h6⟩:=h;refine ⟨?_,Ko _ _ _ _ _ h1⟩;have hi:i < l.length:=(Lj.1 hx).1;have hq:i * K.n+r < l.length * K.n:=by
  have:(i+1) * K.n<=l.length * K.n:=Rs _ hi
  rw [Lh] at this;omega
 rw [K5 _ _ _ _ _ _ h1,<- K.jw hx hr,<- h6,QW,if_pos hq,QJ]
def bl.part {T:T_} {w:w_} {bi g cap:Nat} {A B:List α} {x y:α} {j:Nat} {vs:List v_} (h:bl K T w bi g cap (A ++ x :: B)) (hj:j+vs.length<=K.n)
  (h1: ∀ r,r < vs.length->(K.vals y)[j+r]? =vs[r]?) (h2: ∀ r,r < K.n-> ¬ (j<=r/\r < j+vs.length)->(K.vals y)[r]? =(K.vals x)[r]?):
  bl K T (bn w g (A.length * K.n+j) vs) bi g cap (A ++ y :: B):=by
 obtain ⟨cur,c1,c2,c3,c4,c5,c6⟩:=h;have hl:(A ++ y :: B).length=(A ++ x :: B).length:=by simp
 refine ⟨_,jc vs c1,c2,by rw [hl]; exact c3,c4,by rw [kM]; exact c5,?_⟩;exact Gf c6 (by rw [c5]; exact Rs _ c3) hj h1 h2
end
section
variable {α:Type} {N:gd α} {w w':w_} {bi g:Nat} {A B:List α} {x y:α}
structure fp (N:gd α) (w:w_) (bi g:Nat) (l:List α):Prop where
 mine: ∀ z∈l,N.cO w bi z
 nodup:(g :: l.filterMap N.bt).Nodup
def fp.ju (h:fp N w bi g (A ++ x :: B)) (hk:N.bt y=N.bt x) (hm:N.cO w bi y):fp N w bi g (A ++ y :: B):=by
 refine ⟨fun z hz=> ?_,?_⟩
 .rcases Kg.1 hz with hz | hz
  .exact h.mine z (Lz _ hz)
  .rcases Kt.1 hz with rfl | hz
   .exact hm
   .exact h.mine z (Ly _ (LB _ hz))
 .have:=h.nodup
  rw [LW,LH] at this ⊢;rw [hk];exact this
def fp.apart {l:List α} (h:fp N w bi g l) {z:α} (hz:z∈l):g∉blk (N.ad z):=fun hm=>
 (Lp.1 h.nodup).1 (Lq.2 ⟨z,hz,fZ.1 hm⟩)
end
end
section
attribute [local go_sem ↓] Kc Kd









abbrev afB (q:af):List Nat:=blk q.am ++ (q.ae.filterMap aC.bt ++ (blk q.aK ++ (q.ai.filterMap aU.bt)))
abbrev afC (q:af):List Nat:=blk q.ax ++ (blk q.am ++ (q.ae.filterMap aC.bt ++ (blk q.aK ++ (q.ai.filterMap aU.bt))))
abbrev afw (q:af):List Nat:=blk q.ay ++ (blk q.ax ++ (blk q.am ++ (q.ae.filterMap aC.bt ++ (blk q.aK ++ (q.ai.filterMap aU.bt)))))
abbrev afo (q:af):List Nat:=blk q.bc ++ (blk q.ay ++ (blk q.ax ++ (blk q.am ++ (q.ae.filterMap aC.bt ++ (blk q.aK ++ (q.ai.filterMap aU.bt))))))
def ap.As {w w':w_} {bi:Nat} {q:af} {l:List ao} (h:ap w bi q) (ho:w'.ownsRow bi 125 12 (s_ q.aN q.L8.length q.aW) q.L8.length (bg.flat l)) (hl:l.length=q.L8.length) (hm: ∀ y∈l,aR.cO w' bi y) (hki:l.filterMap aR.bt=q.L8.filterMap aR.bt) (hk:aI w w' (blk q.aN ++ q.L8.filterMap aR.bt)):
  ap w' bi ({ q with L8:=l } :af)/\({ q with L8:=l } :af).Mc=q.Mc:=by
 have hbs:q.Mc= [] ++ ((blk q.aN ++ q.L8.filterMap aR.bt) ++ (afo q)):=by simp [af.Mc,Lm]
 have rN:({ q with L8:=l } :af).Mc=q.Mc:=by simp only [af.Mc,hki]
 have hnd:=h.nodup;rw [hbs] at hnd;have nc: ∀ g,(g∈ [] \/g∈(afo q))->g∉(blk q.aN ++ q.L8.filterMap aR.bt):=fun g bR hA=>by
  exact xz
 have hs: ∀ g,(g∈ [] \/g∈(afo q))->w'.heap[g]? =w.heap[g]? :=fun g bR=>hk.same g (h.lt g (by
  rw [hbs];rcases bR with bR | bR
  .exact Lz _ bR
  .exact Ly _ (Ly _ bR))).2 (nc g bR)
 refine ⟨⟨ZcU,aL h.aj fun g bR=>hs g (.inr Zb2),aL h.L9 fun g bR=>hs g (.inr Zb2),aL h.ag fun g bR=>hs g (.inr Zb2),aL h.ae fun g bR=>hs g (.inr Zb2),aL h.ai fun g bR=>hs g (.inr Zb2),hm,fun y hy=>(h.eE y hy).same fun g hk=>hs g (.inr Zb0),fun y hy=>(h.eR y hy).same fun g hk=>hs g (.inr Zb0),?_⟩,rN⟩;rw [rN];exact h.nodup
def ap.DT {w w':w_} {bi:Nat} {q:af} {l:List bD} (h:ap w bi q) (ho:w'.ownsRow bi 128 3 (s_ q.bc q.aj.length q.bF) q.aj.length (dm.flat l)) (hl:l.length=q.aj.length) (hk:aI w w' (blk q.bc)):
  ap w' bi ({ q with aj:=l } :af)/\({ q with aj:=l } :af).Mc=q.Mc:=by
 have hbs:q.Mc=(blk q.aN ++ q.L8.filterMap aR.bt) ++ ((blk q.bc) ++ (afw q)):=by simp [af.Mc,Lm]
 have rN:({ q with aj:=l } :af).Mc=q.Mc:=by rfl
 have hnd:=h.nodup;rw [hbs] at hnd;have nc: ∀ g,(g∈(blk q.aN ++ q.L8.filterMap aR.bt)\/g∈(afw q))->g∉(blk q.bc):=fun g bR hA=>by
  exact xz
 have hs: ∀ g,(g∈(blk q.aN ++ q.L8.filterMap aR.bt)\/g∈(afw q))->w'.heap[g]? =w.heap[g]? :=fun g bR=>hk.same g (h.lt g (by
  rw [hbs];rcases bR with bR | bR
  .exact Lz _ bR
  .exact Ly _ (Ly _ bR))).2 (nc g bR)
 refine ⟨⟨aL h.L8 fun g bR=>hs g (.inl Zb2),ZcU,aL h.L9 fun g bR=>hs g (.inr Zb2),aL h.ag fun g bR=>hs g (.inr Zb2),aL h.ae fun g bR=>hs g (.inr Zb2),aL h.ai fun g bR=>hs g (.inr Zb2),fun y hy=>(h.eI y hy).same fun g hk=>hs g (.inl Zb0),fun y hy=>(h.eE y hy).same fun g hk=>hs g (.inr Zb0),fun y hy=>(h.eR y hy).same fun g hk=>hs g (.inr Zb0),?_⟩,rN⟩;rw [rN];exact h.nodup
def ap.xA {w w':w_} {bi:Nat} {q:af} {l:List aB} (h:ap w bi q) (ho:w'.ownsRow bi 131 2 (s_ q.ay q.L9.length q.aO) q.L9.length (bJ.flat l)) (hl:l.length=q.L9.length) (hk:aI w w' (blk q.ay)):
  ap w' bi ({ q with L9:=l } :af)/\({ q with L9:=l } :af).Mc=q.Mc:=by
 have hbs:q.Mc=(blk q.aN ++ q.L8.filterMap aR.bt ++ blk q.bc) ++ ((blk q.ay) ++ (afC q)):=by simp [af.Mc,Lm]
 have rN:({ q with L9:=l } :af).Mc=q.Mc:=by rfl
 have hnd:=h.nodup;rw [hbs] at hnd;have nc: ∀ g,(g∈(blk q.aN ++ q.L8.filterMap aR.bt ++ blk q.bc)\/g∈(afC q))->g∉(blk q.ay):=fun g bR hA=>by
  exact xz
 have hs: ∀ g,(g∈(blk q.aN ++ q.L8.filterMap aR.bt ++ blk q.bc)\/g∈(afC q))->w'.heap[g]? =w.heap[g]? :=fun g bR=>hk.same g (h.lt g (by
  rw [hbs];rcases bR with bR | bR
  .exact Lz _ bR
  .exact Ly _ (Ly _ bR))).2 (nc g bR)
 refine ⟨⟨aL h.L8 fun g bR=>hs g (.inl Zb2),aL h.aj fun g bR=>hs g (.inl Zb2),ZcU,aL h.ag fun g bR=>hs g (.inr Zb2),aL h.ae fun g bR=>hs g (.inr Zb2),aL h.ai fun g bR=>hs g (.inr Zb2),fun y hy=>(h.eI y hy).same fun g hk=>hs g (.inl Zb0),fun y hy=>(h.eE y hy).same fun g hk=>hs g (.inr Zb0),fun y hy=>(h.eR y hy).same fun g hk=>hs g (.inr Zb0),?_⟩,rN⟩;rw [rN];exact h.nodup
def ap.xM {w w':w_} {bi:Nat} {q:af} {l:List az} (h:ap w bi q) (ho:w'.ownsRow bi 134 3 (s_ q.ax q.ag.length q.aP) q.ag.length (bG.flat l)) (hl:l.length=q.ag.length) (hk:aI w w' (blk q.ax)):
  ap w' bi ({ q with ag:=l } :af)/\({ q with ag:=l } :af).Mc=q.Mc:=by
 have hbs:q.Mc=(blk q.aN ++ q.L8.filterMap aR.bt ++ blk q.bc ++ blk q.ay) ++ ((blk q.ax) ++ (afB q)):=by simp [af.Mc,Lm]
 have rN:({ q with ag:=l } :af).Mc=q.Mc:=by rfl
 have hnd:=h.nodup;rw [hbs] at hnd;have nc: ∀ g,(g∈(blk q.aN ++ q.L8.filterMap aR.bt ++ blk q.bc ++ blk q.ay)\/g∈(afB q))->g∉(blk q.ax):=fun g bR hA=>by
  exact xz
 have hs: ∀ g,(g∈(blk q.aN ++ q.L8.filterMap aR.bt ++ blk q.bc ++ blk q.ay)\/g∈(afB q))->w'.heap[g]? =w.heap[g]? :=fun g bR=>hk.same g (h.lt g (by
  rw [hbs];rcases bR with bR | bR
  .exact Lz _ bR
  .exact Ly _ (Ly _ bR))).2 (nc g bR)
 refine ⟨⟨aL h.L8 fun g bR=>hs g (.inl Zb2),aL h.aj fun g bR=>hs g (.inl Zb2),aL h.L9 fun g bR=>hs g (.inl Zb2),ZcU,aL h.ae fun g bR=>hs g (.inr Zb2),aL h.ai fun g bR=>hs g (.inr Zb2),fun y hy=>(h.eI y hy).same fun g hk=>hs g (.inl Zb0),fun y hy=>(h.eE y hy).same fun g hk=>hs g (.inr Zb0),fun y hy=>(h.eR y hy).same fun g hk=>hs g (.inr Zb0),?_⟩,rN⟩;rw [rN];exact h.nodup
end
section
def ce (id:Int) (f:aD->aD) (l:List aD):List aD:=l.map fun x=>if x.id=id then f x else x
def hU (p:aE) (id:Int) (ok:aD->Bool) (f:aD->aD) (nx:Int):Option aE:=
 if bK p then match p.L8.find? (fun x=>decide (x.id=id)) with
  | some y=>if ok y then o_ { p with next:=nx,L8:=ce id f p.L8 } else n_
  | none=>n_
 else n_
def cN:aE:=⟨0,0,[],[],[],[],[],[]⟩
def gI (w:w_) (r:Option aE) (e:Ending) (w':w_):Prop:= ∃ q:af,e=r_ (u_ #[a_ q.cells,b_ r.isSome])/\ap w' w.heap.size q/\q.pure=r.getD cN/\B_ w.heap.size w w'
def Ai (w:w_) (bi:Nat):ap w bi ⟨0,0,[],n_,0,[],n_,0,[],n_,0,[],n_,0,[],n_,0,[],n_,0⟩:=
 ⟨Ke _ _ _ _,Ke _ _ _ _,Ke _ _ _ _,Ke _ _ _ _,Ke _ _ _ _,Ke _ _ _ _,(fun x hx=>by cases hx),(fun x hx=>by cases hx),(fun x hx=>by cases hx),by simp [af.Mc,blk]⟩
def ca {w w':w_} {r:Option aE} (h:r=n_) (hb:B_ w.heap.size w w'):gI w r (r_ (u_ #[a_ ar,b_ false])) w':=by
 subst h;exact ⟨_,rfl,Ai _ _,rfl,hb⟩
def vO {p:aE} {id nx:Int} {ok:aD->Bool} {f:aD->aD} (h:bK p=false):hU p id ok f nx=n_:=by simp [hU,h]
def tg {p:aE} {id nx:Int} {ok:aD->Bool} {f:aD->aD} (h:p.L8.find? (fun x=>decide (x.id=id))=n_):hU p id ok f nx=n_:=by
 unfold hU
 split
 .rw [h]
 .rfl
def sx {p:aE} {id nx:Int} {ok:aD->Bool} {f:aD->aD} {y:aD} (h:p.L8.find? (fun x=>decide (x.id=id))=o_ y) (ho:ok y=false):hU p id ok f nx=n_:=by
 unfold hU
 split
 .rw [h]; simp [ho]
 .rfl
def tT {p:aE} {id nx:Int} {ok:aD->Bool} {f:aD->aD} {y:aD} (hp:bK p=true) (h:p.L8.find? (fun x=>decide (x.id=id))=o_ y) (ho:ok y=true):hU p id ok f nx=o_ { p with next:=nx,L8:=ce id f p.L8 } :=by
 unfold hU;rw [if_pos hp,h];simp [ho]
def db {α:Type} {num:α->Int} {ok:α->Bool} : ∀ {l:List α} {last:Int},aw num ok last l=true->(∀ x∈l,last < num x)/\l.Pairwise (fun x y=>num x < num y)
 | [],_,_=>⟨(fun x hx=>by cases hx),List.Pairwise.nil⟩
 | x :: r,last,h=>by
  simp only [aw,J7,decide_eq_true_eq] at h;obtain ⟨h1,h2⟩:=db h.2;exact Zaz
def rp {l:List aD} {f:aD->aD} {id:Int} {n:Nat} {y:aD} (hr:l.Pairwise (fun x y=>x.id < y.id)) (hn:l[n]? =o_ y) (hy:y.id=id):ce id f l=l.set n (f y):=by
 induction l generalizing n with
 | nil=>simp at hn
 | cons x r ih=>
  obtain ⟨h1,h2⟩:=LM.1 hr;cases n with
  | zero=>
   simp only [List.getElem?_cons_zero,LF] at hn;subst hn;have e:ce id f r=r:=by
    unfold ce
    conv=>rhs; rw [<- List.map_id r]
    refine Lw fun z hz=> ?_
    rw [if_neg (by have:=h1 z hz; omega)];rfl
   simp only [List.set_cons_zero]
   show (if x.id=id then f x else x) :: ce id f r=_
   rw [if_pos hy,e]
  | succ n=>
   simp only [List.getElem?_cons_succ] at hn;have hlt:=h1 y (KA hn);simp only [List.set_cons_succ]
   show (if x.id=id then f x else x) :: ce id f r=_
   rw [if_neg zw,ih h2 hn]
def sc {p:aE} (h:bK p=true):p.L8.Pairwise (fun x y=>x.id < y.id):=(db ((ch _).1 h).L8).2
def GM (x:aD):Prop:=(x.prog.length<=1048576/\(∀ o∈x.prog,o.2.2.2.size<=1048576)/\x.held.size<=1048576/\x.got.size<=1048576)/\(Lit.int j_ x.id).wf=true/\(Lit.int j_ x.on).wf=true/\(Lit.int j_ x.RU).wf=true
def IZ {p:aE} (h:bK p=true):(Lit.int j_ p.next).wf=true:=by
 have h2:=bz.1 ((ch _).1 h).next;have e1:IntKind.min j_<=0:=by decide
 have e2:2000000000<=IntKind.max j_:=by decide
 exact Zbo
def hY:cN.Small:=⟨Ky _,Ky _,Ky _,Ky _,Ky _,Ky _,(fun x hx=>by cases hx),(fun x hx=>by cases hx),(fun x hx=>by cases hx),(fun x hx=>by cases hx),(fun x hx=>by cases hx),(fun x hx=>by cases hx)⟩
def qQ {p:aE} {id nx:Int} {ok:aD->Bool} {f:aD->aD} :(hU p id ok f nx).getD cN=cN\/bK p=true/\(hU p id ok f nx).getD cN= { p with next:=nx,L8:=ce id f p.L8 } :=by
 unfold hU
 split
 .rename_i hp
  split
  .split
   .exact .inr ⟨hp,rfl⟩
   .exact .inl rfl
  .exact .inl rfl
 .exact .inl rfl
def zJ {p:aE} {id nx:Int} {ok:aD->Bool} {f:aD->aD} (h:p.Small) (hf:bK p=true-> ∀ y∈p.L8,GM y->GM (f y)):((hU p id ok f nx).getD cN).Small:=by
 rcases qQ (p:=p) (id:=id) (nx:=nx) (ok:=ok) (f:=f) with e | ⟨hp,e⟩
 .rw [e]; exact hY
 .rw [e]
  refine ⟨by simpa [ce] using h.dl,h.fx,h.cD,h.cC,h.cb,h.dH,fun x hx=> ?_,h.aj,h.L9,h.ag,h.ae,h.ai⟩;obtain ⟨y,hy,rfl⟩:=Lr.1 hx
  split
  .exact hf hp y hy (h.L8 y hy)
  .exact h.L8 y hy
def ap.kB {w:w_} {bi n j gs:Nat} {q:af} {x y:ao} {vs:List v_} (h:ap w bi q) (hx:q.L8[n]? =o_ x) (ha:q.aN=o_ ⟨gs,0,n_⟩) (hy:y.prog=x.prog/\y.aY=x.aY/\y.bH=x.bH)
  (hj:j+vs.length<=12) (h1: ∀ r,r < vs.length->(bg.vals y)[j+r]? =vs[r]?) (h2: ∀ r,r < 12-> ¬ (j<=r/\r < j+vs.length)->(bg.vals y)[r]? =(bg.vals x)[r]?):
  ap (bn w gs (n * 12+j) vs) bi ({ q with L8:=q.L8.set n y } :af)/\aI w (bn w gs (n * 12+j) vs) [gs] /\({ q with L8:=q.L8.set n y } :af).Mc=q.Mc:=by
 have hn:n < q.L8.length:=(Lj.1 hx).1;have hsp:=kL hx;have hset:q.L8.set n y=q.L8.take n ++ y :: q.L8.drop (n+1):=by rw [RJ,if_pos hn]
 have hl:(q.L8.take n).length=n:=by rw [Lk]; omega
 have hkb:aI w (bn w gs (n * 12+j) vs) [gs] :=aI.set _ zy;have ho:=h.L8;rw [ha] at ho;obtain ⟨g,hg,hrow⟩:=bl.fX (K:=bg) ho zw;cases hg;rw [hsp] at hrow;have h5:=bl.part (K:=bg) (x:=x) (y:=y) (j:=j) (vs:=vs) hrow hj h1 h2;rw [hl,show bg.n=12 from rfl,<- hset] at h5;have h6:=h5.owns;have hki:(q.L8.set n y).filterMap aR.bt=q.L8.filterMap aR.bt:=by
  rw [hset]
  conv=>rhs; rw [hsp]
  have e:aR.bt y=aR.bt x:=by show y.aY.map (·.block)=x.aY.map (·.block); rw [hy.2.1]
  simp only [LW,LH,e]
 have Pp:aR.cO w bi y:=by
  have h7:=h.eI x (KA hx)
  show w.ownsRow bi _ 4 (s_ y.aY y.prog.length y.bH) y.prog.length (fk.flat y.prog)
  rw [hy.1,hy.2.1,hy.2.2];exact h7
 have EI: ∀ z∈q.L8,∀ b,aR.bt z=o_ b->b≠gs:=fun z hz b hb e=>by
  have h8:=h.nodup;rw [af.Mc,ha] at h8;have h9:=(Kf.1 h8).2.2 gs (by simp [blk]) b (Lz _ (Lq.2 ⟨z,hz,hb⟩));exact h9 e.symm
 have hsame: ∀ b,b≠gs->(bn w gs (n * 12+j) vs).heap[b]? =w.heap[b]? :=fun b hb=>de _ hb
 have hm: ∀ z∈q.L8.set n y,aR.cO (bn w gs (n * 12+j) vs) bi z:=fun z hz=>by
  rcases PO hz with hz | rfl
  .exact (h.eI z hz).same fun b hb=>hsame b (EI z hz b hb)
  .refine Pp.same fun b hb=>hsame b (EI x (KA hx) b ?_)
   rw [<- hb]
   show x.aY.map (·.block)=z.aY.map (·.block)
   rw [hy.2.1]
 have ht:=h.As (w':=bn w gs (n * 12+j) vs) (l:=q.L8.set n y) (by rw [ha]; rw [LI] at h6; exact h6) zy hm hki (hkb.mono (by simp [ha,blk]));exact ⟨ht.1,hkb,ht.2⟩
end
section
open Go.Maps
def aZ.ju (S:aZ) (g:Nat) (f:ao->ao) (nx:Int):aZ:= { S with q:= { S.q with next:=nx },lp:=sU g f S.lp }
def GW {g:Nat} {f:ao->ao} (hf: ∀ x,aR.bt (f x)=aR.bt x) (l:List (ao × Nat)):kids aR (sU g f l)=kids aR l:=by
 induction l with
 | nil=>rfl
 | cons p r ih=>
  have e:(sU g f (p :: r))=(if p.2=g then (f p.1,p.2) else p) :: sU g f r:=rfl;simp only [kids,LH] at ih ⊢;rw [e];simp only [LH];by_cases h:p.2=g
  .simp only [h,if_true,hf]
   rw [ih]
  .simp only [h,if_false]
   rw [ih]
def cJ.ju {w w':w_} {bi o g:Nat} {S:aZ} {f:ao->ao} {nx:Int} (h:cJ w bi o S) (hf: ∀ x,(f x).id=x.id/\(f x).prog=x.prog/\(f x).aY=x.aY/\(f x).bH=x.bH)
  (hc: ∀ p∈S.lp,p.2=g->w'.heap[g]? =o_ (c_ (aX (f p.1)) 125)) (hg:g∈S.lp.map (·.2)) (ho:fa w' o { S.q with next:=nx }) (hs: ∀ b,b≠g->b≠o->w'.heap[b]? =w.heap[b]?):cJ w' bi o (S.ju g f nx):=by
 have iH: ∀ x,aR.bt (f x)=aR.bt x:=fun x=>by show (f x).aY.map (·.block)=x.aY.map (·.block); rw [(hf x).2.2.1]
 have hn:=h.nodup;have hno:=(Lp.1 hn).1;have yD:=(Kf.1 (Lp.1 hn).2)
 have jQ:=yD.1;unfold aZ.boxes at jQ;have hin: ∀ b,b∈S.boxes\/b∈S.kids->b≠o:=fun b hb e=>hno (by rw [<- e]; exact Kg.2 hb)
 have hp:=Kf.1 jQ;have l9:g∈S.q.bp :: S.lp.map (·.2):=LB _ hg;have hgr: ∀ b,b∈((S.q.bs :: S.ls.map (·.2)) ++ ((S.q.be :: S.le.map (·.2)) ++ ((S.q.bb :: S.lb.map (·.2)) ++ ((S.q.bf :: S.lf.map (·.2)) ++ (S.q.bq :: S.lq.map (·.2))))))->b≠g:=fun b hb e=>hp.2.2 g l9 b hb e.symm
 have EI: ∀ b∈S.kids,b≠g:=fun b hb e=>yD.2.2 g (by unfold aZ.boxes; exact Lz _ l9) b hb e.symm
 have hbp:S.q.bp≠g:=fun e=>by
  have:=(Lp.1 hp.1).1
  rw [e] at this;exact this hg
 have lW: ∀ b,b∈(S.q.bp :: S.lp.map (·.2))->b≠o:=fun b hb=>hin b (.inl (by unfold aZ.boxes; exact Lz _ hb))
 have hbr: ∀ b,b∈((S.q.bs :: S.ls.map (·.2)) ++ ((S.q.be :: S.le.map (·.2)) ++ ((S.q.bb :: S.lb.map (·.2)) ++ ((S.q.bf :: S.lf.map (·.2)) ++ (S.q.bq :: S.lq.map (·.2))))))->w'.heap[b]? =w.heap[b]? :=fun b hb=>hs b (hgr b hb) (hin b (.inl (by unfold aZ.boxes; exact Ly _ hb)))
 have hkk: ∀ b∈S.kids,w'.heap[b]? =w.heap[b]? :=fun b hb=>hs b (EI b hb) (hin b (.inr hb))
 have hmem: ∀ (b:Nat),(b∈kids aR S.lp\/b∈kids aC S.lf\/b∈kids aU S.lq)->b∈S.kids:=fun b hb=>by simp only [aZ.kids,Kg]; exact hb
 refine ⟨ho,h.L8.sU (fun p _ _=>(hf p.1).1) hc (hs _ hbp (lW _ zy)) (fun b hb hne=>hs b hne (lW b (LB _ hb))),h.aj.same fun b hb=>hbr b (Lz _ hb),h.L9.same fun b hb=>hbr b (Ly _ (Lz _ hb)),h.ag.same fun b hb=>hbr b (Ly _ (Ly _ (Lz _ hb))),h.ae.same fun b hb=>hbr b (Ly _ (Ly _ (Ly _ (Lz _ hb)))),h.ai.same fun b hb=>hbr b (Ly _ (Ly _ (Ly _ (Ly _ hb)))),fun p hp'=> ?_,fun p hp'=>(h.eE p hp').same fun b hb=>hkk b (hmem b (.inr (.inl (Lq.2 ⟨p,hp',hb⟩)))),fun p hp'=>(h.eR p hp').same fun b hb=>hkk b (hmem b (.inr (.inr (Lq.2 ⟨p,hp',hb⟩)))),?_,h.low⟩
 .obtain ⟨r,hr,rfl⟩:=yy.1 hp'
  have hm:aR.cO w' bi r.1:=(h.eI r hr).same fun b hb=>hkk b (hmem b (.inl (Lq.2 ⟨r,hr,hb⟩)))
  split
  .show w'.ownsRow bi _ 4 (s_ (f r.1).aY (f r.1).prog.length (f r.1).bH) (f r.1).prog.length (fk.flat (f r.1).prog)
   rw [(hf r.1).2.1,(hf r.1).2.2.1,(hf r.1).2.2.2];exact hm
  .exact hm
 .have e1:(S.ju g f nx).boxes=S.boxes:=by simp only [aZ.boxes,aZ.ju,qb]
  have e2:(S.ju g f nx).kids=S.kids:=by simp only [aZ.kids,aZ.ju,GW iH]
  rw [e1,e2];exact hn
end
section
def Di {α:Type} {N:gd α} {w w':w_} {bi:Nat} {x:α} (h:N.cO w bi x) (hb:B_ w.heap.size w w'):N.cO w' bi x:=h.same fun g hk=>hb.block g (h.lt hk).2
def o8 (W:w_) (X b:Nat) (q:af):Prop:=av W X q/\ap W b q
def rT (W:w_) (X b:Nat) (x:ao):Prop:=jx W X x/\aR.cO W b x
section
variable {p q:af} {x:ao} {w W W':w_} {X b:Nat} {bs:List Nat}
def o8.below (h:o8 W X b q) (hb:B_ W.heap.size W W'):o8 W' X b q:=⟨h.1.below hb,h.2.below hb⟩
def o8.kept (h:o8 W X b q) (hk:aI W W' bs) (hs:X∉bs) (ho: ∀ g∈q.Mc,g∉bs):o8 W' X b q:=⟨(hk.same _ (J2.1 h.1).1 hs).trans h.1,h.2.same fun g hg=>hk.same g (h.2.lt g hg).2 (ho g hg)⟩
def rT.below (h:rT W X b x) (hb:B_ W.heap.size W W'):rT W' X b x:=⟨h.1.below hb,Di h.2 hb⟩
def rT.kept (h:rT W X b x) (hk:aI W W' bs) (hs:X∉bs) (ho: ∀ g∈blk x.aY,g∉bs):rT W' X b x:=⟨(hk.same _ (J2.1 h.1).1 hs).trans h.1,h.2.same fun g hg=>hk.same g (h.2.lt hg).2 (ho g (fZ.2 hg))⟩
def av.lt {W:w_} {X:Nat} {q:af} (h:av W X q):X < W.heap.size:=(J2.1 h).1
def jx.lt {W:w_} {X:Nat} {x:ao} (h:jx W X x):X < W.heap.size:=(J2.1 h).1
end
end
section
attribute [local go_sem ↓] Kc Kd


end
section
open Go.Maps
attribute [local go_sem ↓] Kc Kd
structure EqK (w:w_) (X:Nat) (k k':eA) (W:w_):Prop where
 a:dr w X k W
 b:dr w (X+1) k' W
def EqK.below {w W W2:w_} {X:Nat} {k k':eA} (h:EqK w X k k' W) (hb:B_ W.heap.size W W2):EqK w X k k' W2:=⟨h.a.below hb,h.b.below hb⟩
end
end Go.Proofs.YtckenjkcmajicaaGreat
