/- What the proof leans on, part 11. -/
import Derived.Test.YtfncpmaefninjaaGreatDoorOwnQ9
set_option linter.all false
set_option maxRecDepth 100000
set_option maxHeartbeats 8000000
open Go.Proofs.Tryz
open Go renaming World->w_,Value->v_,Calls->k_,Addr->d_,TypeId->T_
open Go.Ending renaming returned->r_
open Go.IntKind renaming i64->j_
open Go.Obj renaming cells->c_
open Go.RowKit renaming Below->B_,Hid->bN
open Go.Value renaming int->i_,slice->s_,bool->b_,string->t_,agg->a_,tuple->u_
open Option renaming some->o_,none->n_
open Go renaming wp_at_succ->Kd,wp_at_zero->Kc
open List renaming filterMap_cons->LH,length_cons->Lg

open Go.RowKit
namespace Go.Proofs.YtfncpmaefninjaaGreatDoor
section
structure aI (w w':w_) (bs:List Nat):Prop where
 os:w'.os=w.os
 tape:w'.tape=w.tape
 output:w'.output=w.output
 size:w.heap.size<=w'.heap.size
 same: ∀ g,g < w.heap.size->g∉bs->w'.heap[g]? =w.heap[g]?
section
variable {w w1 w2:w_} {bs bs':List Nat}
def aI.refl (w:w_) (bs:List Nat):aI w w bs:=⟨rfl,rfl,rfl,Ki _,fun _ _ _=>rfl⟩
def aI.trans (h:aI w w1 bs) (h':aI w1 w2 bs):aI w w2 bs:=
 ⟨h'.os.trans h.os,h'.tape.trans h.tape,h'.output.trans h.output,LG h.size h'.size,fun g hg hn=>(h'.same g (Kn hg h.size) hn).trans (h.same g hg hn)⟩
def aI.mono (h:aI w w1 bs) (hs: ∀ g∈bs,g∈bs'):aI w w1 bs':=⟨h.os,h.tape,h.output,h.size,fun g hg hn=>h.same g hg fun hm=>hn (hs g hm)⟩
def aI.dI (h:B_ w.heap.size w w1):aI w w1 bs:=⟨h.os,h.tape,h.output,h.size,fun g hg _=>h.block g hg⟩
def aI.below {bj:Nat} (h:aI w w1 bs) (hb:bj<=w.heap.size) (hs: ∀ g∈bs,bj<=g):B_ bj w w1:=⟨h.os,h.tape,h.output,h.size,fun g hg=>h.same g zo fun hm=>by have:=hs g hm; omega⟩
def aI.set {g off:Nat} (vs:List v_) (hg:g∈bs):aI w (bn w g off vs) bs:=
 have hb: ∀ (vs:List v_) (w:w_) (off:Nat),(bn w g off vs).os=w.os/\(bn w g off vs).tape=w.tape/\(bn w g off vs).output=w.output:=fun vs=>by
  induction vs with
  | nil=>exact fun _ _=>⟨rfl,rfl,rfl⟩
  | cons v r ih=>exact fun w off=>ih (w.setCell ⟨g,off,n_⟩ v) (off+1)
 ⟨(hb vs w off).1,(hb vs w off).2.1,(hb vs w off).2.2,by rw [fH]; exact Ki _,fun k _ hn=>de vs fun e=>hn (by rw [e]; exact hg)⟩
end
def oY: ∀ (vs:List v_) (cur:Array v_) (off j:Nat),off+vs.length<=j->(iD cur off vs)[j]? =cur[j]?
 | [],_,_,_,_=>rfl
 | v :: r,cur,off,j,h=>by
  simp only [Lg] at h;rw [iD,oY r _ _ _ zo,Array.getElem?_setIfInBounds_ne zo]
section
variable {α:Type} {K:Kind α}
def Kind.GG {xs:List v_} {l:List α} (hl:xs.length=l.length * K.n) (h: ∀ i y r,l[i]? =o_ y->r < K.n->xs[i * K.n+r]? =(K.vals y)[r]?):xs=K.flat l:=by
 apply List.ext_getElem?;intro q;by_cases hq:q < l.length * K.n
 .have hi:q / K.n < l.length:=Nat.div_lt_of_lt_mul (by rw [adM]; exact hq)
  have hr:q % K.n < K.n:=Nat.mod_lt _ K.pos;have e:q / K.n * K.n+q % K.n=q:=by rw [adM]; exact Nat.div_add_mod q K.n
  obtain ⟨y,hy⟩: ∃ y,l[q / K.n]? =o_ y:=⟨_,Kz hi⟩
  have h1:=h _ y _ hy hr;rw [<- K.jw hy hr,e] at h1;exact h1
 .rw [List.getElem?_eq_none zo,List.getElem?_eq_none (by rw [K.dM]; omega)]
def Gf {cur:Array v_} {A B:List α} {x y:α} {j:Nat} {vs:List v_} (h:cur.toList.take ((A ++ x :: B).length * K.n)=K.flat (A ++ x :: B)) (hs:(A ++ x :: B).length * K.n<=cur.size) (hj:j+vs.length<=K.n)
  (h1: ∀ r,r < vs.length->(K.vals y)[j+r]? =vs[r]?) (h2: ∀ r,r < K.n-> ¬ (j<=r/\r < j+vs.length)->(K.vals y)[r]? =(K.vals x)[r]?):
  (iD cur (A.length * K.n+j) vs).toList.take ((A ++ y :: B).length * K.n)=K.flat (A ++ y :: B):=by
 have hlen:(A ++ y :: B).length=(A ++ x :: B).length:=by simp
 have hA:A.length < (A ++ x :: B).length:=by rw [Lf,Lg]; omega
 have hle:A.length * K.n+K.n<=(A ++ x :: B).length * K.n:=by rw [<- Lh]; exact Rs _ hA
 have hcur: ∀ q,q < (A ++ x :: B).length * K.n->cur[q]? =(K.flat (A ++ x :: B))[q]? :=fun q hq=>by
  rw [<- h,QW,if_pos hq,QJ]
 have e0:(iD cur (A.length * K.n+j) vs).toList.length=cur.size:=by rw [Array.length_toList,kM]
 refine Kind.GG (by rw [Lk,e0,hlen]; omega) fun i z r hz hr=> ?_
 have hi:i < (A ++ x :: B).length:=by rw [<- hlen]; exact (Lj.1 hz).1
 have hq:i * K.n+r < (A ++ x :: B).length * K.n:=by
  have:(i+1) * K.n<=(A ++ x :: B).length * K.n:=Rs _ hi
  rw [Lh] at this;omega
 rw [QW,hlen,if_pos hq,QJ];by_cases e:i=A.length
 .subst e
  have hzy:z=y:=by
   rw [Qo (Ki _)] at hz;simpa using hz.symm
  subst hzy;have hx:(A ++ x :: B)[A.length]? =o_ x:=by rw [Qo (Ki _)]; simp
  by_cases hr2:j<=r/\r < j+vs.length
  .obtain ⟨d,rfl⟩: ∃ d,r=j+d:=⟨r - j,zo⟩
   rw [h1 d zo,show A.length * K.n+(j+d)=A.length * K.n+j+d by omega,Kz zo];exact sv vs cur (A.length * K.n+j) d _ zo (Kz zo)
  .rw [h2 r hr hr2,<- K.jw hx hr,<- hcur _ hq]
   by_cases h3:r < j
   .exact lL vs cur _ _ zo
   .exact oY vs cur _ _ zo
 .have hx:(A ++ x :: B)[i]? =o_ z:=by
   by_cases h3:i < A.length
   .rw [Qp h3] at hz ⊢
    exact hz
   .rw [Qo zo] at hz ⊢
    obtain ⟨d,hd⟩: ∃ d,i - A.length=d+1:=⟨i - A.length - 1,zo⟩
    rw [hd] at hz ⊢;exact hz
  rw [<- K.jw hx hr,<- hcur _ hq];by_cases h3:i < A.length
  .have:(i+1) * K.n<=A.length * K.n:=Rs _ h3
   rw [Lh] at this;exact lL vs cur _ _ zo
  .have:(A.length+1) * K.n<=i * K.n:=Rs _ zo
   rw [Lh] at this;exact oY vs cur _ _ zo
def bl (K:Kind α) (T:T_) (w:w_) (bj g cap:Nat) (l:List α):Prop:= ∃ cur:Array v_,w.heap[g]? =o_ (c_ cur T)/\bj<=g/\l.length<=cap/\cap<=maxLen/\cur.size=cap * K.n/\cur.toList.take (l.length * K.n)=K.flat l
def bl.owns {T:T_} {w:w_} {bj g cap:Nat} {l:List α} (h:bl K T w bj g cap l):w.ownsRow bj T K.n (s_ (o_ ⟨g,0,n_⟩) l.length cap) l.length (K.flat l):=by
 obtain ⟨cur,h1,h2,h3,h4,h5,h6⟩:=h;exact ⟨K.dM l,.inr ⟨g,cap,cur,rfl,h2,h1,h3,h4,h5,h6⟩⟩
def bl.fX {T:T_} {w:w_} {bj cap:Nat} {a:Option d_} {l:List α} (h:w.ownsRow bj T K.n (s_ a l.length cap) l.length (K.flat l)) (hl: ¬ l.length=0): ∃ g,a=o_ ⟨g,0,n_⟩/\bl K T w bj g cap l:=by
 rcases h.2 with ⟨_,h0⟩ | ⟨g,c,cur,hv,h1,h2,h3,h4,h5,h6⟩
 .exact absurd h0 hl
 .simp only [LD] at hv
  obtain ⟨rfl,-,rfl⟩:=hv;exact ⟨g,rfl,cur,h2,h1,h3,h4,h5,h6⟩
def bl.same {T:T_} {w w':w_} {bj g cap:Nat} {l:List α} (h:bl K T w bj g cap l) (hs:w'.heap[g]? =w.heap[g]?):bl K T w' bj g cap l:=by
 obtain ⟨cur,h1,h2⟩:=h;exact ⟨cur,hs.trans h1,h2⟩
def bl.lt {T:T_} {w:w_} {bj g cap:Nat} {l:List α} (h:bl K T w bj g cap l):g < w.heap.size:=by
 obtain ⟨cur,h1,_⟩:=h;exact (J2.1 h1).1
def bl.cell {T:T_} {w:w_} {bj g cap:Nat} {l:List α} (h:bl K T w bj g cap l) {i:Nat} {x:α} (hx:l[i]? =o_ x) {r:Nat} (hr:r < K.n):w.cell? ⟨g,i * K.n+r,n_⟩=(K.vals x)[r]? /\w.frozen? ⟨g,i * K.n+r,n_⟩=false:=by
 obtain ⟨cur,h1,h2,h3,h4,h5,h6⟩:=h;refine ⟨?_,Ko _ _ _ _ _ h1⟩;have hi:i < l.length:=(Lj.1 hx).1;have hq:i * K.n+r < l.length * K.n:=by
  have:(i+1) * K.n<=l.length * K.n:=Rs _ hi
  rw [Lh] at this;omega
 rw [K5 _ _ _ _ _ _ h1,<- K.jw hx hr,<- h6,QW,if_pos hq,QJ]
def bl.part {T:T_} {w:w_} {bj g cap:Nat} {A B:List α} {x y:α} {j:Nat} {vs:List v_} (h:bl K T w bj g cap (A ++ x :: B)) (hj:j+vs.length<=K.n)
  (h1: ∀ r,r < vs.length->(K.vals y)[j+r]? =vs[r]?) (h2: ∀ r,r < K.n-> ¬ (j<=r/\r < j+vs.length)->(K.vals y)[r]? =(K.vals x)[r]?):
  bl K T (bn w g (A.length * K.n+j) vs) bj g cap (A ++ y :: B):=by
 obtain ⟨cur,c1,c2,c3,c4,c5,c6⟩:=h;have hl:(A ++ y :: B).length=(A ++ x :: B).length:=by simp
 refine ⟨_,jc vs c1,c2,by rw [hl]; exact c3,c4,by rw [kM]; exact c5,?_⟩;exact Gf c6 (by rw [c5]; exact Rs _ c3) hj h1 h2
end
section
variable {α:Type} {N:gd α} {w w':w_} {bj g:Nat} {A B:List α} {x y:α}
structure fp (N:gd α) (w:w_) (bj g:Nat) (l:List α):Prop where
 mine: ∀ z∈l,N.cO w bj z
 nodup:(g :: l.filterMap N.bt).Nodup
def fp.ju (h:fp N w bj g (A ++ x :: B)) (hk:N.bt y=N.bt x) (hm:N.cO w bj y):fp N w bj g (A ++ y :: B):=by
 refine ⟨fun z hz=> ?_,?_⟩
 .rcases Kg.1 hz with hz | hz
  .exact h.mine z (Lz _ hz)
  .rcases Kt.1 hz with rfl | hz
   .exact hm
   .exact h.mine z (Ly _ (LB _ hz))
 .have:=h.nodup
  rw [LW,LH] at this ⊢;rw [hk];exact this
def fp.apart {l:List α} (h:fp N w bj g l) {z:α} (hz:z∈l):g∉blk (N.ad z):=fun hm=>
 (Lp.1 h.nodup).1 (Lq.2 ⟨z,hz,fZ.1 hm⟩)
end
end
section
attribute [local go_sem ↓] Kc Kd









abbrev afB (q:af):List Nat:=blk q.am ++ (q.ae.filterMap aC.bt ++ (blk q.aK ++ (q.ai.filterMap aU.bt)))
abbrev afC (q:af):List Nat:=blk q.ax ++ (blk q.am ++ (q.ae.filterMap aC.bt ++ (blk q.aK ++ (q.ai.filterMap aU.bt))))
abbrev afw (q:af):List Nat:=blk q.ay ++ (blk q.ax ++ (blk q.am ++ (q.ae.filterMap aC.bt ++ (blk q.aK ++ (q.ai.filterMap aU.bt)))))
abbrev afo (q:af):List Nat:=blk q.bc ++ (blk q.ay ++ (blk q.ax ++ (blk q.am ++ (q.ae.filterMap aC.bt ++ (blk q.aK ++ (q.ai.filterMap aU.bt))))))
def ap.As {w w':w_} {bj:Nat} {q:af} {l:List ao} (h:ap w bj q) (ho:w'.ownsRow bj 41 12 (s_ q.aN q.L8.length q.aW) q.L8.length (bg.flat l)) (hl:l.length=q.L8.length) (hm: ∀ y∈l,aR.cO w' bj y) (hki:l.filterMap aR.bt=q.L8.filterMap aR.bt) (hk:aI w w' (blk q.aN ++ q.L8.filterMap aR.bt)):
  ap w' bj ({ q with L8:=l } :af)/\({ q with L8:=l } :af).Mc=q.Mc:=by
 have hbs:q.Mc= [] ++ ((blk q.aN ++ q.L8.filterMap aR.bt) ++ (afo q)):=by simp [af.Mc,Lm]
 have rN:({ q with L8:=l } :af).Mc=q.Mc:=by simp only [af.Mc,hki]
 have hnd:=h.nodup;rw [hbs] at hnd;have nc: ∀ g,(g∈ [] \/g∈(afo q))->g∉(blk q.aN ++ q.L8.filterMap aR.bt):=fun g bR hA=>by
  exact D_
 have hs: ∀ g,(g∈ [] \/g∈(afo q))->w'.heap[g]? =w.heap[g]? :=fun g bR=>hk.same g (h.lt g (by
  rw [hbs];rcases bR with bR | bR
  .exact Lz _ bR
  .exact Ly _ (Ly _ bR))).2 (nc g bR)
 refine ⟨⟨Zdp,aL h.aj fun g bR=>hs g (.inr Zcu),aL h.L9 fun g bR=>hs g (.inr Zcu),aL h.ag fun g bR=>hs g (.inr Zcu),aL h.ae fun g bR=>hs g (.inr Zcu),aL h.ai fun g bR=>hs g (.inr Zcu),hm,fun y hy=>(h.eE y hy).same fun g hk=>hs g (.inr Zcs),fun y hy=>(h.eR y hy).same fun g hk=>hs g (.inr Zcs),?_⟩,rN⟩;rw [rN];exact h.nodup
def ap.DT {w w':w_} {bj:Nat} {q:af} {l:List bD} (h:ap w bj q) (ho:w'.ownsRow bj 89 3 (s_ q.bc q.aj.length q.bF) q.aj.length (dm.flat l)) (hl:l.length=q.aj.length) (hk:aI w w' (blk q.bc)):
  ap w' bj ({ q with aj:=l } :af)/\({ q with aj:=l } :af).Mc=q.Mc:=by
 have hbs:q.Mc=(blk q.aN ++ q.L8.filterMap aR.bt) ++ ((blk q.bc) ++ (afw q)):=by simp [af.Mc,Lm]
 have rN:({ q with aj:=l } :af).Mc=q.Mc:=by rfl
 have hnd:=h.nodup;rw [hbs] at hnd;have nc: ∀ g,(g∈(blk q.aN ++ q.L8.filterMap aR.bt)\/g∈(afw q))->g∉(blk q.bc):=fun g bR hA=>by
  exact D_
 have hs: ∀ g,(g∈(blk q.aN ++ q.L8.filterMap aR.bt)\/g∈(afw q))->w'.heap[g]? =w.heap[g]? :=fun g bR=>hk.same g (h.lt g (by
  rw [hbs];rcases bR with bR | bR
  .exact Lz _ bR
  .exact Ly _ (Ly _ bR))).2 (nc g bR)
 refine ⟨⟨aL h.L8 fun g bR=>hs g (.inl Zcu),Zdp,aL h.L9 fun g bR=>hs g (.inr Zcu),aL h.ag fun g bR=>hs g (.inr Zcu),aL h.ae fun g bR=>hs g (.inr Zcu),aL h.ai fun g bR=>hs g (.inr Zcu),fun y hy=>(h.eI y hy).same fun g hk=>hs g (.inl Zcs),fun y hy=>(h.eE y hy).same fun g hk=>hs g (.inr Zcs),fun y hy=>(h.eR y hy).same fun g hk=>hs g (.inr Zcs),?_⟩,rN⟩;rw [rN];exact h.nodup
def ap.xA {w w':w_} {bj:Nat} {q:af} {l:List aB} (h:ap w bj q) (ho:w'.ownsRow bj 91 2 (s_ q.ay q.L9.length q.aO) q.L9.length (bJ.flat l)) (hl:l.length=q.L9.length) (hk:aI w w' (blk q.ay)):
  ap w' bj ({ q with L9:=l } :af)/\({ q with L9:=l } :af).Mc=q.Mc:=by
 have hbs:q.Mc=(blk q.aN ++ q.L8.filterMap aR.bt ++ blk q.bc) ++ ((blk q.ay) ++ (afC q)):=by simp [af.Mc,Lm]
 have rN:({ q with L9:=l } :af).Mc=q.Mc:=by rfl
 have hnd:=h.nodup;rw [hbs] at hnd;have nc: ∀ g,(g∈(blk q.aN ++ q.L8.filterMap aR.bt ++ blk q.bc)\/g∈(afC q))->g∉(blk q.ay):=fun g bR hA=>by
  exact D_
 have hs: ∀ g,(g∈(blk q.aN ++ q.L8.filterMap aR.bt ++ blk q.bc)\/g∈(afC q))->w'.heap[g]? =w.heap[g]? :=fun g bR=>hk.same g (h.lt g (by
  rw [hbs];rcases bR with bR | bR
  .exact Lz _ bR
  .exact Ly _ (Ly _ bR))).2 (nc g bR)
 refine ⟨⟨aL h.L8 fun g bR=>hs g (.inl Zcu),aL h.aj fun g bR=>hs g (.inl Zcu),Zdp,aL h.ag fun g bR=>hs g (.inr Zcu),aL h.ae fun g bR=>hs g (.inr Zcu),aL h.ai fun g bR=>hs g (.inr Zcu),fun y hy=>(h.eI y hy).same fun g hk=>hs g (.inl Zcs),fun y hy=>(h.eE y hy).same fun g hk=>hs g (.inr Zcs),fun y hy=>(h.eR y hy).same fun g hk=>hs g (.inr Zcs),?_⟩,rN⟩;rw [rN];exact h.nodup
def ap.xM {w w':w_} {bj:Nat} {q:af} {l:List az} (h:ap w bj q) (ho:w'.ownsRow bj 93 3 (s_ q.ax q.ag.length q.aP) q.ag.length (bG.flat l)) (hl:l.length=q.ag.length) (hk:aI w w' (blk q.ax)):
  ap w' bj ({ q with ag:=l } :af)/\({ q with ag:=l } :af).Mc=q.Mc:=by
 have hbs:q.Mc=(blk q.aN ++ q.L8.filterMap aR.bt ++ blk q.bc ++ blk q.ay) ++ ((blk q.ax) ++ (afB q)):=by simp [af.Mc,Lm]
 have rN:({ q with ag:=l } :af).Mc=q.Mc:=by rfl
 have hnd:=h.nodup;rw [hbs] at hnd;have nc: ∀ g,(g∈(blk q.aN ++ q.L8.filterMap aR.bt ++ blk q.bc ++ blk q.ay)\/g∈(afB q))->g∉(blk q.ax):=fun g bR hA=>by
  exact D_
 have hs: ∀ g,(g∈(blk q.aN ++ q.L8.filterMap aR.bt ++ blk q.bc ++ blk q.ay)\/g∈(afB q))->w'.heap[g]? =w.heap[g]? :=fun g bR=>hk.same g (h.lt g (by
  rw [hbs];rcases bR with bR | bR
  .exact Lz _ bR
  .exact Ly _ (Ly _ bR))).2 (nc g bR)
 refine ⟨⟨aL h.L8 fun g bR=>hs g (.inl Zcu),aL h.aj fun g bR=>hs g (.inl Zcu),aL h.L9 fun g bR=>hs g (.inl Zcu),Zdp,aL h.ae fun g bR=>hs g (.inr Zcu),aL h.ai fun g bR=>hs g (.inr Zcu),fun y hy=>(h.eI y hy).same fun g hk=>hs g (.inl Zcs),fun y hy=>(h.eE y hy).same fun g hk=>hs g (.inr Zcs),fun y hy=>(h.eR y hy).same fun g hk=>hs g (.inr Zcs),?_⟩,rN⟩;rw [rN];exact h.nodup
end
section
def ce (id:Int) (f:aD->aD) (l:List aD):List aD:=l.map fun x=>if x.id=id then f x else x
def hU (p:aE) (id:Int) (ok:aD->Bool) (f:aD->aD) (nx:Int):Option aE:=
 if bK p then match p.L8.find? (fun x=>decide (x.id=id)) with
  | some y=>if ok y then o_ { p with next:=nx,L8:=ce id f p.L8 } else n_
  | none=>n_
 else n_
def cN:aE:=⟨0,0,[],[],[],[],[],[]⟩
def gI (w:w_) (r:Option aE) (e:Ending) (w':w_):Prop:= ∃ q:af,e=r_ (u_ #[a_ q.cells,b_ r.isSome])/\ap w' w.heap.size q/\q.pure=r.getD cN/\B_ w.heap.size w w'
def Ai (w:w_) (bj:Nat):ap w bj ⟨0,0,[],n_,0,[],n_,0,[],n_,0,[],n_,0,[],n_,0,[],n_,0⟩:=
 ⟨Ke _ _ _ _,Ke _ _ _ _,Ke _ _ _ _,Ke _ _ _ _,Ke _ _ _ _,Ke _ _ _ _,(fun x hx=>by cases hx),(fun x hx=>by cases hx),(fun x hx=>by cases hx),by simp [af.Mc,blk]⟩
def ca {w w':w_} {r:Option aE} (h:r=n_) (hb:B_ w.heap.size w w'):gI w r (r_ (u_ #[a_ ar,b_ false])) w':=by
 subst h;exact ⟨_,rfl,Ai _ _,rfl,hb⟩
def vO {p:aE} {id nx:Int} {ok:aD->Bool} {f:aD->aD} (h:bK p=false):hU p id ok f nx=n_:=by simp [hU,h]
def tg {p:aE} {id nx:Int} {ok:aD->Bool} {f:aD->aD} (h:p.L8.find? (fun x=>decide (x.id=id))=n_):hU p id ok f nx=n_:=by
 unfold hU
 split
 .rw [h]
 .rfl
def sx {p:aE} {id nx:Int} {ok:aD->Bool} {f:aD->aD} {y:aD} (h:p.L8.find? (fun x=>decide (x.id=id))=o_ y) (ho:ok y=false):hU p id ok f nx=n_:=by
 unfold hU
 split
 .rw [h]; simp [ho]
 .rfl
def tT {p:aE} {id nx:Int} {ok:aD->Bool} {f:aD->aD} {y:aD} (hp:bK p=true) (h:p.L8.find? (fun x=>decide (x.id=id))=o_ y) (ho:ok y=true):hU p id ok f nx=o_ { p with next:=nx,L8:=ce id f p.L8 } :=by
 unfold hU;rw [if_pos hp,h];simp [ho]
def db {α:Type} {num:α->Int} {ok:α->Bool} : ∀ {l:List α} {last:Int},aw num ok last l=true->(∀ x∈l,last < num x)/\l.Pairwise (fun x y=>num x < num y)
 | [],_,_=>⟨(fun x hx=>by cases hx),List.Pairwise.nil⟩
 | x :: r,last,h=>by
  simp only [aw,J7,decide_eq_true_eq] at h;obtain ⟨h1,h2⟩:=db h.2;refine ⟨fun y hy=> ?_,List.Pairwise.cons (fun y hy=>h1 y hy) h2⟩;rcases Kt.1 hy with rfl | hy
  .exact h.1.1.2
  .have:=h1 y hy; have:=h.1.1.2; omega
def rp {l:List aD} {f:aD->aD} {id:Int} {n:Nat} {y:aD} (hr:l.Pairwise (fun x y=>x.id < y.id)) (hn:l[n]? =o_ y) (hy:y.id=id):ce id f l=l.set n (f y):=by
 induction l generalizing n with
 | nil=>simp at hn
 | cons x r ih=>
  obtain ⟨h1,h2⟩:=LM.1 hr;cases n with
  | zero=>
   simp only [List.getElem?_cons_zero,LF] at hn;subst hn;have e:ce id f r=r:=by
    unfold ce
    conv=>rhs; rw [<- List.map_id r]
    refine Lw fun z hz=> ?_
    rw [if_neg (by have:=h1 z hz; omega)];rfl
   simp only [List.set_cons_zero]
   show (if x.id=id then f x else x) :: ce id f r=_
   rw [if_pos hy,e]
  | succ n=>
   simp only [List.getElem?_cons_succ] at hn;have hlt:=h1 y (KA hn);simp only [List.set_cons_succ]
   show (if x.id=id then f x else x) :: ce id f r=_
   rw [if_neg zo,ih h2 hn]
def sc {p:aE} (h:bK p=true):p.L8.Pairwise (fun x y=>x.id < y.id):=(db ((ch _).1 h).L8).2
def GM (x:aD):Prop:=(x.prog.length<=1048576/\(∀ o∈x.prog,o.2.2.2.size<=1048576)/\x.held.size<=1048576/\x.got.size<=1048576)/\(Lit.int j_ x.id).wf=true/\(Lit.int j_ x.on).wf=true/\(Lit.int j_ x.RU).wf=true
def IZ {p:aE} (h:bK p=true):(Lit.int j_ p.next).wf=true:=by
 have h2:=bz.1 ((ch _).1 h).next;have e1:IntKind.min j_<=0:=by decide
 have e2:2000000000<=IntKind.max j_:=by decide
 simp only [Lit.wf,J7,decide_eq_true_eq];omega
def hY:cN.Small:=⟨Ky _,Ky _,Ky _,Ky _,Ky _,Ky _,(fun x hx=>by cases hx),(fun x hx=>by cases hx),(fun x hx=>by cases hx),(fun x hx=>by cases hx),(fun x hx=>by cases hx),(fun x hx=>by cases hx)⟩
def qQ {p:aE} {id nx:Int} {ok:aD->Bool} {f:aD->aD} :(hU p id ok f nx).getD cN=cN\/bK p=true/\(hU p id ok f nx).getD cN= { p with next:=nx,L8:=ce id f p.L8 } :=by
 unfold hU
 split
 .rename_i hp
  split
  .split
   .exact .inr ⟨hp,rfl⟩
   .exact .inl rfl
  .exact .inl rfl
 .exact .inl rfl
def zJ {p:aE} {id nx:Int} {ok:aD->Bool} {f:aD->aD} (h:p.Small) (hf:bK p=true-> ∀ y∈p.L8,GM y->GM (f y)):((hU p id ok f nx).getD cN).Small:=by
 rcases qQ (p:=p) (id:=id) (nx:=nx) (ok:=ok) (f:=f) with e | ⟨hp,e⟩
 .rw [e]; exact hY
 .rw [e]
  refine ⟨by simpa [ce] using h.dl,h.fx,h.cD,h.cC,h.cb,h.dH,fun x hx=> ?_,h.aj,h.L9,h.ag,h.ae,h.ai⟩;obtain ⟨y,hy,rfl⟩:=Lr.1 hx
  split
  .exact hf hp y hy (h.L8 y hy)
  .exact h.L8 y hy
def ap.kB {w:w_} {bj n j gs:Nat} {q:af} {x y:ao} {vs:List v_} (h:ap w bj q) (hx:q.L8[n]? =o_ x) (ha:q.aN=o_ ⟨gs,0,n_⟩) (hy:y.prog=x.prog/\y.aY=x.aY/\y.bH=x.bH)
  (hj:j+vs.length<=12) (h1: ∀ r,r < vs.length->(bg.vals y)[j+r]? =vs[r]?) (h2: ∀ r,r < 12-> ¬ (j<=r/\r < j+vs.length)->(bg.vals y)[r]? =(bg.vals x)[r]?):
  ap (bn w gs (n * 12+j) vs) bj ({ q with L8:=q.L8.set n y } :af)/\aI w (bn w gs (n * 12+j) vs) [gs] /\({ q with L8:=q.L8.set n y } :af).Mc=q.Mc:=by
 have hn:n < q.L8.length:=(Lj.1 hx).1;have hsp:=kL hx;have hset:q.L8.set n y=q.L8.take n ++ y :: q.L8.drop (n+1):=by rw [RJ,if_pos hn]
 have hl:(q.L8.take n).length=n:=by rw [Lk]; omega
 have hkb:aI w (bn w gs (n * 12+j) vs) [gs] :=aI.set _ zw;have ho:=h.L8;rw [ha] at ho;obtain ⟨g,hg,hrow⟩:=bl.fX (K:=bg) ho zo;cases hg;rw [hsp] at hrow;have h5:=bl.part (K:=bg) (x:=x) (y:=y) (j:=j) (vs:=vs) hrow hj h1 h2;rw [hl,show bg.n=12 from rfl,<- hset] at h5;have h6:=h5.owns;have hki:(q.L8.set n y).filterMap aR.bt=q.L8.filterMap aR.bt:=by
  rw [hset]
  conv=>rhs; rw [hsp]
  have e:aR.bt y=aR.bt x:=by show y.aY.map (·.block)=x.aY.map (·.block); rw [hy.2.1]
  simp only [LW,LH,e]
 have Pp:aR.cO w bj y:=by
  have h7:=h.eI x (KA hx)
  show w.ownsRow bj _ 4 (s_ y.aY y.prog.length y.bH) y.prog.length (fk.flat y.prog)
  rw [hy.1,hy.2.1,hy.2.2];exact h7
 have EI: ∀ z∈q.L8,∀ b,aR.bt z=o_ b->b≠gs:=fun z hz b hb e=>by
  have h8:=h.nodup;rw [af.Mc,ha] at h8;have h9:=(Kf.1 h8).2.2 gs (by simp [blk]) b (Lz _ (Lq.2 ⟨z,hz,hb⟩));exact h9 e.symm
 have hsame: ∀ b,b≠gs->(bn w gs (n * 12+j) vs).heap[b]? =w.heap[b]? :=fun b hb=>de _ hb
 have hm: ∀ z∈q.L8.set n y,aR.cO (bn w gs (n * 12+j) vs) bj z:=fun z hz=>by
  rcases PO hz with hz | rfl
  .exact (h.eI z hz).same fun b hb=>hsame b (EI z hz b hb)
  .refine Pp.same fun b hb=>hsame b (EI x (KA hx) b ?_)
   rw [<- hb]
   show x.aY.map (·.block)=z.aY.map (·.block)
   rw [hy.2.1]
 have ht:=h.As (w':=bn w gs (n * 12+j) vs) (l:=q.L8.set n y) (by rw [ha]; rw [LI] at h6; exact h6) zw hm hki (hkb.mono (by simp [ha,blk]));exact ⟨ht.1,hkb,ht.2⟩
def Di {α:Type} {N:gd α} {w w':w_} {bj:Nat} {x:α} (h:N.cO w bj x) (hb:B_ w.heap.size w w'):N.cO w' bj x:=h.same fun g hk=>hb.block g (h.lt hk).2
def o8 (W:w_) (X b:Nat) (q:af):Prop:=av W X q/\ap W b q
def rT (W:w_) (X b:Nat) (x:ao):Prop:=jx W X x/\aR.cO W b x
section
variable {p q:af} {x:ao} {w W W':w_} {X b:Nat} {bs:List Nat}
def o8.below (h:o8 W X b q) (hb:B_ W.heap.size W W'):o8 W' X b q:=⟨h.1.below hb,h.2.below hb⟩
def o8.kept (h:o8 W X b q) (hk:aI W W' bs) (hs:X∉bs) (ho: ∀ g∈q.Mc,g∉bs):o8 W' X b q:=⟨(hk.same _ (J2.1 h.1).1 hs).trans h.1,h.2.same fun g hg=>hk.same g (h.2.lt g hg).2 (ho g hg)⟩
def rT.below (h:rT W X b x) (hb:B_ W.heap.size W W'):rT W' X b x:=⟨h.1.below hb,Di h.2 hb⟩
def rT.kept (h:rT W X b x) (hk:aI W W' bs) (hs:X∉bs) (ho: ∀ g∈blk x.aY,g∉bs):rT W' X b x:=⟨(hk.same _ (J2.1 h.1).1 hs).trans h.1,h.2.same fun g hg=>hk.same g (h.2.lt hg).2 (ho g (fZ.2 hg))⟩
def av.lt {W:w_} {X:Nat} {q:af} (h:av W X q):X < W.heap.size:=(J2.1 h).1
def jx.lt {W:w_} {X:Nat} {x:ao} (h:jx W X x):X < W.heap.size:=(J2.1 h).1
end
end
section
open Go.Maps
attribute [local go_sem ↓] Kc Kd
def N4 (t:ByteArray) (x:aD):ByteArray:=t ++ ⟨#[112,114,111,99,32]⟩ ++ Ij x.id ++ ⟨#[32]⟩ ++ Ij x.RX ++ ⟨#[32]⟩ ++ Ij x.Md ++ ⟨#[32]⟩ ++ Ij x.pc ++ ⟨#[32]⟩ ++ Ij x.left ++ ⟨#[32]⟩ ++ Ij x.Mg ++ ⟨#[32]⟩ ++ Ij x.on ++ ⟨#[32]⟩ ++ Ij x.code ++ ⟨#[32]⟩ ++ Ij x.RU ++ ⟨#[32,59]⟩ ++ x.held ++ ⟨#[59]⟩ ++ x.got ++ ⟨#[59]⟩ ++ NQ x.prog ++ ⟨#[10]⟩
def OT (t:ByteArray) (x:bD):ByteArray:=t ++ ⟨#[115,101,109,32]⟩ ++ Ij x.id ++ ⟨#[32]⟩ ++ Ij x.n ++ ⟨#[32]⟩ ++ Ij x.max ++ ⟨#[10]⟩
def NE (t:ByteArray) (x:aB):ByteArray:=t ++ ⟨#[101,118,101,110,116,32]⟩ ++ Ij x.id ++ ⟨#[32]⟩ ++ Ij (MJ x.up) ++ ⟨#[10]⟩
def NJ (t:ByteArray) (x:az):ByteArray:=t ++ ⟨#[98,111,97,114,100,32]⟩ ++ Ij x.id ++ ⟨#[32]⟩ ++ Ij (MJ x.shown) ++ ⟨#[32]⟩ ++ x.text ++ ⟨#[10]⟩
def Nm (t:ByteArray) (x:ci):ByteArray:=t ++ ⟨#[98,117,102,102,101,114,32]⟩ ++ Ij x.id ++ ⟨#[32]⟩ ++ Ij x.max ++ MI x.Ma ++ ⟨#[10]⟩
def N5 (t:ByteArray) (x:dS):ByteArray:=t ++ ⟨#[112,111,114,116,32]⟩ ++ Ij x.id ++ ⟨#[32]⟩ ++ Ij (MJ x.I) ++ ⟨#[32]⟩ ++ Ij (MJ x.Mf) ++ ⟨#[32]⟩ ++ Ij x.max ++ MI x.Ma ++ ⟨#[10]⟩
def Pu (p:aE):ByteArray:=⟨#[112,97,114,116,32]⟩ ++ Ij p.id ++ ⟨#[32]⟩ ++ Ij p.next ++ ⟨#[10]⟩
def NF (p:aE):ByteArray:=if bK p=true then p.ai.foldl N5 (p.ae.foldl Nm (p.ag.foldl NJ (p.L9.foldl NE (p.aj.foldl OT (p.L8.foldl N4 (Pu p)))))) else ⟨#[]⟩
def M4 {α:Type} {F:ByteArray->α->ByteArray} {l:List α} {k:Nat} {x:α} {c:ByteArray} (h:l[k]? =o_ x):(l.take (k+1)).foldl F c=F ((l.take k).foldl F c) x:=by
 have hk:=(Lj.1 h).1;rw [QE hk,List.foldl_append,(Lj.1 h).2];rfl
structure MQ (w:w_) (B:Nat) (p:af) (W:w_):Prop where
 box:av W B p
 MT:af.At W p
 low:B_ w.heap.size w W
def MQ.below {w W W2:w_} {B:Nat} {p:af} (h:MQ w B p W) (hb:B_ W.heap.size W W2):MQ w B p W2:=⟨h.box.below hb,h.MT.below hb,h.low.trans (hb.mono h.low.size)⟩
def afO {n:Int} (h: -9999999999<=n/\n<=9999999999):(Ij n).size<=2000000000000:=by
 have:=MD h.1 h.2
 omega
def Mw {l:List ByteArray} (h:l.length<=1048576) (hs: ∀ x∈l,x.size<=1048576):(MI l).size<=2000000000000:=by
 have h1:=Nf (f:=NS) (l:=l) (m:=1048577) fun y hy=>by have:=hs y hy; rw [Ny]; omega
 have h2:=Nat.mul_le_mul_left 1048577 h;unfold MI;omega
def MQ.sem {w W:w_} {B gs k:Nat} {p:af} {x:bD} (h:MQ w B p W) (ha:p.bc=o_ ⟨gs,0,n_⟩) (hx:p.aj[k]? =o_ x):bD.At W gs k x:=by
 obtain ⟨g,h1,h2⟩:=lQ h.MT.2.1 hx;exact Zbk
def MQ.event {w W:w_} {B gs k:Nat} {p:af} {x:aB} (h:MQ w B p W) (ha:p.ay=o_ ⟨gs,0,n_⟩) (hx:p.L9[k]? =o_ x):aB.At W gs k x:=by
 obtain ⟨g,h1,h2⟩:=j4 h.MT.2.2.1 hx;exact Zbk
def MQ.ajl {w W:w_} {B gs k:Nat} {p:af} {x:az} (h:MQ w B p W) (ha:p.ax=o_ ⟨gs,0,n_⟩) (hx:p.ag[k]? =o_ x):az.At W gs k x:=by
 obtain ⟨g,h1,h2⟩:=jr h.MT.2.2.2.1 hx;exact Zbk
def MQ.buffer {w W:w_} {B gs k:Nat} {p:af} {x:au} (h:MQ w B p W) (ha:p.am=o_ ⟨gs,0,n_⟩) (hx:p.ae[k]? =o_ x):au.At W gs k x:=by
 obtain ⟨g,h1,h2⟩:=iA h.MT.2.2.2.2.1 hx;exact Zbk
def MQ.port {w W:w_} {B gs k:Nat} {p:af} {x:aM} (h:MQ w B p W) (ha:p.aK=o_ ⟨gs,0,n_⟩) (hx:p.ai[k]? =o_ x):aM.At W gs k x:=by
 obtain ⟨g,h1,h2⟩:=lm h.MT.2.2.2.2.2 hx;exact Zbk
def MQ.proc {w W:w_} {B gs k:Nat} {p:af} {x:ao} (h:MQ w B p W) (ha:p.aN=o_ ⟨gs,0,n_⟩) (hx:p.L8[k]? =o_ x):ao.At W gs k x:=by
 obtain ⟨g,h1,h2⟩:=cn h.MT.1 hx;exact Zbk
def MS (p:af) (w:w_) (hf:p.Fit) (hs: ∀ x∈p.L8,x.dX) (h:af.At w p):
  k_ Tryz.prog 30 #[a_ p.cells] w fun e w'=>e=r_ (t_ (NF p.pure))/\B_ w.heap.size w w':=by
 have S:bN (MQ w w.heap.size p (w.alloc (c_ p.cells 31))):=⟨Kj _ _,h.below ((Kp _ _).alloc (Ki _) _),(Kp _ _).alloc (Ki _) _⟩
 have HF:bN (p.Fit/\ ∀ x∈p.L8,x.dX):=⟨hf,hs⟩
 clear h hf hs
 go_enter func30,ntmps30
 go_upto_region 1 with fail;generalize w.alloc (c_ p.cells 31)=A at *;have Mb:=eV p A HF.I.1 HF.I.2 S.I.MT;go_wp2_with (refine eT _ S.I.box ?_);refine Mb.mono ?_;clear Mb;rintro e af8 ⟨rfl,hb⟩;replace S:=aA (S.I.below hb);clear hb;cases hr:bK p.pure
 .have HT:bN (NF p.pure=⟨#[]⟩):=if_neg (by rw [hr]; decide)
  clear hr;exact Fd
 have HR:=aA ((ch _).1 hr);have HT:=aA (show NF p.pure=_ from if_pos hr);clear hr;have bi: -9999999999<=p.id/\p.id<=9999999999:=by have:=bz.1 HR.I.id; simp only [af.pure] at this; omega
 have Ml: -9999999999<=p.next/\p.next<=9999999999:=by have:=bz.1 HR.I.next; simp only [af.pure] at this; omega
 go_upto_region 3 with fail;refine aT (fun W=>bN (MQ w w.heap.size p W)) Zcq (S.I.below (Kp _ _).drew) ?_
 iterate 2 (refine PI ?_ (hy:=fun w0 hS0=>by obtain ⟨q0,q1,-,-,-,-,-,-⟩:=hS0.I.box.cells; go_simp; try with_reducible rfl))
 refine b9 (Ij p.id) 46 #[i_ j_ p.id] (fun w0 h0=>(MC _ bi.1 bi.2 w0).mono fun e w1 h=>⟨h.1,h0.I.below h.2⟩) ?_;refine ad (u:=⟨#[112,97,114,116,32]⟩) 1 (by decide) (afO bi) (fun c1 e1 z1=> ?_);refine y7 _ z1 (fun c2 e2 z2=> ?_)
 iterate 2 (refine PI ?_ (hy:=fun w0 hS0=>by obtain ⟨q0,q1,-,-,-,-,-,-⟩:=hS0.I.box.cells; go_simp; try with_reducible rfl))
 refine b9 (Ij p.next) 46 #[i_ j_ p.next] (fun w0 h0=>(MC _ Ml.1 Ml.2 w0).mono fun e w1 h=>⟨h.1,h0.I.below h.2⟩) ?_;refine ad _ z2 (afO Ml) (fun c3 e3 z3=> ?_);refine y7 _ z3 (fun Mn e4 Mj=> ?_);refine PI ?_ (hy:=fun w0 hS0=>by obtain ⟨q0,q1,-,-,-,-,-,-⟩:=hS0.I.box.cells; go_simp; try with_reducible rfl);refine bk Zcq (fun A2 y5=> ?_) _;have Mh:bN (Mn=Pu p.pure):=by show _=_; rw [e4.I,e3.I,e2.I,e1.I]; rfl
 clear e4 e3 e2 e1 z1 z2 z3 S bi Ml;have S:=y5;clear y5;go_wp2_with fail;have hlProc:p.L8.length<=6:=by have:=HR.I.dl; simp only [af.pure,KG] at this; exact this
 go_loopw [3,4] (fun s i wr=> ∃ (k:Nat) (c:ByteArray),k<=p.L8.length/\i=i_ j_ k/\s=t_ c/\c.size<=2000000000000 * (10+25 * k)/\bN (c=(p.L8.take k).foldl (fun t x=>N4 t x.toaD) Mn/\MQ w w.heap.size p wr)) (fun _ i _=>p.L8.length - (Go.RowKit.intOf i).toNat)
 case atStart=>exact ⟨0,Mn,Ky _,rfl,rfl,zo,rfl,S.I⟩
 case round=>
  clear S;obtain ⟨k,c,hk,rfl,rfl,z0,HA⟩:=hrel;by_cases hlt:k < p.L8.length
  .as_aux_lemma=>
    have i0:(0:Int)<=(k:Int):=zo
    have i1:(k:Int) < (p.L8.length:Int):=zo
    obtain ⟨x,hx⟩: ∃ x,p.L8[k]? =o_ x:=⟨_,Kz hlt⟩
    obtain ⟨gs,ha,hat⟩:=cn HA.I.2.MT.1 hx;have HL:=aA (Oy HR.I (x:=x) (Lr.2 ⟨x,KA hx,rfl⟩) (lA HA.I.2.MT.1 hx));have HX:bN (p.aN=o_ ⟨gs,0,n_⟩/\p.L8[k]? =o_ x):=⟨ha,hx⟩
    have Nv:=HL.I.1 x.id zw;have OM:=HL.I.1 x.RX zw;have Oe:=HL.I.1 x.Md zw;have bpc:=HL.I.1 x.pc zw;have O7:=HL.I.1 x.left zw;have OW:=HL.I.1 x.Mg zw;have bon:=HL.I.1 x.on zw;have O9:=HL.I.1 x.code zw;have Og:=HL.I.1 x.RU zw;obtain ⟨d0,d1,d2,d3,d4,d5,d6,d7,d8,d9,tH,tS⟩:=hat;obtain ⟨-,-,m2,-,-,-,-,-⟩:=HA.I.2.box.cells;rw [ha] at m2;clear hx ha;have HS:bN (MQ w w.heap.size p (wr.alloc (c_ x.row 41))/\(wr.alloc (c_ x.row 41)).heap[wr.heap.size]? =o_ (c_ x.row 41)):=⟨HA.I.2.below ((Kp _ _).alloc (Ki _) _),Kj _ _⟩
    go_upto_region 8 with fail;generalize wr.alloc (c_ x.row 41)=V at *;generalize wr.heap.size=X at *;clear d0 d1 d2 d3 d4 d5 d6 d7 d8 d9 tH tS m2;have NR:bN (∀ W W2:w_,bN (MQ w w.heap.size p W/\W.heap[X]? =o_ (c_ x.row 41))->B_ W.heap.size W W2->bN (MQ w w.heap.size p W2/\W2.heap[X]? =o_ (c_ x.row 41))):=fun W W2 h hb=>⟨h.I.1.below hb,(hb.block _ (J2.1 h.I.2).1).trans h.I.2⟩
    refine aT (fun W=>bN (MQ w w.heap.size p W/\W.heap[X]? =o_ (c_ x.row 41))) Zcq (NR.I _ _ HS (Kp _ _).drew) ?_;refine PI ?_ (hy:=fun w0 hS0=>by obtain ⟨q0,q1,q2,q3,q4,q5,q6,q7,q8,q9,kY,kV⟩:=bo hS0.I.2; go_simp; try with_reducible rfl);refine y7 _ z0 (fun c1 e1 z1=> ?_)
    iterate 2 (refine PI ?_ (hy:=fun w0 hS0=>by obtain ⟨q0,q1,q2,q3,q4,q5,q6,q7,q8,q9,kY,kV⟩:=bo hS0.I.2; go_simp; try with_reducible rfl))
    refine b9 (Ij x.id) 46 #[i_ j_ x.id] (fun w0 h0=>(MC _ Nv.1 Nv.2 w0).mono fun e w1 h=>⟨h.1,NR.I _ _ h0 h.2⟩) ?_;refine ad _ z1 (afO Nv) (fun c2 e2 z2=> ?_);refine y7 _ z2 (fun c3 e3 z3=> ?_)
    iterate 2 (refine PI ?_ (hy:=fun w0 hS0=>by obtain ⟨q0,q1,q2,q3,q4,q5,q6,q7,q8,q9,kY,kV⟩:=bo hS0.I.2; go_simp; try with_reducible rfl))
    refine b9 (Ij x.RX) 46 #[i_ j_ x.RX] (fun w0 h0=>(MC _ OM.1 OM.2 w0).mono fun e w1 h=>⟨h.1,NR.I _ _ h0 h.2⟩) ?_;refine ad _ z3 (afO OM) (fun c4 e4 z4=> ?_);refine y7 _ z4 (fun c5 e5 z5=> ?_)
    iterate 2 (refine PI ?_ (hy:=fun w0 hS0=>by obtain ⟨q0,q1,q2,q3,q4,q5,q6,q7,q8,q9,kY,kV⟩:=bo hS0.I.2; go_simp; try with_reducible rfl))
    refine b9 (Ij x.Md) 46 #[i_ j_ x.Md] (fun w0 h0=>(MC _ Oe.1 Oe.2 w0).mono fun e w1 h=>⟨h.1,NR.I _ _ h0 h.2⟩) ?_;refine ad _ z5 (afO Oe) (fun c6 e6 z6=> ?_);refine y7 _ z6 (fun c7 e7 z7=> ?_)
    iterate 2 (refine PI ?_ (hy:=fun w0 hS0=>by obtain ⟨q0,q1,q2,q3,q4,q5,q6,q7,q8,q9,kY,kV⟩:=bo hS0.I.2; go_simp; try with_reducible rfl))
    refine b9 (Ij x.pc) 46 #[i_ j_ x.pc] (fun w0 h0=>(MC _ bpc.1 bpc.2 w0).mono fun e w1 h=>⟨h.1,NR.I _ _ h0 h.2⟩) ?_;refine ad _ z7 (afO bpc) (fun c8 e8 KI=> ?_);refine y7 _ KI (fun c9 e9 z9=> ?_)
    iterate 2 (refine PI ?_ (hy:=fun w0 hS0=>by obtain ⟨q0,q1,q2,q3,q4,q5,q6,q7,q8,q9,kY,kV⟩:=bo hS0.I.2; go_simp; try with_reducible rfl))
    refine b9 (Ij x.left) 46 #[i_ j_ x.left] (fun w0 h0=>(MC _ O7.1 O7.2 w0).mono fun e w1 h=>⟨h.1,NR.I _ _ h0 h.2⟩) ?_;refine ad _ z9 (afO O7) (fun qF Pn z10=> ?_);refine y7 _ z10 (fun pe e11 z11=> ?_)
    iterate 2 (refine PI ?_ (hy:=fun w0 hS0=>by obtain ⟨q0,q1,q2,q3,q4,q5,q6,q7,q8,q9,kY,kV⟩:=bo hS0.I.2; go_simp; try with_reducible rfl))
    refine b9 (Ij x.Mg) 46 #[i_ j_ x.Mg] (fun w0 h0=>(MC _ OW.1 OW.2 w0).mono fun e w1 h=>⟨h.1,NR.I _ _ h0 h.2⟩) ?_;refine ad _ z11 (afO OW) (fun c12 PF z12=> ?_);refine y7 _ z12 (fun c13 PG z13=> ?_)
    iterate 2 (refine PI ?_ (hy:=fun w0 hS0=>by obtain ⟨q0,q1,q2,q3,q4,q5,q6,q7,q8,q9,kY,kV⟩:=bo hS0.I.2; go_simp; try with_reducible rfl))
    refine b9 (Ij x.on) 46 #[i_ j_ x.on] (fun w0 h0=>(MC _ bon.1 bon.2 w0).mono fun e w1 h=>⟨h.1,NR.I _ _ h0 h.2⟩) ?_;refine ad _ z13 (afO bon) (fun c14 e14 z14=> ?_);refine y7 _ z14 (fun c15 e15 z15=> ?_)
    iterate 2 (refine PI ?_ (hy:=fun w0 hS0=>by obtain ⟨q0,q1,q2,q3,q4,q5,q6,q7,q8,q9,kY,kV⟩:=bo hS0.I.2; go_simp; try with_reducible rfl))
    refine b9 (Ij x.code) 46 #[i_ j_ x.code] (fun w0 h0=>(MC _ O9.1 O9.2 w0).mono fun e w1 h=>⟨h.1,NR.I _ _ h0 h.2⟩) ?_;refine ad _ z15 (afO O9) (fun c16 e16 z16=> ?_);refine y7 _ z16 (fun c17 PH z17=> ?_)
    iterate 2 (refine PI ?_ (hy:=fun w0 hS0=>by obtain ⟨q0,q1,q2,q3,q4,q5,q6,q7,q8,q9,kY,kV⟩:=bo hS0.I.2; go_simp; try with_reducible rfl))
    refine b9 (Ij x.RU) 46 #[i_ j_ x.RU] (fun w0 h0=>(MC _ Og.1 Og.2 w0).mono fun e w1 h=>⟨h.1,NR.I _ _ h0 h.2⟩) ?_;refine ad _ z17 (afO Og) (fun c18 e18 z18=> ?_);refine y7 _ z18 (fun c19 e19 z19=> ?_)
    iterate 2 (refine PI ?_ (hy:=fun w0 hS0=>by obtain ⟨q0,q1,q2,q3,q4,q5,q6,q7,q8,q9,kY,kV⟩:=bo hS0.I.2; go_simp; try with_reducible rfl))
    refine ad _ z19 (show x.held.size<=2000000000000 by have:=HL.I.2.2.1.held; omega) (fun c20 e20 z20=> ?_);refine y7 _ z20 (fun c21 e21 z21=> ?_)
    iterate 2 (refine PI ?_ (hy:=fun w0 hS0=>by obtain ⟨q0,q1,q2,q3,q4,q5,q6,q7,q8,q9,kY,kV⟩:=bo hS0.I.2; go_simp; try with_reducible rfl))
    refine ad _ z21 (show x.got.size<=2000000000000 by have:=HL.I.2.2.1.got; omega) (fun c22 e22 z22=> ?_);refine y7 _ z22 (fun c23 e23 z23=> ?_)
    iterate 2 (refine PI ?_ (hy:=fun w0 hS0=>by obtain ⟨q0,q1,q2,q3,q4,q5,q6,q7,q8,q9,kY,kV⟩:=bo hS0.I.2; go_simp; try with_reducible rfl))
    refine b9 (NQ x.prog) 47 #[s_ x.aY x.prog.length x.bH] (fun w0 h0=>(NP _ _ _ w0 HL.I.2.1 HL.I.2.2.1.prog HL.I.2.2.1.ops (lA h0.I.1.MT.1 HX.I.2)).mono fun e w1 h=>⟨h.1,NR.I _ _ h0 h.2⟩) ?_;refine ad _ z23 (show (NQ x.prog).size<=2000000000000 by have:=N8 x.prog; omega) (fun c24 e24 z24=> ?_);refine y7 _ z24 (fun c25 e25 z25=> ?_);refine PI ?_ (hy:=fun w0 hS0=>by obtain ⟨q0,q1,q2,q3,q4,q5,q6,q7,q8,q9,kY,kV⟩:=bo hS0.I.2; go_simp; try with_reducible rfl);refine bk Zcq (fun A3 NO=> ?_) _;have HE:bN (c25=(p.L8.take (k+1)).foldl (fun t x=>N4 t x.toaD) Mn):=by
     show _=_
     rw [M4 HX.I.2,<- HA.I.1,e25.I,e24.I,e23.I,e22.I,e21.I,e20.I,e19.I,e18.I,PH.I,e16.I,e15.I,e14.I,PG.I,PF.I,e11.I,Pn.I,e9.I,e8.I,e7.I,e6.I,e5.I,e4.I,e3.I,e2.I,e1.I];rfl
    clear e1 e2 e3 e4 e5 e6 e7 e8 e9 Pn e11 PF PG e14 e15 e16 PH e18 e19 e20 e21 e22 e23 e24 e25 z1 z2 z3 z4 z5 z6 z7 KI z9 z10 z11 z12 z13 z14 z15 z16 z17 z18 z19 z20 z21 z22 z23 z24;go_wp2;go_roundw
    case rel=>exact ⟨k+1,c25,zo,by go_num,rfl,zo,HE.I,NO.I.1⟩
    case measure=>simp [Go.RowKit.intOf]; omega
  have i1: ¬ (k:Int) < (p.L8.length:Int):=zo
  have ek:k=p.L8.length:=zo
  obtain ⟨NH,NA⟩: ∃ t,bN (t=c/\c=p.L8.foldl (fun t x=>N4 t x.toaD) Mn):=⟨c,rfl,by have:=HA.I.1; rwa [ek,LQ] at this⟩
  have yProc:NH.size<=2000000000000 * 160:=by rw [NA.I.1]; omega
  have S:bN (MQ w w.heap.size p wr):=HA.I.2;have Mi:=NA.I.1;replace NA:bN (NH=p.L8.foldl (fun t x=>N4 t x.toaD) Mn):=NA.I.1.trans NA.I.2;rw [<- Mi];clear Mi HA z0 ek;obtain ⟨wproc,Pc⟩: ∃ W:w_,W=wr:=⟨_,rfl⟩
  rw [<- Pc] at S ⊢;clear Pc;obtain ⟨-,-,m2,-,-,-,-,-⟩:=S.I.box.cells;go_wp2_with fail;clear m2 i1;have hlSem:p.aj.length<=5:=by have:=HR.I.fx; simp only [af.pure] at this; exact this
  go_loopw [3,6] (fun s i wr=> ∃ (k:Nat) (c:ByteArray),k<=p.aj.length/\i=i_ j_ k/\s=t_ c/\c.size<=2000000000000 * (160+7 * k)/\bN (c=(p.aj.take k).foldl (fun t x=>OT t x) NH/\MQ w w.heap.size p wr)) (fun _ i _=>p.aj.length - (Go.RowKit.intOf i).toNat)
  case atStart=>exact ⟨0,NH,Ky _,rfl,rfl,zo,rfl,S.I⟩
  case round=>
   clear S;obtain ⟨k,c,hk,rfl,rfl,z0,HA⟩:=hrel;by_cases hlt:k < p.aj.length
   .as_aux_lemma=>
     have i0:(0:Int)<=(k:Int):=zo
     have i1:(k:Int) < (p.aj.length:Int):=zo
     obtain ⟨x,hx⟩: ∃ x,p.aj[k]? =o_ x:=⟨_,Kz hlt⟩
     obtain ⟨gs,ha,hat⟩:=lQ HA.I.2.MT.2.1 hx;have HL:=aA (O2 HR.I wr (x:=x) (KA hx));have HX:bN (p.bc=o_ ⟨gs,0,n_⟩/\p.aj[k]? =o_ x):=⟨ha,hx⟩
     have Nv:=HL.I x.id zw;have Ml:=HL.I x.n zw;have Nz:=HL.I x.max zw;have HC:bN (∀ W,MQ w w.heap.size p W->W.cell? ⟨w.heap.size,3,n_⟩=o_ (s_ (o_ ⟨gs,0,n_⟩) p.aj.length p.bF)/\bD.At W gs k x):=fun W h=>⟨by obtain ⟨-,-,-,m,-,-,-,-⟩:=h.box.cells; rw [<- HX.I.1]; exact m,h.sem HX.I.1 HX.I.2⟩
     obtain ⟨-,-,-,m3,-,-,-,-⟩:=HA.I.2.box.cells;clear hx ha hat;go_upto_region 12 with fail;clear m3;refine aT (fun W=>bN (MQ w w.heap.size p W)) Zcq (HA.I.2.below (Kp _ _).drew) ?_;refine PI ?_ (hy:=fun w0 hS0=>by obtain ⟨m,q0,q1,q2⟩:=HC.I w0 hS0.I; go_simp; try with_reducible rfl);refine y7 _ z0 (fun c1 e1 z1=> ?_)
     iterate 6 (refine PI ?_ (hy:=fun w0 hS0=>by obtain ⟨m,q0,q1,q2⟩:=HC.I w0 hS0.I; go_simp; try with_reducible rfl))
     refine b9 (Ij x.id) 46 #[i_ j_ x.id] (fun w0 h0=>(MC _ Nv.1 Nv.2 w0).mono fun e w1 h=>⟨h.1,h0.I.below h.2⟩) ?_;refine ad _ z1 (afO Nv) (fun c2 e2 z2=> ?_);refine y7 _ z2 (fun c3 e3 z3=> ?_)
     iterate 6 (refine PI ?_ (hy:=fun w0 hS0=>by obtain ⟨m,q0,q1,q2⟩:=HC.I w0 hS0.I; go_simp; try with_reducible rfl))
     refine b9 (Ij x.n) 46 #[i_ j_ x.n] (fun w0 h0=>(MC _ Ml.1 Ml.2 w0).mono fun e w1 h=>⟨h.1,h0.I.below h.2⟩) ?_;refine ad _ z3 (afO Ml) (fun c4 e4 z4=> ?_);refine y7 _ z4 (fun c5 e5 z5=> ?_)
     iterate 6 (refine PI ?_ (hy:=fun w0 hS0=>by obtain ⟨m,q0,q1,q2⟩:=HC.I w0 hS0.I; go_simp; try with_reducible rfl))
     refine b9 (Ij x.max) 46 #[i_ j_ x.max] (fun w0 h0=>(MC _ Nz.1 Nz.2 w0).mono fun e w1 h=>⟨h.1,h0.I.below h.2⟩) ?_;refine ad _ z5 (afO Nz) (fun c6 e6 z6=> ?_);refine y7 _ z6 (fun c7 e7 z7=> ?_);refine PI ?_ (hy:=fun w0 hS0=>by obtain ⟨m,q0,q1,q2⟩:=HC.I w0 hS0.I; go_simp; try with_reducible rfl);refine bk Zcq (fun A3 NO=> ?_) _;have HE:bN (c7=(p.aj.take (k+1)).foldl (fun t x=>OT t x) NH):=by
      exact ZbZ
     exact Zay
   have i1: ¬ (k:Int) < (p.aj.length:Int):=zo
   have ek:k=p.aj.length:=zo
   obtain ⟨N7,Oh⟩: ∃ t,bN (t=c/\c=p.aj.foldl (fun t x=>OT t x) NH):=⟨c,rfl,by have:=HA.I.1; rwa [ek,LQ] at this⟩
   have ySem:N7.size<=2000000000000 * 195:=by rw [Oh.I.1]; omega
   have S:bN (MQ w w.heap.size p wr):=HA.I.2;have Mi:=Oh.I.1;replace Oh:bN (N7=p.aj.foldl (fun t x=>OT t x) NH):=Oh.I.1.trans Oh.I.2;rw [<- Mi];clear Mi HA z0 ek;obtain ⟨wsem,Pr⟩: ∃ W:w_,W=wr:=⟨_,rfl⟩
   rw [<- Pr] at S ⊢;clear Pr;obtain ⟨-,-,-,m3,-,-,-,-⟩:=S.I.box.cells;go_wp2_with fail;clear m3 i1;have hlEvent:p.L9.length<=5:=by have:=HR.I.cD; simp only [af.pure] at this; exact this
   go_loopw [3,7] (fun s i wr=> ∃ (k:Nat) (c:ByteArray),k<=p.L9.length/\i=i_ j_ k/\s=t_ c/\c.size<=2000000000000 * (195+5 * k)/\bN (c=(p.L9.take k).foldl (fun t x=>NE t x) N7/\MQ w w.heap.size p wr)) (fun _ i _=>p.L9.length - (Go.RowKit.intOf i).toNat)
   case atStart=>exact ⟨0,N7,Ky _,rfl,rfl,zo,rfl,S.I⟩
   case round=>
    clear S;obtain ⟨k,c,hk,rfl,rfl,z0,HA⟩:=hrel;by_cases hlt:k < p.L9.length
    .as_aux_lemma=>
      have i0:(0:Int)<=(k:Int):=zo
      have i1:(k:Int) < (p.L9.length:Int):=zo
      obtain ⟨x,hx⟩: ∃ x,p.L9[k]? =o_ x:=⟨_,Kz hlt⟩
      obtain ⟨gs,ha,hat⟩:=j4 HA.I.2.MT.2.2.1 hx;have HL:=aA (Oi HR.I wr (x:=x) (KA hx));have HX:bN (p.ay=o_ ⟨gs,0,n_⟩/\p.L9[k]? =o_ x):=⟨ha,hx⟩
      have Nv:=HL.I x.id zw;have HC:bN (∀ W,MQ w w.heap.size p W->W.cell? ⟨w.heap.size,4,n_⟩=o_ (s_ (o_ ⟨gs,0,n_⟩) p.L9.length p.aO)/\aB.At W gs k x):=fun W h=>⟨by obtain ⟨-,-,-,-,m,-,-,-⟩:=h.box.cells; rw [<- HX.I.1]; exact m,h.event HX.I.1 HX.I.2⟩
      obtain ⟨-,-,-,-,m4,-,-,-⟩:=HA.I.2.box.cells;clear hx ha hat;go_upto_region 16 with fail;clear m4;refine aT (fun W=>bN (MQ w w.heap.size p W)) Zcq (HA.I.2.below (Kp _ _).drew) ?_;refine PI ?_ (hy:=fun w0 hS0=>by obtain ⟨m,q0,q1⟩:=HC.I w0 hS0.I; go_simp; try with_reducible rfl);refine y7 _ z0 (fun c1 e1 z1=> ?_)
      iterate 6 (refine PI ?_ (hy:=fun w0 hS0=>by obtain ⟨m,q0,q1⟩:=HC.I w0 hS0.I; go_simp; try with_reducible rfl))
      refine b9 (Ij x.id) 46 #[i_ j_ x.id] (fun w0 h0=>(MC _ Nv.1 Nv.2 w0).mono fun e w1 h=>⟨h.1,h0.I.below h.2⟩) ?_;refine ad _ z1 (afO Nv) (fun c2 e2 z2=> ?_);refine y7 _ z2 (fun c3 e3 z3=> ?_)
      iterate 6 (refine PI ?_ (hy:=fun w0 hS0=>by obtain ⟨m,q0,q1⟩:=HC.I w0 hS0.I; go_simp; try with_reducible rfl))
      refine b9 (Ij (MJ x.up)) 48 #[b_ x.up] (fun w0 h0=>(MX _ w0).mono fun e w1 h=>⟨h.1,by rw [h.2]; exact h0⟩) ?_;refine ad _ z3 (afO (MM _)) (fun c4 e4 z4=> ?_);refine y7 _ z4 (fun c5 e5 z5=> ?_);refine PI ?_ (hy:=fun w0 hS0=>by obtain ⟨m,q0,q1⟩:=HC.I w0 hS0.I; go_simp; try with_reducible rfl);refine bk Zcq (fun A3 NO=> ?_) _;have HE:bN (c5=(p.L9.take (k+1)).foldl (fun t x=>NE t x) N7):=by
       show _=_
       rw [M4 HX.I.2,<- HA.I.1,e5.I,e4.I,e3.I,e2.I,e1.I];rfl
      clear e1 e2 e3 e4 e5 z1 z2 z3 z4;go_wp2;go_roundw
      case rel=>exact ⟨k+1,c5,zo,by go_num,rfl,zo,HE.I,NO.I⟩
      case measure=>simp [Go.RowKit.intOf]; omega
    have i1: ¬ (k:Int) < (p.L9.length:Int):=zo
    have ek:k=p.L9.length:=zo
    obtain ⟨Ni,Ng⟩: ∃ t,bN (t=c/\c=p.L9.foldl (fun t x=>NE t x) N7):=⟨c,rfl,by have:=HA.I.1; rwa [ek,LQ] at this⟩
    have yEvent:Ni.size<=2000000000000 * 220:=by rw [Ng.I.1]; omega
    have S:bN (MQ w w.heap.size p wr):=HA.I.2;have Mi:=Ng.I.1;replace Ng:bN (Ni=p.L9.foldl (fun t x=>NE t x) N7):=Ng.I.1.trans Ng.I.2;rw [<- Mi];clear Mi HA z0 ek;obtain ⟨wevent,Ol⟩: ∃ W:w_,W=wr:=⟨_,rfl⟩
    rw [<- Ol] at S ⊢;clear Ol;obtain ⟨-,-,-,-,m4,-,-,-⟩:=S.I.box.cells;go_wp2_with fail;clear m4 i1;have hlBoard:p.ag.length<=5:=by have:=HR.I.cC; simp only [af.pure] at this; exact this
    go_loopw [3,8] (fun s i wr=> ∃ (k:Nat) (c:ByteArray),k<=p.ag.length/\i=i_ j_ k/\s=t_ c/\c.size<=2000000000000 * (220+7 * k)/\bN (c=(p.ag.take k).foldl (fun t x=>NJ t x) Ni/\MQ w w.heap.size p wr)) (fun _ i _=>p.ag.length - (Go.RowKit.intOf i).toNat)
    case atStart=>exact ⟨0,Ni,Ky _,rfl,rfl,zo,rfl,S.I⟩
    case round=>
     clear S;obtain ⟨k,c,hk,rfl,rfl,z0,HA⟩:=hrel;by_cases hlt:k < p.ag.length
     .as_aux_lemma=>
       have i0:(0:Int)<=(k:Int):=zo
       have i1:(k:Int) < (p.ag.length:Int):=zo
       obtain ⟨x,hx⟩: ∃ x,p.ag[k]? =o_ x:=⟨_,Kz hlt⟩
       obtain ⟨gs,ha,hat⟩:=jr HA.I.2.MT.2.2.2.1 hx;have HL:=aA (N9 HR.I wr (x:=x) (KA hx));have HX:bN (p.ax=o_ ⟨gs,0,n_⟩/\p.ag[k]? =o_ x):=⟨ha,hx⟩
       have Nv:=HL.I.1 x.id zw;have HC:bN (∀ W,MQ w w.heap.size p W->W.cell? ⟨w.heap.size,5,n_⟩=o_ (s_ (o_ ⟨gs,0,n_⟩) p.ag.length p.aP)/\az.At W gs k x):=fun W h=>⟨by obtain ⟨-,-,-,-,-,m,-,-⟩:=h.box.cells; rw [<- HX.I.1]; exact m,h.ajl HX.I.1 HX.I.2⟩
       obtain ⟨-,-,-,-,-,m5,-,-⟩:=HA.I.2.box.cells;clear hx ha hat;go_upto_region 20 with fail;clear m5;refine aT (fun W=>bN (MQ w w.heap.size p W)) Zcq (HA.I.2.below (Kp _ _).drew) ?_;refine PI ?_ (hy:=fun w0 hS0=>by obtain ⟨m,q0,q1,q2⟩:=HC.I w0 hS0.I; go_simp; try with_reducible rfl);refine y7 _ z0 (fun c1 e1 z1=> ?_)
       iterate 6 (refine PI ?_ (hy:=fun w0 hS0=>by obtain ⟨m,q0,q1,q2⟩:=HC.I w0 hS0.I; go_simp; try with_reducible rfl))
       refine b9 (Ij x.id) 46 #[i_ j_ x.id] (fun w0 h0=>(MC _ Nv.1 Nv.2 w0).mono fun e w1 h=>⟨h.1,h0.I.below h.2⟩) ?_;refine ad _ z1 (afO Nv) (fun c2 e2 z2=> ?_);refine y7 _ z2 (fun c3 e3 z3=> ?_)
       iterate 6 (refine PI ?_ (hy:=fun w0 hS0=>by obtain ⟨m,q0,q1,q2⟩:=HC.I w0 hS0.I; go_simp; try with_reducible rfl))
       refine b9 (Ij (MJ x.shown)) 48 #[b_ x.shown] (fun w0 h0=>(MX _ w0).mono fun e w1 h=>⟨h.1,by rw [h.2]; exact h0⟩) ?_;refine ad _ z3 (afO (MM _)) (fun c4 e4 z4=> ?_);refine y7 _ z4 (fun c5 e5 z5=> ?_)
       iterate 6 (refine PI ?_ (hy:=fun w0 hS0=>by obtain ⟨m,q0,q1,q2⟩:=HC.I w0 hS0.I; go_simp; try with_reducible rfl))
       refine ad _ z5 (show x.text.size<=2000000000000 by have:=HL.I.2; omega) (fun c6 e6 z6=> ?_);refine y7 _ z6 (fun c7 e7 z7=> ?_);refine PI ?_ (hy:=fun w0 hS0=>by obtain ⟨m,q0,q1,q2⟩:=HC.I w0 hS0.I; go_simp; try with_reducible rfl);refine bk Zcq (fun A3 NO=> ?_) _;have HE:bN (c7=(p.ag.take (k+1)).foldl (fun t x=>NJ t x) Ni):=by
        exact ZbZ
       exact Zay
     have i1: ¬ (k:Int) < (p.ag.length:Int):=zo
     have ek:k=p.ag.length:=zo
     obtain ⟨Nd,Nc⟩: ∃ t,bN (t=c/\c=p.ag.foldl (fun t x=>NJ t x) Ni):=⟨c,rfl,by have:=HA.I.1; rwa [ek,LQ] at this⟩
     have yBoard:Nd.size<=2000000000000 * 255:=by rw [Nc.I.1]; omega
     have S:bN (MQ w w.heap.size p wr):=HA.I.2;have Mi:=Nc.I.1;replace Nc:bN (Nd=p.ag.foldl (fun t x=>NJ t x) Ni):=Nc.I.1.trans Nc.I.2;rw [<- Mi];clear Mi HA z0 ek;obtain ⟨wboard,Om⟩: ∃ W:w_,W=wr:=⟨_,rfl⟩
     rw [<- Om] at S ⊢;clear Om;obtain ⟨-,-,-,-,-,m5,-,-⟩:=S.I.box.cells;go_wp2_with fail;clear m5 i1;have hlBuffer:p.ae.length<=5:=by have:=HR.I.cb; simp only [af.pure,KG] at this; exact this
     go_loopw [3,9] (fun s i wr=> ∃ (k:Nat) (c:ByteArray),k<=p.ae.length/\i=i_ j_ k/\s=t_ c/\c.size<=2000000000000 * (255+6 * k)/\bN (c=(p.ae.take k).foldl (fun t x=>Nm t x.toci) Nd/\MQ w w.heap.size p wr)) (fun _ i _=>p.ae.length - (Go.RowKit.intOf i).toNat)
     case atStart=>exact ⟨0,Nd,Ky _,rfl,rfl,zo,rfl,S.I⟩
     case round=>
      clear S;obtain ⟨k,c,hk,rfl,rfl,z0,HA⟩:=hrel;by_cases hlt:k < p.ae.length
      .as_aux_lemma=>
        have i0:(0:Int)<=(k:Int):=zo
        have i1:(k:Int) < (p.ae.length:Int):=zo
        obtain ⟨x,hx⟩: ∃ x,p.ae[k]? =o_ x:=⟨_,Kz hlt⟩
        obtain ⟨gs,ha,hat⟩:=iA HA.I.2.MT.2.2.2.2.1 hx;have HL:=aA (N3 HR.I (x:=x) (Lr.2 ⟨x,KA hx,rfl⟩) (lj HA.I.2.MT.2.2.2.2.1 hx));have HX:bN (p.am=o_ ⟨gs,0,n_⟩/\p.ae[k]? =o_ x):=⟨ha,hx⟩
        have Nv:=HL.I.1 x.id zw;have Nz:=HL.I.1 x.max zw;have HC:bN (∀ W,MQ w w.heap.size p W->W.cell? ⟨w.heap.size,6,n_⟩=o_ (s_ (o_ ⟨gs,0,n_⟩) p.ae.length p.aG)/\au.At W gs k x):=fun W h=>⟨by obtain ⟨-,-,-,-,-,-,m,-⟩:=h.box.cells; rw [<- HX.I.1]; exact m,h.buffer HX.I.1 HX.I.2⟩
        obtain ⟨-,-,-,-,-,-,m6,-⟩:=HA.I.2.box.cells;clear hx ha hat;go_upto_region 24 with fail;clear m6;refine aT (fun W=>bN (MQ w w.heap.size p W)) Zcq (HA.I.2.below (Kp _ _).drew) ?_;refine PI ?_ (hy:=fun w0 hS0=>by obtain ⟨m,q0,q1,q2⟩:=HC.I w0 hS0.I; go_simp; try with_reducible rfl);refine y7 _ z0 (fun c1 e1 z1=> ?_)
        iterate 6 (refine PI ?_ (hy:=fun w0 hS0=>by obtain ⟨m,q0,q1,q2⟩:=HC.I w0 hS0.I; go_simp; try with_reducible rfl))
        refine b9 (Ij x.id) 46 #[i_ j_ x.id] (fun w0 h0=>(MC _ Nv.1 Nv.2 w0).mono fun e w1 h=>⟨h.1,h0.I.below h.2⟩) ?_;refine ad _ z1 (afO Nv) (fun c2 e2 z2=> ?_);refine y7 _ z2 (fun c3 e3 z3=> ?_)
        iterate 6 (refine PI ?_ (hy:=fun w0 hS0=>by obtain ⟨m,q0,q1,q2⟩:=HC.I w0 hS0.I; go_simp; try with_reducible rfl))
        refine b9 (Ij x.max) 46 #[i_ j_ x.max] (fun w0 h0=>(MC _ Nz.1 Nz.2 w0).mono fun e w1 h=>⟨h.1,h0.I.below h.2⟩) ?_;refine ad _ z3 (afO Nz) (fun c4 e4 z4=> ?_)
        iterate 6 (refine PI ?_ (hy:=fun w0 hS0=>by obtain ⟨m,q0,q1,q2⟩:=HC.I w0 hS0.I; go_simp; try with_reducible rfl))
        refine b9 (MI x.Ma) 49 #[s_ x.ak x.Ma.length x.aq] (fun w0 h0=>(Nx _ _ _ w0 HL.I.2.1 HL.I.2.2.1 (lj h0.I.MT.2.2.2.2.1 HX.I.2)).mono fun e w1 h=>⟨h.1,by rw [h.2]; exact h0⟩) ?_;refine ad _ z4 (Mw HL.I.2.1 HL.I.2.2.1) (fun c5 e5 z5=> ?_);refine y7 _ z5 (fun c6 e6 z6=> ?_);refine PI ?_ (hy:=fun w0 hS0=>by obtain ⟨m,q0,q1,q2⟩:=HC.I w0 hS0.I; go_simp; try with_reducible rfl);refine bk Zcq (fun A3 NO=> ?_) _;have HE:bN (c6=(p.ae.take (k+1)).foldl (fun t x=>Nm t x.toci) Nd):=by
         show _=_
         rw [M4 HX.I.2,<- HA.I.1,e6.I,e5.I,e4.I,e3.I,e2.I,e1.I];rfl
        clear e1 e2 e3 e4 e5 e6 z1 z2 z3 z4 z5;go_wp2;go_roundw
        case rel=>exact ⟨k+1,c6,zo,by go_num,rfl,zo,HE.I,NO.I⟩
        case measure=>simp [Go.RowKit.intOf]; omega
      have i1: ¬ (k:Int) < (p.ae.length:Int):=zo
      have ek:k=p.ae.length:=zo
      obtain ⟨MW,MV⟩: ∃ t,bN (t=c/\c=p.ae.foldl (fun t x=>Nm t x.toci) Nd):=⟨c,rfl,by have:=HA.I.1; rwa [ek,LQ] at this⟩
      have yBuffer:MW.size<=2000000000000 * 285:=by rw [MV.I.1]; omega
      have S:bN (MQ w w.heap.size p wr):=HA.I.2;have Mi:=MV.I.1;replace MV:bN (MW=p.ae.foldl (fun t x=>Nm t x.toci) Nd):=MV.I.1.trans MV.I.2;rw [<- Mi];clear Mi HA z0 ek;obtain ⟨wbuffer,NZ⟩: ∃ W:w_,W=wr:=⟨_,rfl⟩
      rw [<- NZ] at S ⊢;clear NZ;obtain ⟨-,-,-,-,-,-,m6,-⟩:=S.I.box.cells;go_wp2_with fail;clear m6 i1;have hlPort:p.ai.length<=5:=by have:=HR.I.dH; simp only [af.pure,KG] at this; exact this
      go_loopw [3,10] (fun s i wr=> ∃ (k:Nat) (c:ByteArray),k<=p.ai.length/\i=i_ j_ k/\s=t_ c/\c.size<=2000000000000 * (285+10 * k)/\bN (c=(p.ai.take k).foldl (fun t x=>N5 t x.todS) MW/\MQ w w.heap.size p wr)) (fun _ i _=>p.ai.length - (Go.RowKit.intOf i).toNat)
      case atStart=>exact ⟨0,MW,Ky _,rfl,rfl,zo,rfl,S.I⟩
      case round=>
       clear S;obtain ⟨k,c,hk,rfl,rfl,z0,HA⟩:=hrel;by_cases hlt:k < p.ai.length
       .as_aux_lemma=>
         have i0:(0:Int)<=(k:Int):=zo
         have i1:(k:Int) < (p.ai.length:Int):=zo
         obtain ⟨x,hx⟩: ∃ x,p.ai[k]? =o_ x:=⟨_,Kz hlt⟩
         obtain ⟨gs,ha,hat⟩:=lm HA.I.2.MT.2.2.2.2.2 hx;have HL:=aA (OA HR.I (x:=x) (Lr.2 ⟨x,KA hx,rfl⟩) (nJ HA.I.2.MT.2.2.2.2.2 hx));have HX:bN (p.aK=o_ ⟨gs,0,n_⟩/\p.ai[k]? =o_ x):=⟨ha,hx⟩
         have Nv:=HL.I.1 x.id zw;have Nz:=HL.I.1 x.max zw;obtain ⟨d0,d1,d2,d3,d4⟩:=hat;obtain ⟨-,-,-,-,-,-,-,m7⟩:=HA.I.2.box.cells;rw [ha] at m7;clear hx ha;have HS:bN (MQ w w.heap.size p (wr.alloc (c_ #[i_ j_ x.id,b_ x.I,b_ x.Mf,i_ j_ x.max,s_ x.ak x.Ma.length x.aq] 115))/\(wr.alloc (c_ #[i_ j_ x.id,b_ x.I,b_ x.Mf,i_ j_ x.max,s_ x.ak x.Ma.length x.aq] 115)).heap[wr.heap.size]? =o_ (c_ #[i_ j_ x.id,b_ x.I,b_ x.Mf,i_ j_ x.max,s_ x.ak x.Ma.length x.aq] 115)):=⟨HA.I.2.below ((Kp _ _).alloc (Ki _) _),Kj _ _⟩
         go_upto_region 29 with fail;generalize wr.alloc (c_ #[i_ j_ x.id,b_ x.I,b_ x.Mf,i_ j_ x.max,s_ x.ak x.Ma.length x.aq] 115)=V at *;generalize wr.heap.size=X at *;clear d0 d1 d2 d3 d4 m7;have NR:bN (∀ W W2:w_,bN (MQ w w.heap.size p W/\W.heap[X]? =o_ (c_ #[i_ j_ x.id,b_ x.I,b_ x.Mf,i_ j_ x.max,s_ x.ak x.Ma.length x.aq] 115))->B_ W.heap.size W W2->bN (MQ w w.heap.size p W2/\W2.heap[X]? =o_ (c_ #[i_ j_ x.id,b_ x.I,b_ x.Mf,i_ j_ x.max,s_ x.ak x.Ma.length x.aq] 115))):=fun W W2 h hb=>⟨h.I.1.below hb,(hb.block _ (J2.1 h.I.2).1).trans h.I.2⟩
         refine aT (fun W=>bN (MQ w w.heap.size p W/\W.heap[X]? =o_ (c_ #[i_ j_ x.id,b_ x.I,b_ x.Mf,i_ j_ x.max,s_ x.ak x.Ma.length x.aq] 115))) Zcq (NR.I _ _ HS (Kp _ _).drew) ?_;refine PI ?_ (hy:=fun w0 hS0=>by obtain ⟨q0,q1,q2,q3,q4⟩:=gE hS0.I.2; go_simp; try with_reducible rfl);refine y7 _ z0 (fun c1 e1 z1=> ?_)
         iterate 2 (refine PI ?_ (hy:=fun w0 hS0=>by obtain ⟨q0,q1,q2,q3,q4⟩:=gE hS0.I.2; go_simp; try with_reducible rfl))
         refine b9 (Ij x.id) 46 #[i_ j_ x.id] (fun w0 h0=>(MC _ Nv.1 Nv.2 w0).mono fun e w1 h=>⟨h.1,NR.I _ _ h0 h.2⟩) ?_;refine ad _ z1 (afO Nv) (fun c2 e2 z2=> ?_);refine y7 _ z2 (fun c3 e3 z3=> ?_)
         iterate 2 (refine PI ?_ (hy:=fun w0 hS0=>by obtain ⟨q0,q1,q2,q3,q4⟩:=gE hS0.I.2; go_simp; try with_reducible rfl))
         refine b9 (Ij (MJ x.I)) 48 #[b_ x.I] (fun w0 h0=>(MX _ w0).mono fun e w1 h=>⟨h.1,by rw [h.2]; exact h0⟩) ?_;refine ad _ z3 (afO (MM _)) (fun c4 e4 z4=> ?_);refine y7 _ z4 (fun c5 e5 z5=> ?_)
         iterate 2 (refine PI ?_ (hy:=fun w0 hS0=>by obtain ⟨q0,q1,q2,q3,q4⟩:=gE hS0.I.2; go_simp; try with_reducible rfl))
         refine b9 (Ij (MJ x.Mf)) 48 #[b_ x.Mf] (fun w0 h0=>(MX _ w0).mono fun e w1 h=>⟨h.1,by rw [h.2]; exact h0⟩) ?_;refine ad _ z5 (afO (MM _)) (fun c6 e6 z6=> ?_);refine y7 _ z6 (fun c7 e7 z7=> ?_)
         iterate 2 (refine PI ?_ (hy:=fun w0 hS0=>by obtain ⟨q0,q1,q2,q3,q4⟩:=gE hS0.I.2; go_simp; try with_reducible rfl))
         refine b9 (Ij x.max) 46 #[i_ j_ x.max] (fun w0 h0=>(MC _ Nz.1 Nz.2 w0).mono fun e w1 h=>⟨h.1,NR.I _ _ h0 h.2⟩) ?_;refine ad _ z7 (afO Nz) (fun c8 e8 KI=> ?_)
         iterate 2 (refine PI ?_ (hy:=fun w0 hS0=>by obtain ⟨q0,q1,q2,q3,q4⟩:=gE hS0.I.2; go_simp; try with_reducible rfl))
         refine b9 (MI x.Ma) 49 #[s_ x.ak x.Ma.length x.aq] (fun w0 h0=>(Nx _ _ _ w0 HL.I.2.1 HL.I.2.2.1 (nJ h0.I.1.MT.2.2.2.2.2 HX.I.2)).mono fun e w1 h=>⟨h.1,by rw [h.2]; exact h0⟩) ?_;refine ad _ KI (Mw HL.I.2.1 HL.I.2.2.1) (fun c9 e9 z9=> ?_);refine y7 _ z9 (fun qF Pn z10=> ?_);refine PI ?_ (hy:=fun w0 hS0=>by obtain ⟨q0,q1,q2,q3,q4⟩:=gE hS0.I.2; go_simp; try with_reducible rfl);refine bk Zcq (fun A3 NO=> ?_) _;have HE:bN (qF=(p.ai.take (k+1)).foldl (fun t x=>N5 t x.todS) MW):=by
          show _=_
          rw [M4 HX.I.2,<- HA.I.1,Pn.I,e9.I,e8.I,e7.I,e6.I,e5.I,e4.I,e3.I,e2.I,e1.I];rfl
         clear e1 e2 e3 e4 e5 e6 e7 e8 e9 Pn z1 z2 z3 z4 z5 z6 z7 KI z9;go_wp2;go_roundw
         case rel=>exact ⟨k+1,qF,zo,by go_num,rfl,zo,HE.I,NO.I.1⟩
         case measure=>simp [Go.RowKit.intOf]; omega
       have i1: ¬ (k:Int) < (p.ai.length:Int):=zo
       have ek:k=p.ai.length:=zo
       obtain ⟨O3,NM⟩: ∃ t,bN (t=c/\c=p.ai.foldl (fun t x=>N5 t x.todS) MW):=⟨c,rfl,by have:=HA.I.1; rwa [ek,LQ] at this⟩
       have yPort:O3.size<=2000000000000 * 335:=by rw [NM.I.1]; omega
       have S:bN (MQ w w.heap.size p wr):=HA.I.2;have Mi:=NM.I.1;replace NM:bN (O3=p.ai.foldl (fun t x=>N5 t x.todS) MW):=NM.I.1.trans NM.I.2;rw [<- Mi];clear Mi HA z0 ek;obtain ⟨wport,O8⟩: ∃ W:w_,W=wr:=⟨_,rfl⟩
       rw [<- O8] at S ⊢;clear O8;obtain ⟨-,-,-,-,-,-,-,m7⟩:=S.I.box.cells;have HQ:bN (O3=NF p.pure):=by
        show _=_
        rw [HT.I,NM.I,MV.I,Nc.I,Ng.I,Oh.I,NA.I,Mh.I];simp only [af.pure,List.foldl_map]
       clear HT NM MV Nc Ng Oh NA Mh;go_wp2;go_ret;exact ⟨by rw [<- HQ.I]; rfl,S.I.low⟩
end
end Go.Proofs.YtfncpmaefninjaaGreatDoor
