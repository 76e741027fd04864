/- What the proof leans on, part 22. -/
import Derived.Test.YtckenjkcmajicaaGreatOwnG18
import Derived.Test.YtckenjkcmajicaaGreatOwnG19
set_option linter.all false
set_option maxRecDepth 100000
set_option maxHeartbeats 8000000
open Go.Proofs.Tryz
open Go renaming World->w_,Value->v_,Calls->k_,Addr->d_,TypeId->T_,below_setRow->q_
open Go.Ending renaming returned->r_
open Go.IntKind renaming i64->j_
open Go.Obj renaming cells->c_
open Go.RowKit renaming Below->B_,Hid->da
open Go.Value renaming int->i_,slice->s_,bool->b_,string->t_,agg->a_,pointer->p_,tuple->u_
open Option renaming some->o_,none->n_
open Go renaming wp_at_succ->Kd,wp_at_zero->Kc
open Go.Deep renaming blk_setCell_other->ac5
open Go.Proofs.Tryz renaming prog->J3
open List renaming find?_map->aeu,flatMap_cons->aez,getElem?_cons_succ->QC,getElem?_cons_zero->QI,length_nil->K4,nil_append->Ll,sum_cons->aeA

open Go.RowKit
namespace Go.Proofs.YtckenjkcmajicaaGreat
section
open Go.Maps
attribute [local go_sem ↓] Kc Kd
def kd.put (k:kd)(n:Nat)(p:aE):kd:={k with parts:=k.parts.set n p}
def ZG:kd:=⟨0,0,[],[],[]⟩
def arT (w:w_)(r:Option kd)(e:Ending)(w':w_):Prop:=∃q:eA,e=r_ (u_ #[a_ q.row,b_ r.isSome])/\gp w' w.heap.size q/\q.pure=r.getD ZG/\B_ w.heap.size w w'
def Zv {w w':w_}{r:Option kd}(h:r=n_)(hb:B_ w.heap.size w w'):arT w r (r_ (u_ #[a_ T9,b_ false])) w':=by
 subst h;exact⟨⟨0,0,[],n_,0,[],n_,0,[],n_,0⟩,rfl,⟨Ke _ _ _ _,Ke _ _ _ _,Ke _ _ _ _,(λp hp=>ZfO),Zee⟩,rfl,hb⟩
section
variable {ops:Array Oper}{Q:Exit->Act->w_->Prop}{o:Oper}{rest:List Oper}{a:Act}{w:w_}{old:Array v_}{Zb:Func}{R:Ending->w_->Prop}{p u:Tmp}
def stK (n m:Nat){g:Nat}(cs:Array v_)(hg:w.heap[g]? =o_ (c_ old 30))(h:wpList J3 ops Q rest (a.put o.dst undef) (w.setRow g cs))(hgd:o.guard=n_:=by exact rfl)(ho:o.op=.store 30 (.tmp n) (.tmp m):=by exact rfl)
  (hx:a.eval (.tmp n)=p_ (o_ ⟨g,0,n_⟩):=by exact rfl)(hy:a.eval (.tmp m)=a_ cs:=by exact rfl)(hi:(Tryz.prog.info? 30).map (·.size)=o_ cs.size:=by kernel_rfl)(hs:old.size=cs.size:=by exact rfl)(h1:cs.all (·.oneCell')=true:=by kernel_rfl):wpList J3 ops Q (o::rest) a w:=
 wpList_store_row hgd 30 (.tmp n) (.tmp m) ho g _ old cs hx hy hg hi hs h1 h
def aaf (hr:Zb.results=#[.cell p 30,.tmp u]){g:Nat}{cs:Array v_}(v:v_)(hg:w.heap[g]? =o_ (c_ old 30))(h:R (r_ (u_ #[a_ cs,v])) (w.setRow g cs))(hp:a.tmps.getD p undef=p_ (o_ ⟨g,0,n_⟩):=by rfl)(hv:a.tmps.getD u undef=v:=by exact rfl)(hd:a.defers=[]:=by exact rfl)
  (hi:(Tryz.prog.info? 30).map (·.size)=o_ cs.size:=by kernel_rfl):bodyPost J3 Zb R .ret a (w.setRow g cs):=
 KT (v:=u_ #[a_ cs,v]) (by rw[<-hv];exact bL hr _ _ g _ _ _ _ hp (KU _ _ _ _ _ _ hg) underlying30 rfl hi) hd h
end
def Zz {w:w_}{bj n cap:Nat}{a:Option d_}{l:List af}{x:af}(y:af)(h:w.ownsRow bj 46 8 (s_ a l.length cap) l.length (kp.flat l))(hx:l[n]? =o_ x):
  ∃g,a=o_ ⟨g,0,n_⟩/\bj<=g/\g<w.heap.size/\w.there g (n*8) 8/\(bn w g (n*8) (kp.vals y)).ownsRow bj 46 8 (s_ a l.length cap) l.length (kp.flat (l.set n y)):=by
 have hn:n<l.length:=(Lj.1 hx).1;obtain⟨g,rfl,hrow⟩:=bl.fX (K:=kp) h zw;have hg:=hrow.lt;have hset:l.set n y=l.take n++y::l.drop (n+1):=Zed
 have hl:(l.take n).length=n:=ZdM
 have hbase:bj<=g:=by obtain⟨cur,-,hb,-⟩:=hrow;exact hb
 refine⟨g,rfl,hbase,hg,λr hr=>⟨by have h5:=(hrow.cell hx hr).1;rw[show n*8+r=n*kp.n+r from rfl,h5,Kz (by show r<8;exact hr)];rfl,(hrow.cell hx hr).2⟩,?_⟩;rw[kL hx]at hrow;have h5:=bl.part (K:=kp) (x:=x) (y:=y) (j:=0) (vs:=kp.vals y) hrow (by show 0+8<=8;omega) (λr _=>by rw[Li]) (λr hr h6=>absurd ⟨Ky _,by show r<0+8;have:r<8:=hr;omega⟩ h6);rw[hl,<-hset]at h5;have h6:=h5.owns;rw[LI]at h6;exact h6
def eA.put (k:eA)(n:Nat)(p:af)(a:Option d_)(c:Nat):eA:={k with parts:=k.parts.set n p,qn:=a,sa:=c}
def aai {k:eA}{n:Nat}{p:af}{a:Option d_}{c:Nat}:(k.put n p a c).pure=k.pure.put n p.pure:=by
 simp[eA.pure,eA.put,kd.put,PN]
def aaJ {k:eA}{n:Nat}{p:af}{a:Option d_}{c:Nat}:(k.put n p a c).row=#[i_ j_ k.bE,i_ j_ k.major,s_ k.vb k.fn.length k.Te,s_ a k.parts.length c,s_ k.qi k.eC.length k.tC]:=by
 simp[eA.row,eA.put]
def Hl {l:List af}{n:Nat}{p:af}{g:Nat}(h:g∈(l.set n p).flatMap af.Mc):g∈l.flatMap af.Mc\/g∈p.Mc:=by
 obtain⟨q,hq,hg⟩:=Rt.1 h;rcases PO hq with h5|h5
 .exact .inl (Rt.2 ⟨q,h5,hg⟩)
 .rw [h5]at hg;exact .inr hg
def Z9:∀{l:List af}{n:Nat}{p:af},(l.flatMap af.Mc).Nodup->p.Mc.Nodup->(∀g∈p.Mc,g∉l.flatMap af.Mc)->((l.set n p).flatMap af.Mc).Nodup
 |[],n,p,h,_,_=>zy
 |x::r,0,p,h,hp,hd=>by
  simp only[List.set_cons_zero,aez]at h hd⊢;have h1:=Kf.1 h;exact Kf.2 ⟨hp,h1.2.1,λa ha b hb e=>hd a ha (Ly _ (by rw[e];exact hb))⟩
 |x::r,n+1,p,h,hp,hd=>by
  simp only[List.set_cons_succ,aez]at h hd⊢;have h1:=Kf.1 h;refine Kf.2 ⟨h1.1,Z9 h1.2.1 hp (λg hg hm=>hd g hg (Ly _ hm)),λa ha b hb e=>?_⟩;subst e;rcases Hl hb with h5|h5
  .exact h1.2.2 a ha a h5 rfl
  .exact hd a h5 (Lz _ ha)
def gp.put {w:w_}{bj n g:Nat}{k:eA}{x y:af}(h:gp w bj k)(hx:k.parts[n]? =o_ x)(ha:k.qn=o_ ⟨g,0,n_⟩)(hy:ap w bj y)(hd:∀b∈y.Mc,b∉k.Mc):
  gp (bn w g (n*8) (kp.vals y)) bj (k.put n y k.qn k.sa):=by
 obtain⟨g',ha',hb,hl,-,hown⟩:=Zz y h.parts hx;rw[ha]at ha';cases ha';have hap:=h.apart;have bR:g∈blk k.qn:=ZcJ
 have hot:∀q,q≠g->(bn w g (n*8) (kp.vals y)).heap[q]? =w.heap[q]?:=λq hq=>de _ hq
 have hg:∀p∈k.parts,∀q∈p.Mc,q≠g:=λp hp q hq e=>(hap.2.1 g bR).2 (Rt.2 ⟨p,hp,e▸hq⟩)
 have hyg:∀q∈y.Mc,q≠g:=λq hq e=>hd q hq (by subst e;exact Ly _ (Lz _ bR))
 have hnd:=h.nodup;have n1:=Kf.1 hnd;have n2:=Kf.1 n1.2.1;have n3:=Kf.1 n2.2.1;have hdf:∀b∈y.Mc,b∉k.parts.flatMap af.Mc:=λb hb hm=>hd b hb (Ly _ (Ly _ (Ly _ hm)))
 refine⟨aL h.fn λq hq=>hot q (λe=>(hap.1 q hq).1 (e▸bR)),by simpa[eA.put]using hown,aL h.eC λq hq=>hot q (λe=>(hap.2.1 g bR).1 (e▸hq)),λp hp=>?_,?_⟩
 .rcases PO hp with h5|h5
  .exact (h.mine p h5).same λq hq=>hot q (hg p h5 q hq)
  .rw [h5]
   exact hy.same λq hq=>hot q (hyg q hq)
 .show (blk k.vb++(blk k.qn++(blk k.qi++(k.parts.set n y).flatMap af.Mc))).Nodup
  refine Kf.2 ⟨n1.1,Kf.2 ⟨n2.1,Kf.2 ⟨n3.1,Z9 n3.2.1 hy.nodup hdf,λa ha b hb e=>?_⟩,λa ha b hb e=>?_⟩,λa ha b hb e=>?_⟩
  .subst e
   rcases Hl hb with h5|h5
   .exact n3.2.2 a ha a h5 rfl
   .exact hd a h5 (Ly _ (Ly _ (Lz _ ha)))
  .subst e
   rcases Kg.1 hb with h5|h5
   .exact n2.2.2 a ha a (Lz _ h5) rfl
   .rcases Hl h5 with h5|h5
    .exact n2.2.2 a ha a (Ly _ h5) rfl
    .exact hd a h5 (Ly _ (Lz _ ha))
  .subst e
   rcases Kg.1 hb with h5|h5
   .exact n1.2.2 a ha a (Lz _ h5) rfl
   .rcases Kg.1 h5 with h5|h5
    .exact n1.2.2 a ha a (Ly _ (Lz _ h5)) rfl
    .rcases Hl h5 with h5|h5
     .exact n1.2.2 a ha a (Ly _ (Ly _ h5)) rfl
     .exact hd a h5 (Lz _ ha)
def gp.same {w w':w_}{bj:Nat}{k:eA}(h:gp w bj k)(hs:∀g∈k.Mc,w'.heap[g]? =w.heap[g]?):gp w' bj k:=
 ⟨aL h.fn λg hg=>hs g (Lz _ hg),aL h.parts λg hg=>hs g (Ly _ (Lz _ hg)),aL h.eC λg hg=>hs g (Ly _ (Ly _ (Lz _ hg))),λp hp=>(h.mine p hp).same λg hg=>hs g (Ly _ (Ly _ (Ly _ (Rt.2 ⟨p,hp,hg⟩)))),h.nodup⟩
def gp.lower {w:w_}{bj base':Nat}{k:eA}(h:gp w bj k)(hb:base'<=bj):gp w base' k:=
 ⟨cq h.fn hb,cq h.parts hb,cq h.eC hb,λp hp=>(h.mine p hp).lower hb,h.nodup⟩
structure YW (w:w_)(k:eA)(p:af)(W:w_):Prop where
 ks:dr w w.heap.size k W
 pb:av W (w.heap.size+1) p
 pat:af.At W p
 ret:W.heap[w.heap.size+2]? =o_ (c_ T9 30)
def YW.below {w W W2:w_}{k:eA}{p:af}(h:YW w k p W)(hb:B_ W.heap.size W W2):YW w k p W2:=⟨h.ks.below hb,h.pb.below hb,h.pat.below hb,(hb.block _ (J2.1 h.ret).1).trans h.ret⟩
def YW.first {w:w_}{k:eA}{p:af}(h:eA.At w k)(hp:af.At w p):YW w k p (((w.alloc (c_ k.row 30)).alloc (c_ p.cells 46)).alloc (c_ T9 30)):=by
 have b1:B_ w.heap.size w (w.alloc (c_ k.row 30)):=(Kp _ _).alloc (Ki _) _;have b2:B_ (w.alloc (c_ k.row 30)).heap.size (w.alloc (c_ k.row 30)) ((w.alloc (c_ k.row 30)).alloc (c_ p.cells 46)):=(Kp _ _).alloc (Ki _) _;have b3:B_ ((w.alloc (c_ k.row 30)).alloc (c_ p.cells 46)).heap.size ((w.alloc (c_ k.row 30)).alloc (c_ p.cells 46)) (((w.alloc (c_ k.row 30)).alloc (c_ p.cells 46)).alloc (c_ T9 30)):=(Kp _ _).alloc (Ki _) _;have hx:av ((w.alloc (c_ k.row 30)).alloc (c_ p.cells 46)) (w.heap.size+1) p:=Kq _ _ _;refine⟨((dr.first h).below b2).below b3,hx.below b3,((hp.below b1).below b2).below b3,?_⟩;have h5:=Kj ((w.alloc (c_ k.row 30)).alloc (c_ p.cells 46)) (c_ T9 30);simpa using h5
end
section
open Go.Maps
def ab9 {α:Type}{num:α->Int}{id:Int}:∀{l:List α}{i n:Nat},place (l.map num) id i=((i+n:Nat):Int)->∀y∈l.take n,¬num y=id
 |[],_,_,_,y,hy=>Zet
 |x::r,i,0,_,y,hy=>Zet
 |x::r,i,n+1,h,y,hy=>by
  simp only[Lt,place]at h;by_cases hx:num x=id
  .rw [if_pos hx]at h
   omega
  .rw [if_neg hx]at h
   rw[List.take_succ_cons]at hy;rcases Kt.1 hy with rfl|hy
   .exact hx
   .exact ab9 (i:=i+1) (by rw[h];congr 1;omega) y hy
section
variable {l:List af}{part port:Int}
def adt {s:dS}(h:endP (l.map (·.pure)) part port=o_ s):∃(n:Nat)(q:af)(m:Nat)(x:aM),place (l.map (·.id)) part 0=(n:Int)/\l[n]? =o_ q/\q.id=part/\n0 l part port=(m:Int)/\place (q.ai.map (·.id)) port 0=(m:Int)/\q.ai[m]? =o_ x/\x.todS=s/\x.id=port:=by
 have e:hP (·.id) part (l.map (·.pure))=(hP (·.id) part l).map (·.pure):=Ze3
 unfold endP at h;rw[e]at h;unfold n0;rcases ua (num:=λx:af=>x.id) part l 0 with⟨-,e2⟩|⟨n,p,e1,hp,hid,e2⟩
 .rw [e2]at h;cases h
 .rw [e2]at h⊢
  have h':hP (·.id) port p.pure.ai=o_ s:=h;have e4:hP (·.id) port p.pure.ai=(hP (·.id) port p.ai).map (·.todS):=Zeo
  rw[e4]at h';rcases ua (num:=λx:aM=>x.id) port p.ai 0 with⟨-,h3⟩|⟨m,x,h1,h2,hi,h3⟩
  .rw [h3]at h';cases h'
  .rw [h3]at h'
   rw[Li]at e1 h1;exact⟨n,p,m,x,e1,hp,hid,h1,h1,h2,KC h',hi⟩
def ade (x:aM)(its:List ByteArray)(a:Option d_)(c:Nat):aM:={x with Ma:=its,ak:=a,aq:=c}
def abS (q:af)(m:Nat)(x:aM)(its:List ByteArray)(a:Option d_)(c:Nat):af:={q with ai:=q.ai.set m (ade x its a c)}
def acr {n m:Nat}{q:af}{x:aM}{its:List ByteArray}{a:Option d_}{c:Nat}(hn:place (l.map (·.id)) part 0=(n:Int))(hq:l[n]? =o_ q)(hid:q.id=part)(hm:place (q.ai.map (·.id)) port 0=(m:Int))(hx:q.ai[m]? =o_ x)(hxi:x.id=port):
  (l.set n (abS q m x its a c)).map (·.pure)=abK part port its (l.map (·.pure)):=by
 have e1:abK part port its (l.map (·.pure))=(l.map (·.pure)).set n (ab7 port its q.pure):=acp (by rw[Kk,hq];rfl) (decide_eq_true hid) λy hy=>by
  rw[<-List.map_take]at hy;obtain⟨z,hz,rfl⟩:=Lr.1 hy;exact decide_eq_false (ab9 (i:=0) (by rw[Li];exact hn) z hz)
 have e2:ab7 port its q.pure=(abS q m x its a c).pure:=by
  have e3:abP (λy:dS=>decide (y.id=port)) (abZ its) q.pure.ai=q.pure.ai.set m (abZ its x.todS):=acp (by show(q.ai.map (·.todS))[m]? =_;rw[Kk,hx];rfl) (decide_eq_true hxi) λy hy=>by
   have hy':y∈(q.ai.map (·.todS)).take m:=hy;rw[<-List.map_take]at hy';obtain⟨z,hz,rfl⟩:=Lr.1 hy';exact decide_eq_false (ab9 (num:=λz:aM=>z.id) (i:=0) (by rw[Li];exact hm) z hz)
  unfold ab7;rw[e3];simp[abS,af.pure,PN,ade,abZ]
 rw[e1,e2,PN]
end
def ac1 {q:af}{m:Nat}{x:aM}{its:List ByteArray}{a:Option d_}{c:Nat}:(abS q m x its a c).cells=q.cells:=by
 simp[af.cells,abS]
def acz {P Q Q' R:List Nat}(h:(P++(Q++R)).Nodup)(hq:Q'.Nodup)(hd:∀g∈Q',g∈Q\/(g∉P/\g∉R)):(P++(Q'++R)).Nodup:=by
 have h1:=Kf.1 h;have h2:=Kf.1 h1.2.1;refine Kf.2 ⟨h1.1,Kf.2 ⟨hq,h2.2.1,λa ha b hb e=>?_⟩,λa ha b hb e=>?_⟩
 .subst e
  rcases hd a ha with h5|h5
  .exact h2.2.2 a h5 a hb rfl
  .exact h5.2 hb
 .subst e
  rcases Kg.1 hb with hb|hb
  .rcases hd a hb with h5|h5
   .exact h1.2.2 a ha a (Lz _ h5) rfl
   .exact h5.1 ha
  .exact h1.2.2 a ha a (Ly _ hb) rfl
def gp.turnAt {w W:w_}{bj n:Nat}{k:eA}{q q2:af}(h:gp w bj k)(hx:k.parts[n]? =o_ q)(ht:yr w bj q q2 W)(hc:q2.cells=q.cells):
  gp W bj {k with parts:=k.parts.set n q2}/\(∀g∈eA.Mc {k with parts:=k.parts.set n q2},g∈k.Mc\/w.heap.size<=g)/\aI w W k.Mc:=by
 have hn:n<k.parts.length:=(Lj.1 hx).1;have hsp:=kL hx;have hset:k.parts.set n q2=k.parts.take n++q2::k.parts.drop (n+1):=Zed
 obtain⟨P,hPx⟩:∃P,P=blk k.vb++(blk k.qn++(blk k.qi++(k.parts.take n).flatMap af.Mc)):=⟨_,rfl⟩
 obtain⟨R,hR⟩:∃R,R=(k.parts.drop (n+1)).flatMap af.Mc:=⟨_,rfl⟩
 have e1:k.Mc=P++(q.Mc++R):=by
  unfold eA.Mc;rw[hPx,hR]
  conv=>lhs;rw[hsp]
  simp[Lm]
 have e2:eA.Mc {k with parts:=k.parts.set n q2}=P++(q2.Mc++R):=by
  unfold eA.Mc;rw[hPx,hR];simp only[hset];simp[Lm]
 have hnd:(P++(q.Mc++R)).Nodup:=by rw[<-e1];exact h.nodup
 have n1:=Kf.1 hnd;have n2:=Kf.1 n1.2.1;have hlt:∀g,g∈P\/g∈R->g<w.heap.size/\g∉q.Mc:=λg hg=>by
  have hm:g∈k.Mc:=by
   exact ZaD
  refine⟨(h.lt hm).2,λhq=>?_⟩;rcases hg with hg|hg
  .exact n1.2.2 g hg g (Lz _ hq) rfl
  .exact n2.2.2 g hq g hg rfl
 have hs:∀g,g∈P\/g∈R->W.heap[g]? =w.heap[g]?:=λg hg=>ht.kept.same g (hlt g hg).1 (hlt g hg).2
 have inP:∀g,g∈blk k.vb\/g∈blk k.qn\/g∈blk k.qi\/g∈(k.parts.take n).flatMap af.Mc->g∈P:=λg hg=>by rw[hPx];simp only[Kg];exact hg
 have abF:kp.flat (k.parts.set n q2)=kp.flat k.parts:=by
  rw[hset]
  conv=>rhs;rw[hsp]
  have:kp.vals q2=kp.vals q:=by show q2.cells.toList=q.cells.toList;rw[hc]
  simp[Kind.flat,this]
 refine⟨⟨aL h.fn λg hg=>hs g (.inl (inP g (.inl hg))),?_,aL h.eC λg hg=>hs g (.inl (inP g (.inr (.inr (.inl hg))))),λp hp=>?_,?_⟩,λg hg=>?_,ht.kept.mono λg hg=>by rw[e1];exact Ly _ (Lz _ hg)⟩
 .show W.ownsRow bj _ 8 (s_ k.qn (k.parts.set n q2).length k.sa) (k.parts.set n q2).length (kp.flat (k.parts.set n q2))
  rw[LI,abF];exact aL h.parts λg hg=>hs g (.inl (inP g (.inr (.inl hg))))
 .have hp':p∈k.parts.take n++q2::k.parts.drop (n+1):=by rw[<-hset];exact hp
  rcases Kg.1 hp' with h5|h5
  .exact (h.mine p (RK h5)).same λg hg=>hs g (.inl (inP g (.inr (.inr (.inr (Rt.2 ⟨p,h5,hg⟩))))))
  .rcases Kt.1 h5 with rfl|h5
   .exact ht.own
   .exact (h.mine p (RL h5)).same λg hg=>hs g (.inr (by rw[hR];exact Rt.2 ⟨p,h5,hg⟩))
 .show (eA.Mc {k with parts:=k.parts.set n q2}).Nodup
  rw[e2];refine acz hnd ht.own.nodup λg hg=>?_
  rcases ht.far g hg with h5|h5
  .exact .inl h5
  .exact .inr ⟨λhp=>by have:=(hlt g (.inl hp)).1;omega,λhp=>by have:=(hlt g (.inr hp)).1;omega⟩
 .rw [e2]at hg
  rw[e1];simp only[Kg]at hg⊢;rcases hg with hg|hg|hg
  .exact .inl (.inl hg)
  .exact (ht.far g hg).imp_left λh5=>.inr (.inl h5)
  .exact .inl (.inr (.inr hg))
abbrev eA.wp (k:eA)(l:List af):eA:={k with parts:=l}
structure abx (w:w_)(bj:Nat)(k:eA)(l:List af)(B:List (Nat×Array v_×T_))(W:w_):Prop where
 own:gp W bj (k.wp l)
 len:l.length=k.parts.length
 kept:aI w W k.Mc
 lo:∀g∈k.Mc,g<w.heap.size
 far:∀g∈(k.wp l).Mc,g∈k.Mc\/w.heap.size<=g
 box:∀x∈B,W.heap[x.1]? =o_ (c_ x.2.1 x.2.2)/\x.1∉(k.wp l).Mc
section
variable {w W V:w_}{bj n m gs c:Nat}{k:eA}{l:List af}{B:List (Nat×Array v_×T_)}{q q2:af}{x:aM}{its:List ByteArray}{a:Option d_}
def abx.below (h:abx w bj k l B W)(hb:B_ W.heap.size W V):abx w bj k l B V:=
 ⟨h.own.below hb,h.len,h.kept.trans (.dI hb),h.lo,h.far,λx hx=>⟨(hb.block _ (J2.1 (h.box x hx).1).1).trans (h.box x hx).1,(h.box x hx).2⟩⟩
def abx.put (h:abx w bj k l B W)(cs:Array v_)(T:T_):abx w bj k l ((W.heap.size,cs,T)::B) (W.alloc (c_ cs T)):=by
 have h2:=h.below ((Kp _ _).alloc (Ki _) (c_ cs T));refine⟨h2.own,h2.len,h2.kept,h2.lo,h2.far,λx hx=>?_⟩;rcases Kt.1 hx with rfl|hx
 .exact ⟨Kj _ _,λhm=>by have:=(h.own.lt hm).2;omega⟩
 .exact h2.box x hx
def abx.less {B':List (Nat×Array v_×T_)}(h:abx w bj k l B W)(hs:∀x∈B',x∈B):abx w bj k l B' W:=⟨h.own,h.len,h.kept,h.lo,h.far,λx hx=>h.box x (hs x hx)⟩
def abx.row (h:abx w bj k l B W):(k.wp l).row=k.row:=by simp[eA.row,h.len]
def abx.ju (h:abx w bj k l B W)(hx:l[n]? =o_ q)(ht:yr W bj q q2 V)(hc:q2.cells=q.cells):abx w bj k (l.set n q2) B V:=by
 obtain⟨h1,h2,h3⟩:=h.own.turnAt hx ht hc;have hsz:=h.kept.size;refine⟨h1,by rw[LI];exact h.len,⟨h3.os.trans h.kept.os,h3.tape.trans h.kept.tape,h3.output.trans h.kept.output,LG hsz h3.size,λg hg hn=>?_⟩,h.lo,λg hg=>?_,λy hy=>?_⟩
 .refine (h3.same g zw λhm=>?_).trans (h.kept.same g hg hn)
  rcases h.far g hm with h5|h5
  .exact hn h5
  .omega
 .rcases h2 g hg with h5|h5
  .exact h.far g h5
  .exact .inr zw
 .obtain ⟨b1,b2⟩:=h.box y hy
  have hlt:=(J2.1 b1).1;refine⟨(h3.same _ hlt b2).trans b1,λhm=>?_⟩;rcases h2 _ hm with h5|h5
  .exact b2 h5
  .omega
def abx.Ma (h:abx w bj k l B W)(hb:B_ W.heap.size W V)(hq:l[n]? =o_ q)(hx:q.ai[m]? =o_ x)(ha:q.aK=o_ ⟨gs,0,n_⟩)(ho:V.ownsRow bj 9 1 (s_ a its.length c) its.length (bT.flat its))(hf:∀g∈blk a,W.heap.size<=g):
  abx w bj k (l.set n (abS q m x its a c)) B (V.setCell ⟨gs,m*5+4,n_⟩ (s_ a its.length c))/\(∃u,V.cell? ⟨gs,m*5+4,n_⟩=o_ u)/\V.frozen? ⟨gs,m*5+4,n_⟩=false:=by
 obtain⟨h1,h2,h3⟩:=pg (h.own.mine q (KA hq)) (aI.dI hb) hx ha ho (λg hg=>.inr (hf g hg));exact⟨h.ju hq h1 ac1,h2,h3⟩
def abV (h:gp W bj (k.wp l))(hq:l[n]? =o_ q)(hx:q.ai[m]? =o_ x):∃aaB gs,k.qn=o_ ⟨aaB,0,n_⟩/\q.aK=o_ ⟨gs,0,n_⟩/\W.cell? ⟨aaB,n*8+7,n_⟩=o_ (s_ (o_ ⟨gs,0,n_⟩) q.ai.length q.aV)/\aM.At W gs m x/\Row W x.ak (bT.flat x.Ma)/\aaB∈(k.wp l).Mc/\gs∈(k.wp l).Mc/\aaB≠gs:=by
 obtain⟨aaB,h1,⟨-,-,-,-,-,-,-,c7⟩,hat⟩:=ic (l:=l) h.at.parts hq;obtain⟨gs,h2,h3⟩:=lm hat.2.2.2.2.2 hx;rw[h2]at c7;have m1:aaB∈blk k.qn:=by rw[show k.qn=_ from h1];simp[blk]
 have m2:gs∈l.flatMap af.Mc:=Rt.2 ⟨q,KA hq,by unfold af.Mc;rw[h2];simp[blk]⟩;refine⟨aaB,gs,h1,h2,c7,h3,nJ hat.2.2.2.2.2 hx,Ly _ (Lz _ m1),Ly _ (Ly _ (Ly _ m2)),λe=>?_⟩;exact(h.apart.2.1 aaB m1).2 (e▸m2)
end
def adu {W:w_}{bj j:Nat}{q:af}{x:aM}(h:ap W bj q)(hx:q.ai[j]? =o_ x):x.Ma.length<=x.aq:=by
 have h5:W.ownsRow bj 9 1 (s_ x.ak x.Ma.length x.aq) x.Ma.length (bT.flat x.Ma):=h.eR x (KA hx);rcases h5.2 with⟨h6,h7⟩|⟨g,cap,cur,h6,-,-,h7,-⟩
 .rw [h7];exact Ky _
 .simp only[LD]at h6;rw[h6.2.2];exact h7
def set_id {l:List af}{n m:Nat}{q:af}{x:aM}{its:List ByteArray}{a:Option d_}{c:Nat}(h:l[n]? =o_ q):(l.map (·.id)).set n (abS q m x its a c).id=l.map (·.id):=by
 have hn:n<(l.map (·.id)).length:=by rw[KG];exact(Lj.1 h).1
 have h1:(l.map (·.id))[n]=q.id:=by
  have h2:(l.map (·.id))[n]? =o_ q.id:=by rw[Kk,h];rfl
  rw[Kz hn]at h2;exact KC h2
 show(l.map (·.id)).set n q.id=_
 rw[<-h1];exact List.set_getElem_self hn
def ada {α:Type}{f:α->List Nat}:∀{l:List α}{i j:Nat}{x y:α}{g:Nat},(l.flatMap f).Nodup->l[i]? =o_ x->l[j]? =o_ y->i≠j->g∈f x->g∈f y->False
 |[],i,_,_,_,_,_,h,_,_,_,_=>Zd2
 |z::r,0,0,_,_,_,_,_,_,hn,_,_=>hn rfl
 |z::r,0,j+1,x,y,g,h,hx,hy,_,h1,h2=>by
  simp only[QI,LF]at hx;subst hx;simp only[QC]at hy;rw[aez]at h;exact(Kf.1 h).2.2 g h1 g (Rt.2 ⟨y,KA hy,h2⟩) rfl
 |z::r,i+1,0,x,y,g,h,hx,hy,_,h1,h2=>by
  simp only[QI,LF]at hy;subst hy;simp only[QC]at hx;rw[aez]at h;exact(Kf.1 h).2.2 g h2 g (Rt.2 ⟨x,KA hx,h1⟩) rfl
 |z::r,i+1,j+1,x,y,g,h,hx,hy,hn,h1,h2=>by
  simp only[QC]at hx hy;rw[aez]at h;exact ada (Kf.1 h).2.1 hx hy (λe=>hn (by rw[e])) h1 h2
def adv {W:w_}{bj:Nat}{k:eA}(h:gp W bj k):(k.parts.flatMap af.Mc).Nodup:=
 (Kf.1 (Kf.1 (Kf.1 h.nodup).2.1).2.1).2.1
def adA {q:af}{gs:Nat}(h:q.aK=o_ ⟨gs,0,n_⟩):gs∈q.Mc:=by unfold af.Mc;rw[h];simp[blk]
def adI {q:af}{j:Nat}{x:aM}{g:Nat}(hx:q.ai[j]? =o_ x)(hg:g∈blk x.ak):g∈q.Mc:=by
 have:g∈q.ai.filterMap aU.bt:=dP.2 ⟨x,KA hx,fZ.1 hg⟩
 simp only[af.Mc,Kg];exact .inr (.inr (.inr (.inr (.inr (.inr (.inr (.inr this)))))))
def adL {W:w_}{bj n1 n2 j gs:Nat}{k:eA}{l:List af}{q1 q2:af}{x:aM}(h:gp W bj (k.wp l))(h1:l[n1]? =o_ q1)(h2:l[n2]? =o_ q2)(hn:n1≠n2)(hx:q1.ai[j]? =o_ x)(hg:gs∈blk x.ak)(ha:q2.aK=o_ ⟨gs,0,n_⟩):False:=
 ada (l:=l) (adv h) h1 h2 hn (adI hx hg) (adA ha)
section
variable {k:kd}{ps:List aE}
def ac0 (h:k.Small)(hc:abz k.parts ps):kd.Small {k with parts:=ps}:=by
 have hlen:ps.length=k.parts.length:=ZeT
 refine⟨h.Ts,by show ps.length<=_;rw[hlen];exact h.sC,h.w8,h.win,λp hp=>?_,h.eC⟩;have hm:abQ p∈k.parts.map abQ:=by rw[<-hc.acE];exact Lr.2 ⟨p,hp,rfl⟩
 obtain⟨p0,hp0,e⟩:=Lr.1 hm;have h0:=h.parts p0 hp0;have e1:p.L8=p0.L8:=(congrArg aE.L8 e).symm;have e2:p.aj=p0.aj:=(congrArg aE.aj e).symm;have e3:p.L9=p0.L9:=(congrArg aE.L9 e).symm;have e4:p.ag=p0.ag:=(congrArg aE.ag e).symm;have e5:p.ae=p0.ae:=(congrArg aE.ae e).symm;have e6:p.ai.map abL=p0.ai.map abL:=(congrArg aE.ai e).symm;have e7:p.ai.length=p0.ai.length:=Ze5
 refine⟨by rw[e1];exact h0.dl,by rw[e2];exact h0.fx,by rw[e3];exact h0.cD,by rw[e4];exact h0.cC,by rw[e5];exact h0.cb,by rw[e7];exact h0.dH,by rw[e1];exact h0.L8,by rw[e2];exact h0.aj,by rw[e3];exact h0.L9,by rw[e4];exact h0.ag,by rw[e5];exact h0.ae,λx hx=>?_⟩;have hm:abL x∈p0.ai.map abL:=by rw[<-e6];exact Lr.2 ⟨x,hx,rfl⟩
 obtain⟨x0,hx0,e8⟩:=Lr.1 hm;have e9:x.id=x0.id:=(congrArg dS.id e8:(abL x0).id=(abL x).id).symm;have hr:=abT (hc.right p hp x hx);refine⟨by rw[e9];exact(h0.ai x0 hx0).1,by have:=hr.2.1;have:=hr.2.2.2.2;omega,λs hs=>?_⟩
 have:=hr.2.2.2.1 s hs
 simp only[bw,J7,decide_eq_true_eq]at this;omega
end
end
section
open Go.Maps
attribute [local go_sem ↓] Kc Kd
def adq (w:w_)(bj:Nat)(k:eA)(src:Int)(e:Ending)(W:w_):Prop:=∃l:List af,e=r_ (a_ k.row)/\abx w bj k l [] W/\l.map (·.pure)=abI src k.pure.parts k.eC/\abz k.pure.parts (l.map (·.pure))
def abU {w w':w_}{a:d_}{v:v_}(hb:B_ w.heap.size w w')(h:w.cell? a=o_ v):w'.cell? a=o_ v:=(hb.cell (p:=a) (Le h)).trans h
abbrev SqH (w:w_)(k:eA)(aaB n g:Nat)(q:af)(Xs Y8:Nat)(x1 x2:aM)(W':w_):Prop:=Tk W' w.heap.size k/\W'.cell? ⟨aaB,n*8+7,n_⟩=o_ (s_ (o_ ⟨g,0,n_⟩) q.ai.length q.aV)/\W'.heap[Xs]? =o_ (c_ (cW x1) 51)/\W'.heap[Y8]? =o_ (c_ (cW x2) 51)
abbrev Y6 (w:w_)(k:eA):List (Nat×Array v_×T_):=[(w.heap.size,k.row,30),(w.heap.size+1,T9,30)]
def ab0 {w W:w_}{bj:Nat}{k:eA}{l:List af}{B:List (Nat×Array v_×T_)}(h:abx w bj k l (B++Y6 w k) W):Tk W w.heap.size k:=(h.box (w.heap.size,k.row,30) zy).1
def adp {w:w_}{bj:Nat}{k:eA}(h:gp w bj k):abx w bj k k.parts (Y6 w k) ((w.alloc (c_ k.row 30)).alloc (c_ T9 30)):=by
 have h0:abx w bj k k.parts [] w:=⟨h,rfl,aI.refl _ _,λg hg=>(h.lt hg).2,λg hg=>.inl hg,λx hx=>Zcl⟩
 have h1:=(h0.put k.row 30).put T9 30;refine h1.less λx hx=>?_
 simp only[Kt,Ku,or_false]at hx⊢;rcases hx with rfl|rfl
 .exact .inr rfl
 .exact .inl zy
def acP (k:eA)(src:Int)(bj:Nat)(w:w_)(hs:k.pure.Small)(hch:∀c∈k.eC,pa k.pure.parts c=true)(hr:∀p∈k.pure.parts,∀q∈p.ai,dj q=true)(lY:bj<=w.heap.size)(ho:gp w bj k):
  k_ J3 23 #[a_ k.row,i_ j_ src] w λe W=>adq w bj k src e W:=by
 have S:da (abx w bj k k.parts (Y6 w k) ((w.alloc (c_ k.row 30)).alloc (c_ T9 30))):=adp ho;have HH:=aA (And.intro hs (And.intro hch (And.intro hr lY)));clear hs hch hr lY ho
 go_enter func23,ntmps23
 go_upto_region 1 with fail;generalize(w.alloc (c_ k.row 30)).alloc (c_ T9 30)=W0 at*;go_wp2_with fail
 go_loopw[5] (λi wr=>∃n:Nat,n<=k.eC.length/\i=i_ j_ n/\∃l:List af,da (abx w bj k l (Y6 w k) wr/\l.map (·.pure)=abI src k.pure.parts (k.eC.take n)/\abz k.pure.parts (l.map (·.pure)))) (λi _=>k.eC.length-(Go.RowKit.intOf i).toNat)
 case atStart=>exact⟨0,Ky _,rfl,k.parts,S.I,rfl,abz.refl HH.I.2.2.1⟩
 case round=>
  clear S;obtain⟨n,hn,rfl,l,S⟩:=hrel;have hnc:=HH.I.1.w8;obtain⟨m0,m1,m2,m3,m4⟩:=(ab0 (B:=[]) S.I.1).cells;by_cases hlt:n<k.eC.length
  .have i0:(0:Int)<=(n:Int):=zw
   have i1:(n:Int)<(k.eC.length:Int):=zw
   have hnc2:(k.eC.length:Int)<=1048576:=by have:k.eC.length<=1048576:=hnc;omega
   obtain⟨c,hc⟩:∃c,k.eC[n]? =o_ c:=⟨_,Kz hlt⟩
   obtain⟨gc,hgc,z0,z1,z2,z3⟩:=TH S.I.1.own.at.eC hc;rw[show k.qi=o_ ⟨gc,0,n_⟩from hgc]at m4;have HC:da (k.eC[n]? =o_ c):=hc;clear hc hgc;have S1:da (abx w bj k l ((wr.heap.size,nx c,37)::Y6 w k) (wr.alloc (c_ (nx c) 37))):=S.I.1.put _ _;have HP:=aA S.I.2;clear S;go_upto_region 5 with fail;clear m0 m1 m2 m3 m4 z0 z1 z2 z3;generalize wr.alloc (c_ #[i_ j_ c.src,i_ j_ c.ga,i_ j_ c.dst,i_ j_ c.hI] 37)=W1 at*;generalize wr.heap.size=abj at*;have HSN:da (abI src k.pure.parts (k.eC.take (n+1))=if c.src=src then abM (l.map (·.pure)) c else l.map (·.pure)):=by show _=_;rw[ace HC.I,<-HP.I.1]
   have hcb:W1.heap[abj]? =o_ (c_ (nx c) 37):=(S1.I.box (abj,nx c,37) zy).1;have d0:W1.cell? ⟨abj,0,n_⟩=o_ (i_ j_ c.src):=ZcA
   clear hcb;by_cases hne:¬c.src=src
   .have Jf:da (abI src k.pure.parts (k.eC.take (n+1))=l.map (·.pure)):=by show _=_;rw[HSN.I,if_neg hne]
    clear HSN;go_wp2;go_roundw
    case rel=>exact⟨n+1,zw,by go_num,l,S1.I.less (λx hx=>LB _ hx),Jf.I.symm,HP.I.2⟩
    case measure=>exact ZbL
   have hsrc:c.src=src:=Decidable.not_not.1 hne;clear hne;have Jf:da (abI src k.pure.parts (k.eC.take (n+1))=abM (l.map (·.pure)) c):=by show _=_;rw[HSN.I,if_pos hsrc]
   have HSR:=aA hsrc;clear HSN;obtain⟨s,t,hes,het,hqq,hsd,hps,hpt⟩:=HP.I.2.ends (HH.I.2.1 c (KA HC.I));obtain⟨n1,q1,j1,x1,a1,a2,a3,a4,a5,a6,a7,a8⟩:=adt hes;obtain⟨n2,q2,j2,x2,b1,b2,b3,b4,b5,b6,b7,b8⟩:=adt het;subst a7 b7;have HE:da (endP (l.map (·.pure)) c.src c.ga=o_ x1.todS/\endP (l.map (·.pure)) c.dst c.hI=o_ x2.todS/\x1.Mf=x2.Mf/\¬c.src=c.dst/\dj x1.todS=true/\dj x2.todS=true):=⟨hes,het,hqq,hsd,hps,hpt⟩
   have H1:da (place (l.map (·.id)) c.src 0=(n1:Int)/\l[n1]? =o_ q1/\q1.id=c.src/\n0 l c.src c.ga=(j1:Int)/\place (q1.ai.map (·.id)) c.ga 0=(j1:Int)/\q1.ai[j1]? =o_ x1/\x1.id=c.ga):=⟨a1,a2,a3,a4,a5,a6,a8⟩
   have H2:da (place (l.map (·.id)) c.dst 0=(n2:Int)/\l[n2]? =o_ q2/\q2.id=c.dst/\n0 l c.dst c.hI=(j2:Int)/\place (q2.ai.map (·.id)) c.hI 0=(j2:Int)/\q2.ai[j2]? =o_ x2/\x2.id=c.hI):=⟨b1,b2,b3,b4,b5,b6,b8⟩
   clear hes het hqq hsd hps hpt a1 a2 a3 a4 a5 a6 a8 b1 b2 b3 b4 b5 b6 b8 hsrc;have fl:da ((k.wp l).Fit):=Ug (k:=k.wp l) (ac0 HH.I.1 HP.I.2);have hnb:(c.src !=src)=false:=by rw[HSR.I];simp
   go_upto_region 6 with fail;clear d0 hnb;have hcb:W1.heap[abj]? =o_ (c_ (nx c) 37):=(S1.I.box (abj,nx c,37) zy).1;have d0:W1.cell? ⟨abj,0,n_⟩=o_ (i_ j_ c.src):=ZcA
   have d1:W1.cell? ⟨abj,1,n_⟩=o_ (i_ j_ c.ga):=ZcA
   have d2:W1.cell? ⟨abj,2,n_⟩=o_ (i_ j_ c.dst):=ZcA
   have d3:W1.cell? ⟨abj,3,n_⟩=o_ (i_ j_ c.hI):=ZcA
   clear hcb;obtain⟨m0,m1,m2,m3,m4⟩:=(ab0 (B:=[(abj,nx c,37)]) S1.I).cells;have Mb:=TB (k.wp l) c.src c.ga W1 fl.I S1.I.own.at;rw[S1.I.row,show(k.wp l).parts=l from rfl,H1.I.1,H1.I.2.2.2.1]at Mb;go_wp2_with fail;clear m0 m1 m2 m3 m4 d0 d1 d2 d3;refine Mb.mono ?_;clear Mb;rintro e W2 ⟨rfl,hb⟩;replace S1:=aA (S1.I.below hb);clear hb;have hcb:W2.heap[abj]? =o_ (c_ (nx c) 37):=(S1.I.box (abj,nx c,37) zy).1;have d0:W2.cell? ⟨abj,0,n_⟩=o_ (i_ j_ c.src):=ZcA
   have d1:W2.cell? ⟨abj,1,n_⟩=o_ (i_ j_ c.ga):=ZcA
   have d2:W2.cell? ⟨abj,2,n_⟩=o_ (i_ j_ c.dst):=ZcA
   have d3:W2.cell? ⟨abj,3,n_⟩=o_ (i_ j_ c.hI):=ZcA
   clear hcb;obtain⟨m0,m1,m2,m3,m4⟩:=(ab0 (B:=[(abj,nx c,37)]) S1.I).cells;have Mb:=TB (k.wp l) c.dst c.hI W2 fl.I S1.I.own.at;rw[S1.I.row,show(k.wp l).parts=l from rfl,H2.I.1,H2.I.2.2.2.1]at Mb;go_wp2_with fail;clear m0 m1 m2 m3 m4 d0 d1 d2 d3;refine Mb.mono ?_;clear Mb;rintro e W3 ⟨rfl,hb⟩;replace S1:=aA (S1.I.below hb);clear hb;obtain⟨m0,m1,m2,m3,m4⟩:=(ab0 (B:=[(abj,nx c,37)]) S1.I).cells;obtain⟨aaB,g1,p1,p2,p3,⟨u0,u1,u2,u3,u4⟩,-,-,-,-⟩:=abV S1.I.own H1.I.2.1 H1.I.2.2.2.2.2.1;rw[p1]at m3;have HG1:da (k.qn=o_ ⟨aaB,0,n_⟩/\q1.aK=o_ ⟨g1,0,n_⟩):=⟨p1,p2⟩
   have hl1:n1<l.length:=(Lj.1 H1.I.2.1).1;have DS:j1<q1.ai.length:=(Lj.1 H1.I.2.2.2.2.2.1).1;have ll:=S1.I.len;have k0:(0:Int)<=(n1:Int):=zw
   have k1:(n1:Int)<(k.parts.length:Int):=zw
   have k2:(0:Int)<=(j1:Int):=zw
   have k3:(j1:Int)<(q1.ai.length:Int):=zw
   clear p1 p2 hl1 DS ll;have S2:da (abx w bj k l ((W3.heap.size,cW x1,51)::(abj,nx c,37)::Y6 w k) (W3.alloc (c_ (cW x1) 51))):=S1.I.put _ _;clear S1;unfold cW at S2;go_upto_region 9 with fail;clear m0 m1 m2 m3 m4 u0 u1 u2 u3 u4 p3 k0 k1 k2 k3;generalize W3.alloc (c_ #[i_ j_ x1.id,b_ x1.I,b_ x1.Mf,i_ j_ x1.max,s_ x1.ak x1.Ma.length x1.aq] 51)=W4 at*;generalize W3.heap.size=Xs at*;rw[show#[i_ j_ x1.id,b_ x1.I,b_ x1.Mf,i_ j_ x1.max,s_ x1.ak x1.Ma.length x1.aq]=cW x1 from rfl]at S2;obtain⟨m0,m1,m2,m3,m4⟩:=(ab0 (B:=[(Xs,cW x1,51),(abj,nx c,37)]) S2.I).cells;obtain⟨gP',g2,p1,p2,p3,⟨u0,u1,u2,u3,u4⟩,-,-,-,-⟩:=abV S2.I.own H2.I.2.1 H2.I.2.2.2.2.2.1;rw[HG1.I.1]at p1;cases p1;rw[HG1.I.1]at m3;have HG2:da (q2.aK=o_ ⟨g2,0,n_⟩):=p2;have hl1:n2<l.length:=(Lj.1 H2.I.2.1).1;have DS:j2<q2.ai.length:=(Lj.1 H2.I.2.2.2.2.2.1).1;have ll:=S2.I.len;have k0:(0:Int)<=(n2:Int):=zw
   have k1:(n2:Int)<(k.parts.length:Int):=zw
   have k2:(0:Int)<=(j2:Int):=zw
   have k3:(j2:Int)<(q2.ai.length:Int):=zw
   clear p2 hl1 DS ll;have S3:da (abx w bj k l ((W4.heap.size,cW x2,51)::(Xs,cW x1,51)::(abj,nx c,37)::Y6 w k) (W4.alloc (c_ (cW x2) 51))):=S2.I.put _ _;clear S2;unfold cW at S3;go_upto_region 10 with fail;clear m0 m1 m2 m3 m4 u0 u1 u2 u3 u4 p3 k0 k1 k2 k3;generalize W4.alloc (c_ #[i_ j_ x2.id,b_ x2.I,b_ x2.Mf,i_ j_ x2.max,s_ x2.ak x2.Ma.length x2.aq] 51)=W5 at*;generalize W4.heap.size=Y8 at*;rw[show#[i_ j_ x2.id,b_ x2.I,b_ x2.Mf,i_ j_ x2.max,s_ x2.ak x2.Ma.length x2.aq]=cW x2 from rfl,show#[i_ j_ x1.id,b_ x1.I,b_ x1.Mf,i_ j_ x1.max,s_ x1.ak x1.Ma.length x1.aq]=cW x1 from rfl]at S3;have oh:da (W5.heap[Xs]? =o_ (c_ (cW x1) 51)/\W5.heap[Y8]? =o_ (c_ (cW x2) 51)/\Tk W5 w.heap.size k):=⟨(S3.I.box (Xs,cW x1,51) zy).1,(S3.I.box (Y8,cW x2,51) zy).1,ab0 (B:=[(Y8,cW x2,51),(Xs,cW x1,51),(abj,nx c,37)]) S3.I⟩
   obtain⟨v0,v1,v2,v3,v4⟩:=gE oh.I.1;have adF:n1≠n2:=λe=>by have h5:=H1.I.2.1;rw[e,H2.I.2.1]at h5;cases h5;exact HE.I.2.2.2.1 (H1.I.2.2.1.symm.trans H2.I.2.2.1)
   have HN12:=aA adF;clear adF;cases ab6:x1.Mf
   .rw [ab6]at v2
    by_cases hz:x1.Ma.length=0
    .have HZ:da (abM (l.map (·.pure)) c=l.map (·.pure)):=by show _=_;unfold abM;rw[HE.I.1,HE.I.2.1];simp only[ab6];rw[if_neg (by decide),if_pos hz]
     have hz1:¬0<x1.Ma.length:=zw
     have hz2:decide (0<x1.Ma.length)=false:=decide_eq_false hz1;clear hz ab6;go_wp2;go_roundw
     case rel=>exact⟨n+1,zw,by go_num,l,S3.I.less (λx hx=>Zdj),(Jf.I.trans HZ.I).symm,HP.I.2⟩
     case measure=>exact ZbL
    obtain⟨sv,hs0⟩:∃sv,x1.Ma[0]? =o_ sv:=⟨_,Kz zw⟩
    have htk:x1.Ma.take 1=[sv]:=by rw[show(1:Nat)=0+1 from rfl,List.take_add_one,hs0];rfl
    have HZ:da (abM (l.map (·.pure)) c=abK c.dst c.hI [sv] (l.map (·.pure))):=by show _=_;unfold abM;rw[HE.I.1,HE.I.2.1];simp only[ab6];rw[if_neg (by decide),if_neg hz,htk]
    have hz1:0<x1.Ma.length:=zw
    have hz2:decide (0<x1.Ma.length)=true:=decide_eq_true hz1;have hz3:(0:Int)<(x1.Ma.length:Int):=zw
    clear hz ab6 htk;obtain⟨-,-,-,-,-,-,r1,-,-,-⟩:=abV S3.I.own H1.I.2.1 H1.I.2.2.2.2.2.1;obtain⟨abo,hgi,hci⟩:=r1 0 (t_ sv) (by cases hl:x1.Ma with|nil=>(rw[hl]at hs0;cases hs0)|cons y r=>(rw[hl]at hs0;cases hs0;rfl));obtain⟨gP',g2',p1,p2,p3,-,-,abh,aap,hPg⟩:=abV S3.I.own H2.I.2.1 H2.I.2.2.2.2.2.1;rw[HG1.I.1]at p1;cases p1;rw[HG2.I]at p2;cases p2;have hgn:abo≠g2:=λe=>adL S3.I.own H1.I.2.1 H2.I.2.1 HN12.I H1.I.2.2.2.2.2.1 (by rw[hgi];simp[blk,e]) HG2.I
    rw[hgi]at v4;have HI:da (W5.cell? ⟨abo,0,n_⟩=o_ (t_ sv)/\abo≠g2/\aaB≠g2/\Xs≠g2/\w.heap.size≠g2/\x1.ak=o_ ⟨abo,0,n_⟩):=⟨hci,hgn,hPg,λe=>(S3.I.box (Xs,cW x1,51) zy).2 (e▸aap),λe=>(S3.I.box (w.heap.size,k.row,30) zy).2 (e▸aap),hgi⟩
    have WM:da (W5.cell? ⟨aaB,n2*8+7,n_⟩=o_ (s_ (o_ ⟨g2,0,n_⟩) q2.ai.length q2.aV)):=p3;clear hci hgn hPg hgi p3 abh aap hs0;go_upto_region 12 with fail;clear v0 v1 v2 v3 v4 hz2;refine ZN (λa0 a' w'=>∃(e73 e74 e75 e76 e77 e78 e79 e80 e81 e82 e83 e84 e85 e86:v_)(l2:List af),a'=Zk a0 [(73,e73),(74,e74),(75,e75),(76,e76),(77,e77),(78,e78),(79,e79),(80,e80),(81,e81),(82,e82),(83,e83),(84,e84),(85,e85),(86,e86)]/\abx w bj k l2 (Y6 w k) w'/\l2.map (·.pure)=abK c.dst c.hI [sv] (l.map (·.pure))) ?_ ?_
    .have HS:da ((λW'=>Tk W' w.heap.size k/\W'.cell? ⟨aaB,n2*8+7,n_⟩=o_ (s_ (o_ ⟨g2,0,n_⟩) q2.ai.length q2.aV)/\W'.heap[Xs]? =o_ (c_ (cW x1) 51)/\W'.cell? ⟨abo,0,n_⟩=o_ (t_ sv)) W5.drew):=⟨oh.I.2.2,WM.I,oh.I.1,HI.I.1⟩
     refine Kr (S:=(λW'=>Tk W' w.heap.size k/\W'.cell? ⟨aaB,n2*8+7,n_⟩=o_ (s_ (o_ ⟨g2,0,n_⟩) q2.ai.length q2.aV)/\W'.heap[Xs]? =o_ (c_ (cW x1) 51)/\W'.cell? ⟨abo,0,n_⟩=o_ (t_ sv))) ZbG HS.I (λ_=>?_);replace S3:=aA (S3.I.below (V:=W5.drew) (Kp _ _).drew);generalize W5.drew=YI at*;have hl1:n2<l.length:=(Lj.1 H2.I.2.1).1;have DS:j2<q2.ai.length:=(Lj.1 H2.I.2.2.2.2.2.1).1;have ll:=S3.I.len;have k0:(0:Int)<=(n2:Int):=zw
     have k1:(n2:Int)<(k.parts.length:Int):=zw
     have k2:(0:Int)<=(j2:Int):=zw
     have k3:(j2:Int)<(q2.ai.length:Int):=zw
     clear hl1 DS ll;refine tt 0 HS.I ?_;refine tt 1 HS.I ?_ (hy:=λw0 hS0=>Zcu);refine tt 2 HS.I ?_;refine tt 3 HS.I ?_;refine tt 4 HS.I ?_;refine tt 5 HS.I ?_ (hy:=λw0 hS0=>Zdt);refine tt 6 HS.I ?_;refine tt 7 HS.I ?_;refine tt 8 HS.I ?_ (hy:=λw0 hS0=>by obtain⟨v0,v1,v2,v3,v4⟩:=gE hS0.2.2.1;rw[HI.I.2.2.2.2.2]at v4;go_simp;try with_reducible rfl);refine tt 9 HS.I ?_;refine tt 10 HS.I ?_ (hy:=λw0 hS0=>by have p3:=hS0.2.2.2;go_simp;try with_reducible rfl)
     try simp only[pt,sb,s0,s1]
     refine L7 11 (λQ hQ=>?_);go_wp2_with fail;have hbA:B_ YI.heap.size YI (YI.alloc (c_ #[t_ sv] 9)):=(Kp _ _).alloc (Ki _) _;have hlow:bj<=YI.heap.size:=Zfa
     obtain⟨hLK,hcell,hfro⟩:=S3.I.Ma hbA H2.I.2.1 H2.I.2.2.2.2.2.1 HG2.I (cq (IN YI sv) hlow) (λg hg=>by simp[blk]at hg;omega);have HA:da ((λW'=>Tk W' w.heap.size k/\W'.cell? ⟨aaB,n2*8+7,n_⟩=o_ (s_ (o_ ⟨g2,0,n_⟩) q2.ai.length q2.aV)/\W'.heap[Xs]? =o_ (c_ (cW x1) 51)/\W'.cell? ⟨abo,0,n_⟩=o_ (t_ sv)) (YI.alloc (c_ #[t_ sv] 9))):=⟨(hbA.block _ (J2.1 HS.I.1).1).trans HS.I.1,(abU hbA HS.I.2.1),(hbA.block _ (J2.1 HS.I.2.2.1).1).trans HS.I.2.2.1,abU hbA HS.I.2.2.2⟩
     have HL:da (abx w bj k (l.set n2 (abS q2 j2 x2 [sv] (o_ ⟨YI.heap.size,0,n_⟩) 1)) (Y6 w k) (World.setCell (YI.alloc (c_ #[t_ sv] 9)) ⟨g2,j2*5+4,n_⟩ (s_ (o_ ⟨YI.heap.size,0,n_⟩) 1 1))):=hLK.less λx hx=>Zdj
     have HCF:da ((∃u,World.cell? (YI.alloc (c_ #[t_ sv] 9)) ⟨g2,j2*5+4,n_⟩=o_ u)/\World.frozen? (YI.alloc (c_ #[t_ sv] 9)) ⟨g2,j2*5+4,n_⟩=false):=⟨hcell,hfro⟩
     clear hLK hcell hfro hbA hlow;refine hQ.out _ _ HA.I (λ_=>?_);clear hQ Q
     try simp only[pt,sb,s0,s1]
     refine tt 12 HA.I ?_;refine tt 13 HA.I ?_;refine L7 14 (λQ hQ=>?_);obtain⟨⟨u,hu⟩,hfz⟩:=HCF.I;go_wp2_with fail;clear hu hfz;refine hQ.out _ _ ⟨(ac5 _ _ _ _ HI.I.2.2.2.2.1).trans HA.I.1,(J1 (ac5 _ _ _ _ HI.I.2.2.1)).trans HA.I.2.1,(ac5 _ _ _ _ HI.I.2.2.2.1).trans HA.I.2.2.1,(J1 (ac5 _ _ _ _ HI.I.2.1)).trans HA.I.2.2.2⟩ (λ_=>?_);clear hQ Q;refine K3 ZbG ?_ _;exact⟨_,_,_,_,_,_,_,_,_,_,_,_,_,_,_,Zcx,HL.I,acr H2.I.1 H2.I.2.1 H2.I.2.2.1 H2.I.2.2.2.2.1 H2.I.2.2.2.2.2.1 H2.I.2.2.2.2.2.2⟩
    .rintro a' W6 ⟨e73,e74,e75,e76,e77,e78,e79,e80,e81,e82,e83,e84,e85,e86,l2,rfl,hL2,hp2⟩
     simp only[Zk,pt,sb,s0,s1];have HL2:da (abx w bj k l2 (Y6 w k) W6/\l2.map (·.pure)=abM (l.map (·.pure)) c):=⟨hL2,hp2.trans HZ.I.symm⟩
     have HC2:da (abz k.pure.parts (l2.map (·.pure))):=by show abz _ _;rw[HL2.I.2];exact HP.I.2.carry (HH.I.2.1 c (KA HC.I))
     clear hL2 hp2;go_wp2;go_roundw
     case rel=>exact⟨n+1,zw,by go_num,l2,HL2.I.1,HL2.I.2.trans Jf.I.symm,HC2.I⟩
     case measure=>exact ZbL
   .rw [ab6]at v2
    obtain⟨-,pm2,-,-,pm5⟩:=abT HE.I.2.2.2.2.1;obtain⟨-,tm2,-,-,tm5⟩:=abT HE.I.2.2.2.2.2;obtain⟨N,hN⟩:∃N,min x1.Ma.length (ab4 x2.todS)=N:=⟨_,rfl⟩
    have hN1:N<=x1.Ma.length:=zw
    have hN2:N<=5:=zw
    have hmin:min (x1.Ma.length:Int) (x2.max-x2.Ma.length)=(N:Int):=by rw[<-hN];unfold ab4;omega
    have HNN:da (min x1.Ma.length (ab4 x2.todS)=N/\x1.Mf=true):=⟨hN,ab6⟩
    clear hN ab6;obtain⟨y0,y1,y2,y3,anX⟩:=gE oh.I.2.1;go_upto_region 14 with fail;clear v0 v1 v2 v3 v4 y0 y1 y2 y3 anX hmin;have hcap:x1.Ma.length<=x1.aq:=adu (S3.I.own.mine q1 (KA H1.I.2.1)) H1.I.2.2.2.2.2.1;have hcapI:(x1.Ma.length:Int)<=(x1.aq:Int):=zw
    have hN3:(N:Int)<=(x1.aq:Int):=zw
    have hN4:N<=x1.aq:=zw
    have hN0:(0:Int)<=(N:Int):=zw
    have hN5:(N:Int)<=(x1.Ma.length:Int):=zw
    have HA1:=H1;obtain⟨gP',g',p1,p2,p3,-,-,abh,aap,hPg⟩:=abV S3.I.own H2.I.2.1 H2.I.2.2.2.2.2.1;rw[HG1.I.1]at p1;cases p1;rw[HG2.I]at p2;cases p2;obtain⟨-,-,-,-,-,-,r1,-,-,-⟩:=abV S3.I.own HA1.I.2.1 HA1.I.2.2.2.2.2.1;have pG:da (Row W5 x1.ak (bT.flat x1.Ma)):=r1;obtain⟨-,-,-,-,-,-,r2,-,-,-⟩:=abV S3.I.own H2.I.2.1 H2.I.2.2.2.2.2.1;have HR2:da (Row W5 x2.ak (bT.flat x2.Ma)):=r2;clear r2;have HI:da (aaB≠g2/\Xs≠g2/\Y8≠g2/\w.heap.size≠g2):=⟨hPg,λe=>(S3.I.box (Xs,cW x1,51) zy).2 (e▸aap),λe=>(S3.I.box (Y8,cW x2,51) zy).2 (e▸aap),λe=>(S3.I.box (w.heap.size,k.row,30) zy).2 (e▸aap)⟩
    have HS:da ((SqH w k aaB n2 g2 q2 Xs Y8 x1 x2) W5.drew):=⟨(show Tk W5 w.heap.size k from ab0 (B:=[(Y8,cW x2,51),(Xs,cW x1,51),(abj,nx c,37)]) S3.I),p3,(S3.I.box (Xs,cW x1,51) zy).1,(S3.I.box (Y8,cW x2,51) zy).1⟩
    clear p3 abh aap hPg r1;refine Kr (S:=(SqH w k aaB n2 g2 q2 Xs Y8 x1 x2)) ZbG HS.I (λ_=>?_);replace S3:=aA (S3.I.below (V:=W5.drew) (Kp _ _).drew);replace pG:=aA (pG.I.below (w':=W5.drew) (Kp _ _).drew);replace HR2:=aA (HR2.I.below (w':=W5.drew) (Kp _ _).drew);generalize W5.drew=YI at*;have hl1:n2<l.length:=(Lj.1 H2.I.2.1).1;have DS:j2<q2.ai.length:=(Lj.1 H2.I.2.2.2.2.2.1).1;have ll:=S3.I.len;have k0:(0:Int)<=(n2:Int):=zw
    have k1:(n2:Int)<(k.parts.length:Int):=zw
    have k2:(0:Int)<=(j2:Int):=zw
    have k3:(j2:Int)<(q2.ai.length:Int):=zw
    clear hl1 DS ll;refine tt 0 HS.I ?_;refine tt 1 HS.I ?_ (hy:=λw0 hS0=>Zcu);refine tt 2 HS.I ?_;refine tt 3 HS.I ?_;refine tt 4 HS.I ?_;refine tt 5 HS.I ?_ (hy:=λw0 hS0=>Zdt);refine tt 6 HS.I ?_;refine tt 8 HS.I ?_;refine tt 9 HS.I ?_ (hy:=λw0 hS0=>by obtain⟨v0,v1,v2,v3,v4⟩:=gE hS0.2.2.2;go_simp;try with_reducible rfl);refine tt 11 HS.I ?_;refine tt 12 HS.I ?_ (hy:=λw0 hS0=>ZdZ);refine tt 13 HS.I ?_;refine tt 14 HS.I ?_
    try simp only[pt,sb,s0,s1]
    have hlow:bj<=YI.heap.size:=Zfa
    refine L7 7 (λQ hQ=>?_);go_wp2_with fail;have hbA:B_ YI.heap.size YI (YI.alloc (c_ #[] 9)):=(Kp _ _).alloc (Ki _) _;refine hQ.out _ _ ⟨(hbA.block _ (J2.1 HS.I.1).1).trans HS.I.1,abU hbA HS.I.2.1,(hbA.block _ (J2.1 HS.I.2.2.1).1).trans HS.I.2.2.1,(hbA.block _ (J2.1 HS.I.2.2.2).1).trans HS.I.2.2.2⟩ (λ_=>?_);clear hQ Q
    try simp only[pt,sb,s0,s1]
    have hem:((YI.alloc (c_ #[] 9))).ownsRow YI.heap.size 9 1 (s_ (o_ ⟨YI.heap.size,0,n_⟩) ([]:List ByteArray).length 0) ([]:List ByteArray).length (bT.flat []):=i6 (Kj _ _) (Ki _);obtain⟨a2,c2,w2,hr2,DU,hg2,pv⟩:=ou (YI.alloc (c_ #[] 9)) YI.heap.size _ 0 [] hem x2.ak x2.Ma x2.aq (IS (HR2.I.below hbA)) (by simp only[K4];omega) hbA.size;simp only[K4,Li,Ll]at hr2 DU;have hb2:B_ YI.heap.size YI w2:=hbA.grown hg2 hbA.size (λg hg=>ZfR);refine L7 10 (λQ hQ=>?_);refine cM _ _ 49 rfl _ _ _ w2 ZbG ZbG hr2 ?_;refine hQ.out _ _ ⟨(hb2.block _ (J2.1 HS.I.1).1).trans HS.I.1,abU hb2 HS.I.2.1,(hb2.block _ (J2.1 HS.I.2.2.1).1).trans HS.I.2.2.1,(hb2.block _ (J2.1 HS.I.2.2.2).1).trans HS.I.2.2.2⟩ (λ_=>?_);clear hQ Q
    try simp only[pt,sb,s0,s1]
    have hlt:(x1.Ma.take N).length=N:=ZdM
    obtain⟨a3,c3,w3,hr3,Bn,hg3,IJ⟩:=ou w2 YI.heap.size a2 c2 x2.Ma DU x1.ak (x1.Ma.take N) x1.aq (uM N (pG.I.below hb2)) (by rw[hlt];omega) hb2.size;rw[hlt]at hr3;rw[<-Lf]at Bn;have hb3:B_ YI.heap.size YI w3:=hb2.grown hg3 hb2.size (λg hg=>(cf DU (di hg)).1);refine L7 15 (λQ hQ=>?_);refine cM _ _ 49 rfl _ _ _ w3 ZbG ZbG hr3 ?_;obtain⟨hLK,hcell,hfro⟩:=S3.I.Ma hb3 H2.I.2.1 H2.I.2.2.2.2.2.1 HG2.I (cq Bn hlow) (λg hg=>(cf Bn hg).1);rw[Lf,hlt]at hLK;have HA:da ((SqH w k aaB n2 g2 q2 Xs Y8 x1 x2) w3):=⟨(hb3.block _ (J2.1 HS.I.1).1).trans HS.I.1,abU hb3 HS.I.2.1,(hb3.block _ (J2.1 HS.I.2.2.1).1).trans HS.I.2.2.1,(hb3.block _ (J2.1 HS.I.2.2.2).1).trans HS.I.2.2.2⟩
    have HLK:=aA hLK;have HCF:da ((∃u,w3.cell? ⟨g2,j2*5+4,n_⟩=o_ u)/\w3.frozen? ⟨g2,j2*5+4,n_⟩=false):=⟨hcell,hfro⟩
    clear hLK hcell hfro;refine hQ.out _ _ HA.I (λ_=>?_);clear hQ Q
    try simp only[pt,sb,s0,s1]
    refine tt 16 HA.I ?_;refine tt 17 HA.I ?_;refine L7 18 (λQ hQ=>?_);obtain⟨⟨u,hu⟩,hfz⟩:=HCF.I;clear hr3 Bn hg3 IJ hb3 hbA hem hr2 DU hg2 pv hb2;go_wp2_with fail;clear hu hfz;refine hQ.out _ _ ⟨(ac5 _ _ _ _ HI.I.2.2.2).trans HA.I.1,(J1 (ac5 _ _ _ _ HI.I.1)).trans HA.I.2.1,(ac5 _ _ _ _ HI.I.2.1).trans HA.I.2.2.1,(ac5 _ _ _ _ HI.I.2.2.1).trans HA.I.2.2.2⟩ (λ_=>?_);clear hQ Q HA HS HI pG HR2 k0 k1 k2 k3 hlow hlt;generalize w3.setCell ⟨g2,j2*5+4,n_⟩ (s_ a3 (x2.Ma.length+N) c3)=W6 at*;clear HCF;refine K3 ZbG ?_ _;have HL6:=HLK;clear HLK S3;obtain⟨aah,haN⟩:∃aah,aah=a3:=⟨_,rfl⟩
    subst haN;obtain⟨abG,hcN⟩:∃abG,abG=c3:=⟨_,rfl⟩
    subst hcN;obtain⟨l6,hl6⟩:∃l6,l.set n2 (abS q2 j2 x2 (x2.Ma++x1.Ma.take N) aah abG)=l6:=⟨_,rfl⟩
    rw[hl6]at HL6;have HP6:da (l6.map (·.pure)=abK c.dst c.hI (x2.Ma++x1.Ma.take N) (l.map (·.pure))):=by show _=_;rw[<-hl6];exact acr H2.I.1 H2.I.2.1 H2.I.2.2.1 H2.I.2.2.2.2.1 H2.I.2.2.2.2.2.1 H2.I.2.2.2.2.2.2
    have hq6:l6[n1]? =o_ q1:=by rw[<-hl6,List.getElem?_set_ne (λe=>HN12.I e.symm)];exact H1.I.2.1
    have hi6:l6.map (·.id)=l.map (·.id):=by rw[<-hl6,PN];exact set_id H2.I.2.1
    have HA6:da (place (l6.map (·.id)) c.src 0=(n1:Int)/\l6[n1]? =o_ q1/\q1.id=c.src/\True/\place (q1.ai.map (·.id)) c.ga 0=(j1:Int)/\q1.ai[j1]? =o_ x1/\x1.id=c.ga):=⟨by rw[hi6];exact H1.I.1,hq6,H1.I.2.2.1,trivial,H1.I.2.2.2.2⟩
    clear hl6 hq6 hi6 HA1;have HA1:=HA6;go_upto_region 15 with fail;obtain⟨gP',g',p1,p2,p3,-,-,abh,aap,hPg⟩:=abV HL6.I.own HA6.I.2.1 HA6.I.2.2.2.2.2.1;rw[HG1.I.1]at p1;cases p1;rw[HG1.I.2]at p2;cases p2;obtain⟨-,-,-,-,-,-,r1,-,-,-⟩:=abV HL6.I.own HA1.I.2.1 HA1.I.2.2.2.2.2.1;have pG:da (Row W6 x1.ak (bT.flat x1.Ma)):=r1;have HI:da (aaB≠g1/\Xs≠g1/\Y8≠g1/\w.heap.size≠g1):=⟨hPg,λe=>(HL6.I.box (Xs,cW x1,51) zy).2 (e▸aap),λe=>(HL6.I.box (Y8,cW x2,51) zy).2 (e▸aap),λe=>(HL6.I.box (w.heap.size,k.row,30) zy).2 (e▸aap)⟩
    have HS:da ((SqH w k aaB n1 g1 q1 Xs Y8 x1 x2) W6.drew):=⟨(show Tk W6 w.heap.size k from ab0 (B:=[(Y8,cW x2,51),(Xs,cW x1,51),(abj,nx c,37)]) HL6.I),p3,(HL6.I.box (Xs,cW x1,51) zy).1,(HL6.I.box (Y8,cW x2,51) zy).1⟩
    clear p3 abh aap hPg r1;refine Kr (S:=(SqH w k aaB n1 g1 q1 Xs Y8 x1 x2)) ZbG HS.I (λ_=>?_);replace HL6:=aA (HL6.I.below (V:=W6.drew) (Kp _ _).drew);replace pG:=aA (pG.I.below (w':=W6.drew) (Kp _ _).drew);generalize W6.drew=YI at*;have hl1:n1<l6.length:=(Lj.1 HA6.I.2.1).1;have DS:j1<q1.ai.length:=(Lj.1 HA6.I.2.2.2.2.2.1).1;have ll:=HL6.I.len;have k0:(0:Int)<=(n1:Int):=zw
    have k1:(n1:Int)<(k.parts.length:Int):=zw
    have k2:(0:Int)<=(j1:Int):=zw
    have k3:(j1:Int)<(q1.ai.length:Int):=zw
    clear hl1 DS ll;obtain⟨A3,hA3⟩:∃A3,(if x1.aq=N then x1.ak else Option.map (λx=>x.add N) x1.ak)=A3:=⟨_,rfl⟩
    have HSA:da (∀W,Row W x1.ak (bT.flat x1.Ma)->ld W A3 (bT.flat (x1.Ma.drop N))):=λW hr=>by have h5:=qK (K:=bT) (k:=N) (c:=x1.aq) hcap hr;rw[show N*bT.n=N from Nat.mul_one N,hA3]at h5;exact h5
    refine tt 0 HS.I ?_;refine tt 1 HS.I ?_ (hy:=λw0 hS0=>Zcu);refine tt 2 HS.I ?_;refine tt 3 HS.I ?_;refine tt 4 HS.I ?_;refine tt 5 HS.I ?_ (hy:=λw0 hS0=>Zdt);refine tt 6 HS.I ?_;refine tt 8 HS.I ?_;refine tt 9 HS.I ?_ (hy:=λw0 hS0=>ZdZ);refine tt 10 HS.I ?_;refine tt 11 HS.I ?_;clear hA3
    try simp only[pt,sb,s0,s1]
    have hlow:bj<=YI.heap.size:=by have:=HL6.I.kept.size;have:=HH.I.2.2.2;omega
    refine L7 7 (λQ hQ=>?_);go_wp2_with fail;have hbA:B_ YI.heap.size YI (YI.alloc (c_ #[] 9)):=(Kp _ _).alloc (Ki _) _;refine hQ.out _ _ ⟨(hbA.block _ (J2.1 HS.I.1).1).trans HS.I.1,abU hbA HS.I.2.1,(hbA.block _ (J2.1 HS.I.2.2.1).1).trans HS.I.2.2.1,(hbA.block _ (J2.1 HS.I.2.2.2).1).trans HS.I.2.2.2⟩ (λ_=>?_);clear hQ Q
    try simp only[pt,sb,s0,s1]
    have hem:((YI.alloc (c_ #[] 9))).ownsRow YI.heap.size 9 1 (s_ (o_ ⟨YI.heap.size,0,n_⟩) ([]:List ByteArray).length 0) ([]:List ByteArray).length (bT.flat []):=i6 (Kj _ _) (Ki _);have hld:(x1.Ma.drop N).length=x1.Ma.length-N:=Ql;obtain⟨a3,c3,w3,hr3,Bn,hg3,IJ⟩:=ou (YI.alloc (c_ #[] 9)) YI.heap.size _ 0 [] hem A3 (x1.Ma.drop N) (x1.aq-N) (HSA.I _ (pG.I.below hbA)) (by simp only[K4];omega) hbA.size;simp only[K4,Li,Ll]at hr3 Bn;rw[hld]at hr3;have hb3:B_ YI.heap.size YI w3:=hbA.grown hg3 hbA.size (λg hg=>ZfR);refine L7 12 (λQ hQ=>?_);refine cM _ _ 49 rfl _ _ _ w3 ZbG ZbG hr3 ?_;obtain⟨hLK,hcell,hfro⟩:=HL6.I.Ma hb3 HA6.I.2.1 HA6.I.2.2.2.2.2.1 HG1.I.2 (cq Bn hlow) (λg hg=>(cf Bn hg).1);rw[hld]at hLK;have HA:da ((SqH w k aaB n1 g1 q1 Xs Y8 x1 x2) w3):=⟨(hb3.block _ (J2.1 HS.I.1).1).trans HS.I.1,abU hb3 HS.I.2.1,(hb3.block _ (J2.1 HS.I.2.2.1).1).trans HS.I.2.2.1,(hb3.block _ (J2.1 HS.I.2.2.2).1).trans HS.I.2.2.2⟩
    have HLK:=aA hLK;have HCF:da ((∃u,w3.cell? ⟨g1,j1*5+4,n_⟩=o_ u)/\w3.frozen? ⟨g1,j1*5+4,n_⟩=false):=⟨hcell,hfro⟩
    clear hLK hcell hfro;refine hQ.out _ _ HA.I (λ_=>?_);clear hQ Q
    try simp only[pt,sb,s0,s1]
    refine tt 13 HA.I ?_;refine tt 14 HA.I ?_;refine L7 15 (λQ hQ=>?_);obtain⟨⟨u,hu⟩,hfz⟩:=HCF.I;clear hr3 Bn hg3 IJ hb3 hbA hem;go_wp2_with fail;clear hu hfz;refine hQ.out _ _ ⟨(ac5 _ _ _ _ HI.I.2.2.2).trans HA.I.1,(J1 (ac5 _ _ _ _ HI.I.1)).trans HA.I.2.1,(ac5 _ _ _ _ HI.I.2.1).trans HA.I.2.2.1,(ac5 _ _ _ _ HI.I.2.2.1).trans HA.I.2.2.2⟩ (λ_=>?_);clear hQ Q HA HS HI pG k0 k1 k2 k3 hlow hld;generalize w3.setCell ⟨g1,j1*5+4,n_⟩ (s_ a3 (x1.Ma.length-N) c3)=an1 at*;clear HCF;refine K3 ZbG ?_ _;have hL7:=HLK.I;clear HLK HL6;obtain⟨aaW,haM⟩:∃aaW,aaW=a3:=⟨_,rfl⟩
    subst haM;obtain⟨abf,hcM⟩:∃abf,abf=c3:=⟨_,rfl⟩
    subst hcM;have HP7:da ((l6.set n1 (abS q1 j1 x1 (x1.Ma.drop N) aaW abf)).map (·.pure)=abM (l.map (·.pure)) c):=by
     show _=_
     rw[acr HA6.I.1 HA6.I.2.1 HA6.I.2.2.1 HA6.I.2.2.2.2.1 HA6.I.2.2.2.2.2.1 HA6.I.2.2.2.2.2.2,HP6.I];unfold abM;rw[HE.I.1,HE.I.2.1];simp only[HNN.I.2,HNN.I.1,if_true]
    have HL7:da (abx w bj k (l6.set n1 (abS q1 j1 x1 (x1.Ma.drop N) aaW abf)) (Y6 w k) an1):=hL7.less λx hx=>Zdj
    clear hL7;generalize l6.set n1 (abS q1 j1 x1 (x1.Ma.drop N) aaW abf)=dw at*;have HC7:da (abz k.pure.parts (dw.map (·.pure))):=by show abz _ _;rw[HP7.I];exact HP.I.2.carry (HH.I.2.1 c (KA HC.I))
    go_wp2;go_roundw
    case rel=>exact⟨n+1,zw,by go_num,dw,HL7.I,HP7.I.trans Jf.I.symm,HC7.I⟩
    case measure=>exact ZbL
  .have i1:¬(n:Int)<(k.eC.length:Int):=zw
   have ek:n=k.eC.length:=zw
   subst ek;have hz0:wr.heap[w.heap.size+1]? =o_ (c_ T9 30):=(S.I.1.box (w.heap.size+1,T9,30) zy).1;have hzn:=(S.I.1.box (w.heap.size+1,T9,30) zy).2;have HZN:=aA hzn;clear hzn;go_wp2_with(refine stK 4 130 k.row hz0 ?_ (hx:=ZbG) (hy:=ZbG));refine rtK results23 hz0 ?_ (hp:=ZbG) (hd:=ZbG);refine⟨l,rfl,⟨S.I.1.own.same λg hg=>KH _ _ _ _ (λe=>HZN.I (e▸hg)),S.I.1.len,⟨S.I.1.kept.os,S.I.1.kept.tape,S.I.1.kept.output,by rw[size_setRow];exact S.I.1.kept.size,λg hg hn=>(KH _ _ _ _ zw).trans (S.I.1.kept.same g hg hn)⟩,S.I.1.lo,S.I.1.far,λx hx=>Zcl⟩,?_,S.I.2.2⟩;have h5:=S.I.2.1;rw[LQ]at h5;exact h5
def abJ (k:kd)(id:Int):Option kd:=if eP k=true/\(hP (λp:aE=>p.id) id k.parts).isSome=true then o_ {k with parts:=abI id k.parts k.eC}else n_
def acv {k:kd}{id:Int}(h:eP k=false):abJ k id=n_:=if_neg λhh=>by rw[h]at hh;cases hh.1
def acy {k:kd}{id:Int}(h:hP (λp:aE=>p.id) id k.parts=n_):abJ k id=n_:=if_neg λhh=>by rw[h]at hh;cases hh.2
def acw {k:kd}{id:Int}{p:aE}(h:eP k=true)(hp:hP (λp:aE=>p.id) id k.parts=o_ p):abJ k id=o_ {k with parts:=abI id k.parts k.eC}:=if_pos ⟨h,by rw[hp];rfl⟩
def ab2 {k:kd}(h:eP k=true):∀p∈k.parts,∀q∈p.ai,dj q=true:=λp hp q hq=>(cK (Ww h p hp).ai q hq).2
def ab1 {k:kd}(h:eP k=true):∀c∈k.eC,pa k.parts c=true:=by
 simp only[eP,J7]at h;exact acM h.2
structure KZK (w:w_)(k:eA)(W:w_):Prop where
 ks:dr w w.heap.size k W
 I:W.heap[w.heap.size+1]? =o_ (c_ T9 30)
def KZK.below {w W W2:w_}{k:eA}(h:KZK w k W)(hb:B_ W.heap.size W W2):KZK w k W2:=⟨h.ks.below hb,(hb.block _ (J2.1 h.I).1).trans h.I⟩
def KZK.first {w:w_}{k:eA}(h:eA.At w k):KZK w k ((w.alloc (c_ k.row 30)).alloc (c_ T9 30)):=
 ⟨(dr.first h).below ((Kp _ _).alloc (Ki _) _),Kq _ _ _⟩
def acB (k:eA)(id:Int)(g:Nat)(w:w_)(hs:k.pure.Small)(hg:k.vb=o_ ⟨g,0,n_⟩/\g<w.heap.size)(h:eA.At w k):
  k_ J3 8 #[a_ k.row,i_ j_ id] w λe w'=>arT w (abJ k.pure id) e w':=by
 have S:=aA (KZK.first h);have HF:=aA (And.intro hs hg);clear hs hg h
 go_enter func8,ntmps8
 go_upto_region 1 with fail;generalize(w.alloc (c_ k.row 30)).alloc (c_ T9 30)=W0 at*;obtain⟨m0,m1,m2,m3,m4⟩:=S.I.ks.box.cells;have Mb:=FO k g W0 (Ug HF.I.1) ⟨HF.I.2.1,Zfc⟩ S.I.ks.MT;go_wp2_with fail;clear m0 m1 m2 m3 m4;refine Mb.mono ?_;clear Mb;rintro e W1 ⟨rfl,hb1⟩;replace S:=aA (S.I.below hb1);clear hb1;cases hk:eP k.pure
 .have HN:da (abJ k.pure id=n_):=acv hk
  clear hk;exact ZaL
 have HK:=aA hk;clear hk;obtain⟨m0,m1,m2,m3,m4⟩:=S.I.ks.box.cells;have Mb:=Ua k id W1 (Ug HF.I.1).sC S.I.ks.MT;go_wp2_with fail;clear m0 m1 m2 m3 m4;refine Mb.mono ?_;clear Mb;rintro e W2 ⟨rfl,hb1⟩;replace S:=aA (S.I.below hb1);clear hb1;rcases ua (num:=λp:af=>p.id) id k.parts 0 with⟨h1,h2⟩|⟨n,x,h1,hx,-,h2⟩
 .have HN:da (abJ k.pure id=n_):=acy (by show hP (λp:aE=>p.id) id (k.parts.map (·.pure))=n_;rw[WJ,h2];rfl)
  rw[h1];clear h1 h2;exact ZaL
 have HN:da (abJ k.pure id=o_ {k.pure with parts:=abI id k.pure.parts k.pure.eC}):=acw HK.I (p:=x.pure) (by show hP (λp:aE=>p.id) id (k.parts.map (·.pure))=_;rw[WJ,h2];rfl);rw[h1];have i0:¬((0+n:Nat):Int)<0:=zw
 clear h1 h2 hx;obtain⟨m0,m1,m2,m3,m4⟩:=S.I.ks.box.cells;have Mb:=aaz k W2 (Ug HF.I.1) S.I.ks.MT;go_wp2_with fail;clear m0 m1 m2 m3 m4 i0;refine Mb.mono ?_;clear Mb;rintro e W3 ⟨k3,g3,rfl,Bn,wu,-,hb3⟩;have HO:da (gp W3 W2.heap.size k3/\k3.pure=k.pure/\W2.heap.size<=W3.heap.size/\w.heap.size+1<W2.heap.size):=⟨Bn,wu,hb3.size,(J2.1 S.I.I).1⟩
 replace S:=aA (S.I.below hb3);clear Bn wu hb3;have Mb:=acP k3 id W2.heap.size W3 (by rw[HO.I.2.1];exact HF.I.1) (by rw[HO.I.2.1,show k3.eC=k.pure.eC from congrArg kd.eC HO.I.2.1];exact ab1 HK.I) (by rw[HO.I.2.1];exact ab2 HK.I) HO.I.2.2.1 HO.I.1;go_wp2_with fail;refine Mb.mono ?_;clear Mb;rintro e W4 ⟨l,rfl,hL,hpl,hcr⟩;have HL:da (abx W3 W2.heap.size k3 l [] W4/\l.map (·.pure)=abI id k.pure.parts k.pure.eC):=⟨hL,by rw[hpl,HO.I.2.1,show k3.eC=k.pure.eC from congrArg kd.eC HO.I.2.1]⟩
 have hlow:∀b∈k3.Mc,W2.heap.size<=b:=λb hb=>(HO.I.1.lt hb).1
 have hsz:=HO.I.2.2;have HW4:da (W4.heap[w.heap.size+1]? =o_ (c_ T9 30)/\B_ w.heap.size w W4):=⟨(hL.kept.same _ zw λhm=>ZdG).trans S.I.I,S.I.ks.low.trans (hL.kept.below S.I.ks.low.size λb hb=>by have:=hlow b hb;omega)⟩
 clear hL hpl hcr hlow hsz;go_wp2_with(refine stK 4 19 k3.row HW4.I.1 ?_);refine aaf results8 (b_ true) HW4.I.1 ?_;rw[HN.I];have hsz:=HO.I.2.2;refine⟨k3.wp l,by rw[HL.I.1.row];rfl,(HL.I.1.own.lower zw).same λb hb=>KH _ _ _ _ ZfE,?_,q_ HW4.I.2 zw _⟩
 show kd.mk k3.bE k3.major k3.fn (l.map (·.pure)) k3.eC=kd.mk k.pure.bE k.pure.major k.pure.fn (abI id k.pure.parts k.pure.eC) k.pure.eC
 rw[HL.I.2,<-HO.I.2.1];rfl
end
section
attribute [local go_sem ↓] Kc Kd
structure Y9 (W:w_)(b:Nat)(k:eA)(u:kd)(g:Nat):Prop where
 own:gp W b k
 pure:k.pure=u
 win:k.vb=o_ ⟨g,0,n_⟩
 lt:g<W.heap.size
section
variable {p:af}{k:eA}{u:kd}{w W U V:w_}{B X b g:Nat}{bs:List Nat}
def Y9.below (h:Y9 U b k u g)(hb:B_ U.heap.size U V):Y9 V b k u g:=⟨h.own.below hb,h.pure,h.win,by have:=hb.size;have:=h.lt;omega⟩
def Wj.kept (h:Wj U X b k)(hk:aI U V bs)(hs:X∉bs)(ho:∀g∈k.Mc,g∉bs):Wj V X b k:=⟨(hk.same _ (J2.1 h.1).1 hs).trans h.1,h.2.same λg hg=>hk.same g (h.2.lt hg).2 (ho g hg)⟩
end
def aam:ZG.Small:=⟨Ky _,Ky _,Ky _,(λj=>by simp[ZG,sz]),(λx hx=>Zcl),(λx hx=>Zcl)⟩
end
section
def adx {l:List dS}(h:∀q∈l,q.Ma.length<=5):g9 (λx:dS=>x.Ma.length) l<=5*l.length:=by
 induction l with
 |nil=>simp[g9]
 |cons x r ih=>
  have h1:=h x zy;have h2:=ih λq hq=>h q (by simp[hq])
  simp only[g9,Lt,aeA,List.length_cons]at h2⊢;omega
def acZ {p p0:aE}(e:abQ p0=abQ p)(h:∀q∈p.ai,dj q=true):p.total<=6*p0.total:=by
 have e1:p.L8=p0.L8:=(congrArg aE.L8 e).symm;have e2:p.aj=p0.aj:=(congrArg aE.aj e).symm;have e3:p.L9=p0.L9:=(congrArg aE.L9 e).symm;have e4:p.ag=p0.ag:=(congrArg aE.ag e).symm;have e5:p.ae=p0.ae:=(congrArg aE.ae e).symm;have e6:p.ai.map abL=p0.ai.map abL:=(congrArg aE.ai e).symm;have e7:p.ai.length=p0.ai.length:=Ze5
 have h5:=adx (l:=p.ai) λq hq=>by have h6:=abT (h q hq);omega
 unfold aE.total;rw[e1,e2,e3,e4,e5];omega
def ach:∀{l l0:List aE},l.map abQ=l0.map abQ->(∀p∈l,∀q∈p.ai,dj q=true)->g9 aE.total l<=6*g9 aE.total l0
 |[],[],_,_=>by simp[g9]
 |[],y::r,h,_=>Zd2
 |x::r,[],h,_=>Zd2
 |x::r,y::t,h,hq=>by
  rw[Lt,Lt,List.cons.injEq]at h;have h1:=acZ h.1.symm (hq x zy);have h2:=ach h.2 λp hp=>hq p ZeC
  simp only[g9,Lt,aeA]at h1 h2⊢;omega
def acO {k:kd}{id:Int}(h:k.Small):((abJ k id).getD ZG).Small/\((abJ k id).getD ZG).total<=7*k.total:=by
 unfold abJ
 split
 .rename_i hk
  have hc:abz k.parts (abI id k.parts k.eC):=abz.all (abz.refl (ab2 hk.1)) (ab1 hk.1);refine⟨ac0 h hc,?_⟩;have h5:=ach hc.acE hc.right;have h6:(abI id k.parts k.eC).length=k.parts.length:=ZeT
  show kd.total {k with parts:=abI id k.parts k.eC}<=_
  simp only[kd.total];rw[h6];omega
 .exact ⟨aam,by show ZG.total<=_;exact LG (by decide) (Ky _)⟩
end
end Go.Proofs.YtckenjkcmajicaaGreat
