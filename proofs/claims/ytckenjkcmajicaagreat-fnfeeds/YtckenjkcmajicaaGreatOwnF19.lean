/- What the proof leans on, part 19. -/
import Derived.Test.YtckenjkcmajicaaGreatOwnF15
import Derived.Test.YtckenjkcmajicaaGreatOwnF16
import Derived.Test.YtckenjkcmajicaaGreatOwnF17
set_option linter.all false
set_option maxRecDepth 100000
set_option maxHeartbeats 8000000
open Go.Proofs.Tryz
open Go renaming World->w_,Value->v_,Calls->k_,Addr->d_,TypeId->T_
open Go.Ending renaming returned->r_
open Go.IntKind renaming i64->j_
open Go.Obj renaming cells->c_
open Go.RowKit renaming Below->B_,Hid->bN
open Go.Value renaming int->i_,slice->s_,bool->b_,string->t_,agg->a_,pointer->p_,tuple->u_
open Option renaming some->o_,none->n_
open Function renaming comp_def->Ls
open Go renaming wp_at_succ->Kd,wp_at_zero->Kc
open Go.Deep renaming blk_setCell_other->ac5
open Go.Proofs.Tryz renaming prog->J3
open List renaming find?_map->aeu,flatMap_cons->aez,getElem?_cons_succ->QC,getElem?_cons_zero->QI,length_nil->K4,length_singleton->adg,nil_append->Ll

open Go.RowKit
namespace Go.Proofs.YtckenjkcmajicaaGreat
section
open Go.Maps
attribute [local go_sem ↓] Kc Kd
def WJ (l:List af) (id:Int):hP (fun p:aE=>p.id) id (l.map (·.pure))=(hP (fun p:af=>p.id) id l).map (·.pure):=by
 unfold hP;rw [aeu];rfl
structure VW (w:w_) (k:eA) (W:w_):Prop where
 ks:dr w w.heap.size k W
 I:W.heap[w.heap.size+1]? =o_ (c_ ar 46)
def VW.below {w W W2:w_} {k:eA} (h:VW w k W) (hb:B_ W.heap.size W W2):VW w k W2:=⟨h.ks.below hb,(hb.block _ (J2.1 h.I).1).trans h.I⟩
def VW.first {w:w_} {k:eA} (h:eA.At w k):VW w k ((w.alloc (c_ k.row 30)).alloc (c_ ar 46)):=
 ⟨(dr.first h).below ((Kp _ _).alloc (Ki _) _),Kq _ _ _⟩
def Ww {k:kd} (h:eP k=true): ∀ p∈k.parts,aQ p:=by
 simp only [eP,J7] at h;have key: ∀ (l:List aE) (last:Int),aw (·.id) bK last l=true-> ∀ p∈l,aQ p:=by
  intro l
  induction l with
  | nil=>intro _ _ p hp; cases hp
  | cons x r ih=>
   intro last h p hp;simp only [aw,J7] at h;rcases Kt.1 hp with rfl | hp
   .exact (ch _).1 h.1.2
   .exact ih _ h.2 p hp
 exact key _ _ h.1.2
def kd.put (k:kd) (n:Nat) (p:aE):kd:= { k with parts:=k.parts.set n p }
def ZG:kd:=⟨0,0,[],[],[]⟩
def KRes (w:w_) (r:Option kd) (e:Ending) (w':w_):Prop:= ∃ q:eA,e=r_ (u_ #[a_ q.row,b_ r.isSome])/\gp w' w.heap.size q/\q.pure=r.getD ZG/\B_ w.heap.size w w'
def Zv {w w':w_} {r:Option kd} (h:r=n_) (hb:B_ w.heap.size w w'):KRes w r (r_ (u_ #[a_ T9,b_ false])) w':=by
 subst h;exact ⟨⟨0,0,[],n_,0,[],n_,0,[],n_,0⟩,rfl,⟨Ke _ _ _ _,Ke _ _ _ _,Ke _ _ _ _,(fun p hp=>by cases hp),by simp [blk]⟩,rfl,hb⟩
section
variable {ops:Array Oper} {Q:Exit->Act->w_->Prop} {o:Oper} {rest:List Oper} {a:Act} {w:w_} {old:Array v_} {Zb:Func} {R:Ending->w_->Prop} {p u:Tmp}
def stK (n m:Nat) {g:Nat} (cs:Array v_) (hg:w.heap[g]? =o_ (c_ old 30)) (h:wpList J3 ops Q rest (a.put o.dst undef) (w.setRow g cs)) (hgd:o.guard=n_:=by exact rfl) (ho:o.op= .store 30 (.tmp n) (.tmp m):=by exact rfl)
  (hx:a.eval (.tmp n)=p_ (o_ ⟨g,0,n_⟩):=by exact rfl) (hy:a.eval (.tmp m)=a_ cs:=by exact rfl) (hi:(Tryz.prog.info? 30).map (·.size)=o_ cs.size:=by kernel_rfl) (hs:old.size=cs.size:=by exact rfl) (h1:cs.all (·.oneCell')=true:=by kernel_rfl):wpList J3 ops Q (o :: rest) a w:=
 wpList_store_row hgd 30 (.tmp n) (.tmp m) ho g _ old cs hx hy hg hi hs h1 h
def aaf (hr:Zb.results= #[.cell p 30,.tmp u]) {g:Nat} {cs:Array v_} (v:v_) (hg:w.heap[g]? =o_ (c_ old 30)) (h:R (r_ (u_ #[a_ cs,v])) (w.setRow g cs)) (hp:a.tmps.getD p undef=p_ (o_ ⟨g,0,n_⟩):=by rfl) (hv:a.tmps.getD u undef=v:=by exact rfl) (hd:a.defers= [] :=by exact rfl)
  (hi:(Tryz.prog.info? 30).map (·.size)=o_ cs.size:=by kernel_rfl):bodyPost J3 Zb R .ret a (w.setRow g cs):=
 KT (v:=u_ #[a_ cs,v]) (by rw [<- hv]; exact bL hr _ _ g _ _ _ _ hp (KU _ _ _ _ _ _ hg) underlying30 rfl hi) hd h
end
def Zz {w:w_} {bi n cap:Nat} {a:Option d_} {l:List af} {x:af} (y:af) (h:w.ownsRow bi 46 8 (s_ a l.length cap) l.length (kp.flat l)) (hx:l[n]? =o_ x):
  ∃ g,a=o_ ⟨g,0,n_⟩/\bi<=g/\g < w.heap.size/\w.there g (n * 8) 8/\(bn w g (n * 8) (kp.vals y)).ownsRow bi 46 8 (s_ a l.length cap) l.length (kp.flat (l.set n y)):=by
 have hn:n < l.length:=(Lj.1 hx).1;obtain ⟨g,rfl,hrow⟩:=bl.fX (K:=kp) h zw;have hg:=hrow.lt;have hset:l.set n y=l.take n ++ y :: l.drop (n+1):=by rw [RJ,if_pos hn]
 have hl:(l.take n).length=n:=by rw [Lk]; omega
 have hbase:bi<=g:=by obtain ⟨cur,-,hb,-⟩:=hrow; exact hb
 refine ⟨g,rfl,hbase,hg,fun r hr=>⟨by have h5:=(hrow.cell hx hr).1; rw [show n * 8+r=n * kp.n+r from rfl,h5,Kz (by show r < 8; exact hr)]; rfl,(hrow.cell hx hr).2⟩,?_⟩;rw [kL hx] at hrow;have h5:=bl.part (K:=kp) (x:=x) (y:=y) (j:=0) (vs:=kp.vals y) hrow (by show 0+8<=8; omega) (fun r _=>by rw [Li]) (fun r hr h6=>absurd ⟨Ky _,by show r < 0+8; have:r < 8:=hr; omega⟩ h6);rw [hl,<- hset] at h5;have h6:=h5.owns;rw [LI] at h6;exact h6
def eA.put (k:eA) (n:Nat) (p:af) (a:Option d_) (c:Nat):eA:= { k with parts:=k.parts.set n p,qn:=a,sa:=c }
def aai {k:eA} {n:Nat} {p:af} {a:Option d_} {c:Nat} :(k.put n p a c).pure=k.pure.put n p.pure:=by
 simp [eA.pure,eA.put,kd.put,PN]
def aaJ {k:eA} {n:Nat} {p:af} {a:Option d_} {c:Nat} :(k.put n p a c).row= #[i_ j_ k.bj,i_ j_ k.major,s_ k.vb k.fn.length k.Te,s_ a k.parts.length c,s_ k.qi k.eC.length k.tC] :=by
 simp [eA.row,eA.put]
def Hl {l:List af} {n:Nat} {p:af} {g:Nat} (h:g∈(l.set n p).flatMap af.Mc):g∈l.flatMap af.Mc\/g∈p.Mc:=by
 obtain ⟨q,hq,hg⟩:=Rt.1 h;rcases PO hq with h5 | h5
 .exact .inl (Rt.2 ⟨q,h5,hg⟩)
 .rw [h5] at hg; exact .inr hg
def Z9: ∀ {l:List af} {n:Nat} {p:af},(l.flatMap af.Mc).Nodup->p.Mc.Nodup->(∀ g∈p.Mc,g∉l.flatMap af.Mc)->((l.set n p).flatMap af.Mc).Nodup
 | [],n,p,h,_,_=>by simp
 | x :: r,0,p,h,hp,hd=>by
  simp only [List.set_cons_zero,aez] at h hd ⊢;have h1:=Kf.1 h;exact Kf.2 ⟨hp,h1.2.1,fun a ha b hb e=>hd a ha (Ly _ (by rw [e]; exact hb))⟩
 | x :: r,n+1,p,h,hp,hd=>by
  simp only [List.set_cons_succ,aez] at h hd ⊢;have h1:=Kf.1 h;refine Kf.2 ⟨h1.1,Z9 h1.2.1 hp (fun g hg hm=>hd g hg (Ly _ hm)),fun a ha b hb e=> ?_⟩;subst e;rcases Hl hb with h5 | h5
  .exact h1.2.2 a ha a h5 rfl
  .exact hd a h5 (Lz _ ha)
def gp.put {w:w_} {bi n g:Nat} {k:eA} {x y:af} (h:gp w bi k) (hx:k.parts[n]? =o_ x) (ha:k.qn=o_ ⟨g,0,n_⟩) (hy:ap w bi y) (hd: ∀ b∈y.Mc,b∉k.Mc):
  gp (bn w g (n * 8) (kp.vals y)) bi (k.put n y k.qn k.sa):=by
 obtain ⟨g',ha',hb,hl,-,hown⟩:=Zz y h.parts hx;rw [ha] at ha';cases ha';have hap:=h.apart;have bR:g∈blk k.qn:=by rw [ha]; simp [blk]
 have hot: ∀ q,q≠g->(bn w g (n * 8) (kp.vals y)).heap[q]? =w.heap[q]? :=fun q hq=>de _ hq
 have hg: ∀ p∈k.parts,∀ q∈p.Mc,q≠g:=fun p hp q hq e=>(hap.2.1 g bR).2 (Rt.2 ⟨p,hp,e ▸ hq⟩)
 have hyg: ∀ q∈y.Mc,q≠g:=fun q hq e=>hd q hq (by subst e; exact Ly _ (Lz _ bR))
 have hnd:=h.nodup;have n1:=Kf.1 hnd;have n2:=Kf.1 n1.2.1;have n3:=Kf.1 n2.2.1;have hdf: ∀ b∈y.Mc,b∉k.parts.flatMap af.Mc:=fun b hb hm=>hd b hb (Ly _ (Ly _ (Ly _ hm)))
 refine ⟨aL h.fn fun q hq=>hot q (fun e=>(hap.1 q hq).1 (e ▸ bR)),by simpa [eA.put] using hown,aL h.eC fun q hq=>hot q (fun e=>(hap.2.1 g bR).1 (e ▸ hq)),fun p hp=> ?_,?_⟩
 .rcases PO hp with h5 | h5
  .exact (h.mine p h5).same fun q hq=>hot q (hg p h5 q hq)
  .rw [h5]
   exact hy.same fun q hq=>hot q (hyg q hq)
 .show (blk k.vb ++ (blk k.qn ++ (blk k.qi ++ (k.parts.set n y).flatMap af.Mc))).Nodup
  refine Kf.2 ⟨n1.1,Kf.2 ⟨n2.1,Kf.2 ⟨n3.1,Z9 n3.2.1 hy.nodup hdf,fun a ha b hb e=> ?_⟩,fun a ha b hb e=> ?_⟩,fun a ha b hb e=> ?_⟩
  .subst e
   rcases Hl hb with h5 | h5
   .exact n3.2.2 a ha a h5 rfl
   .exact hd a h5 (Ly _ (Ly _ (Lz _ ha)))
  .subst e
   rcases Kg.1 hb with h5 | h5
   .exact n2.2.2 a ha a (Lz _ h5) rfl
   .rcases Hl h5 with h5 | h5
    .exact n2.2.2 a ha a (Ly _ h5) rfl
    .exact hd a h5 (Ly _ (Lz _ ha))
  .subst e
   rcases Kg.1 hb with h5 | h5
   .exact n1.2.2 a ha a (Lz _ h5) rfl
   .rcases Kg.1 h5 with h5 | h5
    .exact n1.2.2 a ha a (Ly _ (Lz _ h5)) rfl
    .rcases Hl h5 with h5 | h5
     .exact n1.2.2 a ha a (Ly _ (Ly _ h5)) rfl
     .exact hd a h5 (Lz _ ha)
def gp.same {w w':w_} {bi:Nat} {k:eA} (h:gp w bi k) (hs: ∀ g∈k.Mc,w'.heap[g]? =w.heap[g]?):gp w' bi k:=
 ⟨aL h.fn fun g hg=>hs g (Lz _ hg),aL h.parts fun g hg=>hs g (Ly _ (Lz _ hg)),aL h.eC fun g hg=>hs g (Ly _ (Ly _ (Lz _ hg))),fun p hp=>(h.mine p hp).same fun g hg=>hs g (Ly _ (Ly _ (Ly _ (Rt.2 ⟨p,hp,hg⟩)))),h.nodup⟩
def gp.lower {w:w_} {bi base':Nat} {k:eA} (h:gp w bi k) (hb:base'<=bi):gp w base' k:=
 ⟨cq h.fn hb,cq h.parts hb,cq h.eC hb,fun p hp=>(h.mine p hp).lower hb,h.nodup⟩
structure YW (w:w_) (k:eA) (p:af) (W:w_):Prop where
 ks:dr w w.heap.size k W
 pb:av W (w.heap.size+1) p
 pat:af.At W p
 ret:W.heap[w.heap.size+2]? =o_ (c_ T9 30)
def YW.below {w W W2:w_} {k:eA} {p:af} (h:YW w k p W) (hb:B_ W.heap.size W W2):YW w k p W2:=⟨h.ks.below hb,h.pb.below hb,h.pat.below hb,(hb.block _ (J2.1 h.ret).1).trans h.ret⟩
def YW.first {w:w_} {k:eA} {p:af} (h:eA.At w k) (hp:af.At w p):YW w k p (((w.alloc (c_ k.row 30)).alloc (c_ p.cells 46)).alloc (c_ T9 30)):=by
 have b1:B_ w.heap.size w (w.alloc (c_ k.row 30)):=(Kp _ _).alloc (Ki _) _;have b2:B_ (w.alloc (c_ k.row 30)).heap.size (w.alloc (c_ k.row 30)) ((w.alloc (c_ k.row 30)).alloc (c_ p.cells 46)):=(Kp _ _).alloc (Ki _) _;have b3:B_ ((w.alloc (c_ k.row 30)).alloc (c_ p.cells 46)).heap.size ((w.alloc (c_ k.row 30)).alloc (c_ p.cells 46)) (((w.alloc (c_ k.row 30)).alloc (c_ p.cells 46)).alloc (c_ T9 30)):=(Kp _ _).alloc (Ki _) _;have hx:av ((w.alloc (c_ k.row 30)).alloc (c_ p.cells 46)) (w.heap.size+1) p:=Kq _ _ _;refine ⟨((dr.first h).below b2).below b3,hx.below b3,((hp.below b1).below b2).below b3,?_⟩;have h5:=Kj ((w.alloc (c_ k.row 30)).alloc (c_ p.cells 46)) (c_ T9 30);simpa using h5
end
section
open Go.Maps
def ab9 {α:Type} {num:α->Int} {id:Int} : ∀ {l:List α} {i n:Nat},place (l.map num) id i=((i+n:Nat):Int)-> ∀ y∈l.take n,¬ num y=id
 | [],_,_,_,y,hy=>by simp at hy
 | x :: r,i,0,_,y,hy=>by simp at hy
 | x :: r,i,n+1,h,y,hy=>by
  simp only [Lt,place] at h;by_cases hx:num x=id
  .rw [if_pos hx] at h
   omega
  .rw [if_neg hx] at h
   rw [List.take_succ_cons] at hy;rcases Kt.1 hy with rfl | hy
   .exact hx
   .exact ab9 (i:=i+1) (by rw [h]; congr 1; omega) y hy
section
variable {l:List af} {part port:Int}
def adt {s:dS} (h:endP (l.map (·.pure)) part port=o_ s): ∃ (n:Nat) (q:af) (m:Nat) (x:aM),place (l.map (·.id)) part 0=(n:Int)/\l[n]? =o_ q/\q.id=part/\n0 l part port=(m:Int)/\place (q.ai.map (·.id)) port 0=(m:Int)/\q.ai[m]? =o_ x/\x.todS=s/\x.id=port:=by
 have e:hP (·.id) part (l.map (·.pure))=(hP (·.id) part l).map (·.pure):=by unfold hP; rw [aeu]; rfl
 unfold endP at h;rw [e] at h;unfold n0;rcases ua (num:=fun x:af=>x.id) part l 0 with ⟨-,e2⟩ | ⟨n,p,e1,hp,hid,e2⟩
 .rw [e2] at h; cases h
 .rw [e2] at h ⊢
  have h':hP (·.id) port p.pure.ai=o_ s:=h;have e4:hP (·.id) port p.pure.ai=(hP (·.id) port p.ai).map (·.todS):=by unfold hP af.pure; rw [aeu]; rfl
  rw [e4] at h';rcases ua (num:=fun x:aM=>x.id) port p.ai 0 with ⟨-,h3⟩ | ⟨m,x,h1,h2,hi,h3⟩
  .rw [h3] at h'; cases h'
  .rw [h3] at h'
   rw [Li] at e1 h1;exact ⟨n,p,m,x,e1,hp,hid,h1,h1,h2,KC h',hi⟩
def ade (x:aM) (its:List ByteArray) (a:Option d_) (c:Nat):aM:= { x with Ma:=its,ak:=a,aq:=c }
def abS (q:af) (m:Nat) (x:aM) (its:List ByteArray) (a:Option d_) (c:Nat):af:= { q with ai:=q.ai.set m (ade x its a c) }
def acr {n m:Nat} {q:af} {x:aM} {its:List ByteArray} {a:Option d_} {c:Nat} (hn:place (l.map (·.id)) part 0=(n:Int)) (hq:l[n]? =o_ q) (hid:q.id=part) (hm:place (q.ai.map (·.id)) port 0=(m:Int)) (hx:q.ai[m]? =o_ x) (hxi:x.id=port):
  (l.set n (abS q m x its a c)).map (·.pure)=abK part port its (l.map (·.pure)):=by
 have e1:abK part port its (l.map (·.pure))=(l.map (·.pure)).set n (ab7 port its q.pure):=acp (by rw [Kk,hq]; rfl) (decide_eq_true hid) fun y hy=>by
  rw [<- List.map_take] at hy;obtain ⟨z,hz,rfl⟩:=Lr.1 hy;exact decide_eq_false (ab9 (i:=0) (by rw [Li]; exact hn) z hz)
 have e2:ab7 port its q.pure=(abS q m x its a c).pure:=by
  have e3:abP (fun y:dS=>decide (y.id=port)) (abZ its) q.pure.ai=q.pure.ai.set m (abZ its x.todS):=acp (by show (q.ai.map (·.todS))[m]? =_; rw [Kk,hx]; rfl) (decide_eq_true hxi) fun y hy=>by
   have hy':y∈(q.ai.map (·.todS)).take m:=hy;rw [<- List.map_take] at hy';obtain ⟨z,hz,rfl⟩:=Lr.1 hy';exact decide_eq_false (ab9 (num:=fun z:aM=>z.id) (i:=0) (by rw [Li]; exact hm) z hz)
  unfold ab7;rw [e3];simp [abS,af.pure,PN,ade,abZ]
 rw [e1,e2,PN]
end
def ac1 {q:af} {m:Nat} {x:aM} {its:List ByteArray} {a:Option d_} {c:Nat} :(abS q m x its a c).cells=q.cells:=by
 simp [af.cells,abS]
def acz {P Q Q' R:List Nat} (h:(P ++ (Q ++ R)).Nodup) (hq:Q'.Nodup) (hd: ∀ g∈Q',g∈Q\/(g∉P/\g∉R)):(P ++ (Q' ++ R)).Nodup:=by
 have h1:=Kf.1 h;have h2:=Kf.1 h1.2.1;refine Kf.2 ⟨h1.1,Kf.2 ⟨hq,h2.2.1,fun a ha b hb e=> ?_⟩,fun a ha b hb e=> ?_⟩
 .subst e
  rcases hd a ha with h5 | h5
  .exact h2.2.2 a h5 a hb rfl
  .exact h5.2 hb
 .subst e
  rcases Kg.1 hb with hb | hb
  .rcases hd a hb with h5 | h5
   .exact h1.2.2 a ha a (Lz _ h5) rfl
   .exact h5.1 ha
  .exact h1.2.2 a ha a (Ly _ hb) rfl
def gp.turnAt {w W:w_} {bi n:Nat} {k:eA} {q q2:af} (h:gp w bi k) (hx:k.parts[n]? =o_ q) (ht:yr w bi q q2 W) (hc:q2.cells=q.cells):
  gp W bi { k with parts:=k.parts.set n q2 } /\(∀ g∈eA.Mc { k with parts:=k.parts.set n q2 },g∈k.Mc\/w.heap.size<=g)/\aI w W k.Mc:=by
 have hn:n < k.parts.length:=(Lj.1 hx).1;have hsp:=kL hx;have hset:k.parts.set n q2=k.parts.take n ++ q2 :: k.parts.drop (n+1):=by rw [RJ,if_pos hn]
 obtain ⟨P,hPx⟩: ∃ P,P=blk k.vb ++ (blk k.qn ++ (blk k.qi ++ (k.parts.take n).flatMap af.Mc)):=⟨_,rfl⟩
 obtain ⟨R,hR⟩: ∃ R,R=(k.parts.drop (n+1)).flatMap af.Mc:=⟨_,rfl⟩
 have e1:k.Mc=P ++ (q.Mc ++ R):=by
  unfold eA.Mc;rw [hPx,hR]
  conv=>lhs; rw [hsp]
  simp [Lm]
 have e2:eA.Mc { k with parts:=k.parts.set n q2 } =P ++ (q2.Mc ++ R):=by
  unfold eA.Mc;rw [hPx,hR];simp only [hset];simp [Lm]
 have hnd:(P ++ (q.Mc ++ R)).Nodup:=by rw [<- e1]; exact h.nodup
 have n1:=Kf.1 hnd;have n2:=Kf.1 n1.2.1;have hlt: ∀ g,g∈P\/g∈R->g < w.heap.size/\g∉q.Mc:=fun g hg=>by
  have hm:g∈k.Mc:=by
   exact ZaO
  refine ⟨(h.lt hm).2,fun hq=> ?_⟩;rcases hg with hg | hg
  .exact n1.2.2 g hg g (Lz _ hq) rfl
  .exact n2.2.2 g hq g hg rfl
 have hs: ∀ g,g∈P\/g∈R->W.heap[g]? =w.heap[g]? :=fun g hg=>ht.kept.same g (hlt g hg).1 (hlt g hg).2
 have inP: ∀ g,g∈blk k.vb\/g∈blk k.qn\/g∈blk k.qi\/g∈(k.parts.take n).flatMap af.Mc->g∈P:=fun g hg=>by rw [hPx]; simp only [Kg]; exact hg
 have abF:kp.flat (k.parts.set n q2)=kp.flat k.parts:=by
  rw [hset]
  conv=>rhs; rw [hsp]
  have:kp.vals q2=kp.vals q:=by show q2.cells.toList=q.cells.toList; rw [hc]
  simp [Kind.flat,this]
 refine ⟨⟨aL h.fn fun g hg=>hs g (.inl (inP g (.inl hg))),?_,aL h.eC fun g hg=>hs g (.inl (inP g (.inr (.inr (.inl hg))))),fun p hp=> ?_,?_⟩,fun g hg=> ?_,ht.kept.mono fun g hg=>by rw [e1]; exact Ly _ (Lz _ hg)⟩
 .show W.ownsRow bi _ 8 (s_ k.qn (k.parts.set n q2).length k.sa) (k.parts.set n q2).length (kp.flat (k.parts.set n q2))
  rw [LI,abF];exact aL h.parts fun g hg=>hs g (.inl (inP g (.inr (.inl hg))))
 .have hp':p∈k.parts.take n ++ q2 :: k.parts.drop (n+1):=by rw [<- hset]; exact hp
  rcases Kg.1 hp' with h5 | h5
  .exact (h.mine p (RK h5)).same fun g hg=>hs g (.inl (inP g (.inr (.inr (.inr (Rt.2 ⟨p,h5,hg⟩))))))
  .rcases Kt.1 h5 with rfl | h5
   .exact ht.own
   .exact (h.mine p (RL h5)).same fun g hg=>hs g (.inr (by rw [hR]; exact Rt.2 ⟨p,h5,hg⟩))
 .show (eA.Mc { k with parts:=k.parts.set n q2 }).Nodup
  rw [e2];refine acz hnd ht.own.nodup fun g hg=> ?_
  rcases ht.far g hg with h5 | h5
  .exact .inl h5
  .exact .inr ⟨fun hp=>by have:=(hlt g (.inl hp)).1; omega,fun hp=>by have:=(hlt g (.inr hp)).1; omega⟩
 .rw [e2] at hg
  rw [e1];simp only [Kg] at hg ⊢;rcases hg with hg | hg | hg
  .exact .inl (.inl hg)
  .exact (ht.far g hg).imp_left fun h5=> .inr (.inl h5)
  .exact .inl (.inr (.inr hg))
abbrev eA.wp (k:eA) (l:List af):eA:= { k with parts:=l }
structure abx (w:w_) (bi:Nat) (k:eA) (l:List af) (B:List (Nat × Array v_ × T_)) (W:w_):Prop where
 own:gp W bi (k.wp l)
 len:l.length=k.parts.length
 kept:aI w W k.Mc
 lo: ∀ g∈k.Mc,g < w.heap.size
 far: ∀ g∈(k.wp l).Mc,g∈k.Mc\/w.heap.size<=g
 box: ∀ x∈B,W.heap[x.1]? =o_ (c_ x.2.1 x.2.2)/\x.1∉(k.wp l).Mc
section
variable {w W V:w_} {bi n m gs c:Nat} {k:eA} {l:List af} {B:List (Nat × Array v_ × T_)} {q q2:af} {x:aM} {its:List ByteArray} {a:Option d_}
def abx.below (h:abx w bi k l B W) (hb:B_ W.heap.size W V):abx w bi k l B V:=
 ⟨h.own.below hb,h.len,h.kept.trans (.dI hb),h.lo,h.far,fun x hx=>⟨(hb.block _ (J2.1 (h.box x hx).1).1).trans (h.box x hx).1,(h.box x hx).2⟩⟩
def abx.put (h:abx w bi k l B W) (cs:Array v_) (T:T_):abx w bi k l ((W.heap.size,cs,T) :: B) (W.alloc (c_ cs T)):=by
 have h2:=h.below ((Kp _ _).alloc (Ki _) (c_ cs T));refine ⟨h2.own,h2.len,h2.kept,h2.lo,h2.far,fun x hx=> ?_⟩;rcases Kt.1 hx with rfl | hx
 .exact ⟨Kj _ _,fun hm=>by have:=(h.own.lt hm).2; omega⟩
 .exact h2.box x hx
def abx.less {B':List (Nat × Array v_ × T_)} (h:abx w bi k l B W) (hs: ∀ x∈B',x∈B):abx w bi k l B' W:=⟨h.own,h.len,h.kept,h.lo,h.far,fun x hx=>h.box x (hs x hx)⟩
def abx.row (h:abx w bi k l B W):(k.wp l).row=k.row:=by simp [eA.row,h.len]
def abx.ju (h:abx w bi k l B W) (hx:l[n]? =o_ q) (ht:yr W bi q q2 V) (hc:q2.cells=q.cells):abx w bi k (l.set n q2) B V:=by
 obtain ⟨h1,h2,h3⟩:=h.own.turnAt hx ht hc;have hsz:=h.kept.size;refine ⟨h1,by rw [LI]; exact h.len,⟨h3.os.trans h.kept.os,h3.tape.trans h.kept.tape,h3.output.trans h.kept.output,LG hsz h3.size,fun g hg hn=> ?_⟩,h.lo,fun g hg=> ?_,fun y hy=> ?_⟩
 .refine (h3.same g zw fun hm=> ?_).trans (h.kept.same g hg hn)
  rcases h.far g hm with h5 | h5
  .exact hn h5
  .omega
 .rcases h2 g hg with h5 | h5
  .exact h.far g h5
  .exact .inr zw
 .obtain ⟨b1,b2⟩:=h.box y hy
  have hlt:=(J2.1 b1).1;refine ⟨(h3.same _ hlt b2).trans b1,fun hm=> ?_⟩;rcases h2 _ hm with h5 | h5
  .exact b2 h5
  .omega
def abx.Ma (h:abx w bi k l B W) (hb:B_ W.heap.size W V) (hq:l[n]? =o_ q) (hx:q.ai[m]? =o_ x) (ha:q.aK=o_ ⟨gs,0,n_⟩) (ho:V.ownsRow bi 9 1 (s_ a its.length c) its.length (bT.flat its)) (hf: ∀ g∈blk a,W.heap.size<=g):
  abx w bi k (l.set n (abS q m x its a c)) B (V.setCell ⟨gs,m * 5+4,n_⟩ (s_ a its.length c))/\(∃ u,V.cell? ⟨gs,m * 5+4,n_⟩=o_ u)/\V.frozen? ⟨gs,m * 5+4,n_⟩=false:=by
 obtain ⟨h1,h2,h3⟩:=pg (h.own.mine q (KA hq)) (aI.dI hb) hx ha ho (fun g hg=> .inr (hf g hg));exact ⟨h.ju hq h1 ac1,h2,h3⟩
def abV (h:gp W bi (k.wp l)) (hq:l[n]? =o_ q) (hx:q.ai[m]? =o_ x): ∃ aaB gs,k.qn=o_ ⟨aaB,0,n_⟩/\q.aK=o_ ⟨gs,0,n_⟩/\W.cell? ⟨aaB,n * 8+7,n_⟩=o_ (s_ (o_ ⟨gs,0,n_⟩) q.ai.length q.aV)/\aM.At W gs m x/\Row W x.ak (bT.flat x.Ma)/\aaB∈(k.wp l).Mc/\gs∈(k.wp l).Mc/\aaB≠gs:=by
 obtain ⟨aaB,h1,⟨-,-,-,-,-,-,-,c7⟩,hat⟩:=ic (l:=l) h.at.parts hq;obtain ⟨gs,h2,h3⟩:=lm hat.2.2.2.2.2 hx;rw [h2] at c7;have m1:aaB∈blk k.qn:=by rw [show k.qn=_ from h1]; simp [blk]
 have m2:gs∈l.flatMap af.Mc:=Rt.2 ⟨q,KA hq,by unfold af.Mc; rw [h2]; simp [blk]⟩;refine ⟨aaB,gs,h1,h2,c7,h3,nJ hat.2.2.2.2.2 hx,Ly _ (Lz _ m1),Ly _ (Ly _ (Ly _ m2)),fun e=> ?_⟩;exact (h.apart.2.1 aaB m1).2 (e ▸ m2)
end
def adu {W:w_} {bi j:Nat} {q:af} {x:aM} (h:ap W bi q) (hx:q.ai[j]? =o_ x):x.Ma.length<=x.aq:=by
 have h5:W.ownsRow bi 9 1 (s_ x.ak x.Ma.length x.aq) x.Ma.length (bT.flat x.Ma):=h.eR x (KA hx);rcases h5.2 with ⟨h6,h7⟩ | ⟨g,cap,cur,h6,-,-,h7,-⟩
 .rw [h7]; exact Ky _
 .simp only [LD] at h6; rw [h6.2.2]; exact h7
def set_id {l:List af} {n m:Nat} {q:af} {x:aM} {its:List ByteArray} {a:Option d_} {c:Nat} (h:l[n]? =o_ q):(l.map (·.id)).set n (abS q m x its a c).id=l.map (·.id):=by
 have hn:n < (l.map (·.id)).length:=by rw [KG]; exact (Lj.1 h).1
 have h1:(l.map (·.id))[n] =q.id:=by
  have h2:(l.map (·.id))[n]? =o_ q.id:=by rw [Kk,h]; rfl
  rw [Kz hn] at h2;exact KC h2
 show (l.map (·.id)).set n q.id=_
 rw [<- h1];exact List.set_getElem_self hn
def ada {α:Type} {f:α->List Nat} : ∀ {l:List α} {i j:Nat} {x y:α} {g:Nat},(l.flatMap f).Nodup->l[i]? =o_ x->l[j]? =o_ y->i≠j->g∈f x->g∈f y->False
 | [],i,_,_,_,_,_,h,_,_,_,_=>by simp at h
 | z :: r,0,0,_,_,_,_,_,_,hn,_,_=>hn rfl
 | z :: r,0,j+1,x,y,g,h,hx,hy,_,h1,h2=>by
  simp only [QI,LF] at hx;subst hx;simp only [QC] at hy;rw [aez] at h;exact (Kf.1 h).2.2 g h1 g (Rt.2 ⟨y,KA hy,h2⟩) rfl
 | z :: r,i+1,0,x,y,g,h,hx,hy,_,h1,h2=>by
  simp only [QI,LF] at hy;subst hy;simp only [QC] at hx;rw [aez] at h;exact (Kf.1 h).2.2 g h2 g (Rt.2 ⟨x,KA hx,h1⟩) rfl
 | z :: r,i+1,j+1,x,y,g,h,hx,hy,hn,h1,h2=>by
  simp only [QC] at hx hy;rw [aez] at h;exact ada (Kf.1 h).2.1 hx hy (fun e=>hn (by rw [e])) h1 h2
def adv {W:w_} {bi:Nat} {k:eA} (h:gp W bi k):(k.parts.flatMap af.Mc).Nodup:=
 (Kf.1 (Kf.1 (Kf.1 h.nodup).2.1).2.1).2.1
def adA {q:af} {gs:Nat} (h:q.aK=o_ ⟨gs,0,n_⟩):gs∈q.Mc:=by unfold af.Mc; rw [h]; simp [blk]
def adI {q:af} {j:Nat} {x:aM} {g:Nat} (hx:q.ai[j]? =o_ x) (hg:g∈blk x.ak):g∈q.Mc:=by
 have:g∈q.ai.filterMap aU.bt:=dP.2 ⟨x,KA hx,fZ.1 hg⟩
 simp only [af.Mc,Kg];exact .inr (.inr (.inr (.inr (.inr (.inr (.inr (.inr this)))))))
def adL {W:w_} {bi n1 n2 j gs:Nat} {k:eA} {l:List af} {q1 q2:af} {x:aM} (h:gp W bi (k.wp l)) (h1:l[n1]? =o_ q1) (h2:l[n2]? =o_ q2) (hn:n1≠n2) (hx:q1.ai[j]? =o_ x) (hg:gs∈blk x.ak) (ha:q2.aK=o_ ⟨gs,0,n_⟩):False:=
 ada (l:=l) (adv h) h1 h2 hn (adI hx hg) (adA ha)
section
variable {k:kd} {ps:List aE}
def ac0 (h:k.Small) (hc:abz k.parts ps):kd.Small { k with parts:=ps } :=by
 have hlen:ps.length=k.parts.length:=by have:=congrArg List.length hc.acE; simpa using this
 refine ⟨h.Ts,by show ps.length<=_; rw [hlen]; exact h.sC,h.w8,h.win,fun p hp=> ?_,h.eC⟩;have hm:abQ p∈k.parts.map abQ:=by rw [<- hc.acE]; exact Lr.2 ⟨p,hp,rfl⟩
 obtain ⟨p0,hp0,e⟩:=Lr.1 hm;have h0:=h.parts p0 hp0;have e1:p.L8=p0.L8:=(congrArg aE.L8 e).symm;have e2:p.aj=p0.aj:=(congrArg aE.aj e).symm;have e3:p.L9=p0.L9:=(congrArg aE.L9 e).symm;have e4:p.ag=p0.ag:=(congrArg aE.ag e).symm;have e5:p.ae=p0.ae:=(congrArg aE.ae e).symm;have e6:p.ai.map abL=p0.ai.map abL:=(congrArg aE.ai e).symm;have e7:p.ai.length=p0.ai.length:=by have:=congrArg List.length e6; simpa using this
 refine ⟨by rw [e1]; exact h0.dl,by rw [e2]; exact h0.fx,by rw [e3]; exact h0.cD,by rw [e4]; exact h0.cC,by rw [e5]; exact h0.cb,by rw [e7]; exact h0.dH,by rw [e1]; exact h0.L8,by rw [e2]; exact h0.aj,by rw [e3]; exact h0.L9,by rw [e4]; exact h0.ag,by rw [e5]; exact h0.ae,fun x hx=> ?_⟩;have hm:abL x∈p0.ai.map abL:=by rw [<- e6]; exact Lr.2 ⟨x,hx,rfl⟩
 obtain ⟨x0,hx0,e8⟩:=Lr.1 hm;have e9:x.id=x0.id:=(congrArg dS.id e8:(abL x0).id=(abL x).id).symm;have hr:=abT (hc.right p hp x hx);refine ⟨by rw [e9]; exact (h0.ai x0 hx0).1,by have:=hr.2.1; have:=hr.2.2.2.2; omega,fun s hs=> ?_⟩
 have:=hr.2.2.2.1 s hs
 simp only [bw,J7,decide_eq_true_eq] at this;omega
end
end
section
open Go.Maps
attribute [local go_sem ↓] Kc Kd
def adq (w:w_) (bi:Nat) (k:eA) (src:Int) (e:Ending) (W:w_):Prop:= ∃ l:List af,e=r_ (a_ k.row)/\abx w bi k l [] W/\l.map (·.pure)=abI src k.pure.parts k.eC/\abz k.pure.parts (l.map (·.pure))
def abU {w w':w_} {a:d_} {v:v_} (hb:B_ w.heap.size w w') (h:w.cell? a=o_ v):w'.cell? a=o_ v:=(hb.cell (p:=a) (Le h)).trans h
abbrev SqH (w:w_) (k:eA) (aaB n g:Nat) (q:af) (Xs Y8:Nat) (x1 x2:aM) (W':w_):Prop:=Tk W' w.heap.size k/\W'.cell? ⟨aaB,n * 8+7,n_⟩=o_ (s_ (o_ ⟨g,0,n_⟩) q.ai.length q.aV)/\W'.heap[Xs]? =o_ (c_ (cW x1) 51)/\W'.heap[Y8]? =o_ (c_ (cW x2) 51)
abbrev Y6 (w:w_) (k:eA):List (Nat × Array v_ × T_):= [(w.heap.size,k.row,30),(w.heap.size+1,T9,30)]
def ab0 {w W:w_} {bi:Nat} {k:eA} {l:List af} {B:List (Nat × Array v_ × T_)} (h:abx w bi k l (B ++ Y6 w k) W):Tk W w.heap.size k:=(h.box (w.heap.size,k.row,30) zy).1
def adp {w:w_} {bi:Nat} {k:eA} (h:gp w bi k):abx w bi k k.parts (Y6 w k) ((w.alloc (c_ k.row 30)).alloc (c_ T9 30)):=by
 have h0:abx w bi k k.parts [] w:=⟨h,rfl,aI.refl _ _,fun g hg=>(h.lt hg).2,fun g hg=> .inl hg,fun x hx=>by cases hx⟩
 have h1:=(h0.put k.row 30).put T9 30;refine h1.less fun x hx=> ?_
 simp only [Kt,Ku,or_false] at hx ⊢;rcases hx with rfl | rfl
 .exact .inr rfl
 .exact .inl zy
def acP (k:eA) (src:Int) (bi:Nat) (w:w_) (hs:k.pure.Small) (hch: ∀ c∈k.eC,pa k.pure.parts c=true) (hr: ∀ p∈k.pure.parts,∀ q∈p.ai,dj q=true) (lY:bi<=w.heap.size) (ho:gp w bi k):
  k_ J3 23 #[a_ k.row,i_ j_ src] w fun e W=>adq w bi k src e W:=by
 have S:bN (abx w bi k k.parts (Y6 w k) ((w.alloc (c_ k.row 30)).alloc (c_ T9 30))):=adp ho;have HH:=aA (And.intro hs (And.intro hch (And.intro hr lY)));clear hs hch hr lY ho
 go_enter func23,ntmps23
 go_upto_region 1 with fail;generalize (w.alloc (c_ k.row 30)).alloc (c_ T9 30)=W0 at *;go_wp2_with fail
 go_loopw [5] (fun i wr=> ∃ n:Nat,n<=k.eC.length/\i=i_ j_ n/\ ∃ l:List af,bN (abx w bi k l (Y6 w k) wr/\l.map (·.pure)=abI src k.pure.parts (k.eC.take n)/\abz k.pure.parts (l.map (·.pure)))) (fun i _=>k.eC.length - (Go.RowKit.intOf i).toNat)
 case atStart=>exact ⟨0,Ky _,rfl,k.parts,S.I,rfl,abz.refl HH.I.2.2.1⟩
 case round=>
  clear S;obtain ⟨n,hn,rfl,l,S⟩:=hrel;have hnc:=HH.I.1.w8;obtain ⟨m0,m1,m2,m3,m4⟩:=(ab0 (B:= []) S.I.1).cells;by_cases hlt:n < k.eC.length
  .have i0:(0:Int)<=(n:Int):=zw
   have i1:(n:Int) < (k.eC.length:Int):=zw
   have hnc2:(k.eC.length:Int)<=1048576:=by have:k.eC.length<=1048576:=hnc; omega
   obtain ⟨c,hc⟩: ∃ c,k.eC[n]? =o_ c:=⟨_,Kz hlt⟩
   obtain ⟨gc,hgc,z0,z1,z2,z3⟩:=TH S.I.1.own.at.eC hc;rw [show k.qi=o_ ⟨gc,0,n_⟩ from hgc] at m4;have HC:bN (k.eC[n]? =o_ c):=hc;clear hc hgc;have S1:bN (abx w bi k l ((wr.heap.size,nx c,37) :: Y6 w k) (wr.alloc (c_ (nx c) 37))):=S.I.1.put _ _;have HP:=aA S.I.2;clear S;go_upto_region 5 with fail;clear m0 m1 m2 m3 m4 z0 z1 z2 z3;generalize wr.alloc (c_ #[i_ j_ c.src,i_ j_ c.ga,i_ j_ c.dst,i_ j_ c.hI] 37)=W1 at *;generalize wr.heap.size=abj at *;have HSN:bN (abI src k.pure.parts (k.eC.take (n+1))=if c.src=src then abM (l.map (·.pure)) c else l.map (·.pure)):=by show _=_; rw [ace HC.I,<- HP.I.1]
   have hcb:W1.heap[abj]? =o_ (c_ (nx c) 37):=(S1.I.box (abj,nx c,37) zy).1;have d0:W1.cell? ⟨abj,0,n_⟩=o_ (i_ j_ c.src):=by simp [World.cell?,hcb]
   clear hcb;by_cases hne: ¬ c.src=src
   .have Jf:bN (abI src k.pure.parts (k.eC.take (n+1))=l.map (·.pure)):=by show _=_; rw [HSN.I,if_neg hne]
    clear HSN;go_wp2;go_roundw
    case rel=>exact ⟨n+1,zw,by go_num,l,S1.I.less (fun x hx=>LB _ hx),Jf.I.symm,HP.I.2⟩
    case measure=>simp [Go.RowKit.intOf]; omega
   have hsrc:c.src=src:=Decidable.not_not.1 hne;clear hne;have Jf:bN (abI src k.pure.parts (k.eC.take (n+1))=abM (l.map (·.pure)) c):=by show _=_; rw [HSN.I,if_pos hsrc]
   have HSR:=aA hsrc;clear HSN;obtain ⟨s,t,hes,het,hqq,hsd,hps,hpt⟩:=HP.I.2.ends (HH.I.2.1 c (KA HC.I));obtain ⟨n1,q1,j1,x1,a1,a2,a3,a4,a5,a6,a7,a8⟩:=adt hes;obtain ⟨n2,q2,j2,x2,b1,b2,b3,b4,b5,b6,b7,b8⟩:=adt het;subst a7 b7;have HE:bN (endP (l.map (·.pure)) c.src c.ga=o_ x1.todS/\endP (l.map (·.pure)) c.dst c.hI=o_ x2.todS/\x1.Mf=x2.Mf/\ ¬ c.src=c.dst/\dj x1.todS=true/\dj x2.todS=true):=⟨hes,het,hqq,hsd,hps,hpt⟩
   have H1:bN (place (l.map (·.id)) c.src 0=(n1:Int)/\l[n1]? =o_ q1/\q1.id=c.src/\n0 l c.src c.ga=(j1:Int)/\place (q1.ai.map (·.id)) c.ga 0=(j1:Int)/\q1.ai[j1]? =o_ x1/\x1.id=c.ga):=⟨a1,a2,a3,a4,a5,a6,a8⟩
   have H2:bN (place (l.map (·.id)) c.dst 0=(n2:Int)/\l[n2]? =o_ q2/\q2.id=c.dst/\n0 l c.dst c.hI=(j2:Int)/\place (q2.ai.map (·.id)) c.hI 0=(j2:Int)/\q2.ai[j2]? =o_ x2/\x2.id=c.hI):=⟨b1,b2,b3,b4,b5,b6,b8⟩
   clear hes het hqq hsd hps hpt a1 a2 a3 a4 a5 a6 a8 b1 b2 b3 b4 b5 b6 b8 hsrc;have fl:bN ((k.wp l).Fit):=Ug (k:=k.wp l) (ac0 HH.I.1 HP.I.2);have hnb:(c.src != src)=false:=by rw [HSR.I]; simp
   go_upto_region 6 with fail;clear d0 hnb;have hcb:W1.heap[abj]? =o_ (c_ (nx c) 37):=(S1.I.box (abj,nx c,37) zy).1;have d0:W1.cell? ⟨abj,0,n_⟩=o_ (i_ j_ c.src):=by simp [World.cell?,hcb]
   have d1:W1.cell? ⟨abj,1,n_⟩=o_ (i_ j_ c.ga):=by simp [World.cell?,hcb]
   have d2:W1.cell? ⟨abj,2,n_⟩=o_ (i_ j_ c.dst):=by simp [World.cell?,hcb]
   have d3:W1.cell? ⟨abj,3,n_⟩=o_ (i_ j_ c.hI):=by simp [World.cell?,hcb]
   clear hcb;obtain ⟨m0,m1,m2,m3,m4⟩:=(ab0 (B:= [(abj,nx c,37)]) S1.I).cells;have Mb:=TB (k.wp l) c.src c.ga W1 fl.I S1.I.own.at;rw [S1.I.row,show (k.wp l).parts=l from rfl,H1.I.1,H1.I.2.2.2.1] at Mb;go_wp2_with fail;clear m0 m1 m2 m3 m4 d0 d1 d2 d3;refine Mb.mono ?_;clear Mb;rintro e W2 ⟨rfl,hb⟩;replace S1:=aA (S1.I.below hb);clear hb;have hcb:W2.heap[abj]? =o_ (c_ (nx c) 37):=(S1.I.box (abj,nx c,37) zy).1;have d0:W2.cell? ⟨abj,0,n_⟩=o_ (i_ j_ c.src):=by simp [World.cell?,hcb]
   have d1:W2.cell? ⟨abj,1,n_⟩=o_ (i_ j_ c.ga):=by simp [World.cell?,hcb]
   have d2:W2.cell? ⟨abj,2,n_⟩=o_ (i_ j_ c.dst):=by simp [World.cell?,hcb]
   have d3:W2.cell? ⟨abj,3,n_⟩=o_ (i_ j_ c.hI):=by simp [World.cell?,hcb]
   clear hcb;obtain ⟨m0,m1,m2,m3,m4⟩:=(ab0 (B:= [(abj,nx c,37)]) S1.I).cells;have Mb:=TB (k.wp l) c.dst c.hI W2 fl.I S1.I.own.at;rw [S1.I.row,show (k.wp l).parts=l from rfl,H2.I.1,H2.I.2.2.2.1] at Mb;go_wp2_with fail;clear m0 m1 m2 m3 m4 d0 d1 d2 d3;refine Mb.mono ?_;clear Mb;rintro e W3 ⟨rfl,hb⟩;replace S1:=aA (S1.I.below hb);clear hb;obtain ⟨m0,m1,m2,m3,m4⟩:=(ab0 (B:= [(abj,nx c,37)]) S1.I).cells;obtain ⟨aaB,g1,p1,p2,p3,⟨u0,u1,u2,u3,u4⟩,-,-,-,-⟩:=abV S1.I.own H1.I.2.1 H1.I.2.2.2.2.2.1;rw [p1] at m3;have HG1:bN (k.qn=o_ ⟨aaB,0,n_⟩/\q1.aK=o_ ⟨g1,0,n_⟩):=⟨p1,p2⟩
   have hl1:n1 < l.length:=(Lj.1 H1.I.2.1).1;have DS:j1 < q1.ai.length:=(Lj.1 H1.I.2.2.2.2.2.1).1;have ll:=S1.I.len;have k0:(0:Int)<=(n1:Int):=zw
   have k1:(n1:Int) < (k.parts.length:Int):=zw
   have k2:(0:Int)<=(j1:Int):=zw
   have k3:(j1:Int) < (q1.ai.length:Int):=zw
   clear p1 p2 hl1 DS ll;have S2:bN (abx w bi k l ((W3.heap.size,cW x1,51) :: (abj,nx c,37) :: Y6 w k) (W3.alloc (c_ (cW x1) 51))):=S1.I.put _ _;clear S1;unfold cW at S2;go_upto_region 9 with fail;clear m0 m1 m2 m3 m4 u0 u1 u2 u3 u4 p3 k0 k1 k2 k3;generalize W3.alloc (c_ #[i_ j_ x1.id,b_ x1.I,b_ x1.Mf,i_ j_ x1.max,s_ x1.ak x1.Ma.length x1.aq] 51)=W4 at *;generalize W3.heap.size=Xs at *;rw [show #[i_ j_ x1.id,b_ x1.I,b_ x1.Mf,i_ j_ x1.max,s_ x1.ak x1.Ma.length x1.aq] =cW x1 from rfl] at S2;obtain ⟨m0,m1,m2,m3,m4⟩:=(ab0 (B:= [(Xs,cW x1,51),(abj,nx c,37)]) S2.I).cells;obtain ⟨gP',g2,p1,p2,p3,⟨u0,u1,u2,u3,u4⟩,-,-,-,-⟩:=abV S2.I.own H2.I.2.1 H2.I.2.2.2.2.2.1;rw [HG1.I.1] at p1;cases p1;rw [HG1.I.1] at m3;have HG2:bN (q2.aK=o_ ⟨g2,0,n_⟩):=p2;have hl1:n2 < l.length:=(Lj.1 H2.I.2.1).1;have DS:j2 < q2.ai.length:=(Lj.1 H2.I.2.2.2.2.2.1).1;have ll:=S2.I.len;have k0:(0:Int)<=(n2:Int):=zw
   have k1:(n2:Int) < (k.parts.length:Int):=zw
   have k2:(0:Int)<=(j2:Int):=zw
   have k3:(j2:Int) < (q2.ai.length:Int):=zw
   clear p2 hl1 DS ll;have S3:bN (abx w bi k l ((W4.heap.size,cW x2,51) :: (Xs,cW x1,51) :: (abj,nx c,37) :: Y6 w k) (W4.alloc (c_ (cW x2) 51))):=S2.I.put _ _;clear S2;unfold cW at S3;go_upto_region 10 with fail;clear m0 m1 m2 m3 m4 u0 u1 u2 u3 u4 p3 k0 k1 k2 k3;generalize W4.alloc (c_ #[i_ j_ x2.id,b_ x2.I,b_ x2.Mf,i_ j_ x2.max,s_ x2.ak x2.Ma.length x2.aq] 51)=W5 at *;generalize W4.heap.size=Y8 at *;rw [show #[i_ j_ x2.id,b_ x2.I,b_ x2.Mf,i_ j_ x2.max,s_ x2.ak x2.Ma.length x2.aq] =cW x2 from rfl,show #[i_ j_ x1.id,b_ x1.I,b_ x1.Mf,i_ j_ x1.max,s_ x1.ak x1.Ma.length x1.aq] =cW x1 from rfl] at S3;have oh:bN (W5.heap[Xs]? =o_ (c_ (cW x1) 51)/\W5.heap[Y8]? =o_ (c_ (cW x2) 51)/\Tk W5 w.heap.size k):=⟨(S3.I.box (Xs,cW x1,51) zy).1,(S3.I.box (Y8,cW x2,51) zy).1,ab0 (B:= [(Y8,cW x2,51),(Xs,cW x1,51),(abj,nx c,37)]) S3.I⟩
   obtain ⟨v0,v1,v2,v3,v4⟩:=gE oh.I.1;have adF:n1≠n2:=fun e=>by have h5:=H1.I.2.1; rw [e,H2.I.2.1] at h5; cases h5; exact HE.I.2.2.2.1 (H1.I.2.2.1.symm.trans H2.I.2.2.1)
   have HN12:=aA adF;clear adF;cases ab6:x1.Mf
   .rw [ab6] at v2
    by_cases hz:x1.Ma.length=0
    .have HZ:bN (abM (l.map (·.pure)) c=l.map (·.pure)):=by show _=_; unfold abM; rw [HE.I.1,HE.I.2.1]; simp only [ab6]; rw [if_neg (by decide),if_pos hz]
     have hz1: ¬ 0 < x1.Ma.length:=zw
     have hz2:decide (0 < x1.Ma.length)=false:=decide_eq_false hz1;clear hz ab6;go_wp2;go_roundw
     case rel=>exact ⟨n+1,zw,by go_num,l,S3.I.less (fun x hx=>by simp only [Kt] at hx ⊢; exact .inr (.inr (.inr hx))),(Jf.I.trans HZ.I).symm,HP.I.2⟩
     case measure=>simp [Go.RowKit.intOf]; omega
    obtain ⟨sv,hs0⟩: ∃ sv,x1.Ma[0]? =o_ sv:=⟨_,Kz zw⟩
    have htk:x1.Ma.take 1= [sv] :=by rw [show (1:Nat)=0+1 from rfl,List.take_add_one,hs0]; rfl
    have HZ:bN (abM (l.map (·.pure)) c=abK c.dst c.hI [sv] (l.map (·.pure))):=by show _=_; unfold abM; rw [HE.I.1,HE.I.2.1]; simp only [ab6]; rw [if_neg (by decide),if_neg hz,htk]
    have hz1:0 < x1.Ma.length:=zw
    have hz2:decide (0 < x1.Ma.length)=true:=decide_eq_true hz1;have hz3:(0:Int) < (x1.Ma.length:Int):=zw
    clear hz ab6 htk;obtain ⟨-,-,-,-,-,-,r1,-,-,-⟩:=abV S3.I.own H1.I.2.1 H1.I.2.2.2.2.2.1;obtain ⟨abo,hgi,hci⟩:=r1 0 (t_ sv) (by cases hl:x1.Ma with | nil=>(rw [hl] at hs0; cases hs0) | cons y r=>(rw [hl] at hs0; cases hs0; rfl));obtain ⟨gP',g2',p1,p2,p3,-,-,abh,aap,hPg⟩:=abV S3.I.own H2.I.2.1 H2.I.2.2.2.2.2.1;rw [HG1.I.1] at p1;cases p1;rw [HG2.I] at p2;cases p2;have hgn:abo≠g2:=fun e=>adL S3.I.own H1.I.2.1 H2.I.2.1 HN12.I H1.I.2.2.2.2.2.1 (by rw [hgi]; simp [blk,e]) HG2.I
    rw [hgi] at v4;have HI:bN (W5.cell? ⟨abo,0,n_⟩=o_ (t_ sv)/\abo≠g2/\aaB≠g2/\Xs≠g2/\w.heap.size≠g2/\x1.ak=o_ ⟨abo,0,n_⟩):=⟨hci,hgn,hPg,fun e=>(S3.I.box (Xs,cW x1,51) zy).2 (e ▸ aap),fun e=>(S3.I.box (w.heap.size,k.row,30) zy).2 (e ▸ aap),hgi⟩
    have WM:bN (W5.cell? ⟨aaB,n2 * 8+7,n_⟩=o_ (s_ (o_ ⟨g2,0,n_⟩) q2.ai.length q2.aV)):=p3;clear hci hgn hPg hgi p3 abh aap hs0;go_upto_region 12 with fail;clear v0 v1 v2 v3 v4 hz2;refine ZN (fun a0 a' w'=> ∃ (e73 e74 e75 e76 e77 e78 e79 e80 e81 e82 e83 e84 e85 e86:v_) (l2:List af),a'=Zk a0 [(73,e73),(74,e74),(75,e75),(76,e76),(77,e77),(78,e78),(79,e79),(80,e80),(81,e81),(82,e82),(83,e83),(84,e84),(85,e85),(86,e86)] /\abx w bi k l2 (Y6 w k) w'/\l2.map (·.pure)=abK c.dst c.hI [sv] (l.map (·.pure))) ?_ ?_
    .have HS:bN ((fun W'=>Tk W' w.heap.size k/\W'.cell? ⟨aaB,n2 * 8+7,n_⟩=o_ (s_ (o_ ⟨g2,0,n_⟩) q2.ai.length q2.aV)/\W'.heap[Xs]? =o_ (c_ (cW x1) 51)/\W'.cell? ⟨abo,0,n_⟩=o_ (t_ sv)) W5.drew):=⟨oh.I.2.2,WM.I,oh.I.1,HI.I.1⟩
     refine Kr (S:=(fun W'=>Tk W' w.heap.size k/\W'.cell? ⟨aaB,n2 * 8+7,n_⟩=o_ (s_ (o_ ⟨g2,0,n_⟩) q2.ai.length q2.aV)/\W'.heap[Xs]? =o_ (c_ (cW x1) 51)/\W'.cell? ⟨abo,0,n_⟩=o_ (t_ sv))) ZbY HS.I (fun _=> ?_);replace S3:=aA (S3.I.below (V:=W5.drew) (Kp _ _).drew);generalize W5.drew=YI at *;have hl1:n2 < l.length:=(Lj.1 H2.I.2.1).1;have DS:j2 < q2.ai.length:=(Lj.1 H2.I.2.2.2.2.2.1).1;have ll:=S3.I.len;have k0:(0:Int)<=(n2:Int):=zw
     have k1:(n2:Int) < (k.parts.length:Int):=zw
     have k2:(0:Int)<=(j2:Int):=zw
     have k3:(j2:Int) < (q2.ai.length:Int):=zw
     clear hl1 DS ll;refine tt 0 HS.I ?_;refine tt 1 HS.I ?_ (hy:=fun w0 hS0=>by obtain ⟨m0,m1,m2,m3,m4⟩:=hS0.1.cells; rw [HG1.I.1] at m3; go_simp; try with_reducible rfl);refine tt 2 HS.I ?_;refine tt 3 HS.I ?_;refine tt 4 HS.I ?_;refine tt 5 HS.I ?_ (hy:=fun w0 hS0=>by have p3:=hS0.2.1; go_simp; try with_reducible rfl);refine tt 6 HS.I ?_;refine tt 7 HS.I ?_;refine tt 8 HS.I ?_ (hy:=fun w0 hS0=>by obtain ⟨v0,v1,v2,v3,v4⟩:=gE hS0.2.2.1; rw [HI.I.2.2.2.2.2] at v4; go_simp; try with_reducible rfl);refine tt 9 HS.I ?_;refine tt 10 HS.I ?_ (hy:=fun w0 hS0=>by have p3:=hS0.2.2.2; go_simp; try with_reducible rfl)
     try simp only [pt,sb,s0,s1]
     refine L7 11 (fun Q hQ=> ?_);go_wp2_with fail;have hbA:B_ YI.heap.size YI (YI.alloc (c_ #[t_ sv] 9)):=(Kp _ _).alloc (Ki _) _;have hlow:bi<=YI.heap.size:=by have:=S3.I.kept.size; have:=HH.I.2.2.2; omega
     obtain ⟨hLK,hcell,hfro⟩:=S3.I.Ma hbA H2.I.2.1 H2.I.2.2.2.2.2.1 HG2.I (cq (IN YI sv) hlow) (fun g hg=>by simp [blk] at hg; omega);have HA:bN ((fun W'=>Tk W' w.heap.size k/\W'.cell? ⟨aaB,n2 * 8+7,n_⟩=o_ (s_ (o_ ⟨g2,0,n_⟩) q2.ai.length q2.aV)/\W'.heap[Xs]? =o_ (c_ (cW x1) 51)/\W'.cell? ⟨abo,0,n_⟩=o_ (t_ sv)) (YI.alloc (c_ #[t_ sv] 9))):=⟨(hbA.block _ (J2.1 HS.I.1).1).trans HS.I.1,(abU hbA HS.I.2.1),(hbA.block _ (J2.1 HS.I.2.2.1).1).trans HS.I.2.2.1,abU hbA HS.I.2.2.2⟩
     have HL:bN (abx w bi k (l.set n2 (abS q2 j2 x2 [sv] (o_ ⟨YI.heap.size,0,n_⟩) 1)) (Y6 w k) (World.setCell (YI.alloc (c_ #[t_ sv] 9)) ⟨g2,j2 * 5+4,n_⟩ (s_ (o_ ⟨YI.heap.size,0,n_⟩) 1 1))):=hLK.less fun x hx=>by simp only [Kt] at hx ⊢; exact .inr (.inr (.inr hx))
     have HCF:bN ((∃ u,World.cell? (YI.alloc (c_ #[t_ sv] 9)) ⟨g2,j2 * 5+4,n_⟩=o_ u)/\World.frozen? (YI.alloc (c_ #[t_ sv] 9)) ⟨g2,j2 * 5+4,n_⟩=false):=⟨hcell,hfro⟩
     clear hLK hcell hfro hbA hlow;refine hQ.out _ _ HA.I (fun _=> ?_);clear hQ Q
     try simp only [pt,sb,s0,s1]
     refine tt 12 HA.I ?_;refine tt 13 HA.I ?_;refine L7 14 (fun Q hQ=> ?_);obtain ⟨⟨u,hu⟩,hfz⟩:=HCF.I;go_wp2_with fail;clear hu hfz;refine hQ.out _ _ ⟨(ac5 _ _ _ _ HI.I.2.2.2.2.1).trans HA.I.1,(J1 (ac5 _ _ _ _ HI.I.2.2.1)).trans HA.I.2.1,(ac5 _ _ _ _ HI.I.2.2.2.1).trans HA.I.2.2.1,(J1 (ac5 _ _ _ _ HI.I.2.1)).trans HA.I.2.2.2⟩ (fun _=> ?_);clear hQ Q;refine K3 ZbY ?_ _;exact ⟨_,_,_,_,_,_,_,_,_,_,_,_,_,_,_,by simp only [Zk,pt,sb,s0,s1]; rfl,HL.I,acr H2.I.1 H2.I.2.1 H2.I.2.2.1 H2.I.2.2.2.2.1 H2.I.2.2.2.2.2.1 H2.I.2.2.2.2.2.2⟩
    .rintro a' W6 ⟨e73,e74,e75,e76,e77,e78,e79,e80,e81,e82,e83,e84,e85,e86,l2,rfl,hL2,hp2⟩
     simp only [Zk,pt,sb,s0,s1];have HL2:bN (abx w bi k l2 (Y6 w k) W6/\l2.map (·.pure)=abM (l.map (·.pure)) c):=⟨hL2,hp2.trans HZ.I.symm⟩
     have HC2:bN (abz k.pure.parts (l2.map (·.pure))):=by show abz _ _; rw [HL2.I.2]; exact HP.I.2.carry (HH.I.2.1 c (KA HC.I))
     clear hL2 hp2;go_wp2;go_roundw
     case rel=>exact ⟨n+1,zw,by go_num,l2,HL2.I.1,HL2.I.2.trans Jf.I.symm,HC2.I⟩
     case measure=>simp [Go.RowKit.intOf]; omega
   .rw [ab6] at v2
    obtain ⟨-,pm2,-,-,pm5⟩:=abT HE.I.2.2.2.2.1;obtain ⟨-,tm2,-,-,tm5⟩:=abT HE.I.2.2.2.2.2;obtain ⟨N,hN⟩: ∃ N,min x1.Ma.length (ab4 x2.todS)=N:=⟨_,rfl⟩
    have hN1:N<=x1.Ma.length:=zw
    have hN2:N<=5:=zw
    have hmin:min (x1.Ma.length:Int) (x2.max - x2.Ma.length)=(N:Int):=by rw [<- hN]; unfold ab4; omega
    have HNN:bN (min x1.Ma.length (ab4 x2.todS)=N/\x1.Mf=true):=⟨hN,ab6⟩
    clear hN ab6;obtain ⟨y0,y1,y2,y3,anX⟩:=gE oh.I.2.1;go_upto_region 14 with fail;clear v0 v1 v2 v3 v4 y0 y1 y2 y3 anX hmin;have hcap:x1.Ma.length<=x1.aq:=adu (S3.I.own.mine q1 (KA H1.I.2.1)) H1.I.2.2.2.2.2.1;have hcapI:(x1.Ma.length:Int)<=(x1.aq:Int):=zw
    have hN3:(N:Int)<=(x1.aq:Int):=zw
    have hN4:N<=x1.aq:=zw
    have hN0:(0:Int)<=(N:Int):=zw
    have hN5:(N:Int)<=(x1.Ma.length:Int):=zw
    have HA1:=H1;obtain ⟨gP',g',p1,p2,p3,-,-,abh,aap,hPg⟩:=abV S3.I.own H2.I.2.1 H2.I.2.2.2.2.2.1;rw [HG1.I.1] at p1;cases p1;rw [HG2.I] at p2;cases p2;obtain ⟨-,-,-,-,-,-,r1,-,-,-⟩:=abV S3.I.own HA1.I.2.1 HA1.I.2.2.2.2.2.1;have pG:bN (Row W5 x1.ak (bT.flat x1.Ma)):=r1;obtain ⟨-,-,-,-,-,-,r2,-,-,-⟩:=abV S3.I.own H2.I.2.1 H2.I.2.2.2.2.2.1;have HR2:bN (Row W5 x2.ak (bT.flat x2.Ma)):=r2;clear r2;have HI:bN (aaB≠g2/\Xs≠g2/\Y8≠g2/\w.heap.size≠g2):=⟨hPg,fun e=>(S3.I.box (Xs,cW x1,51) zy).2 (e ▸ aap),fun e=>(S3.I.box (Y8,cW x2,51) zy).2 (e ▸ aap),fun e=>(S3.I.box (w.heap.size,k.row,30) zy).2 (e ▸ aap)⟩
    have HS:bN ((SqH w k aaB n2 g2 q2 Xs Y8 x1 x2) W5.drew):=⟨(show Tk W5 w.heap.size k from ab0 (B:= [(Y8,cW x2,51),(Xs,cW x1,51),(abj,nx c,37)]) S3.I),p3,(S3.I.box (Xs,cW x1,51) zy).1,(S3.I.box (Y8,cW x2,51) zy).1⟩
    clear p3 abh aap hPg r1;refine Kr (S:=(SqH w k aaB n2 g2 q2 Xs Y8 x1 x2)) ZbY HS.I (fun _=> ?_);replace S3:=aA (S3.I.below (V:=W5.drew) (Kp _ _).drew);replace pG:=aA (pG.I.below (w':=W5.drew) (Kp _ _).drew);replace HR2:=aA (HR2.I.below (w':=W5.drew) (Kp _ _).drew);generalize W5.drew=YI at *;have hl1:n2 < l.length:=(Lj.1 H2.I.2.1).1;have DS:j2 < q2.ai.length:=(Lj.1 H2.I.2.2.2.2.2.1).1;have ll:=S3.I.len;have k0:(0:Int)<=(n2:Int):=zw
    have k1:(n2:Int) < (k.parts.length:Int):=zw
    have k2:(0:Int)<=(j2:Int):=zw
    have k3:(j2:Int) < (q2.ai.length:Int):=zw
    clear hl1 DS ll;refine tt 0 HS.I ?_;refine tt 1 HS.I ?_ (hy:=fun w0 hS0=>by obtain ⟨m0,m1,m2,m3,m4⟩:=hS0.1.cells; rw [HG1.I.1] at m3; go_simp; try with_reducible rfl);refine tt 2 HS.I ?_;refine tt 3 HS.I ?_;refine tt 4 HS.I ?_;refine tt 5 HS.I ?_ (hy:=fun w0 hS0=>by have p3:=hS0.2.1; go_simp; try with_reducible rfl);refine tt 6 HS.I ?_;refine tt 8 HS.I ?_;refine tt 9 HS.I ?_ (hy:=fun w0 hS0=>by obtain ⟨v0,v1,v2,v3,v4⟩:=gE hS0.2.2.2; go_simp; try with_reducible rfl);refine tt 11 HS.I ?_;refine tt 12 HS.I ?_ (hy:=fun w0 hS0=>by obtain ⟨v0,v1,v2,v3,v4⟩:=gE hS0.2.2.1; go_simp; try with_reducible rfl);refine tt 13 HS.I ?_;refine tt 14 HS.I ?_
    try simp only [pt,sb,s0,s1]
    have hlow:bi<=YI.heap.size:=by have:=S3.I.kept.size; have:=HH.I.2.2.2; omega
    refine L7 7 (fun Q hQ=> ?_);go_wp2_with fail;have hbA:B_ YI.heap.size YI (YI.alloc (c_ #[] 9)):=(Kp _ _).alloc (Ki _) _;refine hQ.out _ _ ⟨(hbA.block _ (J2.1 HS.I.1).1).trans HS.I.1,abU hbA HS.I.2.1,(hbA.block _ (J2.1 HS.I.2.2.1).1).trans HS.I.2.2.1,(hbA.block _ (J2.1 HS.I.2.2.2).1).trans HS.I.2.2.2⟩ (fun _=> ?_);clear hQ Q
    try simp only [pt,sb,s0,s1]
    have hem:((YI.alloc (c_ #[] 9))).ownsRow YI.heap.size 9 1 (s_ (o_ ⟨YI.heap.size,0,n_⟩) ([] :List ByteArray).length 0) ([] :List ByteArray).length (bT.flat []):=i6 (Kj _ _) (Ki _);obtain ⟨a2,c2,w2,hr2,DU,hg2,pv⟩:=ou (YI.alloc (c_ #[] 9)) YI.heap.size _ 0 [] hem x2.ak x2.Ma x2.aq (IS (HR2.I.below hbA)) (by simp only [K4]; omega) hbA.size;simp only [K4,Li,Ll] at hr2 DU;have hb2:B_ YI.heap.size YI w2:=hbA.grown hg2 hbA.size (fun g hg=>by simp [Value.ownBlock] at hg; omega);refine L7 10 (fun Q hQ=> ?_);refine cM _ _ 49 rfl _ _ _ w2 ZbY ZbY hr2 ?_;refine hQ.out _ _ ⟨(hb2.block _ (J2.1 HS.I.1).1).trans HS.I.1,abU hb2 HS.I.2.1,(hb2.block _ (J2.1 HS.I.2.2.1).1).trans HS.I.2.2.1,(hb2.block _ (J2.1 HS.I.2.2.2).1).trans HS.I.2.2.2⟩ (fun _=> ?_);clear hQ Q
    try simp only [pt,sb,s0,s1]
    have hlt:(x1.Ma.take N).length=N:=by rw [Lk]; omega
    obtain ⟨a3,c3,w3,hr3,Bn,hg3,IJ⟩:=ou w2 YI.heap.size a2 c2 x2.Ma DU x1.ak (x1.Ma.take N) x1.aq (uM N (pG.I.below hb2)) (by rw [hlt]; omega) hb2.size;rw [hlt] at hr3;rw [<- Lf] at Bn;have hb3:B_ YI.heap.size YI w3:=hb2.grown hg3 hb2.size (fun g hg=>(cf DU (di hg)).1);refine L7 15 (fun Q hQ=> ?_);refine cM _ _ 49 rfl _ _ _ w3 ZbY ZbY hr3 ?_;obtain ⟨hLK,hcell,hfro⟩:=S3.I.Ma hb3 H2.I.2.1 H2.I.2.2.2.2.2.1 HG2.I (cq Bn hlow) (fun g hg=>(cf Bn hg).1);rw [Lf,hlt] at hLK;have HA:bN ((SqH w k aaB n2 g2 q2 Xs Y8 x1 x2) w3):=⟨(hb3.block _ (J2.1 HS.I.1).1).trans HS.I.1,abU hb3 HS.I.2.1,(hb3.block _ (J2.1 HS.I.2.2.1).1).trans HS.I.2.2.1,(hb3.block _ (J2.1 HS.I.2.2.2).1).trans HS.I.2.2.2⟩
    have HLK:=aA hLK;have HCF:bN ((∃ u,w3.cell? ⟨g2,j2 * 5+4,n_⟩=o_ u)/\w3.frozen? ⟨g2,j2 * 5+4,n_⟩=false):=⟨hcell,hfro⟩
    clear hLK hcell hfro;refine hQ.out _ _ HA.I (fun _=> ?_);clear hQ Q
    try simp only [pt,sb,s0,s1]
    refine tt 16 HA.I ?_;refine tt 17 HA.I ?_;refine L7 18 (fun Q hQ=> ?_);obtain ⟨⟨u,hu⟩,hfz⟩:=HCF.I;clear hr3 Bn hg3 IJ hb3 hbA hem hr2 DU hg2 pv hb2;go_wp2_with fail;clear hu hfz;refine hQ.out _ _ ⟨(ac5 _ _ _ _ HI.I.2.2.2).trans HA.I.1,(J1 (ac5 _ _ _ _ HI.I.1)).trans HA.I.2.1,(ac5 _ _ _ _ HI.I.2.1).trans HA.I.2.2.1,(ac5 _ _ _ _ HI.I.2.2.1).trans HA.I.2.2.2⟩ (fun _=> ?_);clear hQ Q HA HS HI pG HR2 k0 k1 k2 k3 hlow hlt;generalize w3.setCell ⟨g2,j2 * 5+4,n_⟩ (s_ a3 (x2.Ma.length+N) c3)=W6 at *;clear HCF;refine K3 ZbY ?_ _;have HL6:=HLK;clear HLK S3;obtain ⟨aah,haN⟩: ∃ aah,aah=a3:=⟨_,rfl⟩
    subst haN;obtain ⟨abG,hcN⟩: ∃ abG,abG=c3:=⟨_,rfl⟩
    subst hcN;obtain ⟨l6,hl6⟩: ∃ l6,l.set n2 (abS q2 j2 x2 (x2.Ma ++ x1.Ma.take N) aah abG)=l6:=⟨_,rfl⟩
    rw [hl6] at HL6;have HP6:bN (l6.map (·.pure)=abK c.dst c.hI (x2.Ma ++ x1.Ma.take N) (l.map (·.pure))):=by show _=_; rw [<- hl6]; exact acr H2.I.1 H2.I.2.1 H2.I.2.2.1 H2.I.2.2.2.2.1 H2.I.2.2.2.2.2.1 H2.I.2.2.2.2.2.2
    have hq6:l6[n1]? =o_ q1:=by rw [<- hl6,List.getElem?_set_ne (fun e=>HN12.I e.symm)]; exact H1.I.2.1
    have hi6:l6.map (·.id)=l.map (·.id):=by rw [<- hl6,PN]; exact set_id H2.I.2.1
    have HA6:bN (place (l6.map (·.id)) c.src 0=(n1:Int)/\l6[n1]? =o_ q1/\q1.id=c.src/\True/\place (q1.ai.map (·.id)) c.ga 0=(j1:Int)/\q1.ai[j1]? =o_ x1/\x1.id=c.ga):=⟨by rw [hi6]; exact H1.I.1,hq6,H1.I.2.2.1,trivial,H1.I.2.2.2.2⟩
    clear hl6 hq6 hi6 HA1;have HA1:=HA6;go_upto_region 15 with fail;obtain ⟨gP',g',p1,p2,p3,-,-,abh,aap,hPg⟩:=abV HL6.I.own HA6.I.2.1 HA6.I.2.2.2.2.2.1;rw [HG1.I.1] at p1;cases p1;rw [HG1.I.2] at p2;cases p2;obtain ⟨-,-,-,-,-,-,r1,-,-,-⟩:=abV HL6.I.own HA1.I.2.1 HA1.I.2.2.2.2.2.1;have pG:bN (Row W6 x1.ak (bT.flat x1.Ma)):=r1;have HI:bN (aaB≠g1/\Xs≠g1/\Y8≠g1/\w.heap.size≠g1):=⟨hPg,fun e=>(HL6.I.box (Xs,cW x1,51) zy).2 (e ▸ aap),fun e=>(HL6.I.box (Y8,cW x2,51) zy).2 (e ▸ aap),fun e=>(HL6.I.box (w.heap.size,k.row,30) zy).2 (e ▸ aap)⟩
    have HS:bN ((SqH w k aaB n1 g1 q1 Xs Y8 x1 x2) W6.drew):=⟨(show Tk W6 w.heap.size k from ab0 (B:= [(Y8,cW x2,51),(Xs,cW x1,51),(abj,nx c,37)]) HL6.I),p3,(HL6.I.box (Xs,cW x1,51) zy).1,(HL6.I.box (Y8,cW x2,51) zy).1⟩
    clear p3 abh aap hPg r1;refine Kr (S:=(SqH w k aaB n1 g1 q1 Xs Y8 x1 x2)) ZbY HS.I (fun _=> ?_);replace HL6:=aA (HL6.I.below (V:=W6.drew) (Kp _ _).drew);replace pG:=aA (pG.I.below (w':=W6.drew) (Kp _ _).drew);generalize W6.drew=YI at *;have hl1:n1 < l6.length:=(Lj.1 HA6.I.2.1).1;have DS:j1 < q1.ai.length:=(Lj.1 HA6.I.2.2.2.2.2.1).1;have ll:=HL6.I.len;have k0:(0:Int)<=(n1:Int):=zw
    have k1:(n1:Int) < (k.parts.length:Int):=zw
    have k2:(0:Int)<=(j1:Int):=zw
    have k3:(j1:Int) < (q1.ai.length:Int):=zw
    clear hl1 DS ll;obtain ⟨A3,hA3⟩: ∃ A3,(if x1.aq=N then x1.ak else Option.map (fun x=>x.add N) x1.ak)=A3:=⟨_,rfl⟩
    have HSA:bN (∀ W,Row W x1.ak (bT.flat x1.Ma)->ld W A3 (bT.flat (x1.Ma.drop N))):=fun W hr=>by have h5:=qK (K:=bT) (k:=N) (c:=x1.aq) hcap hr; rw [show N * bT.n=N from Nat.mul_one N,hA3] at h5; exact h5
    refine tt 0 HS.I ?_;refine tt 1 HS.I ?_ (hy:=fun w0 hS0=>by obtain ⟨m0,m1,m2,m3,m4⟩:=hS0.1.cells; rw [HG1.I.1] at m3; go_simp; try with_reducible rfl);refine tt 2 HS.I ?_;refine tt 3 HS.I ?_;refine tt 4 HS.I ?_;refine tt 5 HS.I ?_ (hy:=fun w0 hS0=>by have p3:=hS0.2.1; go_simp; try with_reducible rfl);refine tt 6 HS.I ?_;refine tt 8 HS.I ?_;refine tt 9 HS.I ?_ (hy:=fun w0 hS0=>by obtain ⟨v0,v1,v2,v3,v4⟩:=gE hS0.2.2.1; go_simp; try with_reducible rfl);refine tt 10 HS.I ?_;refine tt 11 HS.I ?_;clear hA3
    try simp only [pt,sb,s0,s1]
    have hlow:bi<=YI.heap.size:=by have:=HL6.I.kept.size; have:=HH.I.2.2.2; omega
    refine L7 7 (fun Q hQ=> ?_);go_wp2_with fail;have hbA:B_ YI.heap.size YI (YI.alloc (c_ #[] 9)):=(Kp _ _).alloc (Ki _) _;refine hQ.out _ _ ⟨(hbA.block _ (J2.1 HS.I.1).1).trans HS.I.1,abU hbA HS.I.2.1,(hbA.block _ (J2.1 HS.I.2.2.1).1).trans HS.I.2.2.1,(hbA.block _ (J2.1 HS.I.2.2.2).1).trans HS.I.2.2.2⟩ (fun _=> ?_);clear hQ Q
    try simp only [pt,sb,s0,s1]
    have hem:((YI.alloc (c_ #[] 9))).ownsRow YI.heap.size 9 1 (s_ (o_ ⟨YI.heap.size,0,n_⟩) ([] :List ByteArray).length 0) ([] :List ByteArray).length (bT.flat []):=i6 (Kj _ _) (Ki _);have hld:(x1.Ma.drop N).length=x1.Ma.length - N:=Ql;obtain ⟨a3,c3,w3,hr3,Bn,hg3,IJ⟩:=ou (YI.alloc (c_ #[] 9)) YI.heap.size _ 0 [] hem A3 (x1.Ma.drop N) (x1.aq - N) (HSA.I _ (pG.I.below hbA)) (by simp only [K4]; omega) hbA.size;simp only [K4,Li,Ll] at hr3 Bn;rw [hld] at hr3;have hb3:B_ YI.heap.size YI w3:=hbA.grown hg3 hbA.size (fun g hg=>by simp [Value.ownBlock] at hg; omega);refine L7 12 (fun Q hQ=> ?_);refine cM _ _ 49 rfl _ _ _ w3 ZbY ZbY hr3 ?_;obtain ⟨hLK,hcell,hfro⟩:=HL6.I.Ma hb3 HA6.I.2.1 HA6.I.2.2.2.2.2.1 HG1.I.2 (cq Bn hlow) (fun g hg=>(cf Bn hg).1);rw [hld] at hLK;have HA:bN ((SqH w k aaB n1 g1 q1 Xs Y8 x1 x2) w3):=⟨(hb3.block _ (J2.1 HS.I.1).1).trans HS.I.1,abU hb3 HS.I.2.1,(hb3.block _ (J2.1 HS.I.2.2.1).1).trans HS.I.2.2.1,(hb3.block _ (J2.1 HS.I.2.2.2).1).trans HS.I.2.2.2⟩
    have HLK:=aA hLK;have HCF:bN ((∃ u,w3.cell? ⟨g1,j1 * 5+4,n_⟩=o_ u)/\w3.frozen? ⟨g1,j1 * 5+4,n_⟩=false):=⟨hcell,hfro⟩
    clear hLK hcell hfro;refine hQ.out _ _ HA.I (fun _=> ?_);clear hQ Q
    try simp only [pt,sb,s0,s1]
    refine tt 13 HA.I ?_;refine tt 14 HA.I ?_;refine L7 15 (fun Q hQ=> ?_);obtain ⟨⟨u,hu⟩,hfz⟩:=HCF.I;clear hr3 Bn hg3 IJ hb3 hbA hem;go_wp2_with fail;clear hu hfz;refine hQ.out _ _ ⟨(ac5 _ _ _ _ HI.I.2.2.2).trans HA.I.1,(J1 (ac5 _ _ _ _ HI.I.1)).trans HA.I.2.1,(ac5 _ _ _ _ HI.I.2.1).trans HA.I.2.2.1,(ac5 _ _ _ _ HI.I.2.2.1).trans HA.I.2.2.2⟩ (fun _=> ?_);clear hQ Q HA HS HI pG k0 k1 k2 k3 hlow hld;generalize w3.setCell ⟨g1,j1 * 5+4,n_⟩ (s_ a3 (x1.Ma.length - N) c3)=an1 at *;clear HCF;refine K3 ZbY ?_ _;have hL7:=HLK.I;clear HLK HL6;obtain ⟨aaW,haM⟩: ∃ aaW,aaW=a3:=⟨_,rfl⟩
    subst haM;obtain ⟨abf,hcM⟩: ∃ abf,abf=c3:=⟨_,rfl⟩
    subst hcM;have HP7:bN ((l6.set n1 (abS q1 j1 x1 (x1.Ma.drop N) aaW abf)).map (·.pure)=abM (l.map (·.pure)) c):=by
     show _=_
     rw [acr HA6.I.1 HA6.I.2.1 HA6.I.2.2.1 HA6.I.2.2.2.2.1 HA6.I.2.2.2.2.2.1 HA6.I.2.2.2.2.2.2,HP6.I];unfold abM;rw [HE.I.1,HE.I.2.1];simp only [HNN.I.2,HNN.I.1,if_true]
    have HL7:bN (abx w bi k (l6.set n1 (abS q1 j1 x1 (x1.Ma.drop N) aaW abf)) (Y6 w k) an1):=hL7.less fun x hx=>by simp only [Kt] at hx ⊢; exact .inr (.inr (.inr hx))
    clear hL7;generalize l6.set n1 (abS q1 j1 x1 (x1.Ma.drop N) aaW abf)=dw at *;have HC7:bN (abz k.pure.parts (dw.map (·.pure))):=by show abz _ _; rw [HP7.I]; exact HP.I.2.carry (HH.I.2.1 c (KA HC.I))
    go_wp2;go_roundw
    case rel=>exact ⟨n+1,zw,by go_num,dw,HL7.I,HP7.I.trans Jf.I.symm,HC7.I⟩
    case measure=>simp [Go.RowKit.intOf]; omega
  .have i1: ¬ (n:Int) < (k.eC.length:Int):=zw
   have ek:n=k.eC.length:=zw
   subst ek;have hz0:wr.heap[w.heap.size+1]? =o_ (c_ T9 30):=(S.I.1.box (w.heap.size+1,T9,30) zy).1;have hzn:=(S.I.1.box (w.heap.size+1,T9,30) zy).2;have HZN:=aA hzn;clear hzn;go_wp2_with (refine stK 4 130 k.row hz0 ?_ (hx:=by kernel_rfl) (hy:=by kernel_rfl));refine rtK results23 hz0 ?_ (hp:=by kernel_rfl) (hd:=by kernel_rfl);refine ⟨l,rfl,⟨S.I.1.own.same fun g hg=>KH _ _ _ _ (fun e=>HZN.I (e ▸ hg)),S.I.1.len,⟨S.I.1.kept.os,S.I.1.kept.tape,S.I.1.kept.output,by rw [size_setRow]; exact S.I.1.kept.size,fun g hg hn=>(KH _ _ _ _ zw).trans (S.I.1.kept.same g hg hn)⟩,S.I.1.lo,S.I.1.far,fun x hx=>by cases hx⟩,?_,S.I.2.2⟩;have h5:=S.I.2.1;rw [LQ] at h5;exact h5
end
section
def Shp (p q:aE):Prop:=q.id=p.id/\q.ai.map abL=p.ai.map abL
section
variable {p q r:aE}
def Shp.apz:Shp p p:=⟨rfl,rfl⟩
def Shp.trans (h:Shp p q) (h':Shp q r):Shp p r:=⟨h'.1.trans h.1,h'.2.trans h.2⟩
def an4 {c:Prop} [Decidable c] {a b:aE} (h1:c->Shp p a) (h2: ¬ c->Shp p b):Shp p (if c then a else b):=by
 split
 .exact h1 ‹_›
 .exact h2 ‹_›
def aoK (k:Int) (l:List ByteArray):Shp p (gU k l p):=⟨rfl,by
 simp only [gU,jP,Lv];refine Lw fun x _=> ?_
 simp only [Function.comp]
 split <;> rfl⟩
def aoR {f:aD->aD} {st on:Int} : ∀ (n:Nat) (p:aE),Shp p (gW f st on n p)
 | 0,_=>Shp.apz
 | n+1,p=>by
  simp only [gW]
  split
  .exact Shp.apz
  .exact (aoR n _).trans ⟨rfl,rfl⟩ |> fun h=>⟨h.1,h.2⟩
def aox (bj:Int): ∀ (n:Nat) (p:aE),Shp p (oO bj n p)
 | 0,_=>Shp.apz
 | n+1,p=>by
  simp only [oO]
  split
  .exact Shp.apz
  .exact (aox bj n _).trans ⟨rfl,rfl⟩ |> fun h=>⟨h.1,h.2⟩
def Shp.past {c id:Int} (h:Shp p q):Shp p (bu c id q):=⟨h.1,h.2⟩
def aoJ {st bj id:Int} {o:dN} (h:Shp p q):Shp p (mX st o bj id q):=by
 unfold mX
 split <;> exact ⟨h.1,h.2⟩
def shp_op (bj:Int) (x:aD) (o:dN):Shp p (lX bj x o p):=by
 have e:Shp p p:=Shp.apz;unfold lX;refine an4 (fun _=> ?_) fun _=> ?_
 .unfold GY
  exact an4 (fun _=>⟨rfl,rfl⟩) fun _=>⟨rfl,rfl⟩
 refine an4 (fun _=>⟨rfl,rfl⟩) fun _=> ?_
 refine an4 (fun _=> ?_) fun _=> ?_
 .unfold mh
  split
  .exact e.past
  .exact an4 (fun _=>aoJ e) fun _=>⟨rfl,rfl⟩
 refine an4 (fun _=> ?_) fun _=> ?_
 .unfold gJ
  split
  .exact e.past
  .split
   .exact ⟨rfl,rfl⟩
   .exact an4 (fun _=>e.past) fun _=>⟨rfl,rfl⟩
 refine an4 (fun _=> ?_) fun _=> ?_
 .unfold dE
  split
  .exact e.past
  .exact an4 (fun _=>Shp.past (Shp.trans (q:=gL o.2.1 true p) ⟨rfl,rfl⟩ (aoR _ _))) fun _=>an4 (fun _=>⟨rfl,rfl⟩) fun _=>an4 (fun _=>e.past) fun _=>aoJ e
 refine an4 (fun _=> ?_) fun _=> ?_
 .unfold lc
  split
  .exact e.past
  .split
   .exact ⟨rfl,rfl⟩
   .exact an4 (fun _=>aoJ e) fun _=>⟨rfl,rfl⟩
 refine an4 (fun _=> ?_) fun _=> ?_
 .unfold ka
  split
  .exact e.past
  .split
   .exact aoJ ⟨rfl,rfl⟩
   .split <;> exact ⟨rfl,rfl⟩
 refine an4 (fun _=> ?_) fun _=> ?_
 .unfold dC
  split
  .exact e.past
  .exact an4 (fun _=>Shp.past (Shp.trans (q:=ib o.2.1 true o.2.2.2 p) ⟨rfl,rfl⟩ (aoR _ _))) fun _=>an4 (fun _=>⟨rfl,rfl⟩) fun _=>an4 (fun _=>⟨rfl,rfl⟩) fun _=>aoJ ⟨rfl,rfl⟩
 refine an4 (fun _=> ?_) fun _=> ?_
 .unfold ig
  split
  .exact e.past
  .exact an4 (fun _=>e.past) fun _=>an4 (fun _=>(aoK _ _).past) fun _=>an4 (fun _=>e.past) fun _=>(aoK _ _).past
 refine an4 (fun _=> ?_) fun _=> ?_
 .unfold gC
  split
  .exact e.past
  .refine an4 (fun _=>e.past) fun _=> ?_
   split
   .exact ⟨rfl,rfl⟩
   .exact Shp.past (an4 (fun _=>Shp.trans (q:=ez _ x.id p) ⟨rfl,rfl⟩ (aoK _ _)) fun _=>⟨rfl,rfl⟩)
 refine an4 (fun _=> ?_) fun _=> ?_
 .unfold jU
  split
  .exact e.past
  .exact an4 (fun _=>⟨rfl,rfl⟩) fun _=>e.past
 refine an4 (fun _=> ?_) fun _=>⟨rfl,rfl⟩
 unfold lg
 split
 .exact e.past
 .exact an4 (fun _=>e.past) fun _=>an4 (fun _=>⟨rfl,rfl⟩) fun _=>⟨rfl,rfl⟩
def apD (bj:Int) (p:aE):Shp p (mS bj p):=by
 unfold mS
 split
 .exact aox _ _ _
 .exact (aox _ _ _).trans (shp_op _ _ _)
end
section
variable {ps ps0:List aE}
abbrev shp (p:aE):Int × List dS:=(p.id,p.ai.map abL)
def shp_of {p q:aE} (h:Shp p q):shp q=shp p:=Prod.ext h.1 h.2
def apm (h:ps.map abQ=ps0.map abQ):ps.map shp=ps0.map shp:=by
 have h5:=congrArg (List.map fun p:aE=>(p.id,p.ai)) h;simpa only [Lv,Ls,abQ] using h5
def ape (ps:List aE) (a b:Int):(endP ps a b).map abL=((ps.map shp).find? fun s=>decide (s.1=a)).bind fun s=>s.2.find? fun q=>decide (q.id=b):=by
 simp only [endP,hP,aeu,Ls];cases ps.find? fun p=>decide (p.id=a) with
 | none=>rfl
 | some p=>
  simp only [Option.bind_some,Option.map_some,aeu,Ls,abL];rfl
def aoT (h:ps.map shp=ps0.map shp) (a b:Int):(endP ps a b).map abL=(endP ps0 a b).map abL:=by rw [ape,ape,h]
def aom (h:ps.map shp=ps0.map shp) (c:eQ):pa ps c=pa ps0 c/\zo ps c=zo ps0 c:=by
 have h1:=aoT h c.src c.ga;have h2:=aoT h c.dst c.hI;unfold pa zo
 revert h1 h2
 cases endP ps c.src c.ga <;> cases endP ps0 c.src c.ga <;> cases endP ps c.dst c.hI <;> cases endP ps0 c.dst c.hI <;> intro h1 h2 <;> simp [abL] at h1 h2 ⊢ <;> simp [h1,h2]
def aoE (h:ps.map shp=ps0.map shp): ∀ (l m:List eQ),fA ps m l=fA ps0 m l
 | [],_=>rfl
 | c :: l,m=>by
  have e:hR ps c=hR ps0 c:=funext fun d=>by simp only [hR,(aom h c).2]
  simp only [fA,e,(aom h c).1,aoE h l]
def aol {α:Type} {num:α->Int} {ok ok':α->Bool} : ∀ {l l':List α} {last:Int},aw num ok last l=true->l'.map num=l.map num->(∀ x∈l',ok' x=true)->aw num ok' last l'=true
 | [],[],_,_,_,_=>rfl
 | [],_ :: _,_,_,h,_=>by cases h
 | _ :: _,[],_,_,h,_=>by cases h
 | x :: l,y :: l',last,h,hi,ho=>by
  simp only [Lt,List.cons.injEq] at hi;simp only [aw,J7] at h ⊢;rw [hi.1];exact ⟨⟨h.1.1,ho y zy⟩,aol h.2 hi.2 fun z hz=>ho z ZcX⟩
def ao8 {p q:aE} (h:aQ p) (hs:abQ q=abQ p) (hq: ∀ x∈q.ai,dj x=true):aQ q:=by
 have e:q= { p with ai:=q.ai } :=by
  cases p; cases q;simp only [abQ,aE.mk.injEq] at hs ⊢;exact ⟨hs.1,hs.2.1,hs.2.2.1,hs.2.2.2.1,hs.2.2.2.2.1,hs.2.2.2.2.2.1,hs.2.2.2.2.2.2.1,trivial⟩
 have hi:q.ai.map (·.id)=p.ai.map (·.id):=by
  have h5:=congrArg (fun p:aE=>p.ai.map (·.id)) hs;simpa only [abQ,Lv,Ls,abL] using h5
 rw [e];exact h.Es hi (aol h.ai hi hq)
def aoz {k:kd} {bj:Int} (h:eP k=true) (hs:ps.map shp=k.parts.map shp) (hr: ∀ p∈ps,aQ p) (hn:cv bj 0 500000000=true):eP { k with bj:=bj,parts:=ps } =true:=by
 have hl:ps.length=k.parts.length:=by simpa using congrArg List.length hs
 have hi:ps.map (·.id)=k.parts.map (·.id):=by
  have h5:=congrArg (List.map Prod.fst) hs;simpa only [Lv,Ls] using h5
 simp only [eP,J7,decide_eq_true_eq] at h ⊢;exact ⟨⟨⟨⟨⟨hn,h.1.1.1.1.2⟩,zw⟩,h.1.1.2⟩,aol h.1.2 hi fun p hp=>(ch p).2 (hr p hp)⟩,(aoE hs _ _).trans h.2⟩
def aoq {k:kd} {bj:Int} (h:k.Small) (hl:ps.length=k.parts.length) (hr: ∀ p∈ps,aQ p):kd.Small { k with bj:=bj,parts:=ps } :=
 ⟨h.Ts,by show ps.length<=_; rw [hl]; exact h.sC,h.w8,h.win,fun p hp=>ta (hr p hp),h.eC⟩
end
def aof (k:kd):Int:=an5 (sz k.fn) k.fn.length (k.bj % k.major)
def aok (id bj:Int) (l:List aE):List aE:=abP (fun p:aE=>decide (p.id=id)) (mS bj) l
def aog (k:kd):Option kd:=match hP (fun p:aE=>p.id) (aof k) k.parts with
 | none=>o_ { k with bj:=k.bj+1 }
 | some p=>if p.next<=999999980 then o_ { k with bj:=k.bj+1,parts:=abI (aof k) (aok (aof k) k.bj k.parts) k.eC } else n_
def aoe:Nat->kd->Option kd
 | 0,k=>o_ k
 | n+1,k=>(aoe n k).bind aog
def aoS (k:kd) (n:Int):Option kd:=if eP k=true/\cv n 0 200=true/\k.bj+n<=500000000 then aoe n.toNat k else n_
def aob {k:kd} (h:eP k=true):0<=k.bj/\k.bj<=500000000:=by
 simp only [eP,J7] at h;have h5:=h.1.1.1.1.1;simp only [cv,J7,decide_eq_true_eq] at h5;exact h5
def aow {id bj:Int} {l:List aE} {p:aE} (hr: ∀ p∈l,aQ p) (hf:hP (fun p:aE=>p.id) id l=o_ p) (hn:p.next<=999999980) (hw:0<=bj/\bj<=1000000000):(aok id bj l).map shp=l.map shp/\ ∀ p∈aok id bj l,aQ p:=by
 refine ⟨acu (fun x=>shp_of (apD bj x)) l,fun q hq=> ?_⟩;rcases acs hq with hq | ⟨x,hx,rfl⟩
 .exact hr q hq
 .have:x=p:=KC (hx.symm.trans hf)
  subst this;exact (DA (hr _ (List.mem_of_find?_eq_some hf)) hn hw).1
def aoL {src:Int} {l:List aE} {cs:List eQ} (hr: ∀ p∈l,aQ p) (hc: ∀ c∈cs,pa l c=true):(abI src l cs).map shp=l.map shp/\ ∀ p∈abI src l cs,aQ p:=by
 have h:=abz.all (src:=src) (abz.refl fun p hp q hq=>(cK (hr p hp).ai q hq).2) hc;refine ⟨apm h.acE,fun q hq=> ?_⟩;have h5:abQ q∈l.map abQ:=by rw [<- h.acE]; exact List.mem_map_of_mem hq
 obtain ⟨p,hp,e⟩:=Lr.1 h5;exact ao8 (hr p hp) e.symm (h.right q hq)
def apa {k k':kd} (h:eP k=true) (hs:k.Small) (hn:k.bj+1<=500000000) (he:aog k=o_ k'):eP k'=true/\k'.Small/\k'.bj=k.bj+1/\k'.fn=k.fn/\k'.eC=k.eC/\k'.parts.map shp=k.parts.map shp:=by
 have h0:=aob h;have hi:cv (k.bj+1) 0 500000000=true:=by simp only [cv,J7,decide_eq_true_eq]; omega
 unfold aog at he;cases hf:hP (fun p:aE=>p.id) (aof k) k.parts with
 | none=>
  rw [hf] at he;cases he;exact ⟨aoz h rfl (Ww h) hi,aoq hs rfl (Ww h),rfl,rfl,rfl,rfl⟩
 | some p=>
  rw [hf] at he;simp only at he;by_cases hp:p.next<=999999980
  .obtain ⟨t1,t2⟩:=aow (bj:=k.bj) (Ww h) hf hp ⟨h0.1,zw⟩
   obtain ⟨c1,c2⟩:=aoL (src:=aof k) t2 (cs:=k.eC) fun c hc=>by rw [(aom t1 c).1]; exact (Xo h).2.2.2 c hc
   have c3:=c1.trans t1;rw [if_pos hp] at he;cases he;exact ⟨aoz h c3 c2 hi,aoq hs (by simpa using congrArg List.length c3) c2,rfl,rfl,rfl,c3⟩
  .rw [if_neg hp] at he
   cases he
def aoA {k:kd} (h:eP k=true) (hs:k.Small): ∀ {n:Nat} {k':kd},k.bj+n<=500000000->aoe n k=o_ k'->eP k'=true/\k'.Small/\k'.bj=k.bj+n
 | 0,k',_,he=>by cases he; exact ⟨h,hs,by simp⟩
 | n+1,k',hn,he=>by
  simp only [aoe] at he;cases hk:aoe n k with
  | none=>rw [hk] at he; cases he
  | some k2=>
   rw [hk] at he;obtain ⟨a1,a2,a3⟩:=aoA h hs zw hk;obtain ⟨b1,b2,b3,-⟩:=apa a1 a2 zw he;exact ⟨b1,b2,zw⟩
end
section
open Go.Maps
attribute [local go_sem ↓] Kc Kd
structure KZK (w:w_) (k:eA) (W:w_):Prop where
 ks:dr w w.heap.size k W
 I:W.heap[w.heap.size+1]? =o_ (c_ T9 30)
def KZK.below {w W W2:w_} {k:eA} (h:KZK w k W) (hb:B_ W.heap.size W W2):KZK w k W2:=⟨h.ks.below hb,(hb.block _ (J2.1 h.I).1).trans h.I⟩
def KZK.first {w:w_} {k:eA} (h:eA.At w k):KZK w k ((w.alloc (c_ k.row 30)).alloc (c_ T9 30)):=
 ⟨(dr.first h).below ((Kp _ _).alloc (Ki _) _),Kq _ _ _⟩
def Xr (k:kd) (part:Int) (l:List Int):Prop:=(eP k=true->part∈k.parts.map (·.id)->XO k.eC (zo k.parts) part l)/\(eP k=false\/part∉k.parts.map (·.id)->l= [])
def Yf {k:kd} {part:Int} {l m:List Int} (h:Xr k part l) (h':Xr k part m):l=m:=by
 cases hk:eP k
 .rw [h.2 (.inl hk),h'.2 (.inl hk)]
 .by_cases hp:part∈k.parts.map (·.id)
  .exact Yo (h.1 hk hp) (h'.1 hk hp)
  .rw [h.2 (.inr hp),h'.2 (.inr hp)]
def X8 {k:kd} {part:Int} {l:List Int} (h:Xr k part l):l.length<=6:=by
 cases hk:eP k
 .rw [h.2 (.inl hk)]; simp
 .by_cases hp:part∈k.parts.map (·.id)
  .have h1:=h.1 hk hp
   have h2:=Xs (m:=k.parts.map (·.id)) (h1.kW.imp (fun {a b} h=>by omega)) fun i hi=>XY hk hp ((h1.mem i).1 hi)
   have h3:=(Xo hk).2.1;simp only [KG] at h2;omega
  .rw [h.2 (.inr hp)]; simp
def XW (w:w_) (k:kd) (part:Int) (e:Ending) (W:w_):Prop:= ∃ (l:List Int) (a:Option d_) (cap:Nat),e=r_ (s_ a l.length cap)/\W.ownsRow w.heap.size 2 1 (s_ a l.length cap) l.length (Xn l)/\Xr k part l/\B_ w.heap.size w W
structure Xk (w:w_) (k:eA) (B g0:Nat) (l:List Int) (a:Option d_) (cap:Nat) (W:w_):Prop where
 box:Tk W w.heap.size k
 low:B_ w.heap.size w W
 I:W.heap[g0]? =o_ (c_ #[] 2)
 own:W.ownsRow B 2 1 (s_ a l.length cap) l.length (Xn l)
 b0:w.heap.size < g0/\g0 < B/\B<=W.heap.size
section
variable {w W W2:w_} {k:eA} {B g0:Nat} {l:List Int} {a:Option d_} {cap:Nat}
def Xk.below (h:Xk w k B g0 l a cap W) (hb:B_ W.heap.size W W2):Xk w k B g0 l a cap W2:=
 ⟨(hb.block _ (J2.1 h.box).1).trans h.box,h.low.trans (hb.mono h.low.size),(hb.block _ (J2.1 h.I).1).trans h.I,cR h.own hb,h.b0.1,h.b0.2.1,by have:=hb.size; have:=h.b0.2.2; omega⟩
def Xk.more {a2:Option d_} {Ta:Nat} {z:Int} (h:Xk w k B g0 l a cap W) (ho:W2.ownsRow B 2 1 (s_ a2 (l.length+1) Ta) (l.length+1) (Xn (l ++ [z]))) (hk:aI W W2 (blk a)):Xk w k B g0 (l ++ [z]) a2 Ta W2:=by
 have hlow: ∀ g∈blk a,B<=g:=fun g hg=>(cf h.own hg).1
 obtain ⟨b1,b2,b3⟩:=h.b0;refine ⟨(hk.same _ (J2.1 h.box).1 fun hm=>by have:=hlow _ hm; omega).trans h.box,h.low.trans (hk.below h.low.size fun g hg=>by have:=hlow g hg; omega),(hk.same _ (J2.1 h.I).1 fun hm=>by have:=hlow _ hm; omega).trans h.I,by rw [Lf,adg]; exact ho,b1,b2,by have:=hk.size; omega⟩
def Xk.ks (h:Xk w k B g0 l a cap W) (ha:eA.At w k):dr w w.heap.size k W:=⟨h.box,ha.below h.low,h.low⟩
end
structure Xj (k:kd) (part:Int) (l:List Int):Prop where
 nodup:l.Nodup
 has:part∈l
 rch: ∀ i∈l,XT k.eC (zo k.parts) part i
section
variable {k:kd} {part:Int} {l:List Int}
def Xj.len (h:Xj k part l) (hk:eP k=true) (hp:part∈k.parts.map (·.id)):l.length<=6:=by
 have h2:=Xs (m:=k.parts.map (·.id)) h.nodup fun i hi=>XY hk hp (h.rch i hi)
 have h3:=(Xo hk).2.1;simp only [KG] at h2;omega
def Xj.src {c:eQ} (h:Xj k part l) (hc:c∈k.eC) (hd:c.dst∈l) (hs:c.src∉l):Xj k part (l ++ [c.src]):=
 ⟨Kf.2 ⟨h.nodup,by simp,fun x hx y hy e=>hs ZcC⟩,Lz _ h.has,fun i hi=>by
  rcases Kg.1 hi with hi | hi
  .exact h.rch i hi
  .rw [KB.1 hi]; exact Yi hc (h.rch _ hd)⟩
def Xj.dst {c:eQ} (h:Xj k part l) (hc:c∈k.eC) (hq:zo k.parts c=true) (hs:c.src∈l) (hd:c.dst∉l):Xj k part (l ++ [c.dst]):=
 ⟨Kf.2 ⟨h.nodup,by simp,fun x hx y hy e=>hd ZcC⟩,Lz _ h.has,fun i hi=>by
  rcases Kg.1 hi with hi | hi
  .exact h.rch i hi
  .rw [KB.1 hi]; exact XV hc hq (h.rch _ hs)⟩
end
def Xy (k:kd) (n:Nat) (m:Bool) (l0 l:List Int):Prop:=(m=true->l0.length < l.length)/\(m=false->l=l0/\X0 (k.eC.take n) (zo k.parts) (· ∈l))
def Ya {k:kd} {l:List Int} :Xy k 0 false l l:=⟨fun h=>(by cases h),fun _=>⟨rfl,fun c hc=>by simp at hc⟩⟩
def Xu {k:kd} {n:Nat} {m:Bool} {l0 l:List Int} {c:eQ} (h:Xy k n m l0 l) (hc:k.eC[n]? =o_ c) (h1:c.dst∈l->c.src∈l) (h2:zo k.parts c=true->c.src∈l->c.dst∈l):Xy k (n+1) m l0 l:=
 ⟨h.1,fun hm=>⟨(h.2 hm).1,fun d hd=>by
  rw [cj hc] at hd;rcases Kg.1 hd with hd | hd
  .exact (h.2 hm).2 d hd
  .rw [KB.1 hd]; exact ⟨h1,h2⟩⟩⟩
def XJ {k:kd} {n n2:Nat} {m:Bool} {l0 l:List Int} (h:Xy k n m l0 l) (z:Int):Xy k n2 true l0 (l ++ [z]):=
 ⟨fun _=>by
  rw [Lf,adg];cases m
  .rw [(h.2 rfl).1]; omega
  .have:=h.1 rfl; omega,fun e=>by cases e⟩
structure FOu (w:w_) (k:eA) (g0:Nat) (l:List Int) (a:Option d_) (cap:Nat) (o:List Int) (ao:Option d_) (co:Nat) (V W:w_):Prop where
 box:Tk W w.heap.size k
 low:B_ w.heap.size w W
 own:W.ownsRow (w.heap.size+1) 2 1 (s_ ao o.length co) o.length (Xn o)
 inn:Row W a (Xn l)
 kept:aI V W [g0]
 bls: ∀ g∈blk ao,g=g0\/V.heap.size<=g
 far:g0∉blk a
 g0l:w.heap.size < g0
 vs:V.heap.size<=W.heap.size
 al: ∀ g∈blk a,g < V.heap.size
 xl:w.heap.size < V.heap.size
section
variable {w V W W2:w_} {k:eA} {g0:Nat} {l o:List Int} {a ao:Option d_} {cap co:Nat}
def XZ {W W2:w_} {a:Option d_} {xs:List v_} (h:Row W a xs) (hs: ∀ g∈blk a,W2.heap[g]? =W.heap[g]?):Row W2 a xs:=fun j u hu=>by
 obtain ⟨g,e,hc⟩:=h j u hu;subst e;exact ⟨g,rfl,(J1 (w:=W) (a:=⟨g,j,n_⟩) (hs g (by simp [blk]))).trans hc⟩
def FOu.below (h:FOu w k g0 l a cap o ao co V W) (hb:B_ W.heap.size W W2):FOu w k g0 l a cap o ao co V W2:=
 ⟨(hb.block _ (J2.1 h.box).1).trans h.box,h.low.trans (hb.mono h.low.size),cR h.own hb,h.inn.below hb,h.kept.trans (.dI hb),h.bls,h.far,h.g0l,LG h.vs hb.size,h.al,h.xl⟩
def FOu.more {a2:Option d_} {c2:Nat} {z:Int} (h:FOu w k g0 l a cap o ao co V W) (ho:W2.ownsRow (w.heap.size+1) 2 1 (s_ a2 (o.length+1) c2) (o.length+1) (Xn (o ++ [z]))) (hk:aI W W2 (blk ao)) (hb: ∀ g∈blk a2,g∈blk ao\/W.heap.size<=g):FOu w k g0 l a cap (o ++ [z]) a2 c2 V W2:=by
 have hg0:=h.g0l;have hxl:=h.xl;have hx:w.heap.size∉blk ao:=fun hm=>by rcases h.bls _ hm with e | e <;> omega
 refine ⟨(hk.same _ (J2.1 h.box).1 hx).trans h.box,h.low.trans (hk.below h.low.size fun g hg=>by rcases h.bls _ hg with e | e <;> omega),by rw [Lf,adg]; exact ho,XZ h.inn fun g hg=>hk.same g (by have:=h.al g hg; have:=h.vs; omega) fun hm=> ?_,?_,fun g hg=> ?_,h.far,h.g0l,LG h.vs hk.size,h.al,h.xl⟩
 .rcases h.bls g hm with e | e
  .exact h.far (by rw [<- e]; exact hg)
  .have:=h.al g hg; omega
 .exact ⟨hk.os.trans h.kept.os,hk.tape.trans h.kept.tape,hk.output.trans h.kept.output,LG h.kept.size hk.size,fun g hg hn=>(hk.same g (by have:=h.vs; omega) fun hm=>by
   rcases h.bls g hm with e | e
   .exact hn (by simp [e])
   .omega).trans (h.kept.same g hg hn)⟩
 .rcases hb g hg with e | e
  .exact h.bls g e
  .exact .inr (LG h.vs e)
end
def lenOf:v_->Nat
 | s_ _ n _=>n
 | _=>0
def Ys:v_->Nat
 | b_ true=>1
 | _=>0
def X9 {ps:List aE} {c:eQ} {x:dS} (h:endP ps c.src c.ga=o_ x):zo ps c=x.Mf:=by simp [zo,h]
def XI (k:eA) (part:Int) (g:Nat) (w:w_) (hf:k.Fit) (hg:k.vb=o_ ⟨g,0,n_⟩/\g < w.heap.size) (h:eA.At w k):
  k_ J3 16 #[a_ k.row,i_ j_ part] w fun e w'=>XW w k.pure part e w':=by
 have S:bN (dr w w.heap.size k ((w.alloc (c_ k.row 30)).alloc (c_ #[] 2))/\((w.alloc (c_ k.row 30)).alloc (c_ #[] 2)).heap[w.heap.size+1]? =o_ (c_ #[] 2)):=⟨(dr.first h).below ((Kp _ _).alloc (Ki _) _),Kq _ _ _⟩
 have HF:=aA (And.intro hf (And.intro hg h));clear hf hg h
 go_enter func16,ntmps16
 go_upto_region 2 with fail;generalize (w.alloc (c_ k.row 30)).alloc (c_ #[] 2)=W0 at *;obtain ⟨m0,m1,m2,m3,m4⟩:=S.I.1.box.cells;have Mb:=FO k g W0 HF.I.1 ⟨HF.I.2.1.1,by have:=S.I.1.low.size; have:=HF.I.2.1.2; omega⟩ S.I.1.MT;go_wp2_with fail;clear m0 m1 m2 m3 m4;refine Mb.mono ?_;clear Mb;rintro e W1 ⟨rfl,hb1⟩;replace S:=aA (And.intro (S.I.1.below hb1) ((hb1.block _ (J2.1 S.I.2).1).trans S.I.2));clear hb1;cases hk:eP k.pure
 .have HN:bN (Xr k.pure part []):=⟨fun h=>absurd h (by rw [hk]; simp),fun _=>rfl⟩
  clear hk;exact Zbf
 have HK:=aA hk;clear hk;obtain ⟨m0,m1,m2,m3,m4⟩:=S.I.1.box.cells;have Mb:=Ua k part W1 HF.I.1.sC S.I.1.MT;go_wp2_with fail;clear m0 m1 m2 m3 m4;refine Mb.mono ?_;clear Mb;rintro e W2 ⟨rfl,hb1⟩;replace S:=aA (And.intro (S.I.1.below hb1) ((hb1.block _ (J2.1 S.I.2).1).trans S.I.2));clear hb1;have Ye:k.pure.parts.map (·.id)=k.parts.map (·.id):=by rw [show k.pure.parts=k.parts.map (·.pure) from rfl,Lv]; rfl
 rcases ua (num:=fun p:af=>p.id) part k.parts 0 with ⟨h1,h2⟩ | ⟨n,x,h1,hx,hxi,-⟩
 .have HN:bN (Xr k.pure part []):=⟨fun _ hm=>by
   rw [Ye] at hm;obtain ⟨y,hy,e⟩:=Lr.1 hm
   have:=List.find?_eq_none.1 h2 y hy
   simp [e] at this,fun _=>rfl⟩
  rw [h1];clear h1 h2 HK Ye;exact Zbf
 have HI:bN (part∈k.pure.parts.map (·.id)):=by show part∈_; rw [Ye]; exact Lr.2 ⟨x,KA hx,hxi⟩
 rw [h1,Li];have i0: ¬ (n:Int) < 0:=zw
 clear h1 hx hxi Ye;go_upto_region 5 with fail;clear i0;have hz:B_ W2.heap.size W2 (W2.alloc (c_ #[i_ j_ part] 2)):=(Kp _ _).alloc (Ki _) _;have hlt:=(J2.1 S.I.2).1;have HI0:bN (Xk w k W2.heap.size (w.heap.size+1) [part] (o_ ⟨W2.heap.size,0,n_⟩) 1 (W2.alloc (c_ #[i_ j_ part] 2))/\Xj k.pure part [part]):=⟨⟨(S.I.1.below hz).box,(S.I.1.below hz).low,(hz.block _ hlt).trans S.I.2,World.ownsRow_lit W2 #[i_ j_ part] 1 (Ki _) Zb9 rfl,zw,hlt,hz.size⟩,⟨by simp,by simp,fun i hi=>by rw [KB.1 hi]; exact XA⟩⟩
 clear S hz hlt;generalize W2.alloc (c_ #[i_ j_ part] 2)=W3 at *;generalize W2.heap.size=B at *;go_wp2_with fail
 go_loopw [6,7] (fun i m wr=> ∃ (l:List Int) (a:Option d_) (cap:Nat) (b:Bool),i=s_ a l.length cap/\m=b_ b/\bN (Xk w k B (w.heap.size+1) l a cap wr/\Xj k.pure part l/\(b=false->X0 k.eC (zo k.pure.parts) (· ∈l)))) (fun i m _=>2 * (7 - lenOf i)+Ys m)
 case atStart=>exact ⟨[part],o_ ⟨B,0,n_⟩,1,true,rfl,rfl,HI0.I.1,HI0.I.2,fun h=>by cases h⟩
 case round=>
  clear HI0;obtain ⟨l0,a,cap,b,rfl,rfl,S⟩:=hrel;cases b
  .have HL6:bN (l0.length<=6):=S.I.2.1.len HK.I HI.I
   have HR:bN (∀ i,i∈l0↔XT k.pure.eC (zo k.pure.parts) part i):=Yh S.I.2.1.has S.I.2.1.rch (S.I.2.2 rfl);have hpl:k.parts.length<=1048576:=HF.I.1.sC;have S3:bN (FOu w k (w.heap.size+1) l0 a cap [] (o_ ⟨w.heap.size+1,0,n_⟩) 0 wr wr):=⟨S.I.1.box,S.I.1.low,i6 S.I.1.I zw,nP S.I.1.own,aI.refl _ _,fun g hg=> .inl (by simpa [blk] using hg),fun hm=>by have:=(cf S.I.1.own hm).1; have:=S.I.1.b0; omega,S.I.1.b0.1,Ki _,fun g hg=>(cf S.I.1.own hg).2,(J2.1 S.I.1.box).1⟩
   clear S
   rename w_=>V1
   go_wp2_with fail
   go_loopw [5,13] (fun i j wr=> ∃ (o:List Int) (ao:Option d_) (co:Nat) (n:Nat),n<=k.parts.length/\i=s_ ao o.length co/\j=i_ j_ n/\bN (FOu w k (w.heap.size+1) l0 a cap o ao co V1 wr/\o=((k.parts.map (·.id)).take n).filter (fun i=>decide (i∈l0)))) (fun _ j _=>k.parts.length - (Go.RowKit.intOf j).toNat)
   case atStart=>exact ⟨[],o_ ⟨w.heap.size+1,0,n_⟩,0,0,Ky _,rfl,rfl,S3.I,by simp⟩
   case round=>
    clear S3;obtain ⟨o,ao,co,n,hn,rfl,rfl,S⟩:=hrel;by_cases hlt:n < k.parts.length
    .have i0:(0:Int)<=(n:Int):=zw
     have i1:(n:Int) < (k.parts.length:Int):=zw
     obtain ⟨p,hp⟩: ∃ p,k.parts[n]? =o_ p:=⟨_,Kz hlt⟩
     have HPN:bN ((k.parts.map (·.id)).take (n+1)=(k.parts.map (·.id)).take n ++ [p.id]):=cj (by rw [Kk,hp]; rfl);obtain ⟨gs,hgs,hin,-⟩:=ic (HF.I.2.2.below S.I.1.low).parts hp;obtain ⟨-,-,-,m3,-⟩:=S.I.1.box.cells;rw [hgs] at m3;have p0:=hin.1;have Mb:=Xq a l0 cap p.id wr (by have:=HL6.I; omega) S.I.1.inn;have HGS:=aA (And.intro hp hgs);clear hp hgs hin;go_wp2_with fail;clear m3 p0;refine Mb.mono ?_;clear Mb;rintro e W1 ⟨rfl,hb⟩;replace S:=aA (And.intro (S.I.1.below hb) S.I.2);clear hb;by_cases hm:p.id∈l0
     .have qJ:bN (o.length<=1000):=by
       show o.length<=1000
       rw [S.I.2];have h5:=Qq (fun i=>decide (i∈l0)) ((k.parts.map (·.id)).take n);have h6:=(Xo HK.I).2.1;have h7:k.pure.parts.length=k.parts.length:=by simp [eA.pure]
       simp only [Lk,KG] at h5;omega
      obtain ⟨a4,c4,W3,hap,ho,hkp,hbl⟩:=XB p.id S.I.1.own qJ.I (LG S.I.1.xl S.I.1.vs);have HM:bN (FOu w k (w.heap.size+1) l0 a cap (o ++ [p.id]) a4 c4 V1 W3/\o ++ [p.id] =((k.parts.map (·.id)).take (n+1)).filter (fun i=>decide (i∈l0))):=⟨S.I.1.more ho hkp hbl,by rw [HPN.I,QN,<- S.I.2]; simp [hm]⟩
      obtain ⟨gs2,hgs2,hin,-⟩:=ic (HF.I.2.2.below S.I.1.low).parts HGS.I.1;obtain ⟨-,-,-,m3,-⟩:=S.I.1.box.cells;rw [hgs2] at m3;have p0:=hin.1;rw [decide_eq_true hm];clear hm ho hkp hbl hgs2 hin;go_wp2_with (at_builtin; refine br _ rfl _ _ 53 rfl _ _ _ _ rfl rfl hap ?_);go_roundw
      case rel=>exact ⟨o ++ [p.id],a4,c4,n+1,zw,by simp,by go_num,HM.I.1,HM.I.2⟩
      case measure=>simp [Go.RowKit.intOf]; omega
     .have HM:bN (o=((k.parts.map (·.id)).take (n+1)).filter (fun i=>decide (i∈l0))):=by show o=_; rw [HPN.I,QN,<- S.I.2]; simp [hm]
      rw [decide_eq_false hm];clear hm;go_wp2;go_roundw
      case rel=>exact ⟨o,ao,co,n+1,zw,rfl,by go_num,S.I.1,HM.I⟩
      case measure=>simp [Go.RowKit.intOf]; omega
    .have i1: ¬ (n:Int) < (k.parts.length:Int):=zw
     obtain ⟨-,-,-,m3,-⟩:=S.I.1.box.cells;have HE:bN (Xr k.pure part o):=by
      have Ye:k.pure.parts.map (·.id)=k.parts.map (·.id):=by rw [show k.pure.parts=k.parts.map (·.pure) from rfl,Lv]; rfl
      have h5:=S.I.2;rw [KF ZbZ] at h5;refine ⟨fun _ _=>⟨fun i=> ?_,?_⟩,fun h=> ?_⟩
      .rw [h5,L2,<- HR.I i,decide_eq_true_eq]
       exact ⟨fun h=>h.2,fun h=>⟨by rw [<- Ye]; exact XY HK.I HI.I ((HR.I i).1 h),h⟩⟩
      .rw [h5,<- Ye]
       exact (Xo HK.I).1.filter _
      .rcases h with h | h
       .rw [HK.I] at h; cases h
       .exact absurd HI.I h
     go_wp2;go_ret;exact ⟨o,ao,co,rfl,cq S.I.1.own zw,HE.I,S.I.1.low⟩
  .rename w_=>V1
   go_wp2_with fail
   go_loopw [6,7,8] (fun i m j wr=> ∃ (l:List Int) (a:Option d_) (cap:Nat) (b:Bool) (n:Nat),n<=k.eC.length/\i=s_ a l.length cap/\m=b_ b/\j=i_ j_ n/\bN (Xk w k B (w.heap.size+1) l a cap wr/\Xj k.pure part l/\Xy k.pure n b l0 l)) (fun _ _ j _=>k.eC.length - (Go.RowKit.intOf j).toNat)
   case atStart=>exact ⟨l0,a,cap,false,0,Ky _,rfl,rfl,rfl,S.I.1,S.I.2.1,Ya⟩
   case round=>
    obtain ⟨l,a1,Xv,b,n,hn,rfl,rfl,rfl,S2⟩:=hrel;clear S;have S:=S2;clear S2;have hcl:k.eC.length<=1048576:=HF.I.1.w8;by_cases hlt:n < k.eC.length
    .have i0:(0:Int)<=(n:Int):=zw
     have i1:(n:Int) < (k.eC.length:Int):=zw
     obtain ⟨c,hc⟩: ∃ c,k.eC[n]? =o_ c:=⟨_,Kz hlt⟩
     have HC:bN (k.pure.eC[n]? =o_ c/\c∈k.pure.eC):=⟨hc,KA hc⟩
     obtain ⟨gc,hgc,c0,c1,c2,c3⟩:=TH (S.I.1.ks HF.I.2.2).MT.eC hc;obtain ⟨-,-,-,-,m4⟩:=S.I.1.box.cells;rw [hgc] at m4;clear hgc hc;go_upto_region 12 with fail;clear c0 c1 c2 c3 m4;have hz:B_ wr.heap.size wr (wr.alloc (c_ (nx c) 37)):=(Kp _ _).alloc (Ki _) _;have HX:bN (P1 (wr.alloc (c_ (nx c) 37)) wr.heap.size c):=Kj _ _;have HXB:bN (∀ g∈blk a1,g≠wr.heap.size):=fun g hg=>by have:=(cf S.I.1.own hg).2; omega
     replace S:=aA (And.intro (S.I.1.below hz) S.I.2);clear hz;generalize wr.alloc (c_ (nx c) 37)=W4 at *;generalize wr.heap.size=X at *;obtain ⟨m0,m1,m2,m3,m4⟩:=S.I.1.box.cells;obtain ⟨c0,c1,c2,c3⟩:=HX.I.cells;have Mb:=TB k c.src c.ga W4 HF.I.1 (S.I.1.ks HF.I.2.2).MT;go_wp2_with fail;clear m0 m1 m2 m3 m4 c0 c1 c2 c3;refine Mb.mono ?_;clear Mb;rintro e W5 ⟨rfl,hb⟩;replace S:=aA (And.intro (S.I.1.below hb) S.I.2);replace HX:=aA (HX.I.below hb);clear hb;have hch:=(Xo HK.I).2.2.2 c HC.I.2;have hnn: ¬ n0 k.parts c.src c.ga < 0:=fun hneg=>by
      have h5:endP k.pure.parts c.src c.ga=n_:=Ty hneg;unfold pa at hch;rw [h5] at hch;simp at hch
     obtain ⟨n1,p1,VX,x1,e1,hp1,-,e2,hx1,en1⟩:=Tw hnn;have HQ:bN (zo k.pure.parts c=x1.Mf):=X9 en1;rw [e1,e2];obtain ⟨gs,hgs,hin,hat⟩:=ic (S.I.1.ks HF.I.2.2).MT.parts hp1;obtain ⟨gp,l9,hpa⟩:=lm hat.2.2.2.2.2 hx1;obtain ⟨-,-,-,m3,-⟩:=S.I.1.box.cells;have VZ:=hin.2.2.2.2.2.2.2;have p2:=hpa.2.2.1;rw [hgs] at m3;rw [l9] at VZ;have j0:(0:Int)<=(n1:Int):=zw
     have j1:(n1:Int) < (k.parts.length:Int):=by have:=(Lj.1 hp1).1; omega
     have j2:(0:Int)<=(VX:Int):=zw
     have Xg:(VX:Int) < (p1.ai.length:Int):=by have:=(Lj.1 hx1).1; omega
     clear hch hnn e1 e2 hp1 hx1 en1 hgs hin hat l9 hpa;obtain ⟨c0,c1,c2,c3⟩:=HX.I.cells;have DM:bN (l.length<=6):=S.I.2.1.len HK.I HI.I;have Mb:=Xq a1 l Xv c.dst W5 Zcx (nP S.I.1.own);go_wp2_with fail;clear m3 VZ p2 j0 j1 j2 Xg c0 c1 c2 c3;refine Mb.mono ?_;clear Mb;rintro e W6 ⟨rfl,hb⟩;replace S:=aA (And.intro (S.I.1.below hb) S.I.2);replace HX:=aA (HX.I.below hb);clear hb;by_cases hd:c.dst∈l
     .have Mb:=Xq a1 l Xv c.src W6 Zcx (nP S.I.1.own)
      obtain ⟨c0,c1,c2,c3⟩:=HX.I.cells;rw [decide_eq_true hd];go_wp2_with fail;clear c0 c1 c2 c3;refine Mb.mono ?_;clear Mb;rintro e an1 ⟨rfl,hb⟩;replace S:=aA (And.intro (S.I.1.below hb) S.I.2);replace HX:=aA (HX.I.below hb);clear hb;by_cases hs:c.src∈l
      .replace S:bN (Xk w k B (w.heap.size+1) l a1 Xv an1/\Xj k.pure part l/\Xy k.pure n b l0 l/\(c.dst∈l->c.src∈l)):=⟨S.I.1,S.I.2.1,S.I.2.2,fun _=>hs⟩
       rw [decide_eq_true hs];clear hs hd DM;exact gt
      .obtain ⟨a2,Ta,W8,hap,ho8,hk8,hbl8⟩:=XB c.src S.I.1.own Zcx S.I.1.b0.2.2
       have hxl:=(J2.1 HX.I).1;have HX8:bN (P1 W8 X c):=(hk8.same X hxl fun hm=>HXB.I X hm rfl).trans HX.I;replace HXB:bN (∀ g∈blk a2,g≠X):=fun g hg=>by
        rcases hbl8 g hg with h5 | h5
        .exact HXB.I g h5
        .omega
       obtain ⟨Xl,Jy⟩: ∃ Xl,l ++ [c.src] =Xl:=⟨_,rfl⟩
       have Xe:bN (Xk w k B (w.heap.size+1) Xl a2 Ta W8/\Xj k.pure part Xl/\Xy k.pure n true l0 Xl/\(c.dst∈Xl->c.src∈Xl)):=by rw [<- Jy]; exact ⟨S.I.1.more ho8 hk8,S.I.2.1.src HC.I.2 hd hs,XJ S.I.2.2 _,fun _=>by simp⟩
       have hn9:l.length+1=Xl.length:=by rw [<- Jy]; simp
       rw [decide_eq_false hs];clear ho8 hk8 hbl8 hs hd Jy hxl DM;obtain ⟨c0,c1,c2,c3⟩:=HX.I.cells;go_upto_region 17 with (at_builtin; refine br _ rfl _ _ 53 rfl _ _ _ _ rfl rfl hap ?_)
       try rw [hn9]
       clear hn9 S hap c0 c1 c2 c3 HX;have S:=Xe;have HX:=HX8;clear Xe HX8;have DM:bN (Xl.length<=6):=S.I.2.1.len HK.I HI.I;cases hq:x1.Mf
       .have HM:bN (Xk w k B (w.heap.size+1) Xl a2 Ta _/\Xj k.pure part Xl/\Xy k.pure (n+1) _ l0 Xl):=⟨S.I.1,S.I.2.1,Xu S.I.2.2.1 HC.I.1 S.I.2.2.2 (fun h=>by rw [HQ.I,hq] at h; cases h)⟩
        clear hq;go_wp2;go_roundw
        case rel=>exact ⟨Xl,a2,Ta,_,n+1,zw,rfl,rfl,by go_num,HM.I⟩
        case measure=>simp [Go.RowKit.intOf]; omega
       have Ck:bN (zo k.pure.parts c=true):=HQ.I.trans hq;clear hq;have Mb:=Xq a2 Xl Ta c.src _ Zcx (nP S.I.1.own);obtain ⟨c0,c1,c2,c3⟩:=HX.I.cells;go_wp2_with fail;clear c0 c1 c2 c3;refine Mb.mono ?_;clear Mb;rintro e W9 ⟨rfl,hb⟩;replace S:=aA (And.intro (S.I.1.below hb) S.I.2);replace HX:=aA (HX.I.below hb);clear hb;by_cases hs:c.src∈Xl
       case neg=>
        have HM:bN (Xk w k B (w.heap.size+1) Xl a2 Ta W9/\Xj k.pure part Xl/\Xy k.pure (n+1) _ l0 Xl):=⟨S.I.1,S.I.2.1,Xu S.I.2.2.1 HC.I.1 S.I.2.2.2 (fun _ h=>absurd h hs)⟩
        rw [decide_eq_false hs];clear hs;exact ZaI
       have Mb:=Xq a2 Xl Ta c.dst W9 Zcx (nP S.I.1.own);obtain ⟨c0,c1,c2,c3⟩:=HX.I.cells;rw [decide_eq_true hs];go_wp2_with fail;clear c0 c1 c2 c3;refine Mb.mono ?_;clear Mb;rintro e W10 ⟨rfl,hb⟩;replace S:=aA (And.intro (S.I.1.below hb) S.I.2);replace HX:=aA (HX.I.below hb);clear hb;by_cases hd:c.dst∈Xl
       .have HM:bN (Xk w k B (w.heap.size+1) Xl a2 Ta W10/\Xj k.pure part Xl/\Xy k.pure (n+1) _ l0 Xl):=⟨S.I.1,S.I.2.1,Xu S.I.2.2.1 HC.I.1 S.I.2.2.2 (fun _ _=>hd)⟩
        rw [decide_eq_true hd];clear hs hd;exact ZaI
       .obtain ⟨a4,XM,Yt,hap,ho,hkp,-⟩:=XB c.dst S.I.1.own Zcx S.I.1.b0.2.2
        have HM:bN (Xk w k B (w.heap.size+1) (Xl ++ [c.dst]) a4 XM Yt/\Xj k.pure part (Xl ++ [c.dst])/\Xy k.pure (n+1) true l0 (Xl ++ [c.dst])):=⟨S.I.1.more ho hkp,S.I.2.1.dst HC.I.2 Ck.I hs hd,XJ S.I.2.2.1 _⟩
        rw [decide_eq_false hd];clear ho hkp hs hd;obtain ⟨c0,c1,c2,c3⟩:=HX.I.cells;go_wp2_with (at_builtin; refine br _ rfl _ _ 53 rfl _ _ _ _ rfl rfl hap ?_);go_roundw
        case rel=>exact ⟨Xl ++ [c.dst],a4,XM,true,n+1,zw,by simp,rfl,by go_num,HM.I.1,HM.I.2⟩
        case measure=>simp [Go.RowKit.intOf]; omega
     .replace S:bN (Xk w k B (w.heap.size+1) l a1 Xv W6/\Xj k.pure part l/\Xy k.pure n b l0 l/\(c.dst∈l->c.src∈l)):=⟨S.I.1,S.I.2.1,S.I.2.2,fun h=>absurd h hd⟩
      rw [decide_eq_false hd];clear hd DM;exact gt
    .have i1: ¬ (n:Int) < (k.eC.length:Int):=zw
     obtain ⟨-,-,-,-,m4⟩:=S.I.1.box.cells;have HE:bN (Xk w k B (w.heap.size+1) l a1 Xv wr/\Xj k.pure part l/\(b=false->X0 k.eC (zo k.pure.parts) (· ∈l))/\2 * (7 - l.length)+(if b=true then 1 else 0) < 2 * (7 - l0.length)+1):=by
      have h6:=S.I.2.1.len HK.I HI.I;refine ⟨S.I.1,S.I.2.1,fun hm=> ?_,?_⟩
      .have h7:=(S.I.2.2.2 hm).2
       rwa [KF (by show k.eC.length<=n; omega)] at h7
      .cases b
       .rw [(S.I.2.2.2 rfl).1]; simp
       .have:=S.I.2.2.1 rfl; simp; omega
     go_wp2;go_roundw
     case rel=>exact ⟨l,a1,Xv,b,rfl,rfl,HE.I.1,HE.I.2.1,HE.I.2.2.1⟩
     case measure=>have h9:=HE.I.2.2.2; cases b <;> simpa [lenOf,Ys] using h9
end
end Go.Proofs.YtckenjkcmajicaaGreat
