/- What the proof leans on, part 22. -/
import Derived.Test.YtkbcplnlehdjfaaGreatOwnP21
set_option maxRecDepth 100000
set_option maxHeartbeats 8000000
open Array renaming getElem?_eq_some_iff->J2,getElem?_toList->QJ
open Go renaming wp_at_succ->Kd,wp_at_zero->Kc
open Go.Proofs.Tryz renaming prog->J3
open Go.Result renaming andThen_ok->QT
open Go.RowKit.Below renaming refl->Kp
open Go.Sem renaming run_bind->QR,run_pure->QS
open Go.Value.slice renaming injEq->LD
open List renaming append_assoc->Lm,filterMap_append->LW,getElem?_append_right->Qo,getElem?_eq_getElem->Kz,getElem?_eq_some_iff->Lj,getElem?_take->QW,length_cons->Lg,mem_append->Kg,mem_append_left->Lz,mem_append_right->Ly,mem_cons->Kt,mem_filterMap->Lq,mem_flatMap->Rt,mem_map->Lr,nil_append->Ll,nodup_append->Kf,not_mem_nil->Ku
open Nat renaming le_refl->Ki,mul_le_mul_right->Rs,succ_mul->Lh,zero_add->Li
open Option renaming map_eq_some_iff->Kw,map_some->J9
open Option.some renaming injEq->LF
open Prod.mk renaming injEq->Kx

namespace Go.Proofs.YtkbcplnlehdjfaaGreat
section
open Go.RowKit
def blk (a:Option Addr):List Nat:=(a.map (·.block)).toList
theorem fZ {a:Option Addr} {g:Nat} :g∈blk a↔a.map (·.block)=some g:=by
 unfold blk;cases a <;> simp [eq_comm]
def af.Mc (p:af):List Nat:=blk p.aN ++ (p.L8.filterMap aR.bt ++ (blk p.bc ++ (blk p.ay ++ (blk p.ax ++ (blk p.am ++ (p.ae.filterMap aC.bt ++ (blk p.aK ++ (p.ai.filterMap aU.bt))))))))
structure ap (w:World) (base:Nat) (p:af):Prop where
 L8:w.ownsRow base 43 12 (.slice p.aN p.L8.length p.aW) p.L8.length (bg.flat p.L8)
 aj:w.ownsRow base 49 3 (.slice p.bc p.aj.length p.bF) p.aj.length (dm.flat p.aj)
 L9:w.ownsRow base 138 2 (.slice p.ay p.L9.length p.aO) p.L9.length (bJ.flat p.L9)
 ag:w.ownsRow base 141 3 (.slice p.ax p.ag.length p.aP) p.ag.length (bG.flat p.ag)
 ae:w.ownsRow base 144 3 (.slice p.am p.ae.length p.aG) p.ae.length (bm.flat p.ae)
 ai:w.ownsRow base 61 5 (.slice p.aK p.ai.length p.aV) p.ai.length (bX.flat p.ai)
 eI: ∀ x∈p.L8,aR.cO w base x
 eE: ∀ x∈p.ae,aC.cO w base x
 eR: ∀ x∈p.ai,aU.cO w base x
 nodup:p.Mc.Nodup
theorem aL {w w':World} {base n size cap:Nat} {e:TypeId} {a:Option Addr} {xs:List Value} (h:w.ownsRow base e size (.slice a n cap) n xs) (hs: ∀ g,g∈blk a→w'.heap[g]? =w.heap[g]?):w'.ownsRow base e size (.slice a n cap) n xs:=by
 obtain ⟨hl,h2⟩:=h;refine ⟨hl,?_⟩;rcases h2 with h2 | ⟨g,c,cur,hv,h1,hg,r⟩
 ·exact .inl h2
 ·simp only [LD] at hv
  exact .inr ⟨g,c,cur,by rw [hv.1,hv.2.2],h1,(hs g (by rw [fZ,hv.1]; rfl)).trans hg,r⟩
theorem cf {w:World} {base n size cap:Nat} {e:TypeId} {a:Option Addr} {xs:List Value} (h:w.ownsRow base e size (.slice a n cap) n xs) {g:Nat} (hg:g∈blk a):base≤g∧g < w.heap.size:=by
 rcases h.2 with ⟨hv,-⟩ | ⟨g',c,cur,hv,h1,hg',r⟩
 ·simp only [LD] at hv
  rw [hv.1] at hg;simp [blk] at hg
 ·simp only [LD] at hv
  rw [fZ,hv.1] at hg;simp only [J9,LF] at hg;subst hg;exact ⟨h1,(J2.1 hg').1⟩
theorem dP {α:Type} {N:gd α} {l:List α} {g:Nat} :g∈l.filterMap N.bt↔ ∃ x∈l,N.bt x=some g:=Lq
theorem ap.lt {w:World} {base:Nat} {p:af} (h:ap w base p): ∀ g∈p.Mc,base≤g∧g < w.heap.size:=fun g hg=>by
 simp only [af.Mc,Kg] at hg;rcases hg with hg | hg | hg | hg | hg | hg | hg | hg | hg
 ·exact cf h.L8 hg
 ·obtain ⟨x,hx,hk⟩:=dP.1 hg
  exact (h.eI x hx).lt hk
 ·exact cf h.aj hg
 ·exact cf h.L9 hg
 ·exact cf h.ag hg
 ·exact cf h.ae hg
 ·obtain ⟨x,hx,hk⟩:=dP.1 hg
  exact (h.eE x hx).lt hk
 ·exact cf h.ai hg
 ·obtain ⟨x,hx,hk⟩:=dP.1 hg
  exact (h.eR x hx).lt hk
theorem ap.same {w w':World} {base:Nat} {p:af} (h:ap w base p) (hs: ∀ g∈p.Mc,w'.heap[g]? =w.heap[g]?):ap w' base p:=by
 have hm: ∀ g,(g∈blk p.aN∨g∈p.L8.filterMap aR.bt∨g∈blk p.bc∨g∈blk p.ay∨g∈blk p.ax∨g∈blk p.am∨g∈p.ae.filterMap aC.bt∨g∈blk p.aK∨g∈p.ai.filterMap aU.bt)→g∈p.Mc:=fun g hg=>by
  simp only [af.Mc,Kg];exact hg
 exact ⟨aL h.L8 fun g hg=>hs g (hm g (.inl hg)),aL h.aj fun g hg=>hs g (hm g (.inr (.inr (.inl hg)))),aL h.L9 fun g hg=>hs g (hm g (.inr (.inr (.inr (.inl hg))))),aL h.ag fun g hg=>hs g (hm g (.inr (.inr (.inr (.inr (.inl hg)))))),aL h.ae fun g hg=>hs g (hm g (.inr (.inr (.inr (.inr (.inr (.inl hg))))))),aL h.ai fun g hg=>hs g (hm g (.inr (.inr (.inr (.inr (.inr (.inr (.inr (.inl hg))))))))),fun x hx=>(h.eI x hx).same fun g hk=>hs g (hm g (.inr (.inl ((dP.2 ⟨x,hx,hk⟩))))),fun x hx=>(h.eE x hx).same fun g hk=>hs g (hm g (.inr (.inr (.inr (.inr (.inr (.inr (.inl ((dP.2 ⟨x,hx,hk⟩)))))))))),fun x hx=>(h.eR x hx).same fun g hk=>hs g (hm g (.inr (.inr (.inr (.inr (.inr (.inr (.inr (.inr ((dP.2 ⟨x,hx,hk⟩))))))))))),h.nodup⟩
theorem ap.below {w w':World} {base:Nat} {p:af} (h:ap w base p) (hb:Below w.heap.size w w'):ap w' base p:=h.same fun g hg=>hb.block g (h.lt g hg).2
theorem ap.lower {w:World} {base base':Nat} {p:af} (h:ap w base p) (hb:base'≤base):ap w base' p:=
 ⟨cq h.L8 hb,cq h.aj hb,cq h.L9 hb,cq h.ag hb,cq h.ae hb,cq h.ai hb,fun x hx=>(h.eI x hx).low hb,fun x hx=>(h.eE x hx).low hb,fun x hx=>(h.eR x hx).low hb,h.nodup⟩
theorem ap.at {w:World} {base:Nat} {p:af} (h:ap w base p):af.At w p:=by
 refine ⟨⟨nP h.L8,fun x hx r hr=> ?_⟩,⟨nP h.aj,fun x hx r hr=> ?_⟩,⟨nP h.L9,fun x hx r hr=> ?_⟩,⟨nP h.ag,fun x hx r hr=> ?_⟩,⟨nP h.ae,fun x hx r hr=> ?_⟩,⟨nP h.ai,fun x hx r hr=> ?_⟩⟩
 ·simp only [bg,Kt,Ku,or_false] at hr
  subst hr;exact (h.eI x hx).row
 ·simp [dm] at hr
 ·simp [bJ] at hr
 ·simp [bG] at hr
 ·simp only [bm,Kt,Ku,or_false] at hr
  subst hr;exact (h.eE x hx).row
 ·simp only [bX,Kt,Ku,or_false] at hr
  subst hr;exact (h.eR x hx).row
structure aE.Small (p:aE):Prop where
 dl:p.L8.length≤1048576
 fx:p.aj.length≤1048576
 cD:p.L9.length≤1048576
 cC:p.ag.length≤1048576
 cb:p.ae.length≤1048576
 dH:p.ai.length≤1048576
 L8: ∀ x∈p.L8,(x.prog.length≤1048576∧(∀ o∈x.prog,o.2.2.2.size≤1048576)∧x.held.size≤1048576∧x.got.size≤1048576)∧(Lit.int .i64 x.id).wf=true∧(Lit.int .i64 x.on).wf=true∧(Lit.int .i64 x.RU).wf=true
 aj: ∀ x∈p.aj,(Lit.int .i64 x.id).wf=true
 L9: ∀ x∈p.L9,(Lit.int .i64 x.id).wf=true
 ag: ∀ x∈p.ag,(Lit.int .i64 x.id).wf=true∧x.text.size≤1048576
 ae: ∀ x∈p.ae,(Lit.int .i64 x.id).wf=true∧x.Ma.length≤1048576∧ ∀ s∈x.Ma,s.size≤1048576
 ai: ∀ x∈p.ai,(Lit.int .i64 x.id).wf=true∧x.Ma.length≤1048576∧ ∀ s∈x.Ma,s.size≤1048576
section
variable {p:af}
theorem gv (h:p.pure.Small):p.dX:=by
 have h1:=h.dl;have h2:=h.cb;have h3:=h.dH;simp only [af.pure,List.length_map] at h1 h2 h3;exact ⟨h1,h.fx,h.cD,h.cC,h2,h3⟩
theorem cY (h:p.pure.Small) {x:ao} (hx:x∈p.L8):x.dX∧x.Wf:=by
 have:=h.L8 x.toaD (Lr.2 ⟨x,hx,rfl⟩)
 exact ⟨⟨this.1.1,this.1.2.1,this.1.2.2.1,this.1.2.2.2⟩,⟨this.2.1,this.2.2.1,this.2.2.2⟩⟩
theorem nO (h:p.pure.Small) {x:au} (hx:x∈p.ae):(Lit.int .i64 x.id).wf=true∧x.Ma.length≤1048576∧ ∀ s∈x.Ma,s.size≤1048576:=h.ae x.toci (Lr.2 ⟨x,hx,rfl⟩)
theorem qf (h:p.pure.Small) {x:aM} (hx:x∈p.ai):(Lit.int .i64 x.id).wf=true∧x.Ma.length≤1048576∧ ∀ s∈x.Ma,s.size≤1048576:=h.ai x.todS (Lr.2 ⟨x,hx,rfl⟩)
theorem dV (h:p.pure.Small):p.Fit:=⟨gv h,fun b hb=>(h.ag b hb).2,fun _ hb=>(nO h hb).2,fun _ hb=>(qf h hb).2⟩
theorem uG (h:p.pure.Small) {w:World} {base:Nat} (ho:ap w base p):p.Good w:=
 ⟨ho.at,gv h,fun _ hx=>cY h hx,h.aj,h.L9,h.ag,fun _ hx=>nO h hx,fun _ hx=>qf h hx,fun x hx _ hk=>((ho.eI x hx).lt hk).2,fun x hx _ hk=>((ho.eE x hx).lt hk).2,fun x hx _ hk=>((ho.eR x hx).lt hk).2⟩
end
def fV (lo:Nat) (F:World→Prop) (W:World):Prop:= ∀ W',(∀ g,lo≤g→g < W.heap.size→W'.heap[g]? =W.heap[g]?)→W.heap.size≤W'.heap.size→F W'
theorem fV.here {lo:Nat} {F:World→Prop} {W:World} (h:fV lo F W):F W:=h W (fun _ _ _=>rfl) (Ki _)
theorem fV.step {lo:Nat} {F:World→Prop} {W W1:World} (h:fV lo F W) (hs: ∀ g,lo≤g→g < W.heap.size→W1.heap[g]? =W.heap[g]?) (hz:W.heap.size≤W1.heap.size):fV lo F W1:=fun W' h' hz'=>
 h W' (fun g h1 h2=>(h' g h1 (by omega)).trans (hs g h1 h2)) (by omega)
end
section
open Go.RowKit
attribute [local go_sem ↓] Kc Kd





end
section
open Go.RowKit Go.Maps
attribute [local go_sem ↓] Kc Kd
theorem Iy {S:aZ} (h:aQ S.pure): ∀ p∈RW (fun x:ao=>x.id) S.lp,(Lit.int .i64 p.1).wf=true:=fun p hp=>by
 obtain ⟨r,hr,rfl⟩:=Lr.1 hp;have h1:=(cK h.L8 r.1.toaD (Lr.2 ⟨r,hr,rfl⟩)).1;have h2:=bz.1 h1;have e1:IntKind.min .i64≤0:=by decide
 have e2:100000≤IntKind.max .i64:=by decide
 simp only [Lit.wf,Bool.and_eq_true,decide_eq_true_eq];have h3:r.1.toaD.id=r.1.id:=rfl;omega
theorem um (p:af) (w:World) (hg:p.Good w):Calls J3 25 #[.agg p.cells] w fun e w'=>e= .returned (.int .i64 (da p.pure))∧Below w.heap.size w w':=by
 have HG:Hid (p.Good (w.alloc (.cells p.cells 32))∧Below w.heap.size w (w.alloc (.cells p.cells 32))):=⟨hg.below ((Kp _ _).alloc (Ki _) _),(Kp _ _).alloc (Ki _) _⟩
 clear hg;unfold af.cells at *
 go_enter Tryz.func25,Tryz.ntmps25
 go_wp2_with fail;generalize w.alloc (.cells p.row 32)=W at *;refine (iO p W HG.I.1).mono ?_;rintro e w1 ⟨hb1,⟨hno,rfl⟩ | ⟨fm,o,S,rfl,hat,gn⟩⟩
 ·have HZ:Hid (Below w.heap.size w w1∧da p.pure=0):=⟨HG.I.2.trans (hb1.mono HG.I.2.size),by simp [da,dL hno]⟩
  clear hb1 hno;go_wp2;go_ret;exact ⟨ck HZ.I.2.symm,HZ.I.1⟩
 have HZ:Hid (Below w.heap.size w w1∧aQ S.pure∧cJ w1 W.heap.size o S∧S.pure=p.pure):=⟨HG.I.2.trans (hb1.mono HG.I.2.size),by rw [gn]; exact fm,hat,gn⟩
 have DM:Hid (S.lp.length≤1048576):=by have h5:=HZ.I.2.1.dl; have h6:S.pure.L8.length=S.lp.length:=(by simp [aZ.pure]); show S.lp.length≤_; omega
 clear hb1 fm hat gn;go_wp2_with fail;refine (Cm o S.q S.lp W.heap.size w1 HZ.I.2.2.1.opn HZ.I.2.2.1.L8 DM.I (Iy HZ.I.2.1)).mono ?_;rintro e w2 ⟨rfl,hb2⟩;have cy:Hid (Below w.heap.size w w2):=HZ.I.1.trans (hb2.mono HZ.I.1.size);by_cases hr:0 < (et S.lp).length
 ·have dr:decide (0 < (et S.lp).length)=true:=decide_eq_true hr
  obtain ⟨y,hy,hym⟩:=ql (l:=et S.lp) hr (Ki _);rw [List.take_length] at hy;have HC:Hid (da p.pure=y.1.id):=by
   have h5:=vj (et S.lp);rw [hy,sI] at h5
   show da _=_
   rw [← HZ.I.2.2.2];simp only [da,fP HZ.I.2.1,if_true,nL];have h6:jo (S.pure.L8.filter fun x=>decide (x.Md=1))=some y.1.toaD:=h5.symm;rw [h6]
  have lW:w2.heap[y.2]? =some (.cells (aX y.1) 43 (0,0)):=(HZ.I.2.2.1.L8.below hb2).box y (List.mem_filter.1 hym).1;obtain ⟨s0,-⟩:=bo lW;rw [hy,dr];simp only [qz,dt,J9];clear hb2 hr dr hy hym lW;go_wp2;go_ret;exact ⟨ck HC.I.symm,cy.I⟩
 ·have dr:decide (0 < (et S.lp).length)=false:=decide_eq_false hr
  have he:et S.lp= [] :=List.eq_nil_of_length_eq_zero (by omega);have HC:Hid (da p.pure=0):=by
   have h5:=vj (et S.lp);rw [sI] at h5
   show da _=_
   rw [← HZ.I.2.2.2];simp only [da,fP HZ.I.2.1,if_true,nL];have h6:jo (S.pure.L8.filter fun x=>decide (x.Md=1))=none:=by rw [show S.pure.L8=S.lp.map (·.1.toaD) from rfl,← h5,he]; rfl
   rw [h6]
  rw [dr,he];clear hb2 hr dr he;go_wp2;go_ret;exact ⟨ck HC.I.symm,cy.I⟩
end
section
open Go.RowKit
structure aI (w w':World) (bs:List Nat):Prop where
 os:w'.os=w.os
 tape:w'.tape=w.tape
 output:w'.output=w.output
 size:w.heap.size≤w'.heap.size
 same: ∀ g,g < w.heap.size→g∉bs→w'.heap[g]? =w.heap[g]?
section
variable {w w1 w2:World} {bs bs':List Nat}
theorem aI.refl (w:World) (bs:List Nat):aI w w bs:=⟨rfl,rfl,rfl,Ki _,fun _ _ _=>rfl⟩
theorem aI.trans (h:aI w w1 bs) (h':aI w1 w2 bs):aI w w2 bs:=
 ⟨h'.os.trans h.os,h'.tape.trans h.tape,h'.output.trans h.output,Nat.le_trans h.size h'.size,fun g hg hn=>(h'.same g (Nat.lt_of_lt_of_le hg h.size) hn).trans (h.same g hg hn)⟩
theorem aI.mono (h:aI w w1 bs) (hs: ∀ g∈bs,g∈bs'):aI w w1 bs':=⟨h.os,h.tape,h.output,h.size,fun g hg hn=>h.same g hg fun hm=>hn (hs g hm)⟩
theorem aI.dI (h:Below w.heap.size w w1):aI w w1 bs:=⟨h.os,h.tape,h.output,h.size,fun g hg _=>h.block g hg⟩
theorem aI.below {base:Nat} (h:aI w w1 bs) (hb:base≤w.heap.size) (hs: ∀ g∈bs,base≤g):Below base w w1:=⟨h.os,h.tape,h.output,h.size,fun g hg=>h.same g (by omega) fun hm=>by have:=hs g hm; omega⟩
theorem aI.set {g off:Nat} (vs:List Value) (hg:g∈bs):aI w (bn w g off vs) bs:=
 have hb: ∀ (vs:List Value) (w:World) (off:Nat),(bn w g off vs).os=w.os∧(bn w g off vs).tape=w.tape∧(bn w g off vs).output=w.output:=fun vs=>by
  induction vs with
  | nil=>exact fun _ _=>⟨rfl,rfl,rfl⟩
  | cons v r ih=>exact fun w off=>ih (w.setCell ⟨g,off,none⟩ v) (off+1)
 ⟨(hb vs w off).1,(hb vs w off).2.1,(hb vs w off).2.2,by rw [fH]; exact Ki _,fun k _ hn=>de vs fun e=>hn (by rw [e]; exact hg)⟩
end
theorem oY: ∀ (vs:List Value) (cur:Array Value) (off j:Nat),off+vs.length≤j→(iD cur off vs)[j]? =cur[j]?
 | [],_,_,_,_=>rfl
 | v :: r,cur,off,j,h=>by
  simp only [Lg] at h;rw [iD,oY r _ _ _ (by omega),Array.getElem?_setIfInBounds_ne (by omega)]
section
variable {α:Type} {K:Kind α}
theorem Kind.GG {xs:List Value} {l:List α} (hl:xs.length=l.length * K.n) (h: ∀ i y r,l[i]? =some y→r < K.n→xs[i * K.n+r]? =(K.vals y)[r]?):xs=K.flat l:=by
 apply List.ext_getElem?;intro q;by_cases hq:q < l.length * K.n
 ·have hi:q / K.n < l.length:=Nat.div_lt_of_lt_mul (by rw [Nat.mul_comm]; exact hq)
  have hr:q % K.n < K.n:=Nat.mod_lt _ K.pos;have e:q / K.n * K.n+q % K.n=q:=by rw [Nat.mul_comm]; exact Nat.div_add_mod q K.n
  obtain ⟨y,hy⟩: ∃ y,l[q / K.n]? =some y:=⟨_,Kz hi⟩
  have h1:=h _ y _ hy hr;rw [← K.jw hy hr,e] at h1;exact h1
 ·rw [List.getElem?_eq_none (by omega),List.getElem?_eq_none (by rw [K.dM]; omega)]
theorem Gf {cur:Array Value} {A B:List α} {x y:α} {j:Nat} {vs:List Value} (h:cur.toList.take ((A ++ x :: B).length * K.n)=K.flat (A ++ x :: B)) (hs:(A ++ x :: B).length * K.n≤cur.size) (hj:j+vs.length≤K.n)
  (h1: ∀ r,r < vs.length→(K.vals y)[j+r]? =vs[r]?) (h2: ∀ r,r < K.n→ ¬ (j≤r∧r < j+vs.length)→(K.vals y)[r]? =(K.vals x)[r]?):
  (iD cur (A.length * K.n+j) vs).toList.take ((A ++ y :: B).length * K.n)=K.flat (A ++ y :: B):=by
 have hlen:(A ++ y :: B).length=(A ++ x :: B).length:=by simp
 have hA:A.length < (A ++ x :: B).length:=by rw [List.length_append,Lg]; omega
 have hle:A.length * K.n+K.n≤(A ++ x :: B).length * K.n:=by rw [← Lh]; exact Rs _ hA
 have hcur: ∀ q,q < (A ++ x :: B).length * K.n→cur[q]? =(K.flat (A ++ x :: B))[q]? :=fun q hq=>by
  rw [← h,QW,if_pos hq,QJ]
 have e0:(iD cur (A.length * K.n+j) vs).toList.length=cur.size:=by rw [Array.length_toList,kM]
 refine Kind.GG (by rw [List.length_take,e0,hlen]; omega) fun i z r hz hr=> ?_
 have hi:i < (A ++ x :: B).length:=by rw [← hlen]; exact (Lj.1 hz).1
 have hq:i * K.n+r < (A ++ x :: B).length * K.n:=by
  have:(i+1) * K.n≤(A ++ x :: B).length * K.n:=Rs _ hi
  rw [Lh] at this;omega
 rw [QW,hlen,if_pos hq,QJ];by_cases e:i=A.length
 ·subst e
  have hzy:z=y:=by
   rw [Qo (Ki _)] at hz;simpa using hz.symm
  subst hzy;have hx:(A ++ x :: B)[A.length]? =some x:=by rw [Qo (Ki _)]; simp
  by_cases hr2:j≤r∧r < j+vs.length
  ·obtain ⟨d,rfl⟩: ∃ d,r=j+d:=⟨r - j,by omega⟩
   rw [h1 d (by omega),show A.length * K.n+(j+d)=A.length * K.n+j+d by omega,Kz (by omega)];exact sv vs cur (A.length * K.n+j) d _ (by omega) (Kz (by omega))
  ·rw [h2 r hr hr2,← K.jw hx hr,← hcur _ hq]
   by_cases h3:r < j
   ·exact lL vs cur _ _ (by omega)
   ·exact oY vs cur _ _ (by omega)
 ·have hx:(A ++ x :: B)[i]? =some z:=by
   by_cases h3:i < A.length
   ·rw [List.getElem?_append_left h3] at hz ⊢
    exact hz
   ·rw [Qo (by omega)] at hz ⊢
    obtain ⟨d,hd⟩: ∃ d,i - A.length=d+1:=⟨i - A.length - 1,by omega⟩
    rw [hd] at hz ⊢;exact hz
  rw [← K.jw hx hr,← hcur _ hq];by_cases h3:i < A.length
  ·have:(i+1) * K.n≤A.length * K.n:=Rs _ h3
   rw [Lh] at this;exact lL vs cur _ _ (by omega)
  ·have:(A.length+1) * K.n≤i * K.n:=Rs _ (by omega)
   rw [Lh] at this;exact oY vs cur _ _ (by omega)
def bl (K:Kind α) (T:TypeId) (w:World) (base g cap:Nat) (l:List α):Prop:= ∃ cur:Array Value,w.heap[g]? =some (.cells cur T (0,0))∧base≤g∧l.length≤cap∧cap≤maxLen∧cur.size=cap * K.n∧cur.toList.take (l.length * K.n)=K.flat l
theorem bl.owns {T:TypeId} {w:World} {base g cap:Nat} {l:List α} (h:bl K T w base g cap l):w.ownsRow base T K.n (.slice (some ⟨g,0,none⟩) l.length cap) l.length (K.flat l):=by
 obtain ⟨cur,h1,h2,h3,h4,h5,h6⟩:=h;exact ⟨K.dM l,.inr ⟨g,cap,cur,rfl,h2,h1,h3,h4,h5,h6⟩⟩
theorem bl.fX {T:TypeId} {w:World} {base cap:Nat} {a:Option Addr} {l:List α} (h:w.ownsRow base T K.n (.slice a l.length cap) l.length (K.flat l)) (hl: ¬ l.length=0): ∃ g,a=some ⟨g,0,none⟩∧bl K T w base g cap l:=by
 rcases h.2 with ⟨_,h0⟩ | ⟨g,c,cur,hv,h1,h2,h3,h4,h5,h6⟩
 ·exact absurd h0 hl
 ·simp only [LD] at hv
  obtain ⟨rfl,-,rfl⟩:=hv;exact ⟨g,rfl,cur,h2,h1,h3,h4,h5,h6⟩
theorem bl.same {T:TypeId} {w w':World} {base g cap:Nat} {l:List α} (h:bl K T w base g cap l) (hs:w'.heap[g]? =w.heap[g]?):bl K T w' base g cap l:=by
 obtain ⟨cur,h1,h2⟩:=h;exact ⟨cur,hs.trans h1,h2⟩
theorem bl.lt {T:TypeId} {w:World} {base g cap:Nat} {l:List α} (h:bl K T w base g cap l):g < w.heap.size:=by
 obtain ⟨cur,h1,_⟩:=h;exact (J2.1 h1).1
theorem bl.cell {T:TypeId} {w:World} {base g cap:Nat} {l:List α} (h:bl K T w base g cap l) {i:Nat} {x:α} (hx:l[i]? =some x) {r:Nat} (hr:r < K.n):w.cell? ⟨g,i * K.n+r,none⟩=(K.vals x)[r]? ∧w.frozen? ⟨g,i * K.n+r,none⟩=false:=by
 obtain ⟨cur,h1,h2,h3,h4,h5,h6⟩:=h;refine ⟨?_,frozen_of_row _ _ _ _ _ h1⟩;have hi:i < l.length:=(Lj.1 hx).1;have hq:i * K.n+r < l.length * K.n:=by
  have:(i+1) * K.n≤l.length * K.n:=Rs _ hi
  rw [Lh] at this;omega
 rw [cell_of_row _ _ _ _ _ _ h1,← K.jw hx hr,← h6,QW,if_pos hq,QJ]
theorem bl.part {T:TypeId} {w:World} {base g cap:Nat} {A B:List α} {x y:α} {j:Nat} {vs:List Value} (h:bl K T w base g cap (A ++ x :: B)) (hj:j+vs.length≤K.n)
  (h1: ∀ r,r < vs.length→(K.vals y)[j+r]? =vs[r]?) (h2: ∀ r,r < K.n→ ¬ (j≤r∧r < j+vs.length)→(K.vals y)[r]? =(K.vals x)[r]?):
  bl K T (bn w g (A.length * K.n+j) vs) base g cap (A ++ y :: B):=by
 obtain ⟨cur,c1,c2,c3,c4,c5,c6⟩:=h;have hl:(A ++ y :: B).length=(A ++ x :: B).length:=by simp
 refine ⟨_,jc vs c1,c2,by rw [hl]; exact c3,c4,by rw [kM]; exact c5,?_⟩;exact Gf c6 (by rw [c5]; exact Rs _ c3) hj h1 h2
end
theorem qC {Z A A' K k R:List Nat} (h:(Z ++ (A ++ (K ++ R))).Nodup) (hA:A'.Nodup) (hk:k.Nodup) (h1: ∀ g∈A',g∉Z∧g∉K∧g∉k∧g∉R) (h2: ∀ g∈k,g∉Z∧g∉K∧g∉R):(Z ++ (A' ++ ((K ++ k) ++ R))).Nodup:=by
 simp only [Kf,Kg] at h ⊢;obtain ⟨hz,⟨-,⟨hK,hR,hKR⟩,-⟩,hzz⟩:=h;refine ⟨hz,⟨hA,⟨⟨hK,hk,fun a ha b hb e=>(h2 b hb).2.1 (e ▸ ha)⟩,hR,fun a ha b hb e=> ?_⟩,fun a ha b hb e=> ?_⟩,fun a ha b hb e=> ?_⟩
 ·rcases ha with ha | ha
  ·exact hKR a ha b hb e
  ·exact (h2 a ha).2.2 (e ▸ hb)
 ·subst e
  rcases hb with (hb | hb) | hb
  ·exact (h1 a ha).2.1 hb
  ·exact (h1 a ha).2.2.1 hb
  ·exact (h1 a ha).2.2.2 hb
 ·subst e
  rcases hb with hb | (hb | hb) | hb
  ·exact (h1 a hb).1 ha
  ·exact hzz a ha a (.inr (.inl hb)) rfl
  ·exact (h2 a hb).1 ha
  ·exact hzz a ha a (.inr (.inr hb)) rfl
theorem fN (a:Option Addr):(blk a).Nodup:=by cases a <;> simp [blk]
theorem qj {α:Type} (N:gd α) (x:α):([x].filterMap N.bt).Nodup:=by
 cases h:N.bt x <;> simp [h]
theorem dd {α:Type} {N:gd α} {l:List α} {y:α} {g:Nat} (hy:y∈l) (hk:N.bt y=some g):(∃ a,a∈l∧N.bt a=some g)=True:=by simp only [eq_iff_iff,iff_true]; exact ⟨y,hy,hk⟩
theorem j5 {α:Type} {N:gd α} {x:α} {g:Nat} :g∈ [x].filterMap N.bt↔N.bt x=some g:=by simp
theorem ap.yg {w w':World} {base:Nat} {q:af} {x:ao} {a:Option Addr} {c:Nat} (h:ap w base q) (hm:aR.cO w base x) (hx: ∀ g,aR.bt x=some g→g∉q.Mc)
  (ho:w'.ownsRow base 43 12 (.slice a (q.L8.length+1) c) (q.L8.length+1) (bg.flat (q.L8 ++ [x]))) (hg: ∀ g,g < w.heap.size→g∉blk q.aN→w'.heap[g]? =w.heap[g]?) (hb: ∀ g∈blk a,g∈blk q.aN∨g=w.heap.size):
  ap w' base ({ q with L8:=q.L8 ++ [x],aN:=a,aW:=c } :af)∧ ∀ g∈({ q with L8:=q.L8 ++ [x],aN:=a,aW:=c } :af).Mc,g∈q.Mc∨aR.bt x=some g∨g=w.heap.size:=by
 have hbs:q.Mc= [] ++ (blk q.aN ++ (q.L8.filterMap aR.bt ++ (blk q.bc ++ (blk q.ay ++ (blk q.ax ++ (blk q.am ++ (q.ae.filterMap aC.bt ++ (blk q.aK ++ q.ai.filterMap aU.bt)))))))):=by simp [af.Mc]
 have rN:({ q with L8:=q.L8 ++ [x],aN:=a,aW:=c } :af).Mc= [] ++ (blk a ++ ((q.L8.filterMap aR.bt ++ [x].filterMap aR.bt) ++ (blk q.bc ++ (blk q.ay ++ (blk q.ax ++ (blk q.am ++ (q.ae.filterMap aC.bt ++ (blk q.aK ++ q.ai.filterMap aU.bt)))))))):=by simp only [af.Mc,Lm,LW,Ll]
 have hnd:=h.nodup;rw [hbs] at hnd;have hlt: ∀ g∈q.Mc,g < w.heap.size:=fun g hg=>(h.lt g hg).2
 have uW: ∀ g∈q.Mc,g∉blk q.aN→w'.heap[g]? =w.heap[g]? :=fun g bR hn=>hg g (hlt g bR) hn
 have nc: ∀ g,(g∈ [] ∨g∈q.L8.filterMap aR.bt∨g∈(blk q.bc ++ (blk q.ay ++ (blk q.ax ++ (blk q.am ++ (q.ae.filterMap aC.bt ++ (blk q.aK ++ q.ai.filterMap aU.bt)))))))→g∉blk q.aN:=fun g bR hA=>by
  obtain ⟨-,h2,h3⟩:=Kf.1 hnd;obtain ⟨-,-,h4⟩:=Kf.1 h2;rcases bR with bR | bR | bR
  ·exact h3 g bR g (Lz _ hA) rfl
  ·exact h4 g hA g (Lz _ bR) rfl
  ·exact h4 g hA g (Ly _ bR) rfl
 have hmem: ∀ g,(g∈ [] ∨g∈q.L8.filterMap aR.bt∨g∈(blk q.bc ++ (blk q.ay ++ (blk q.ax ++ (blk q.am ++ (q.ae.filterMap aC.bt ++ (blk q.aK ++ q.ai.filterMap aU.bt)))))))→g∈q.Mc:=fun g bR=>by
  rw [hbs];simp only [Kg];simp only [Kg] at bR;rcases bR with bR | bR | bR
  ·exact .inl bR
  ·exact .inr (.inr (.inl bR))
  ·exact .inr (.inr (.inr bR))
 have hs: ∀ g,(g∈ [] ∨g∈q.L8.filterMap aR.bt∨g∈(blk q.bc ++ (blk q.ay ++ (blk q.ax ++ (blk q.am ++ (q.ae.filterMap aC.bt ++ (blk q.aK ++ q.ai.filterMap aU.bt)))))))→w'.heap[g]? =w.heap[g]? :=fun g bR=>uW g (hmem g bR) (nc g bR)
 have hxs: ∀ g,aR.bt x=some g→w'.heap[g]? =w.heap[g]? :=fun g hk=>hg g (hm.lt hk).2 fun hA=>hx g hk (by rw [hbs]; simp only [Kg]; exact .inr (.inl hA))
 refine ⟨⟨(by simpa using ho),aL h.aj fun g bR=>hs g (.inr <| .inr (by simp [bR])),aL h.L9 fun g bR=>hs g (.inr <| .inr (by simp [bR])),aL h.ag fun g bR=>hs g (.inr <| .inr (by simp [bR])),aL h.ae fun g bR=>hs g (.inr <| .inr (by simp [bR])),aL h.ai fun g bR=>hs g (.inr <| .inr (by simp [bR])),fun y hy=>by
  rcases Kg.1 hy with hy | hy
  ·exact (h.eI y hy).same fun g hk=>hs g (.inr (.inl (Lq.2 ⟨y,hy,hk⟩)))
  ·simp only [Kt,Ku,or_false] at hy
   subst hy;exact hm.same hxs,fun y hy=>(h.eE y hy).same fun g hk=>hs g (.inr <| .inr (by simp only [Kg,Lq]; simp [dd hy hk])),fun y hy=>(h.eR y hy).same fun g hk=>hs g (.inr <| .inr (by simp only [Kg,Lq]; simp [dd hy hk])),?_⟩,?_⟩
 ·rw [rN]
  refine qC hnd (fN a) (qj _ x) (fun g iE=> ?_) (fun g EI=> ?_)
  ·have key: ∀ g',(g'∈ [] ∨g'∈q.L8.filterMap aR.bt∨g'∈(blk q.bc ++ (blk q.ay ++ (blk q.ax ++ (blk q.am ++ (q.ae.filterMap aC.bt ++ (blk q.aK ++ q.ai.filterMap aU.bt)))))))→g'≠g:=fun g' hg' e=>by
    rcases hb g iE with h1 | h1
    ·exact nc g' hg' (e ▸ h1)
    ·have:=hlt g' (hmem g' hg')
     omega
   refine ⟨fun hz=>key g (.inl hz) rfl,fun hz=>key g (.inr (.inl hz)) rfl,fun hz=> ?_,fun hz=>key g (.inr (.inr hz)) rfl⟩;rw [j5] at hz;rcases hb g iE with h1 | h1
   ·exact hx g hz (by rw [hbs]; simp only [Kg]; exact .inr (.inl h1))
   ·have:=(hm.lt hz).2
    omega
  ·rw [j5] at EI
   have hn:=hx g EI;exact ⟨fun hz=>hn (hmem g (.inl hz)),fun hz=>hn (hmem g (.inr (.inl hz))),fun hz=>hn (hmem g (.inr (.inr hz)))⟩
 ·intro g bR
  rw [rN] at bR;rw [hbs];simp only [Kg] at bR ⊢;rcases bR with bR | bR | (bR | bR) | bR
  ·exact .inl (.inl bR)
  ·rcases hb g bR with h1 | h1
   ·exact .inl (.inr (.inl h1))
   ·exact .inr (.inr h1)
  ·exact .inl (.inr (.inr (.inl bR)))
  ·exact .inr (.inl (j5.1 bR))
  ·exact .inl (.inr (.inr (.inr bR)))
theorem ap.sD {w w':World} {base:Nat} {q:af} {x:au} {a:Option Addr} {c:Nat} (h:ap w base q) (hm:aC.cO w base x) (hx: ∀ g,aC.bt x=some g→g∉q.Mc)
  (ho:w'.ownsRow base 144 3 (.slice a (q.ae.length+1) c) (q.ae.length+1) (bm.flat (q.ae ++ [x]))) (hg: ∀ g,g < w.heap.size→g∉blk q.am→w'.heap[g]? =w.heap[g]?) (hb: ∀ g∈blk a,g∈blk q.am∨g=w.heap.size):
  ap w' base ({ q with ae:=q.ae ++ [x],am:=a,aG:=c } :af)∧ ∀ g∈({ q with ae:=q.ae ++ [x],am:=a,aG:=c } :af).Mc,g∈q.Mc∨aC.bt x=some g∨g=w.heap.size:=by
 have hbs:q.Mc=(blk q.aN ++ q.L8.filterMap aR.bt ++ blk q.bc ++ blk q.ay ++ blk q.ax) ++ (blk q.am ++ (q.ae.filterMap aC.bt ++ (blk q.aK ++ q.ai.filterMap aU.bt))):=by simp [af.Mc,Lm]
 have rN:({ q with ae:=q.ae ++ [x],am:=a,aG:=c } :af).Mc=(blk q.aN ++ q.L8.filterMap aR.bt ++ blk q.bc ++ blk q.ay ++ blk q.ax) ++ (blk a ++ ((q.ae.filterMap aC.bt ++ [x].filterMap aC.bt) ++ (blk q.aK ++ q.ai.filterMap aU.bt))):=by simp only [af.Mc,Lm,LW]
 have hnd:=h.nodup;rw [hbs] at hnd;have hlt: ∀ g∈q.Mc,g < w.heap.size:=fun g hg=>(h.lt g hg).2
 have uW: ∀ g∈q.Mc,g∉blk q.am→w'.heap[g]? =w.heap[g]? :=fun g bR hn=>hg g (hlt g bR) hn
 have nc: ∀ g,(g∈(blk q.aN ++ q.L8.filterMap aR.bt ++ blk q.bc ++ blk q.ay ++ blk q.ax)∨g∈q.ae.filterMap aC.bt∨g∈(blk q.aK ++ q.ai.filterMap aU.bt))→g∉blk q.am:=fun g bR hA=>by
  obtain ⟨-,h2,h3⟩:=Kf.1 hnd;obtain ⟨-,-,h4⟩:=Kf.1 h2;rcases bR with bR | bR | bR
  ·exact h3 g bR g (Lz _ hA) rfl
  ·exact h4 g hA g (Lz _ bR) rfl
  ·exact h4 g hA g (Ly _ bR) rfl
 have hmem: ∀ g,(g∈(blk q.aN ++ q.L8.filterMap aR.bt ++ blk q.bc ++ blk q.ay ++ blk q.ax)∨g∈q.ae.filterMap aC.bt∨g∈(blk q.aK ++ q.ai.filterMap aU.bt))→g∈q.Mc:=fun g bR=>by
  rw [hbs];simp only [Kg];simp only [Kg] at bR;rcases bR with bR | bR | bR
  ·exact .inl bR
  ·exact .inr (.inr (.inl bR))
  ·exact .inr (.inr (.inr bR))
 have hs: ∀ g,(g∈(blk q.aN ++ q.L8.filterMap aR.bt ++ blk q.bc ++ blk q.ay ++ blk q.ax)∨g∈q.ae.filterMap aC.bt∨g∈(blk q.aK ++ q.ai.filterMap aU.bt))→w'.heap[g]? =w.heap[g]? :=fun g bR=>uW g (hmem g bR) (nc g bR)
 have hxs: ∀ g,aC.bt x=some g→w'.heap[g]? =w.heap[g]? :=fun g hk=>hg g (hm.lt hk).2 fun hA=>hx g hk (by rw [hbs]; simp only [Kg]; exact .inr (.inl hA))
 refine ⟨⟨aL h.L8 fun g bR=>hs g (.inl (by simp [bR])),aL h.aj fun g bR=>hs g (.inl (by simp [bR])),aL h.L9 fun g bR=>hs g (.inl (by simp [bR])),aL h.ag fun g bR=>hs g (.inl (by simp [bR])),(by simpa using ho),aL h.ai fun g bR=>hs g (.inr <| .inr (by simp [bR])),fun y hy=>(h.eI y hy).same fun g hk=>hs g (.inl (by simp only [Kg,Lq]; simp [dd hy hk])),fun y hy=>by
  rcases Kg.1 hy with hy | hy
  ·exact (h.eE y hy).same fun g hk=>hs g (.inr (.inl (Lq.2 ⟨y,hy,hk⟩)))
  ·simp only [Kt,Ku,or_false] at hy
   subst hy;exact hm.same hxs,fun y hy=>(h.eR y hy).same fun g hk=>hs g (.inr <| .inr (by simp only [Kg,Lq]; simp [dd hy hk])),?_⟩,?_⟩
 ·rw [rN]
  refine qC hnd (fN a) (qj _ x) (fun g iE=> ?_) (fun g EI=> ?_)
  ·have key: ∀ g',(g'∈(blk q.aN ++ q.L8.filterMap aR.bt ++ blk q.bc ++ blk q.ay ++ blk q.ax)∨g'∈q.ae.filterMap aC.bt∨g'∈(blk q.aK ++ q.ai.filterMap aU.bt))→g'≠g:=fun g' hg' e=>by
    rcases hb g iE with h1 | h1
    ·exact nc g' hg' (e ▸ h1)
    ·have:=hlt g' (hmem g' hg')
     omega
   refine ⟨fun hz=>key g (.inl hz) rfl,fun hz=>key g (.inr (.inl hz)) rfl,fun hz=> ?_,fun hz=>key g (.inr (.inr hz)) rfl⟩;rw [j5] at hz;rcases hb g iE with h1 | h1
   ·exact hx g hz (by rw [hbs]; simp only [Kg]; exact .inr (.inl h1))
   ·have:=(hm.lt hz).2
    omega
  ·rw [j5] at EI
   have hn:=hx g EI;exact ⟨fun hz=>hn (hmem g (.inl hz)),fun hz=>hn (hmem g (.inr (.inl hz))),fun hz=>hn (hmem g (.inr (.inr hz)))⟩
 ·intro g bR
  rw [rN] at bR;rw [hbs];simp only [Kg] at bR ⊢;rcases bR with bR | bR | (bR | bR) | bR
  ·exact .inl (.inl bR)
  ·rcases hb g bR with h1 | h1
   ·exact .inl (.inr (.inl h1))
   ·exact .inr (.inr h1)
  ·exact .inl (.inr (.inr (.inl bR)))
  ·exact .inr (.inl (j5.1 bR))
  ·exact .inl (.inr (.inr (.inr bR)))
theorem ap.yf {w w':World} {base:Nat} {q:af} {x:aM} {a:Option Addr} {c:Nat} (h:ap w base q) (hm:aU.cO w base x) (hx: ∀ g,aU.bt x=some g→g∉q.Mc)
  (ho:w'.ownsRow base 61 5 (.slice a (q.ai.length+1) c) (q.ai.length+1) (bX.flat (q.ai ++ [x]))) (hg: ∀ g,g < w.heap.size→g∉blk q.aK→w'.heap[g]? =w.heap[g]?) (hb: ∀ g∈blk a,g∈blk q.aK∨g=w.heap.size):
  ap w' base ({ q with ai:=q.ai ++ [x],aK:=a,aV:=c } :af)∧ ∀ g∈({ q with ai:=q.ai ++ [x],aK:=a,aV:=c } :af).Mc,g∈q.Mc∨aU.bt x=some g∨g=w.heap.size:=by
 have hbs:q.Mc=(blk q.aN ++ q.L8.filterMap aR.bt ++ blk q.bc ++ blk q.ay ++ blk q.ax ++ blk q.am ++ q.ae.filterMap aC.bt) ++ (blk q.aK ++ (q.ai.filterMap aU.bt ++ [])):=by simp [af.Mc,Lm]
 have rN:({ q with ai:=q.ai ++ [x],aK:=a,aV:=c } :af).Mc=(blk q.aN ++ q.L8.filterMap aR.bt ++ blk q.bc ++ blk q.ay ++ blk q.ax ++ blk q.am ++ q.ae.filterMap aC.bt) ++ (blk a ++ ((q.ai.filterMap aU.bt ++ [x].filterMap aU.bt) ++ [])):=by simp only [af.Mc,Lm,LW,List.append_nil]
 have hnd:=h.nodup;rw [hbs] at hnd;have hlt: ∀ g∈q.Mc,g < w.heap.size:=fun g hg=>(h.lt g hg).2
 have uW: ∀ g∈q.Mc,g∉blk q.aK→w'.heap[g]? =w.heap[g]? :=fun g bR hn=>hg g (hlt g bR) hn
 have nc: ∀ g,(g∈(blk q.aN ++ q.L8.filterMap aR.bt ++ blk q.bc ++ blk q.ay ++ blk q.ax ++ blk q.am ++ q.ae.filterMap aC.bt)∨g∈q.ai.filterMap aU.bt∨g∈ [])→g∉blk q.aK:=fun g bR hA=>by
  obtain ⟨-,h2,h3⟩:=Kf.1 hnd;obtain ⟨-,-,h4⟩:=Kf.1 h2;rcases bR with bR | bR | bR
  ·exact h3 g bR g (Lz _ hA) rfl
  ·exact h4 g hA g (Lz _ bR) rfl
  ·exact h4 g hA g (Ly _ bR) rfl
 have hmem: ∀ g,(g∈(blk q.aN ++ q.L8.filterMap aR.bt ++ blk q.bc ++ blk q.ay ++ blk q.ax ++ blk q.am ++ q.ae.filterMap aC.bt)∨g∈q.ai.filterMap aU.bt∨g∈ [])→g∈q.Mc:=fun g bR=>by
  rw [hbs];simp only [Kg];simp only [Kg] at bR;rcases bR with bR | bR | bR
  ·exact .inl bR
  ·exact .inr (.inr (.inl bR))
  ·exact .inr (.inr (.inr bR))
 have hs: ∀ g,(g∈(blk q.aN ++ q.L8.filterMap aR.bt ++ blk q.bc ++ blk q.ay ++ blk q.ax ++ blk q.am ++ q.ae.filterMap aC.bt)∨g∈q.ai.filterMap aU.bt∨g∈ [])→w'.heap[g]? =w.heap[g]? :=fun g bR=>uW g (hmem g bR) (nc g bR)
 have hxs: ∀ g,aU.bt x=some g→w'.heap[g]? =w.heap[g]? :=fun g hk=>hg g (hm.lt hk).2 fun hA=>hx g hk (by rw [hbs]; simp only [Kg]; exact .inr (.inl hA))
 refine ⟨⟨aL h.L8 fun g bR=>hs g (.inl (by simp [bR])),aL h.aj fun g bR=>hs g (.inl (by simp [bR])),aL h.L9 fun g bR=>hs g (.inl (by simp [bR])),aL h.ag fun g bR=>hs g (.inl (by simp [bR])),aL h.ae fun g bR=>hs g (.inl (by simp [bR])),(by simpa using ho),fun y hy=>(h.eI y hy).same fun g hk=>hs g (.inl (by simp only [Kg,Lq]; simp [dd hy hk])),fun y hy=>(h.eE y hy).same fun g hk=>hs g (.inl (by simp only [Kg,Lq]; simp [dd hy hk])),fun y hy=>by
  rcases Kg.1 hy with hy | hy
  ·exact (h.eR y hy).same fun g hk=>hs g (.inr (.inl (Lq.2 ⟨y,hy,hk⟩)))
  ·simp only [Kt,Ku,or_false] at hy
   subst hy;exact hm.same hxs,?_⟩,?_⟩
 ·rw [rN]
  refine qC hnd (fN a) (qj _ x) (fun g iE=> ?_) (fun g EI=> ?_)
  ·have key: ∀ g',(g'∈(blk q.aN ++ q.L8.filterMap aR.bt ++ blk q.bc ++ blk q.ay ++ blk q.ax ++ blk q.am ++ q.ae.filterMap aC.bt)∨g'∈q.ai.filterMap aU.bt∨g'∈ [])→g'≠g:=fun g' hg' e=>by
    rcases hb g iE with h1 | h1
    ·exact nc g' hg' (e ▸ h1)
    ·have:=hlt g' (hmem g' hg')
     omega
   refine ⟨fun hz=>key g (.inl hz) rfl,fun hz=>key g (.inr (.inl hz)) rfl,fun hz=> ?_,fun hz=>key g (.inr (.inr hz)) rfl⟩;rw [j5] at hz;rcases hb g iE with h1 | h1
   ·exact hx g hz (by rw [hbs]; simp only [Kg]; exact .inr (.inl h1))
   ·have:=(hm.lt hz).2
    omega
  ·rw [j5] at EI
   have hn:=hx g EI;exact ⟨fun hz=>hn (hmem g (.inl hz)),fun hz=>hn (hmem g (.inr (.inl hz))),fun hz=>hn (hmem g (.inr (.inr hz)))⟩
 ·intro g bR
  rw [rN] at bR;rw [hbs];simp only [Kg] at bR ⊢;rcases bR with bR | bR | (bR | bR) | bR
  ·exact .inl (.inl bR)
  ·rcases hb g bR with h1 | h1
   ·exact .inl (.inr (.inl h1))
   ·exact .inr (.inr h1)
  ·exact .inl (.inr (.inr (.inl bR)))
  ·exact .inr (.inl (j5.1 bR))
  ·exact .inl (.inr (.inr (.inr bR)))
end
section
open Go.RowKit
attribute [local go_sem ↓] Kc Kd



end
section
open Go.RowKit
theorem yS:(Tryz.prog.info? 49).map (fun i=>(i.zero,i.size,i.bytes))=some (some (.agg #[.int .i64 0,.int .i64 0,.int .i64 0]),3,24):=by kernel_rfl
theorem so:(Tryz.prog.info? 138).map (fun i=>(i.zero,i.size,i.bytes))=some (some (.agg #[.int .i64 0,.bool false]),2,16):=by kernel_rfl
theorem sj:(Tryz.prog.info? 141).map (fun i=>(i.zero,i.size,i.bytes))=some (some (.agg #[.int .i64 0,.bool false,.string ⟨#[]⟩]),3,32):=by kernel_rfl
theorem kh:(Tryz.prog.info? 144).map (fun i=>(i.zero,i.size,i.bytes))=some (some (.agg #[.int .i64 0,.int .i64 0,.slice none 0 0]),3,40):=by kernel_rfl
theorem na:(Tryz.prog.info? 61).map (fun i=>(i.zero,i.size,i.bytes))=some (some (.agg #[.int .i64 0,.bool false,.bool false,.int .i64 0,.slice none 0 0]),5,48):=by kernel_rfl
theorem nb:(Tryz.prog.info? 43).map (fun i=>(i.zero,i.size,i.bytes))=some (some (.agg cE),12,128):=by kernel_rfl
theorem i6 {w:World} {base g:Nat} {e:TypeId} {size:Nat} (hg:w.heap[g]? =some (.cells #[] e (0,0))) (hb:base≤g):w.ownsRow base e size (.slice (some ⟨g,0,none⟩) 0 0) 0 [] :=
 ⟨by simp,.inr ⟨g,0,#[],rfl,hb,hg,Ki _,Nat.zero_le _,by simp,by simp⟩⟩
theorem kK {P:Program} (w:World) (base:Nat) (t ty e:TypeId) (i:TypeInfo) (z:Value) (size bytes:Nat) (ht:P.underlying t=some (.slice e)) (hi:P.info? e=some i) (hz:i.zero=some z)
  (hsize:i.size=size) (hby:i.bytes=bytes) (hzs:z.cells.size=size) (hsz:0 < size) (g:Nat) (hg:w.heap[g]? =some (.cells #[] e (0,0))) (hbg:base≤g) (a:Option Addr) (n cap:Nat) (xs:List Value) (h:Row w a xs) (hl:xs.length=n * size) (h1: ∀ u∈xs,u.oneCell'=true)
  (h63:n≤1048576) (hb:bytes≤1000) (lY:base≤w.heap.size):
  ∃ a' cap' w',(Builtin.append_ #[t,t] ty #[.slice (some ⟨g,0,none⟩) 0 0,.slice a n cap]).run P w= .ok (.slice a' n cap') w'∧w'.ownsRow base e size (.slice a' n cap') n xs∧w.grownBy w' (some g)∧ ∀ q∈blk a',q=g∨q=w.heap.size:=by
 cases a with
 | none=>
  have hx:xs= [] :=by
   cases xs with
   | nil=>rfl
   | cons u r=>
    obtain ⟨g,e',_⟩:=h 0 u rfl;cases e'
  subst hx;have hn:n=0:=by
   cases n with
   | zero=>rfl
   | succ n=>simp only [List.length_nil,Lh] at hl; omega
  subst hn;refine ⟨some ⟨g,0,none⟩,0,w,?_,i6 hg hbg,⟨rfl,rfl,rfl,Ki _,fun _ _ _=>rfl⟩,fun q hq=>by simp [blk] at hq; exact .inl hq⟩;simp [Builtin.append_,run_underlying ht,sizeOf,typeInfo,hi,Builtin.lenOf,Builtin.firstCells,storeCells]
 | some ad=>
  have hnews: ∀ j u,xs[j]? =some u→w.cell? (ad.add j)=some u:=fun j u hu=>by
   obtain ⟨g,e',hc⟩:=h j u hu;cases e';rw [qZ];exact hc
  obtain ⟨v',w',hr,ho,hgr,-,hbl⟩:=run_append_own_at (P:=P) w base t ty e i z size bytes ht hi hz hsize hby hzs hsz (.slice (some ⟨g,0,none⟩) 0 0) 0 [] (i6 hg hbg) ad n cap xs hl hnews h1 (by unfold maxLen; omega) (by rw [Li]; have:=Nat.mul_le_mul h63 hb; omega) lY;simp only [Li,Ll] at ho;obtain ⟨a',cap',rfl,-⟩:=cr ho;refine ⟨a',cap',w',hr,ho,hgr,fun q hq=> ?_⟩;rw [fZ] at hq;cases a' with
  | none=>simp at hq
  | some ad'=>
   simp only [J9,LF] at hq;subst hq;rcases hbl with hbl | hbl
   ·exact .inl (by simpa [Value.ownBlock] using hbl)
   ·exact .inr (by simpa [Value.ownBlock] using hbl)
theorem Ec {l:List bD} : ∀ u∈dm.flat l,u.oneCell'=true:=fun u hu=>by
 obtain ⟨x,_,hx⟩:=Rt.1 hu;simp only [dm,yz,Kt,Ku,or_false] at hx;rcases hx with rfl | rfl | rfl <;> rfl
theorem xB {l:List aB} : ∀ u∈bJ.flat l,u.oneCell'=true:=fun u hu=>by
 obtain ⟨x,_,hx⟩:=Rt.1 hu;simp only [bJ,rY,Kt,Ku,or_false] at hx;rcases hx with rfl | rfl <;> rfl
theorem xV {l:List az} : ∀ u∈bG.flat l,u.oneCell'=true:=fun u hu=>by
 obtain ⟨x,_,hx⟩:=Rt.1 hu;simp only [bG,sn,Kt,Ku,or_false] at hx;rcases hx with rfl | rfl | rfl <;> rfl
theorem Iq (w:World) (base g:Nat) (hg:w.heap[g]? =some (.cells #[] 49 (0,0))) (hbg:base≤g) (a:Option Addr) (l:List bD) (cap:Nat) (h:Row w a (dm.flat l)) (hl:l.length≤1048576) (lY:base≤w.heap.size):
  ∃ a' cap' w',(Builtin.append_ #[26,26] 26 #[.slice (some ⟨g,0,none⟩) 0 0,.slice a l.length cap]).run J3 w= .ok (.slice a' l.length cap') w'∧w'.ownsRow base 49 3 (.slice a' l.length cap') l.length (dm.flat l)∧w.grownBy w' (some g)∧ ∀ q∈blk a',q=g∨q=w.heap.size:=by
 obtain ⟨i,hi,e⟩:=Kw.1 yS;simp only [Kx] at e;exact kK w base _ _ 49 i _ 3 24 Tryz.underlying26 hi e.1 e.2.1 e.2.2 rfl (by decide) g hg hbg a l.length cap _ h (dm.dM l) Ec hl (by decide) lY
theorem Fp (w:World) (base g:Nat) (hg:w.heap[g]? =some (.cells #[] 138 (0,0))) (hbg:base≤g) (a:Option Addr) (l:List aB) (cap:Nat) (h:Row w a (bJ.flat l)) (hl:l.length≤1048576) (lY:base≤w.heap.size):
  ∃ a' cap' w',(Builtin.append_ #[27,27] 27 #[.slice (some ⟨g,0,none⟩) 0 0,.slice a l.length cap]).run J3 w= .ok (.slice a' l.length cap') w'∧w'.ownsRow base 138 2 (.slice a' l.length cap') l.length (bJ.flat l)∧w.grownBy w' (some g)∧ ∀ q∈blk a',q=g∨q=w.heap.size:=by
 obtain ⟨i,hi,e⟩:=Kw.1 so;simp only [Kx] at e;exact kK w base _ _ 138 i _ 2 16 Tryz.underlying27 hi e.1 e.2.1 e.2.2 rfl (by decide) g hg hbg a l.length cap _ h (bJ.dM l) xB hl (by decide) lY
theorem ED (w:World) (base g:Nat) (hg:w.heap[g]? =some (.cells #[] 141 (0,0))) (hbg:base≤g) (a:Option Addr) (l:List az) (cap:Nat) (h:Row w a (bG.flat l)) (hl:l.length≤1048576) (lY:base≤w.heap.size):
  ∃ a' cap' w',(Builtin.append_ #[28,28] 28 #[.slice (some ⟨g,0,none⟩) 0 0,.slice a l.length cap]).run J3 w= .ok (.slice a' l.length cap') w'∧w'.ownsRow base 141 3 (.slice a' l.length cap') l.length (bG.flat l)∧w.grownBy w' (some g)∧ ∀ q∈blk a',q=g∨q=w.heap.size:=by
 obtain ⟨i,hi,e⟩:=Kw.1 sj;simp only [Kx] at e;exact kK w base _ _ 141 i _ 3 32 Tryz.underlying28 hi e.1 e.2.1 e.2.2 rfl (by decide) g hg hbg a l.length cap _ h (bG.dM l) xV hl (by decide) lY
theorem Gg (w:World) (base g:Nat) (hg:w.heap[g]? =some (.cells #[] 134 (0,0))) (hbg:base≤g) (a:Option Addr) (l:List dN) (cap:Nat) (h:Row w a (fk.flat l)) (hl:l.length≤1048576) (lY:base≤w.heap.size):
  ∃ a' cap' w',(Builtin.append_ #[37,37] 37 #[.slice (some ⟨g,0,none⟩) 0 0,.slice a l.length cap]).run J3 w= .ok (.slice a' l.length cap') w'∧w'.ownsRow base 134 4 (.slice a' l.length cap') l.length (fk.flat l)∧w.grownBy w' (some g)∧ ∀ q∈blk a',q=g∨q=w.heap.size:=by
 obtain ⟨i,hi,e⟩:=Kw.1 D5;simp only [Kx] at e;exact kK w base _ _ 134 i _ 4 40 Tryz.underlying37 hi e.1 e.2.1 e.2.2 rfl (by decide) g hg hbg a l.length cap _ h (fk.dM l) FE hl (by decide) lY
theorem tO (w:World) (base g:Nat) (hg:w.heap[g]? =some (.cells #[] 9 (0,0))) (hbg:base≤g) (a:Option Addr) (l:List ByteArray) (cap:Nat) (h:Row w a (bT.flat l)) (hl:l.length≤1048576) (lY:base≤w.heap.size):
  ∃ a' cap' w',(Builtin.append_ #[59,59] 59 #[.slice (some ⟨g,0,none⟩) 0 0,.slice a l.length cap]).run J3 w= .ok (.slice a' l.length cap') w'∧w'.ownsRow base 9 1 (.slice a' l.length cap') l.length (bT.flat l)∧w.grownBy w' (some g)∧ ∀ q∈blk a',q=g∨q=w.heap.size:=by
 obtain ⟨i,hi,e⟩:=Kw.1 zD;simp only [Kx] at e;exact kK w base _ _ 9 i _ 1 16 Tryz.underlying59 hi e.1 e.2.1 e.2.2 rfl (by decide) g hg hbg a l.length cap _ h (bT.dM l) yK hl (by decide) lY
section
variable {P:Program} {Q:Exit→Act→World→Prop} {K:Act→World→Prop} {o:Oper} {a:Act} {w:World}
theorem cM (s x:Operand) (t:TypeId) (ho:o.op= .call { callee:= .builtin .append,args:= #[s,x],argTypes:= #[t,t] }) (v u r:Value) (w':World) (hs:a.eval s=v) (hx:a.eval x=u) (hr:(Builtin.append_ #[t,t] o.type #[v,u]).run P w= .ok r w')
  (h:K (a.put o.dst r) w'):Oper.wp P o a w K Q:=by
 unfold Oper.wp execOp;simp only [ho,resolve,invoke,builtin,QR,QS,QT,List.map_toArray,List.map_cons,List.map_nil,hs,hx,hr];exact h
theorem qd (ty:TypeId) (x y:Operand) (ho:o.op= .store ty x y) (g:Nat) (t:TypeId) (old cells:Array Value) (hx:a.eval x= .pointer (some ⟨g,0,none⟩)) (hy:a.eval y= .agg cells) (hg:w.heap[g]? =some (.cells old t (0,0))) (hi:(P.info? ty).map (·.size)=some cells.size)
  (hs:old.size=cells.size) (h1:cells.all (·.oneCell')=true) (h:K (a.put o.dst undef) (w.setRow g cells)):Oper.wp P o a w K Q:=by
 unfold Oper.wp execOp;simp only [ho,hx,hy,Instr.storeAt,Instr.sureAddr,QR,QS,QT,run_storeVar_row w g t ty old cells hg hi hs h1];exact h
theorem wpList_store_row {ops:Array Oper} {rest:List Oper} (hgd:o.guard=none) (ty:TypeId) (x y:Operand) (ho:o.op= .store ty x y) (g:Nat) (t:TypeId) (old cells:Array Value) (hx:a.eval x= .pointer (some ⟨g,0,none⟩)) (hy:a.eval y= .agg cells) (hg:w.heap[g]? =some (.cells old t (0,0))) (hi:(P.info? ty).map (·.size)=some cells.size)
  (hs:old.size=cells.size) (h1:cells.all (·.oneCell')=true) (h:wpList P ops Q rest (a.put o.dst undef) (w.setRow g cells)):wpList P ops Q (o :: rest) a w:=
 wpList_plain hgd fun _ hK=>qd ty x y ho g t old cells hx hy hg hi hs h1 (hK _ _ h)
end
structure su (w:World) (base:Nat) (T:TypeId) (size len:Nat) (xs:List Value) (b c:Bool) (g:Nat) (a:Option Addr) (cap:Nat):Prop where
 made:b=true→c=false→w.heap[g]? =some (.cells #[] T (0,0))∧base≤g
 done:c=true→w.ownsRow base T size (.slice a len cap) len xs
def bM (b c:Bool) (g:Nat) (a:Option Addr):List Nat:=bif c then blk a else bif b then [g] else []
theorem su.same {w w':World} {base:Nat} {T:TypeId} {size len:Nat} {xs:List Value} {b c:Bool} {g:Nat} {a:Option Addr} {cap:Nat} (h:su w base T size len xs b c g a cap) (hs: ∀ q∈bM b c g a,w'.heap[q]? =w.heap[q]?):su w' base T size len xs b c g a cap:=by
 refine ⟨fun hb hc=> ?_,fun hc=> ?_⟩
 ·subst hb hc
  exact ⟨(hs g (by simp [bM])).trans (h.made rfl rfl).1,(h.made rfl rfl).2⟩
 ·subst hc
  exact aL (h.done rfl) fun q hq=>hs q (by simpa [bM] using hq)
end
end Go.Proofs.YtkbcplnlehdjfaaGreat
