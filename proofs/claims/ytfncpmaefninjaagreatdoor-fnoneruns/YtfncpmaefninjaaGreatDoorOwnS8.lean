/- What the proof leans on, part 8. -/
import Derived.Test.YtfncpmaefninjaaGreatDoorOwnS7
import Derived.Lib.SliceRun
set_option linter.defProp false
set_option linter.unusedVariables false
set_option maxRecDepth 100000
set_option maxHeartbeats 8000000
open Go.Proofs.Tryz
open Go renaming World->w_,Value->v_,Calls->k_,Addr->d_,TypeId->T_,below_setRow->q_
open Go.Ending renaming returned->r_
open Go.IntKind renaming i64->j_
open Go.Obj renaming cells->c_
open Go.RowKit renaming Below->B_
open Go.Value renaming int->i_,slice->s_,bool->b_,string->t_,agg->a_,tuple->u_
open Option renaming some->o_,none->n_
open Array renaming getElem?_eq_some_iff->J2,getElem?_toList->QJ
open Bool renaming and_eq_true->J7,or_eq_true->Kb
open Go renaming cell_of_row->K5,frozen_of_row->Ko,heap_alloc2_new->Kq,heap_alloc_new->Kj,setRow_other->KH,wpAnyH_done->K3,wpAnyH_ready->KW,wp_at_succ->Kd,wp_at_zero->Kc,wp_region_held_drew->Kr
open Go.Addr.mk renaming injEq->aeS
open Go.AllReadyH renaming cons->KX,nil->KY
open Go.ByteArray renaming toList_eq->PQ
open Go.Proofs.Tryz renaming prog->J3
open Go.RowKit.Below renaming refl->Kp
open Go.Value.slice renaming injEq->LD
open Go.World renaming cell?_of_block->J1
open Int renaming le_refl->LJ
open List renaming append_assoc->Lm,cons_append->Qw,getElem?_eq_some_iff->Lj,getElem?_take->QW,getElem_cons_succ->K1,getElem_cons_zero->K0,getElem_toArray->KZ,length_append->Lf,length_cons->Lg,length_drop->Ql,length_nil->K4,length_take->Lk,mem_append->Kg,mem_cons->Kt,mem_filterMap->Lq,mem_iff_getElem->LK,mem_map->Lr,nil_append->Ll,not_mem_nil->Ku,take_of_length_le->KF
open List.Perm renaming refl->RA
open Nat renaming le_refl->Ki,zero_add->Li,zero_le->Ky
open Option renaming map_eq_some_iff->Kw
open Option.some renaming inj->KC,injEq->LF
open Prod.mk renaming injEq->Kx

namespace Go.Proofs.YtfncpmaefninjaaGreatDoor
def empty_eq {s:ByteArray} (h:bI s=true):s=rM:=by
 have h1:s.data.toList= [] :=by simpa [bI,PQ] using h
 cases s with
 | mk d=>
  have:d= #[] :=Array.toList_eq_nil_iff.1 h1
  rw [this]; rfl
def afc (id:Int) (p:aE):Prop:= ∀ y∈p.L8,y.id=id->y.Md=1
def xr (id:Int) (p:aE):Prop:= ∀ y∈p.L8,y.id=id->y.Md=1/\y.left=0
section
variable {p:aE} {id:Int}
def xr.up (h:xr id p):afc id p:=fun y hy hi=>(h y hy hi).1
def afc.not (h:afc id p): ∀ y∈p.L8,y.id=id-> ¬ y.Md=0:=fun y hy hi=>by rw [h y hy hi]; decide
def afc.other {k nx:Int} {f:aD->aD} (h:afc id p) (hk: ¬ k=id) (hf: ∀ x,(f x).id=x.id):afc id { p with next:=nx,L8:=ce k f p.L8 } :=fun y hy hi=>by
 obtain ⟨z,hz,rfl⟩:=Lr.1 (show y∈ce k f p.L8 from hy)
 split at hi
 .rw [hf] at hi; omega
 .rw [if_neg ‹_›]; exact h z hz hi
def xr.got {t:ByteArray} {k:Int} (h:xr id p):xr id (ez t k p):=fun y hy hi=>by
 obtain ⟨z,hz,rfl⟩:=Lr.1 (show y∈ce k (lG t) p.L8 from hy)
 split at hi
 .rw [if_pos ‹_›]; exact h z hz hi
 .rw [if_neg ‹_›]; exact h z hz hi
def afc.Mg {f:aD->aD} {x:aD} (h:afc id p) (hx:x∈p.L8) (hs: ¬ x.Md=1) (hf: ∀ y,(f y).id=y.id):afc id (gF f p x):=
 afc.other h (fun e=>hs (h x hx e)) fun y=>by rw [(rD _ _ _).1,hf]
def afc.gW {f:aD->aD} {st on:Int} (hst: ¬ st=1) (hf: ∀ y,(f y).id=y.id): ∀ (n:Nat) (p:aE),afc id p->afc id (gW f st on n p)
 | 0,_,h=>h
 | n+1,p,h=>by
  unfold Go.Proofs.YtfncpmaefninjaaGreatDoor.gW
  split
  .exact h
  .rename_i x hx
   obtain ⟨m1,m2,-⟩:=ft hx;exact afc.gW hst hf n _ (h.Mg m1 zo hf)
def afc.ff {f:aD->aD} {st on:Int} (h:afc id p) (hst: ¬ st=1) (hf: ∀ y,(f y).id=y.id):afc id (ff f st on p):=afc.gW hst hf _ _ h
def D6 {code:Int} (h:aQ p) (hu:afc id p) (hc:cv code 0 3=true):aQ (bu code id p):=zF h hu.not hc
def sO {st on Mg:Int} {held:ByteArray} (h:aQ p) (hu:xr id p) (hn:p.next+1<=1000000000)
  (hs:st=2/\on=0/\bI held=true/\cv Mg 1 2000000000=true\/(st=5/\bw held=true\/(st=3\/st=4\/st=6\/st=7)/\bI held=true)/\lh Mg=true/\hasB p st on=true):aQ (kC st on held Mg id p):=by
 have hnx:=bz.1 h.next;refine h.ju (f:=zb p.next st on held Mg) (fun _=>rfl) ⟨zo,hn⟩ fun x hx hi=> ?_
 obtain ⟨hx1,hx2⟩:=hu x hx hi;obtain ⟨-,k1,k2,k3⟩:=h.proc hx;have hop:=iT k1 (by rw [hx1]; decide);have hb:=iF k1;have hh:bw held=true:=by
  rcases hs with hs | ⟨hs | hs,-⟩
  .rw [empty_eq hs.2.2.1]; rfl
  .exact hs.2
  .rw [empty_eq hs.2]; rfl
 have ho:dU (zb p.next st on held Mg x)=true:=eB hop.1 (by show x.pc<=(x.prog.length:Int) - 1; omega);have hst:bO (zb p.next st on held Mg x)=true:=by
  unfold bO;rw [ho]
  show (if st=0 then _ else if st=1 then _ else if st=2 then true && decide (x.left=0) && cv Mg 1 2000000000 && decide (on=0) && bI held else if st=5 then true && decide (x.left=0) && lh Mg else if st=3\/st=4\/st=6\/st=7 then true && decide (x.left=0) && lh Mg && bI held else false)=true
  rw [hx2];rcases hs with ⟨rfl,rfl,h3,h4⟩ | ⟨⟨rfl,h3⟩ | ⟨h3,h4⟩,h5,-⟩
  .simp [h3,h4]
  .simp [h5]
  .rcases h3 with rfl | rfl | rfl | rfl <;> simp [h4,h5]
 refine ⟨?_,?_,?_,.inr (.inr rfl)⟩
 .rw [fG,J7]
  refine ⟨?_,hst⟩;unfold jY at hb ⊢;simp only [J7] at hb ⊢;exact ⟨⟨⟨hb.1.1.1,hh⟩,hb.1.2⟩,hb.2⟩
 .unfold fF
  rw [Kb];exact ZaX
 .unfold dG
  show (if 3<=st then hasB p st on else true)=true
  rcases hs with ⟨rfl,-⟩ | ⟨-,-,h5⟩
  .rfl
  .split
   .exact h5
   .rfl
def Ha {st now:Int} {o:dN} (h:aQ p) (hu:xr id p) (hn:p.next+1<=1000000000) (eu:0<=now/\now<=1000000000) (hm:cv o.2.2.1 (-1) 1000=true)
  (hs:st=5/\bw o.2.2.2=true\/(st=3\/st=4\/st=6\/st=7)/\bI o.2.2.2=true) (hh:hasB p st o.2.1=true):aQ (mX st o now id p):=by
 have hm':=bz.1 hm;unfold mX
 split
 .exact D6 h hu.up rfl
 .refine sO h hu hn (.inr ⟨hs,?_,hh⟩)
  unfold lh kZ;rw [Kb]
  split
  .exact .inl (eB zo zo)
  .exact .inr zw
def IT {st now:Int} {o:dN} :p.next<=(mX st o now id p).next/\(mX st o now id p).next<=p.next+1:=by
 unfold mX
 split
 .exact ⟨LJ _,by show p.next<=_; omega⟩
 .exact ⟨by show p.next<=p.next+1; omega,LJ _⟩
def mx {k d:Int} (h:aQ p) (hd: ∀ s∈p.aj,s.id=k->0<=s.n+d/\s.n+d<=s.max):aQ (nZ k d p):=
 h.GD Zdp (nj h.aj (fun _=>rfl) fun s hs hk=>by
  have h1:=(cK h.aj s hs).2;unfold gw at h1 ⊢;simp only [J7] at h1 ⊢;exact ⟨h1.1,eB (hd s hs hk).1 (hd s hs hk).2⟩)
def kw {k:Int} {b:Bool} (h:aQ p):aQ (gL k b p):=h.Cz Zdp (nj h.L9 (fun _=>rfl) fun _ _ _=>rfl)
def kA {k:Int} {b:Bool} {t:ByteArray} (h:aQ p) (ht:bw t=true) (hb:b=true\/bI t=true):aQ (ib k b t p):=
 h.C5 Zdp (nj h.ag (fun _=>rfl) fun s hs hk=>by
  unfold cU;simp only [J7,Kb];exact ⟨ht,hb⟩)
def lv {l:List ByteArray} {m:Int} :dJ l m=true↔(l.length:Int)<=m/\ ∀ t∈l,bw t=true:=by
 unfold dJ;simp [and_comm]
def gN {k:Int} {l:List ByteArray} (h:aQ p) (hl: ∀ b∈p.ae,b.id=k->(l.length:Int)<=b.max) (ht: ∀ t∈l,bw t=true):aQ (cV k l p):=
 h.Cb Zdp (nj h.ae (fun _=>rfl) fun s hs hk=>by
  have h1:=(cK h.ae s hs).2;unfold ct at h1 ⊢;simp only [J7] at h1 ⊢;exact ⟨h1.1,lv.2 ⟨hl s hs hk,ht⟩⟩)
def jj {k:Int} {l:List ByteArray} (h:aQ p) (hl: ∀ b∈p.ai,b.id=k->(l.length:Int)<=b.max) (ht: ∀ t∈l,bw t=true):aQ (gU k l p):=
 h.Es Zdp (nj h.ai (fun _=>rfl) fun s hs hk=>by
  have h1:=(cK h.ai s hs).2;unfold dj at h1 ⊢;simp only [J7] at h1 ⊢;exact ⟨h1.1,lv.2 ⟨hl s hs hk,ht⟩⟩)
def only {α:Type} {num:α->Int} {ok:α->Bool} {last k:Int} {l:List α} {x y:α} (h:aw num ok last l=true) (hx:cg num k l=o_ x) (hy:y∈l) (hk:num y=k):y=x:=by
 obtain ⟨h1,h2⟩:=ks hx;have h5:=(db h).2;rw [List.pairwise_iff_getElem] at h5;obtain ⟨i,hi1,rfl⟩:=LK.1 hy;obtain ⟨j,DS,rfl⟩:=LK.1 h1;exact Zbf
def ul {α:Type} {num:α->Int} {k:Int} {l:List α} {x:α} (h:cg num k l=o_ x):decide (k∈l.map num)=true:=by
 obtain ⟨h1,h2⟩:=ks h;exact decide_eq_true (Lr.2 ⟨x,h1,h2⟩)
end
section
open Go Go.RowKit
def aaH (a:Act) (v:v_):a.put n_ v=a:=rfl
def tkr {P:Program} {md:Region.Mode} {ops:Array Oper} {Q:Exit->Act->w_->Prop} {S:w_->Prop} (i:Nat) {oi:Oper} {v:v_} {fuel:Nat} {RV:Array Bool} {a:Act} {w:w_} {d:Tmp} (hi:ops[i]? =o_ oi) (hy:YieldsIf P ops S oi v a) (hS:S w)
  (h:wpAnyH P md ops Q S fuel (RV.setIfInBounds i true) (a.put (o_ d) v) w) (hd:oi.dst=o_ d:=by rfl) (h1:Region.noSelect ops=true:=by kernel_rfl) (h2:Region.free md ops RV i=true:=by kernel_rfl) (h3:(Region.ready md ops RV).contains i=true:=by kernel_rfl)
  (hQ: ∀ c a w,Q (.panic c) (a.put (o_ d) v) w->Q (.panic c) a w:=by exact fun _ _ _ h=>h):wpAnyH P md ops Q S (fuel+1) RV a w:=by
 rw [<- hd] at h hQ;exact wpAnyH_take (i:=i) hi h1 h2 h3 hQ hy hS h
def oc (cs:Array v_) (T:T_) (X:Nat) (W:w_):Prop:=W.heap[X]? =o_ (c_ cs T)
section
variable {cs:Array v_} {T:T_} {X:Nat} {W W':w_} {bs:List Nat}
def oc.lt (h:oc cs T X W):X < W.heap.size:=(J2.1 h).1
def oc.below (h:oc cs T X W) (hb:B_ W.heap.size W W'):oc cs T X W':=(hb.block _ h.lt).trans h
def oc.kept (h:oc cs T X W) (hk:aI W W' bs) (hs:X∉bs):oc cs T X W':=(hk.same _ h.lt hs).trans h
end
def Y5 {α : Type} {l : List α} {i : Nat} (h : i < l.toArray.size) : l.toArray[i]'h = l[i]'(by simpa using h) := by simp
def gs {α : Type} {a : α} {l : List α} {i : Nat} (h : i + 1 < (a :: l).length) : (a :: l)[i + 1]'h = l[i]'(Nat.lt_of_succ_lt_succ h) := rfl
section
variable {p q:af} {w W U V:w_} {B X b:Nat} {cs:Array v_} {T:T_} {Y:Prop}
end
end
section
open Go.RowKit Go.Maps
attribute [local go_sem ↓] Kc Kd
def fE (code:Int) (x:ao):ao:=⟨jT code x.toaD,x.aY,x.bH⟩
abbrev CB (W w:w_) (base:Nat) (q:af) (v:Array v_):Prop:=av W w.heap.size q/\W.heap[w.heap.size+1]? =o_ (c_ ar 31)/\W.heap[w.heap.size+1+1]? =o_ (c_ v 41)/\ap W base q/\B_ w.heap.size w W
def aI.more {w w1 w2:w_} {bs:List Nat} (h:aI w w1 bs) (hb:B_ w.heap.size w1 w2):aI w w2 bs:=⟨hb.os.trans h.os,hb.tape.trans h.tape,hb.output.trans h.output,Nat.le_trans h.size hb.size,fun g hg hn=>(hb.block g hg).trans (h.same g hg hn)⟩
def ug {W w:w_} {base gs n:Nat} {q:af} {x y:ao} {vs:List v_} (h1:av W w.heap.size q) (h2:W.heap[w.heap.size+1]? =o_ (c_ ar 31)) (h3:w.heap.size+1+1 < W.heap.size) (h4:ap W base q) (h5:B_ w.heap.size w W)
  (hx:q.L8[n]? =o_ x) (ha:q.aN=o_ ⟨gs,0,n_⟩) (hb:base<=w.heap.size) (CT:base<=gs) (hg2:gs < w.heap.size) (yD: ∀ g∈q.Mc,g < w.heap.size) (hv:vs=bg.vals y) (hy:y.prog=x.prog/\y.aY=x.aY/\y.bH=x.bH):
  W.there gs (n * 12) 12/\ap (W.setCells gs (n * 12) vs) base ({ q with L8:=q.L8.set n y } :af)/\av (W.setCells gs (n * 12) vs) w.heap.size q/\(W.setCells gs (n * 12) vs).heap[w.heap.size+1]? =o_ (c_ ar 31)/\B_ base w (W.setCells gs (n * 12) vs)/\(∀ g∈({ q with L8:=q.L8.set n y } :af).Mc,g≠w.heap.size+1)/\aI w (W.setCells gs (n * 12) vs) [gs] :=by
 have hn:n < q.L8.length:=(Lj.1 hx).1;have hl:vs.length=12:=by rw [hv]; exact bg.len y
 have oC:W.there gs (n * 12) 12:=by
  obtain ⟨g,hg,hrow⟩:=bl.fX (K:=bg) h4.L8 zo;rw [ha] at hg;cases hg;exact fun j hj=>⟨by have h7:=(hrow.cell hx (r:=j) hj).1; rw [show bg.n=12 from rfl] at h7; rw [h7,List.getElem?_eq_getElem ZdF]; rfl,(hrow.cell hx (r:=j) hj).2⟩
 have h7:=h4.kB (n:=n) (j:=0) (x:=x) (y:=y) (vs:=vs) hx ha hy zo (fun r _=>by rw [Li,hv]) (fun r hr hn=>absurd ⟨Ky _,zo⟩ hn);rw [Nat.add_zero,<- iL] at h7;have hs: ∀ g,g≠gs->g < W.heap.size->(W.setCells gs (n * 12) vs).heap[g]? =W.heap[g]? :=fun g hg hl=>h7.2.1.same g hl (by simpa using hg)
 refine ⟨oC,h7.1,(hs _ zo zo).trans h1,(hs _ zo zo).trans h2,(h5.mono hb).trans (h7.2.1.below zo ZcT),fun g hg e=> ?_,(aI.dI h5).trans h7.2.1⟩;have h8:=yD g (h7.2.2 ▸ hg);omega
def ve (q:af) (n base:Nat) (x:ao) (code:Int) (w:w_) (h:ap w base q) (hb:base<=w.heap.size) (hx:q.L8[n]? =o_ x) (hpc:0<=x.pc/\x.pc < x.prog.length) (hl:x.prog.length<=1048576):
  k_ J3 87 #[a_ q.cells,i_ j_ n,i_ j_ code] w fun e w'=>e=r_ (a_ q.cells)/\ap w' base ({ q with L8:=q.L8.set n (fE code x) } :af)/\B_ base w w'/\aI w w' (blk q.aN):=by
 obtain ⟨gs,ha,hat⟩:=cn h.at.1 hx;have hgs:=cf h.L8 (g:=gs) Zdt;have hnl:n < q.L8.length:=(Lj.1 hx).1;obtain ⟨afG,afd,ps,pA,pC,ss,afV,afX,es,afA,afq,bs,afR,afK,fs,aga,afN,ts,afr,af4⟩:=q;simp only at ha;subst ha;obtain ⟨C,hC⟩: ∃ C:Array v_,C= #[i_ j_ afG,i_ j_ afd,s_ (o_ ⟨gs,0,n_⟩) ps.length pC,s_ afV ss.length afX,s_ afA es.length afq,s_ afR bs.length afK,s_ aga fs.length afN,s_ afr ts.length af4] :=⟨_,rfl⟩
 obtain ⟨G,hG⟩: ∃ G:Array v_,G= #[i_ j_ x.id,i_ j_ x.RX,s_ x.aY x.prog.length x.bH,i_ j_ 1,i_ j_ (x.pc+1),i_ j_ 0,i_ j_ 0,i_ j_ 0,t_ ⟨#[]⟩,t_ x.got,i_ j_ code,i_ j_ x.RU] :=⟨_,rfl⟩
 obtain ⟨D,hD⟩: ∃ D:af,D=(⟨afG,afd,ps,o_ ⟨gs,0,n_⟩,pC,ss,afV,afX,es,afA,afq,bs,afR,afK,fs,aga,afN,ts,afr,af4⟩:af):=⟨_,rfl⟩
 obtain ⟨A,hA⟩: ∃ A:w_,A=(w.alloc (c_ C 31)).alloc (c_ ar 31):=⟨_,rfl⟩
 obtain ⟨B,hB⟩: ∃ B:w_,B=A.alloc (c_ G 41):=⟨_,rfl⟩
 have b1:B_ w.heap.size w A:=by rw [hA]; exact dT _ _ _
 have b2:B_ w.heap.size w B:=by rw [hB,hA]; exact fg _ _ _ _
 have h3:=dR w (c_ C 31) (c_ ar 31) (c_ G 41);have H6:Hid (CB B w base D G):=by subst hB hA hG hD hC; exact ⟨h3.1,h3.2.1,h3.2.2.1,h.below b2,b2⟩
 have HC:Hid (ps[n]? =o_ x/\base<=gs/\gs < w.heap.size/\base<=w.heap.size/\n < ps.length):=⟨hx,hgs.1,hgs.2,hb,hnl⟩
 obtain ⟨d0,d1,d2,d3,d4,d5,d6,d7,d8,d9,tH,tS⟩:ao.At A gs n x:=by
  obtain ⟨g,e,h5⟩:=cn (h.below b1).at.1 hx;cases e;exact h5
 have PBK:Hid (∀ g∈D.Mc,g < w.heap.size):=fun g hg=>(h.lt g (hD ▸ hg)).2
 obtain ⟨n0,n1⟩:=hpc;have n2:x.pc<=1048576:=zo
 have j0:(0:Int)<=(n:Int):=zo
 have j1:(n:Int) < (ps.length:Int):=by have:n < ps.length:=hnl; omega
 clear h hb hx hgs hat b1 b2 h3 hnl hl;subst hB hA hG hD hC;unfold af.cells;simp only
 go_enter func87,ntmps87
 by_cases hlen:x.pc+1=x.prog.length
 .have afx:Hid (fE code x=(⟨j7 (jM code x.toaD),x.aY,x.bH⟩:ao)):=by show fE code x=_; unfold fE jT; rw [if_pos hlen]
  have e1:(x.pc+1 == (x.prog.length:Int))=true:=by simp [hlen]
  clear hlen n1;have Mb:=mN (⟨jM code x.toaD,x.aY,x.bH⟩:ao);simp only [jM,rM] at Mb;go_wp2_with fail;clear d0 d1 d2 d3 d4 d5 d6 d7 d8 d9 tH tS e1;refine (Mb _).mono ?_;clear Mb;rintro e w5 ⟨rfl,iJ⟩;have H5:Hid (CB w5 w base (⟨afG,afd,ps,o_ ⟨gs,0,n_⟩,pC,ss,afV,afX,es,afA,afq,bs,afR,afK,fs,aga,afN,ts,afr,af4⟩:af) #[i_ j_ x.id,i_ j_ x.RX,s_ x.aY x.prog.length x.bH,i_ j_ 1,i_ j_ (x.pc+1),i_ j_ 0,i_ j_ 0,i_ j_ 0,t_ ⟨#[]⟩,t_ x.got,i_ j_ code,i_ j_ x.RU]):=⟨H6.I.1.below iJ,(iJ.block _ (J2.1 H6.I.2.1).1).trans H6.I.2.1,(iJ.block _ (J2.1 H6.I.2.2.1).1).trans H6.I.2.2.1,H6.I.2.2.2.1.below iJ,H6.I.2.2.2.2.trans (iJ.mono H6.I.2.2.2.2.size)⟩
  have H8:Hid (CB (w5.setRow (w.heap.size+1+1) #[i_ j_ x.id,i_ j_ x.RX,s_ x.aY x.prog.length x.bH,i_ j_ 0,i_ j_ 0,i_ j_ 0,i_ j_ 0,i_ j_ 0,t_ ⟨#[]⟩,t_ x.got,i_ j_ code,i_ j_ 0]) w base (⟨afG,afd,ps,o_ ⟨gs,0,n_⟩,pC,ss,afV,afX,es,afA,afq,bs,afR,afK,fs,aga,afN,ts,afr,af4⟩:af) #[i_ j_ x.id,i_ j_ x.RX,s_ x.aY x.prog.length x.bH,i_ j_ 0,i_ j_ 0,i_ j_ 0,i_ j_ 0,i_ j_ 0,t_ ⟨#[]⟩,t_ x.got,i_ j_ code,i_ j_ 0]):=by
   refine ⟨(KH _ _ _ _ zo).trans H5.I.1,(KH _ _ _ _ zo).trans H5.I.2.1,setRow_heap _ _ _ _ _ _ H5.I.2.2.1,H5.I.2.2.2.1.same fun g hg=>KH _ _ _ _ (by have:=PBK.I g hg; omega),q_ H5.I.2.2.2.2 zo _⟩
  clear iJ H6;obtain ⟨m0,m1,m2,m3,m4,m5,m6,m7⟩:=H8.I.1.cells;obtain ⟨r0,r1,r2,r3,r4,r5,r6,r7,r8,r9,Ju,Jq⟩:=bo (x:=(⟨j7 (jM code x.toaD),x.aY,x.bH⟩:ao)) H8.I.2.2.1;have hz:=ug (y:=(⟨j7 (jM code x.toaD),x.aY,x.bH⟩:ao)) (vs:=(#[i_ j_ x.id,i_ j_ x.RX,s_ x.aY x.prog.length x.bH,i_ j_ 0,i_ j_ 0,i_ j_ 0,i_ j_ 0,i_ j_ 0,t_ ⟨#[]⟩,t_ x.got,i_ j_ code,i_ j_ 0] :Array v_).toList) H8.I.1 H8.I.2.1 (J2.1 H8.I.2.2.1).1 H8.I.2.2.2.1 H8.I.2.2.2.2 HC.I.1 rfl HC.I.2.2.2.1 HC.I.2.1 HC.I.2.2.1 PBK.I rfl ⟨rfl,rfl,rfl⟩;have oC:=hz.1;have HZ:Hid (_):=hz.2;clear hz;simp only [j7,jM] at r0 r1 r2 r3 r4 r5 r6 r7 r8 r9 Ju Jq
  dsimp only
  repeat (first | (go_big_may; first | (refine wpList_store_row rfl 41 (Operand.tmp 7) (Operand.tmp 31) rfl (w.heap.size+1+1) _ _ #[i_ j_ x.id,i_ j_ x.RX,s_ x.aY x.prog.length x.bH,i_ j_ 0,i_ j_ 0,i_ j_ 0,i_ j_ 0,i_ j_ 0,t_ ⟨#[]⟩,t_ x.got,i_ j_ code,i_ j_ 0] rfl rfl H5.I.2.2.1 ZcS rfl ZcS ?_) | (refine wpList_store_mid rfl 41 (Operand.tmp 36) (Operand.tmp 35) rfl gs (n * 12) #[i_ j_ x.id,i_ j_ x.RX,s_ x.aY x.prog.length x.bH,i_ j_ 0,i_ j_ 0,i_ j_ 0,i_ j_ 0,i_ j_ 0,t_ ⟨#[]⟩,t_ x.got,i_ j_ code,i_ j_ 0] rfl rfl ?ht ZcS ZcS ?_)) | go_values | go_skip | go_guarded | go_step | go_upon)
  case ht=>exact oC
  clear oC m0 m1 m2 m3 m4 m5 m6 m7 r0 r1 r2 r3 r4 r5 r6 r7 r8 r9 Ju Jq;generalize World.setCells (w5.setRow (w.heap.size+1+1) #[i_ j_ x.id,i_ j_ x.RX,s_ x.aY x.prog.length x.bH,i_ j_ 0,i_ j_ 0,i_ j_ 0,i_ j_ 0,i_ j_ 0,t_ ⟨#[]⟩,t_ x.got,i_ j_ code,i_ j_ 0]) gs (n * 12) (#[i_ j_ x.id,i_ j_ x.RX,s_ x.aY x.prog.length x.bH,i_ j_ 0,i_ j_ 0,i_ j_ 0,i_ j_ 0,i_ j_ 0,t_ ⟨#[]⟩,t_ x.got,i_ j_ code,i_ j_ 0] :Array v_).toList=WZ at *;exact CE
 .have afx:Hid (fE code x=(⟨jM code x.toaD,x.aY,x.bH⟩:ao)):=by show fE code x=_; unfold fE jT; rw [if_neg hlen]
  have e1:(x.pc+1 == (x.prog.length:Int))=false:=by simp [hlen]
  clear hlen n1;obtain ⟨m0,m1,m2,m3,m4,m5,m6,m7⟩:=H6.I.1.cells;obtain ⟨r0,r1,r2,r3,r4,r5,r6,r7,r8,r9,Ju,Jq⟩:=bo (x:=(⟨jM code x.toaD,x.aY,x.bH⟩:ao)) H6.I.2.2.1;have hz:=ug (y:=(⟨jM code x.toaD,x.aY,x.bH⟩:ao)) (vs:=(#[i_ j_ x.id,i_ j_ x.RX,s_ x.aY x.prog.length x.bH,i_ j_ 1,i_ j_ (x.pc+1),i_ j_ 0,i_ j_ 0,i_ j_ 0,t_ ⟨#[]⟩,t_ x.got,i_ j_ code,i_ j_ x.RU] :Array v_).toList) H6.I.1 H6.I.2.1 (J2.1 H6.I.2.2.1).1 H6.I.2.2.2.1 H6.I.2.2.2.2 HC.I.1 rfl HC.I.2.2.2.1 HC.I.2.1 HC.I.2.2.1 PBK.I rfl ⟨rfl,rfl,rfl⟩;have oC:=hz.1;have HZ:Hid (_):=hz.2;clear hz;simp only [jM] at r0 r1 r2 r3 r4 r5 r6 r7 r8 r9 Ju Jq
  repeat (first | (go_big_may; first | (refine wpList_store_mid rfl 41 (Operand.tmp 36) (Operand.tmp 35) rfl gs (n * 12) #[i_ j_ x.id,i_ j_ x.RX,s_ x.aY x.prog.length x.bH,i_ j_ 1,i_ j_ (x.pc+1),i_ j_ 0,i_ j_ 0,i_ j_ 0,t_ ⟨#[]⟩,t_ x.got,i_ j_ code,i_ j_ x.RU] rfl rfl ?ht ZcS ZcS ?_)) | go_values | go_skip | go_guarded | go_step | go_upon)
  case ht=>exact oC
  clear oC m0 m1 m2 m3 m4 m5 m6 m7 r0 r1 r2 r3 r4 r5 r6 r7 r8 r9 Ju Jq;generalize World.setCells _ gs (n * 12) (#[i_ j_ x.id,i_ j_ x.RX,s_ x.aY x.prog.length x.bH,i_ j_ 1,i_ j_ (x.pc+1),i_ j_ 0,i_ j_ 0,i_ j_ 0,t_ ⟨#[]⟩,t_ x.got,i_ j_ code,i_ j_ x.RU] :Array v_).toList=WZ at *;exact CE
def Bt {W w:w_} {base gs n:Nat} {q:af} {x:ao} {nx:Int} (h1:av W w.heap.size q) (h2:W.heap[w.heap.size+1]? =o_ (c_ ar 31)) (h4:ap W base q) (h5:B_ w.heap.size w W)
  (hx:q.L8[n]? =o_ x) (ha:q.aN=o_ ⟨gs,0,n_⟩) (hb:base<=w.heap.size) (CT:base<=gs) (hg2:gs < w.heap.size) (yD: ∀ g∈q.Mc,g < w.heap.size):
  ((∃ u,W.cell? ⟨gs,n * 12+11,n_⟩=o_ u)/\W.frozen? ⟨gs,n * 12+11,n_⟩=false)/\ap (W.setCell ⟨gs,n * 12+11,n_⟩ (i_ j_ nx)) base ({ q with L8:=q.L8.set n { x with RU:=nx } } :af)/\av (W.setCell ⟨gs,n * 12+11,n_⟩ (i_ j_ nx)) w.heap.size q/\(W.setCell ⟨gs,n * 12+11,n_⟩ (i_ j_ nx)).heap[w.heap.size+1]? =o_ (c_ ar 31)/\B_ base w (W.setCell ⟨gs,n * 12+11,n_⟩ (i_ j_ nx))/\(∀ g∈({ q with L8:=q.L8.set n { x with RU:=nx } } :af).Mc,g < w.heap.size)/\aI w (W.setCell ⟨gs,n * 12+11,n_⟩ (i_ j_ nx)) [gs] :=by
 have hn:n < q.L8.length:=(Lj.1 hx).1;have hc:(∃ u,W.cell? ⟨gs,n * 12+11,n_⟩=o_ u)/\W.frozen? ⟨gs,n * 12+11,n_⟩=false:=by
  obtain ⟨g,hg,hrow⟩:=bl.fX (K:=bg) h4.L8 zo;exact Zby
 have h7:=h4.kB (n:=n) (j:=11) (x:=x) (y:= { x with RU:=nx }) (vs:= [i_ j_ nx]) hx ha ⟨rfl,rfl,rfl⟩ (by show 11+1<=12; omega) (fun r hr=>by match r,hr with | 0,_=>rfl) (fun r hr hn=>by
  have hne:r≠11:=fun e=>hn ⟨zo,by show r < 11+1; omega⟩
  match r,hr,hne with | 0,_,_=>rfl | 1,_,_=>rfl | 2,_,_=>rfl | 3,_,_=>rfl | 4,_,_=>rfl | 5,_,_=>rfl | 6,_,_=>rfl | 7,_,_=>rfl | 8,_,_=>rfl | 9,_,_=>rfl | 10,_,_=>rfl | 11,_,hne=>exact absurd rfl hne)
 simp only [bn] at h7;have l1:=(J2.1 h2).1;have hs: ∀ g,g≠gs->(W.setCell ⟨gs,n * 12+11,n_⟩ (i_ j_ nx)).heap[g]? =W.heap[g]? :=fun g hg=>aH hg
 exact ⟨hc,h7.1,(hs _ zo).trans h1,(hs _ zo).trans h2,(h5.mono hb).trans (h7.2.1.below (by have:=h5.size; omega) ZcT),fun g hg=>yD g (h7.2.2 ▸ hg),(aI.dI h5).trans h7.2.1⟩
def qG (q:af) (n base:Nat) (x:ao) (w:w_) (h:ap w base q) (hb:base<=w.heap.size) (hx:q.L8[n]? =o_ x) (hn:0<=q.next/\q.next<=1000000000):
  k_ J3 118 #[a_ q.cells,i_ j_ n] w fun e w'=> ∃ q2:af,e=r_ (a_ q2.cells)/\q2= { q with next:=q.next+1,L8:=q.L8.set n { x with RU:=q.next } } /\ap w' base q2/\B_ base w w'/\aI w w' (blk q.aN):=by
 obtain ⟨gs,ha,-⟩:=cn h.at.1 hx;have hgs:=cf h.L8 (g:=gs) Zdt;have hnl:n < q.L8.length:=(Lj.1 hx).1;have b1:B_ w.heap.size w ((w.alloc (c_ q.cells 31)).alloc (c_ ar 31)):=dT _ _ _;have h2:=cZ w (c_ q.cells 31) (c_ ar 31);have hz:=Bt (nx:=q.next) h2.1 h2.2 (h.below b1) b1 hx ha hb hgs.1 hgs.2 fun g hg=>(h.lt g hg).2
 obtain ⟨⟨⟨u,pe⟩,f11⟩,hz⟩:=hz;have H2:Hid (_):=hz;have HB:Hid (av ((w.alloc (c_ q.cells 31)).alloc (c_ ar 31)) w.heap.size q/\base<=w.heap.size/\q.aN=o_ ⟨gs,0,n_⟩):=⟨h2.1,hb,ha⟩
 have H3:Hid ((((w.alloc (c_ q.cells 31)).alloc (c_ ar 31)).setCell ⟨gs,n * 12+11,n_⟩ (i_ j_ q.next)).setCell ⟨w.heap.size,1,n_⟩ (i_ j_ (q.next+1)) |> fun W=>av W w.heap.size { q with next:=q.next+1 } /\W.heap[w.heap.size+1]? =o_ (c_ ar 31)/\ap W base { q with next:=q.next+1,L8:=q.L8.set n { x with RU:=q.next } } /\B_ base w W/\(∀ g∈({ q with L8:=q.L8.set n { x with RU:=q.next } } :af).Mc,g < w.heap.size)/\aI w W [gs]):=by
  have ho:=hz.1.same (w':=(((w.alloc (c_ q.cells 31)).alloc (c_ ar 31)).setCell ⟨gs,n * 12+11,n_⟩ (i_ j_ q.next)).setCell ⟨w.heap.size,1,n_⟩ (i_ j_ (q.next+1))) fun g hg=>aH (by have:=hz.2.2.2.2.1 g hg; omega)
  exact ⟨cx (i:=1) (v:=i_ j_ (q.next+1)) hz.2.1,(aH zo).trans hz.2.2.1,⟨ho.L8,ho.aj,ho.L9,ho.ag,ho.ae,ho.ai,ho.eI,ho.eE,ho.eR,ho.nodup⟩,bP hz.2.2.2.1 hb,hz.2.2.2.2.1,hz.2.2.2.2.2.more (bP (Kp _ _) (Ki _))⟩
 have k1f:(((w.alloc (c_ q.cells 31)).alloc (c_ ar 31)).setCell ⟨gs,n * 12+11,n_⟩ (i_ j_ q.next)).frozen? ⟨w.heap.size,1,n_⟩=false:=Ko _ _ _ _ _ hz.2.1;have k1:=hz.2.1.cells.2.1;obtain ⟨-,m1,m2,-⟩:=h2.1 |> av.cells (p:=q)
 obtain ⟨r0,r1,r2,r3,r4,r5,r6,r7⟩:=H3.I.1.cells;have j0:(0:Int)<=(n:Int):=zo
 have j1:(n:Int) < (q.L8.length:Int):=zo
 obtain ⟨n0,n1⟩:=hn;clear h hb hx b1 h2 hz hgs hnl;rw [ha] at m2;unfold af.cells at *;simp only [HB.I.2.2] at *
 go_enter func118,ntmps118
 go_wp2_with (refine ec 4 16 #[i_ j_ q.id,i_ j_ (q.next+1),s_ (o_ ⟨gs,0,n_⟩) q.L8.length q.aW,s_ q.bc q.aj.length q.bF,s_ q.ay q.L9.length q.aO,s_ q.ax q.ag.length q.aP,s_ q.am q.ae.length q.aG,s_ q.aK q.ai.length q.aV] H3.I.2.1 ?_);refine gZ results118 H3.I.2.1 ?_;have hb:=HB.I.2.1;refine ⟨_,?_,rfl,H3.I.2.2.1.same fun g hg=>KH _ _ _ _ (by have:=H3.I.2.2.2.2.1 g hg; omega),q_ H3.I.2.2.2.1 zo _,?_⟩
 .simp only [List.length_set]
 .exact H3.I.2.2.2.2.2.more (q_ (Kp _ _) zo _)
def tF (p:af) (z:bD) (w:w_) (b0:Nat) (hwf:(Lit.int j_ z.id).wf=true) (qY:p.pure.Small) (h:ap w b0 p):
  k_ J3 73 #[a_ p.cells,a_ #[i_ j_ z.id,i_ j_ z.n,i_ j_ z.max]] w fun e w'=>gI w (cB p.pure { p.pure with aj:=cA (·.id) z p.pure.aj }) e w':=by
 have HB:Hid (av (((w.alloc (c_ p.cells 31)).alloc (c_ #[i_ j_ z.id,i_ j_ z.n,i_ j_ z.max] 89)).alloc (c_ ar 31)) w.heap.size p/\ap (((w.alloc (c_ p.cells 31)).alloc (c_ #[i_ j_ z.id,i_ j_ z.n,i_ j_ z.max] 89)).alloc (c_ ar 31)) b0 p/\B_ w.heap.size w (((w.alloc (c_ p.cells 31)).alloc (c_ #[i_ j_ z.id,i_ j_ z.n,i_ j_ z.max] 89)).alloc (c_ ar 31))/\(((w.alloc (c_ p.cells 31)).alloc (c_ #[i_ j_ z.id,i_ j_ z.n,i_ j_ z.max] 89)).alloc (c_ ar 31)).heap[w.heap.size+1+1]? =o_ (c_ ar 31)):=by
  have b1:B_ w.heap.size w (((w.alloc (c_ p.cells 31)).alloc (c_ #[i_ j_ z.id,i_ j_ z.n,i_ j_ z.max] 89)).alloc (c_ ar 31)):=fg _ _ _ _;have h3:=dR w (c_ p.cells 31) (c_ #[i_ j_ z.id,i_ j_ z.n,i_ j_ z.max] 89) (c_ ar 31);exact ⟨h3.1,h.below b1,b1,h3.2.2.1⟩
 have Cj:Hid ((((w.alloc (c_ p.cells 31)).alloc (c_ #[i_ j_ z.id,i_ j_ z.n,i_ j_ z.max] 89)).alloc (c_ ar 31)).heap[w.heap.size+1]? =o_ (c_ #[i_ j_ z.id,i_ j_ z.n,i_ j_ z.max] 89)):=(dR _ _ _ _).2.1;have fl:Hid (p.Fit/\(∀ x∈p.L8,x.dX)/\p.pure.Small/\(Lit.int j_ z.id).wf=true):=⟨dV qY,fun x hx=>(cY qY hx).1,qY,hwf⟩
 have hpl:=fl.I.1.short.aj;have hcap:p.aj.length<=p.bF:=nV h.aj;have pd: ∀ g∈p.Mc,g < w.heap.size:=fun g hg=>(h.lt g hg).2
 clear h qY hwf;obtain ⟨m0,m1,m2,m3,m4,m5,m6,m7⟩:=HB.I.1.cells;unfold af.cells at *
 go_enter func73,ntmps73
 go_wp2_with fail;generalize ((w.alloc (c_ p.row 31)).alloc (c_ #[i_ j_ z.id,i_ j_ z.n,i_ j_ z.max] 89)).alloc (c_ ar 31)=W at *;clear m0 m1 m2 m3 m4 m5 m6 m7;refine (fR p W fl.I.1 fl.I.2.1 HB.I.2.1.at).mono ?_;rintro e W1 ⟨q,rfl,hown,gn,hb1⟩;have hb2:B_ W1.heap.size W1 (W1.alloc (c_ q.cells 31)):=(Kp _ _).alloc (Ki _) _;have hlt:w.heap.size+1+1 < W.heap.size:=(J2.1 HB.I.2.2.2).1;have hb3:B_ W.heap.size W (W1.alloc (c_ q.cells 31)):=hb1.trans (hb2.mono hb1.size);have hq1: ∀ g∈q.Mc,g < W1.heap.size:=fun g hg=>(hown.lt g hg).2
 have HQ:Hid (av (W1.alloc (c_ q.cells 31)) W1.heap.size q/\ap (W1.alloc (c_ q.cells 31)) W.heap.size q/\q.pure=p.pure/\(∀ g∈q.Mc,g < W1.heap.size)/\W.heap.size<=W1.heap.size/\w.heap.size+1+1 < W.heap.size/\W1.heap.size < (W1.alloc (c_ q.cells 31)).heap.size):=⟨Kj _ _,hown.below hb2,gn,hq1,hb1.size,hlt,by simp⟩
 replace HB:Hid (av (W1.alloc (c_ q.cells 31)) w.heap.size p/\ap (W1.alloc (c_ q.cells 31)) b0 p/\B_ w.heap.size w (W1.alloc (c_ q.cells 31))/\(W1.alloc (c_ q.cells 31)).heap[w.heap.size+1+1]? =o_ (c_ ar 31)):=⟨HB.I.1.below hb3,HB.I.2.1.below hb3,HB.I.2.2.1.trans (hb3.mono HB.I.2.2.1.size),(hb3.block _ hlt).trans HB.I.2.2.2⟩
 replace Cj:Hid ((W1.alloc (c_ q.cells 31)).heap[w.heap.size+1]? =o_ (c_ #[i_ j_ z.id,i_ j_ z.n,i_ j_ z.max] 89)):=(hb3.block _ zo).trans Cj.I;have Au:Hid (∀ g∈p.Mc,g < w.heap.size):=fun g hg=>pd g hg
 clear hown gn hb1 hb2 hb3 hq1 hlt pd;obtain ⟨m0,m1,m2,m3,m4,m5,m6,m7⟩:=HB.I.1.cells;unfold af.cells at *;go_wp2_with fail;generalize W1.alloc (c_ q.row 31)=W2 at *;clear m0 m1 m2 m4 m5 m6 m7;generalize W1.heap.size=o at *;clear m3
 go_loopw [7] (fun i wr=> ∃ k:Nat,k<=p.aj.length/\i=i_ j_ k/\Hid (∀ y∈p.aj.take k,y.id < z.id)/\Hid (B_ W2.heap.size W2 wr)) (fun i _=>p.aj.length - (Go.RowKit.intOf i).toNat)
 case atStart=>exact ⟨0,Ky _,rfl,fun y hy=>by simp at hy,Kp _ _⟩
 case round=>
  obtain ⟨k,hk,rfl,HA,Ez⟩:=hrel;have hbr:B_ W2.heap.size W2 wr.drew.drew:=Ez.I.drew.drew;have hsz:=hbr.size;replace Ez:Hid (B_ W2.heap.size W2 wr.drew):=Ez.I.drew;have hq:=HQ.I;have hzl:w.heap.size+1 < W2.heap.size:=zo
  replace HB:Hid (av wr.drew.drew w.heap.size p/\ap wr.drew.drew b0 p/\B_ w.heap.size w wr.drew.drew/\wr.drew.drew.heap[w.heap.size+1+1]? =o_ (c_ ar 31)):=⟨HB.I.1.below hbr,HB.I.2.1.below hbr,HB.I.2.2.1.trans (hbr.mono HB.I.2.2.1.size),(hbr.block _ zo).trans HB.I.2.2.2⟩
  replace HQ:Hid (av wr.drew.drew o q/\ap wr.drew.drew W.heap.size q/\q.pure=p.pure/\(∀ g∈q.Mc,g < o)/\W.heap.size<=o/\w.heap.size+1+1 < W.heap.size/\o < wr.drew.drew.heap.size):=⟨hq.1.below hbr,hq.2.1.below hbr,hq.2.2.1,hq.2.2.2.1,hq.2.2.2.2.1,hq.2.2.2.2.2.1,zo⟩
  replace Cj:Hid (wr.drew.drew.heap[w.heap.size+1]? =o_ (c_ #[i_ j_ z.id,i_ j_ z.n,i_ j_ z.max] 89)):=(hbr.block _ hzl).trans Cj.I;clear hbr hsz hq hzl;have m:wr.drew.cell? ⟨w.heap.size,3,n_⟩=o_ (s_ p.bc p.aj.length p.bF):=HB.I.1.cells.2.2.2.1;have z0:wr.drew.cell? ⟨w.heap.size+1,0,n_⟩=o_ (i_ j_ z.id):=(gm (x:=z) Cj.I).1;have i0:(0:Int)<=(k:Int):=zo
  have icap:(k:Int)<=(p.bF:Int):=zo
  have i2:(k:Int)<=(p.aj.length:Int):=zo
  rcases zm (fun y:bD=>y.id) z.id p.aj k with ⟨x,hx,hc,hlt⟩ | ⟨x,hx,hc,hlt⟩ | hlt
  .have HT:Hid (∀ y∈p.aj.take (k+1),y.id < z.id):=nE hx HA.I hc
   have i1:(k:Int) < (p.aj.length:Int):=zo
   have d1:decide ((k:Int) < (p.aj.length:Int))=true:=decide_eq_true i1;have d2:decide (x.id < z.id)=true:=decide_eq_true hc;obtain ⟨g,ha,hat⟩:=lQ HB.I.2.1.at.2.1 hx;have c0:wr.drew.cell? ⟨g,k * 3,n_⟩=o_ (i_ j_ x.id):=hat.1;have m2:=m;rw [ha] at m2;clear hat hx ha hc;clear m;go_wp2_with fail;refine aT (fun w'=>w'=wr.drew) ZcS rfl ?_
   iterate 16 (refine PI ?_ (hy:=fun w0 hS0=>by subst hS0; go_simp; try with_reducible rfl))
   refine bk ZcS ?_ _;intro w1 cm;subst cm;go_wp2;go_roundw
   case rel=>exact ⟨k+1,zo,by go_num,HT.I,Ez.I⟩
   case measure=>simp [Go.RowKit.intOf]; omega
  focus
   have HX:Hid (∀ y,p.aj[k]? =o_ y-> ¬ y.id < z.id):=fun y hy e=>by rw [hx] at hy; cases hy; exact hc e
   have i1:(k:Int) < (p.aj.length:Int):=zo
   have d1:decide ((k:Int) < (p.aj.length:Int))=true:=decide_eq_true i1;have d2:decide (x.id < z.id)=false:=decide_eq_false hc;obtain ⟨g,ha,hat⟩:=lQ HB.I.2.1.at.2.1 hx;have c0:wr.drew.cell? ⟨g,k * 3,n_⟩=o_ (i_ j_ x.id):=hat.1;have m2:=m;rw [ha] at m2;clear hat hx ha hc;clear m;go_wp2_with fail;refine aT (fun w'=>w'=wr.drew) ZcS rfl ?_
   iterate 16 (refine PI ?_ (hy:=fun w0 hS0=>by subst hS0; go_simp; try with_reducible rfl))
   refine bk ZcS ?_ _;intro w1 cm;subst cm;clear i1 d1 d2 c0 m2
  rotate_left
  focus
   have HX:Hid (∀ y,p.aj[k]? =o_ y-> ¬ y.id < z.id):=fun y hy=>absurd (Lj.1 hy).1 hlt
   have d1:decide ((k:Int) < (p.aj.length:Int))=false:=decide_eq_false zo;go_wp2_with fail;refine aT (fun w'=>w'=wr.drew) ZcS rfl ?_
   iterate 6 (refine PI ?_ (hy:=fun w0 hS0=>by subst hS0; go_simp; try with_reducible rfl))
   iterate 9 (refine nl ?_; simp only [pt,sb,s0,s1])
   (refine PI ?_ (hy:=fun w0 hS0=>by subst hS0; go_simp; try with_reducible rfl))
   refine bk ZcS ?_ _;intro w1 cm;subst cm;clear d1 m
  all_goals
   clear hlt z0 Ez;go_wp2_with fail;refine Kr (S:=fun w'=>av w' w.heap.size p/\w'.heap[w.heap.size+1]? =o_ (c_ #[i_ j_ z.id,i_ j_ z.n,i_ j_ z.max] 89)) ZcS ⟨HB.I.1,Cj.I⟩ (fun hHeld=> ?_);generalize wr.drew.drew=V2 at *;refine tt 1 hHeld ?_ (hy:=fun w0 hS0=>by have q0:w0.cell? ⟨w.heap.size,3,n_⟩=o_ (s_ p.bc p.aj.length p.bF):=hS0.1.cells.2.2.2.1; obtain ⟨q1,q2,q3⟩:=gm (x:=z) hS0.2; go_simp; try with_reducible rfl);refine tt 2 hHeld ?_ (hy:=fun w0 hS0=>by have q0:w0.cell? ⟨w.heap.size,3,n_⟩=o_ (s_ p.bc p.aj.length p.bF):=hS0.1.cells.2.2.2.1; obtain ⟨q1,q2,q3⟩:=gm (x:=z) hS0.2; go_simp; try with_reducible rfl);refine tt 3 hHeld ?_ (hy:=fun w0 hS0=>by have q0:w0.cell? ⟨w.heap.size,3,n_⟩=o_ (s_ p.bc p.aj.length p.bF):=hS0.1.cells.2.2.2.1; obtain ⟨q1,q2,q3⟩:=gm (x:=z) hS0.2; go_simp; try with_reducible rfl);refine tt 4 hHeld ?_ (hy:=fun w0 hS0=>by have q0:w0.cell? ⟨w.heap.size,3,n_⟩=o_ (s_ p.bc p.aj.length p.bF):=hS0.1.cells.2.2.2.1; obtain ⟨q1,q2,q3⟩:=gm (x:=z) hS0.2; go_simp; try with_reducible rfl);refine tt 6 hHeld ?_ (hy:=fun w0 hS0=>by have q0:w0.cell? ⟨w.heap.size,3,n_⟩=o_ (s_ p.bc p.aj.length p.bF):=hS0.1.cells.2.2.2.1; obtain ⟨q1,q2,q3⟩:=gm (x:=z) hS0.2; go_simp; try with_reducible rfl);clear hHeld;have hkl:(p.aj.take k).length=k:=by rw [Lk]; omega
   have hq:=HQ.I;have hS: ∀ W,B_ V2.heap.size V2 W->av W w.heap.size p/\W.heap[w.heap.size+1]? =o_ (c_ #[i_ j_ z.id,i_ j_ z.n,i_ j_ z.max] 89):=fun W hb=>⟨(hb.block _ zo).trans HB.I.1,(hb.block _ zo).trans Cj.I⟩
   have wg:Hid (∀ (W:w_) (g:Nat),B_ V2.heap.size V2 W->W.heap[g]? =o_ (c_ #[] 89)->V2.heap.size<=g-> ∃ a5 c5 w5,(Builtin.append_ #[25,25] 25 #[s_ (o_ ⟨g,0,n_⟩) 0 0,s_ p.bc k p.bF]).run J3 W= .ok (s_ a5 k c5) w5/\w5.ownsRow V2.heap.size 89 3 (s_ a5 k c5) k (dm.flat (p.aj.take k))/\B_ V2.heap.size V2 w5/\B_ V2.heap.size V2 w5/\ ∀ h,V2.heap.size<=h->h≠g->h < W.heap.size->w5.heap[h]? =W.heap[h]?):=fun W g hb hg hge=>by
    obtain ⟨a5,c5,w5,hap,oe,A7,-⟩:=uI W V2.heap.size (o_ ⟨g,0,n_⟩) 0 [] (i6 hg hge) p.bc (p.aj.take k) p.bF (uM k (HB.I.2.1.below hb).at.2.1.1) ZdP hb.size;rw [hkl] at hap oe;simp only [K4,Li,Ll] at hap oe;have iJ:B_ V2.heap.size V2 w5:=hb.grown A7 hb.size fun c e=>by cases e; exact hge
    exact ⟨a5,c5,w5,hap,oe,iJ,iJ,fun h _ hn hl=>A7.block h hl (fun e=>hn (by cases e; rfl))⟩
   have afR: ∀ (W:w_) (c:Obj),B_ V2.heap.size V2 W->B_ V2.heap.size V2 (W.alloc c):=fun W c hb=>hb.alloc hb.size _
   refine KW (rs:= [0,7]) ZcS zw ?_;refine KX rfl (fun K hK=> ?_) (KX rfl (fun K hK=> ?_) KY)
   focus
    have b1:B_ V2.heap.size V2 (V2.alloc (c_ #[] 89)):=afR _ _ (Kp _ _);simp only [KZ,K0];rw [if_pos (by rfl)];go_wp2_with fail;refine hK.out _ _ (hS _ b1) (fun hHeld=> ?_);clear hK K hHeld
    try simp only [pt,sb,s0,s1]
    have b7:B_ V2.heap.size V2 ((V2.alloc (c_ #[] 89)).alloc (c_ #[i_ j_ z.id,i_ j_ z.n,i_ j_ z.max] 89)):=afR _ _ b1;refine KW (rs:= [5,7]) ZcS zw ?_;refine KX rfl (fun K hK=> ?_) (KX rfl (fun K hK=> ?_) KY)
    focus
     clear b7;obtain ⟨a5,c5,w5,hap,oe,iJ,-,-⟩:=wg.I _ _ b1 (Kj _ _) (Ki _);simp only [KZ,K0,K1];rw [if_pos (by rfl)];refine cM _ _ _ rfl _ _ _ w5 rfl rfl hap ?_;refine hK.out _ _ (hS _ iJ) (fun hHeld=> ?_);clear hK K hHeld
     try simp only [pt,sb,s0,s1]
     refine L7 7 (fun K hK=> ?_);go_wp2_with fail;refine hK.out _ _ (hS _ (afR _ _ iJ)) (fun hHeld=> ?_);clear hK K hHeld
     try simp only [pt,sb,s0,s1]
     have qJ:Hid ((w5.alloc (c_ #[i_ j_ z.id,i_ j_ z.n,i_ j_ z.max] 89)).ownsRow V2.heap.size 89 3 (s_ a5 k c5) k (dm.flat (p.aj.take k))/\(w5.alloc (c_ #[i_ j_ z.id,i_ j_ z.n,i_ j_ z.max] 89)).heap[w5.heap.size]? =o_ (c_ #[i_ j_ z.id,i_ j_ z.n,i_ j_ z.max] 89)/\B_ V2.heap.size V2 (w5.alloc (c_ #[i_ j_ z.id,i_ j_ z.n,i_ j_ z.max] 89))):=⟨cR oe ((Kp _ _).alloc (Ki _) _),Kj _ _,afR _ _ iJ⟩
     clear hap oe iJ b1 afR hS;generalize w5.alloc (c_ #[i_ j_ z.id,i_ j_ z.n,i_ j_ z.max] 89)=w6 at *;generalize w5.heap.size=gx at *
    rotate_left
    focus
     obtain ⟨a5,c5,w6,om,qH,jQ,-,zU⟩:=wg.I _ _ b7 ((PU zw).trans (Kj _ _)) (Ki _);simp only [KZ,K0,K1];rw [if_pos (by rfl)];go_wp2_with fail;refine hK.out _ _ (hS _ b7) (fun hHeld=> ?_);clear hK K hHeld
     try simp only [pt,sb,s0,s1]
     refine L7 5 (fun K hK=> ?_);refine cM _ _ _ rfl _ _ _ w6 rfl rfl om ?_;refine hK.out _ _ (hS _ jQ) (fun hHeld=> ?_);clear hK K hHeld
     try simp only [pt,sb,s0,s1]
     have qJ:Hid (w6.ownsRow V2.heap.size 89 3 (s_ a5 k c5) k (dm.flat (p.aj.take k))/\w6.heap[(V2.heap.size+1)]? =o_ (c_ #[i_ j_ z.id,i_ j_ z.n,i_ j_ z.max] 89)/\B_ V2.heap.size V2 w6):=⟨qH,(zU _ zo zo (by simp <;> omega)).trans (by have h5:=Kj (V2.alloc (c_ #[] 89)) (c_ #[i_ j_ z.id,i_ j_ z.n,i_ j_ z.max] 89); simpa using h5),jQ⟩
     clear om qH jQ zU b1 b7 afR hS
   rotate_left 2
   focus
    have b7:B_ V2.heap.size V2 (V2.alloc (c_ #[i_ j_ z.id,i_ j_ z.n,i_ j_ z.max] 89)):=afR _ _ (Kp _ _);simp only [KZ,K0,K1];rw [if_pos (by rfl)];go_wp2_with fail;refine hK.out _ _ (hS _ b7) (fun hHeld=> ?_);clear hK K hHeld
    try simp only [pt,sb,s0,s1]
    have b1:B_ V2.heap.size V2 ((V2.alloc (c_ #[i_ j_ z.id,i_ j_ z.n,i_ j_ z.max] 89)).alloc (c_ #[] 89)):=afR _ _ b7;refine L7 0 (fun K hK=> ?_);go_wp2_with fail;refine hK.out _ _ (hS _ b1) (fun hHeld=> ?_);clear hK K hHeld
    try simp only [pt,sb,s0,s1]
    obtain ⟨a5,c5,w6,om,qH,jQ,-,zU⟩:=wg.I ((V2.alloc (c_ #[i_ j_ z.id,i_ j_ z.n,i_ j_ z.max] 89)).alloc (c_ #[] 89)) (V2.heap.size+1) b1 (Kq _ _ _) zo;refine L7 5 (fun K hK=> ?_);refine cM _ _ _ rfl _ _ _ w6 rfl rfl om ?_;refine hK.out _ _ (hS _ jQ) (fun hHeld=> ?_);clear hK K hHeld
    try simp only [pt,sb,s0,s1]
    have qJ:Hid (w6.ownsRow V2.heap.size 89 3 (s_ a5 k c5) k (dm.flat (p.aj.take k))/\w6.heap[V2.heap.size]? =o_ (c_ #[i_ j_ z.id,i_ j_ z.n,i_ j_ z.max] 89)/\B_ V2.heap.size V2 w6):=⟨qH,(zU _ zo zo (by simp <;> omega)).trans ((PU zw).trans (Kj _ _)),jQ⟩
    clear om qH jQ zU b1 b7 afR hS
   all_goals
    have qH:w6.ownsRow V2.heap.size 89 3 (s_ a5 (p.aj.take k).length c5) (p.aj.take k).length (dm.flat (p.aj.take k)):=by rw [hkl]; exact qJ.I.1
    obtain ⟨a7,c7,w7,gT,mP,xI,-⟩:=uI w6 V2.heap.size a5 c5 (p.aj.take k) qH _ [z] 1 (jO qJ.I.2.1) ZdO qJ.I.2.2.size;have mI:(p.aj.take k ++ [z]).length=k+1:=by rw [Lf,hkl]; rfl
    rw [hkl] at gT mP;simp only [Lg,K4,Li] at gT mP;have gh:B_ V2.heap.size V2 w7:=qJ.I.2.2.grown xI qJ.I.2.2.size fun c e=>(cf qJ.I.1 (di e)).1
    have Em:Hid (w7.ownsRow V2.heap.size 89 3 (s_ a7 (k+1) c7) (k+1) (dm.flat (p.aj.take k ++ [z]))/\B_ V2.heap.size V2 w7/\(p.aj.take k ++ [z]).length=k+1):=⟨mP,gh,mI⟩
    refine L7 8 (fun K hK=> ?_);refine cM _ _ _ rfl _ _ _ w7 rfl rfl gT ?_;refine hK.out _ _ ⟨(gh.block _ zo).trans HB.I.1,(gh.block _ zo).trans Cj.I⟩ (fun hHeld=> ?_);clear hK K hHeld
    try simp only [pt,sb,s0,s1]
    have H8:Hid (((av (w7.setCell ⟨o,3,n_⟩ (s_ a7 (k+1) c7)) w.heap.size p/\ap (w7.setCell ⟨o,3,n_⟩ (s_ a7 (k+1) c7)) b0 p/\B_ w.heap.size w (w7.setCell ⟨o,3,n_⟩ (s_ a7 (k+1) c7))/\(w7.setCell ⟨o,3,n_⟩ (s_ a7 (k+1) c7)).heap[w.heap.size+1+1]? =o_ (c_ ar 31))/\(w7.setCell ⟨o,3,n_⟩ (s_ a7 (k+1) c7)).heap[o]? =o_ (c_ #[i_ j_ q.id,i_ j_ q.next,s_ q.aN q.L8.length q.aW,s_ a7 (k+1) c7,s_ q.ay q.L9.length q.aO,s_ q.ax q.ag.length q.aP,s_ q.am q.ae.length q.aG,s_ q.aK q.ai.length q.aV] 31)/\ap (w7.setCell ⟨o,3,n_⟩ (s_ a7 (k+1) c7)) W.heap.size q)/\(w7.setCell ⟨o,3,n_⟩ (s_ a7 (k+1) c7)).ownsRow V2.heap.size 89 3 (s_ a7 (k+1) c7) (k+1) (dm.flat (p.aj.take k ++ [z]))/\V2.heap.size<=(w7.setCell ⟨o,3,n_⟩ (s_ a7 (k+1) c7)).heap.size):=by
     exact mt
    have HX8:Hid ((w7.setCell ⟨o,3,n_⟩ (s_ a7 (k+1) c7)).heap[w.heap.size+1]? =o_ (c_ #[i_ j_ z.id,i_ j_ z.n,i_ j_ z.max] 89)):=(aH zo).trans ((gh.block _ zo).trans Cj.I);obtain ⟨⟨u,co⟩,fo⟩:(∃ u,w7.cell? ⟨o,3,n_⟩=o_ u)/\w7.frozen? ⟨o,3,n_⟩=false:=⟨⟨_,(HQ.I.1.below gh).cells.2.2.2.1⟩,Ko _ _ _ _ _ (HQ.I.1.below gh)⟩
    have wj:av w7 w.heap.size p/\w7.heap[w.heap.size+1]? =o_ (c_ #[i_ j_ z.id,i_ j_ z.n,i_ j_ z.max] 89):=⟨(gh.block _ zo).trans HB.I.1,(gh.block _ zo).trans Cj.I⟩
    clear qH gT mP xI gh mI qJ wg;refine tt 9 wj ?_;refine L7 10 (fun K hK=> ?_);go_wp2_with fail;refine hK.out _ _ ⟨H8.I.1.1.1,HX8.I⟩ (fun hHeld=> ?_);clear hK K hHeld
    try simp only [pt,sb,s0,s1]
    refine K3 ZcS ?_ _;clear co fo wj hq HX8 Cj;go_wp2_with fail;generalize w7.setCell ⟨o,3,n_⟩ (s_ a7 (k+1) c7)=W8 at *;have HS:Hid (W8.cell? ⟨w.heap.size,3,n_⟩=o_ (s_ p.bc p.aj.length p.bF)):=H8.I.1.1.1.cells.2.2.2.1;have co8:W8.drew.cell? ⟨o,3,n_⟩=o_ (s_ a7 (k+1) c7):=by rw [K5 _ _ _ _ _ _ (show W8.drew.heap[o]? =_ from H8.I.1.2.1)]; rfl
    obtain ⟨u6,Jx⟩: ∃ u6,(if p.bF=k then p.bc else Option.map (fun x=>x.add (k * 3)) p.bc)=u6:=⟨_,rfl⟩
    refine Kr (S:=fun w'=>w'.cell? ⟨w.heap.size,3,n_⟩=o_ (s_ p.bc p.aj.length p.bF)) ZcS HS.I (fun hHeld=> ?_);refine tt 0 hHeld ?_ (hy:=fun w0 hS0=>by have cm:=hS0; go_simp; try with_reducible rfl);refine tt 2 hHeld ?_ (hy:=fun w0 hS0=>by have cm:=hS0; go_simp; try with_reducible rfl);refine tt 3 hHeld ?_ (hy:=fun w0 hS0=>by have cm:=hS0; go_simp; try with_reducible rfl);refine tt 4 hHeld ?_ (hy:=fun w0 hS0=>by have cm:=hS0; go_simp; try with_reducible rfl);refine tt 5 hHeld ?_ (hy:=fun w0 hS0=>by have cm:=hS0; go_simp; try with_reducible rfl);refine L7 1 (fun K hK=> ?_);go_wp2_with fail;refine hK.out _ _ HS.I (fun hHeld=> ?_);clear hK K
    try simp only [pt,sb,s0,s1]
    have hbd:B_ W8.heap.size W8 W8.drew:=(Kp _ _).drew;have mI:=Em.I.2.2;have hkd:(p.aj.drop k).length=p.aj.length - k:=Ql;obtain ⟨a9,c9,w9,hr,xj,FW,-⟩:=uI W8.drew V2.heap.size a7 c7 (p.aj.take k ++ [z]) ZdK u6 (p.aj.drop k) (p.bF - k) (by rw [<- Jx]; exact qK hcap (H8.I.1.1.2.1.below hbd).at.2.1.1) (by rw [mI,hkd]; omega) H8.I.2.2;rw [mI,hkd] at hr xj;have kN:B_ V2.heap.size W8.drew w9:=(Kp _ _).grown (a:=W8.drew) FW H8.I.2.2 fun c e=>(cf H8.I.2.1 (di e)).1
    have hq:=HQ.I;have h8:=H8.I;have p7:o < V2.heap.size:=hq.2.2.2.2.2.2;have hwl:w.heap.size+1 < o:=zo
    have lV:w9.heap[o]? =o_ (c_ #[i_ j_ q.id,i_ j_ q.next,s_ q.aN q.L8.length q.aW,s_ a7 (k+1) c7,s_ q.ay q.L9.length q.aO,s_ q.ax q.ag.length q.aP,s_ q.am q.ae.length q.aG,s_ q.aK q.ai.length q.aV] 31):=(kN.block _ p7).trans h8.1.2.1;have YU:Hid (w9.cell? ⟨w.heap.size,3,n_⟩=o_ (s_ p.bc p.aj.length p.bF)/\(w9.setCell ⟨o,3,n_⟩ (s_ a9 (k+1+(p.aj.length - k)) c9)).cell? ⟨w.heap.size,3,n_⟩=o_ (s_ p.bc p.aj.length p.bF)):=by
     have e1:w9.cell? ⟨w.heap.size,3,n_⟩=o_ (s_ p.bc p.aj.length p.bF):=(J1 (kN.block _ ZdR)).trans HS.I;exact Zbr
    have sR:((p.aj.take k ++ [z]) ++ p.aj.drop k).length=k+1+(p.aj.length - k):=by rw [Lf,mI,hkd]
    have gn:({ q with aj:=(p.aj.take k ++ [z]) ++ p.aj.drop k,bc:=a9,bF:=c9 } :af).pure= { p.pure with aj:=cA (·.id) z p.pure.aj } :=by
     have e1:(p.aj.take k ++ [z]) ++ p.aj.drop k=cA (·.id) z p.pure.aj:=by
      rw [Lm];exact tP HA.I (fun y hy=>by have h5:=HX.I y hy; show ¬ y.id < z.id; omega)
     have e2:=HQ.I.2.2.1
     show ({ q.pure with aj:=(p.aj.take k ++ [z]) ++ p.aj.drop k } :aE)=_
     rw [e1,e2]
    have eX:Hid (av (w9.setCell ⟨o,3,n_⟩ (s_ a9 (k+1+(p.aj.length - k)) c9)) w.heap.size p/\ap (w9.setCell ⟨o,3,n_⟩ (s_ a9 (k+1+(p.aj.length - k)) c9)) b0 p/\B_ w.heap.size w (w9.setCell ⟨o,3,n_⟩ (s_ a9 (k+1+(p.aj.length - k)) c9))/\(w9.setCell ⟨o,3,n_⟩ (s_ a9 (k+1+(p.aj.length - k)) c9)).heap[w.heap.size+1+1]? =o_ (c_ ar 31)/\av (w9.setCell ⟨o,3,n_⟩ (s_ a9 (k+1+(p.aj.length - k)) c9)) o ({ q with aj:=(p.aj.take k ++ [z]) ++ p.aj.drop k,bc:=a9,bF:=c9 } :af)/\ap (w9.setCell ⟨o,3,n_⟩ (s_ a9 (k+1+(p.aj.length - k)) c9)) W.heap.size ({ q with aj:=(p.aj.take k ++ [z]) ++ p.aj.drop k,bc:=a9,bF:=c9 } :af)/\({ q with aj:=(p.aj.take k ++ [z]) ++ p.aj.drop k,bc:=a9,bF:=c9 } :af).pure= { p.pure with aj:=cA (·.id) z p.pure.aj }):=by
     have hpb: ∀ g∈p.Mc,g < w.heap.size:=Au.I;have nW: ∀ g∈q.Mc,g < o:=hq.2.2.2.1;have sm: ∀ g,g < V2.heap.size->g≠o->(w9.setCell ⟨o,3,n_⟩ (s_ a9 (k+1+(p.aj.length - k)) c9)).heap[g]? =W8.heap[g]? :=fun g hg hne=>(aH hne).trans (kN.block _ hg)
     have lY:B_ w.heap.size w (w9.setCell ⟨o,3,n_⟩ (s_ a9 (k+1+(p.aj.length - k)) c9)):=bP (h8.1.1.2.2.1.drew.trans (kN.mono zo)) zo;refine ⟨(sm _ zo zo).trans h8.1.1.1,h8.1.1.2.1.same fun g hg=>sm g Zc4 Zc4,lY,(sm _ zo zo).trans h8.1.1.2.2.2,?_,?_,gn⟩
     .have h5:=cx (i:=3) (v:=s_ a9 (k+1+(p.aj.length - k)) c9) lV
      unfold av;simp only [sR];exact h5
     .refine h8.1.2.2.newSem (B:=V2.heap.size) zo (fun g hg=>by have:=nW g hg; omega) (fun g hg=>sm g Zc7 Zc7) ?_
      exact Zbw
    refine L7 6 (fun K hK=> ?_);refine cM _ _ _ rfl _ _ _ w9 rfl rfl hr ?_;refine hK.out _ _ YU.I.1 (fun hHeld=> ?_);clear hK K
    try simp only [pt,sb,s0,s1]
    obtain ⟨⟨u,co⟩,fo⟩:(∃ u,w9.cell? ⟨o,3,n_⟩=o_ u)/\w9.frozen? ⟨o,3,n_⟩=false:=⟨⟨_,by rw [K5 _ _ _ _ _ _ lV]; rfl⟩,Ko _ _ _ _ _ lV⟩
    clear hr xj FW kN hq h8 p7 hwl lV hbd;refine tt 7 hHeld ?_ (hy:=fun w0 hS0=>by have cm:=hS0; go_simp; try with_reducible rfl);refine L7 8 (fun K hK=> ?_);go_wp2_with fail;refine hK.out _ _ YU.I.2 (fun hHeld=> ?_);clear hK K
    try simp only [pt,sb,s0,s1]
    refine K3 ZcS ?_ _;clear hHeld co fo YU HS co8;generalize w9.setCell ⟨o,3,n_⟩ (s_ a9 (k+1+(p.aj.length - k)) c9)=W10 at *;have Mb:=fi p ({ q with aj:=(p.aj.take k ++ [z]) ++ p.aj.drop k,bc:=a9,bF:=c9 } :af) W10 ⟨fl.I.1,fl.I.2.1,eX.I.2.1.at⟩ (fun hr=>by
     have h5:aE.Small ({ q with aj:=(p.aj.take k ++ [z]) ++ p.aj.drop k,bc:=a9,bF:=c9 } :af).pure:=by rw [eX.I.2.2.2.2.2.2]; exact yN fl.I.2.2.1 hr fl.I.2.2.2
     exact ⟨dV h5,fun x hx=>(cY h5 hx).1,eX.I.2.2.2.2.2.1.at⟩)
    obtain ⟨m0,m1,m2,m3,m4,m5,m6,m7⟩:=eX.I.1.cells;obtain ⟨k0,k1,k2,k3,k4,k5,k6,k7⟩:=eX.I.2.2.2.2.1.cells;unfold af.cells at Mb;simp only [sR] at Mb k0 k1 k2 k3 k4 k5 k6 k7;have DM:Hid (((p.aj.take k ++ [z]) ++ p.aj.drop k).length=k+1+(p.aj.length - k)):=sR;clear sR mI hkd Jx gn;go_wp2_with fail;refine Mb.mono ?_;clear Mb m0 m1 m2 m3 m4 m5 m6 m7 k0 k1 k2 k3 k4 k5 k6 k7;rintro e ow ⟨gy,hok⟩;have hq:=HQ.I.2.2.2.2;have HZ:Hid (B_ w.heap.size w ow/\ow.heap[w.heap.size+1+1]? =o_ (c_ ar 31)/\ap ow W.heap.size ({ q with aj:=(p.aj.take k ++ [z]) ++ p.aj.drop k,bc:=a9,bF:=c9 } :af)/\w.heap.size+1+1 < W.heap.size):=⟨eX.I.2.2.1.trans (gy.mono eX.I.2.2.1.size),(gy.block _ (J2.1 eX.I.2.2.2.1).1).trans eX.I.2.2.2.1,eX.I.2.2.2.2.2.1.below gy,hq.2.1⟩
    clear gy hq;rw [eX.I.2.2.2.2.2.2] at hok;rcases hok with ⟨hok,rfl⟩ | ⟨hok,rfl⟩
    .have HN:Hid (cB p.pure { p.pure with aj:=cA (·.id) z p.pure.aj } =o_ { p.pure with aj:=cA (·.id) z p.pure.aj }):=jS hok
     clear hok;go_wp2_with (refine ec 4 49 #[i_ j_ q.id,i_ j_ q.next,s_ q.aN q.L8.length q.aW,s_ a9 (k+1+(p.aj.length - k)) c9,s_ q.ay q.L9.length q.aO,s_ q.ax q.ag.length q.aP,s_ q.am q.ae.length q.aG,s_ q.aK q.ai.length q.aV] HZ.I.2.1 ?_);refine mG results73 (b_ true) HZ.I.2.1 ?_;have hl:=HZ.I.2.2.2;rw [HN.I];refine ⟨({ q with aj:=(p.aj.take k ++ [z]) ++ p.aj.drop k,bc:=a9,bF:=c9 } :af),by unfold af.cells; simp only [DM.I]; rfl,(HZ.I.2.2.1.lower zo).same fun g hg=>KH _ _ _ _ Zc2,eX.I.2.2.2.2.2.2,q_ HZ.I.1 zo _⟩
    .have HN:Hid (cB p.pure { p.pure with aj:=cA (·.id) z p.pure.aj } =n_):=jh hok
     clear hok;go_wp2_with (refine ec 4 49 ar HZ.I.2.1 ?_);refine mG results73 (b_ false) HZ.I.2.1 ?_;exact Zae
def rz (p:af) (id:Int) (w:w_) (b0:Nat) (hwf:(Lit.int j_ id).wf=true) (qY:p.pure.Small) (h:ap w b0 p):
  k_ J3 74 #[a_ p.cells,i_ j_ id] w fun e w'=>gI w (cB p.pure { p.pure with L9:=cA (·.id) (⟨id,false⟩:aB) p.pure.L9 }) e w':=by
 have HB:Hid (av ((w.alloc (c_ p.row 31)).alloc (c_ ar 31)) w.heap.size p/\ap ((w.alloc (c_ p.row 31)).alloc (c_ ar 31)) b0 p/\B_ w.heap.size w ((w.alloc (c_ p.row 31)).alloc (c_ ar 31))/\((w.alloc (c_ p.row 31)).alloc (c_ ar 31)).heap[w.heap.size+1]? =o_ (c_ ar 31)):=by
  exact Q4
 have fl:Hid (p.Fit/\(∀ x∈p.L8,x.dX)/\p.pure.Small/\(Lit.int j_ id).wf=true):=⟨dV qY,fun x hx=>(cY qY hx).1,qY,hwf⟩
 have hpl:=fl.I.1.short.L9;have hcap:p.L9.length<=p.aO:=nV h.L9;have pd: ∀ g∈p.Mc,g < w.heap.size:=fun g hg=>(h.lt g hg).2
 clear h qY hwf;obtain ⟨m0,m1,m2,m3,m4,m5,m6,m7⟩:=HB.I.1.cells;unfold af.cells
 go_enter func74,ntmps74
 go_wp2_with fail;generalize (w.alloc (c_ p.row 31)).alloc (c_ ar 31)=W at *;clear m0 m1 m2 m3 m4 m5 m6 m7;refine (fR p W fl.I.1 fl.I.2.1 HB.I.2.1.at).mono ?_;rintro e W1 ⟨q,rfl,hown,gn,hb1⟩;have hb2:B_ W1.heap.size W1 (W1.alloc (c_ q.row 31)):=(Kp _ _).alloc (Ki _) _;have hlt:w.heap.size+1 < W.heap.size:=(J2.1 HB.I.2.2.2).1;have hb3:B_ W.heap.size W (W1.alloc (c_ q.row 31)):=hb1.trans (hb2.mono hb1.size);have hq1: ∀ g∈q.Mc,g < W1.heap.size:=fun g hg=>(hown.lt g hg).2
 have HQ:Hid (av (W1.alloc (c_ q.row 31)) W1.heap.size q/\ap (W1.alloc (c_ q.row 31)) W.heap.size q/\q.pure=p.pure/\(∀ g∈q.Mc,g < W1.heap.size)/\W.heap.size<=W1.heap.size/\w.heap.size+1 < W.heap.size/\W1.heap.size < (W1.alloc (c_ q.row 31)).heap.size):=⟨Kj _ _,hown.below hb2,gn,hq1,hb1.size,hlt,by simp⟩
 replace HB:Hid (av (W1.alloc (c_ q.row 31)) w.heap.size p/\ap (W1.alloc (c_ q.row 31)) b0 p/\B_ w.heap.size w (W1.alloc (c_ q.row 31))/\(W1.alloc (c_ q.row 31)).heap[w.heap.size+1]? =o_ (c_ ar 31)):=⟨HB.I.1.below hb3,HB.I.2.1.below hb3,HB.I.2.2.1.trans (hb3.mono HB.I.2.2.1.size),(hb3.block _ hlt).trans HB.I.2.2.2⟩
 have Au:Hid (∀ g∈p.Mc,g < w.heap.size):=fun g hg=>pd g hg
 clear hown gn hb1 hb2 hb3 hq1 hlt pd;obtain ⟨m0,m1,m2,m3,m4,m5,m6,m7⟩:=HB.I.1.cells;unfold af.cells;go_wp2_with fail;generalize W1.alloc (c_ q.row 31)=W2 at *;clear m0 m1 m2 m3 m5 m6 m7;generalize W1.heap.size=o at *
 go_loop [7] (fun i=> ∃ k:Nat,k<=p.L9.length/\i=i_ j_ k/\Hid (∀ y∈p.L9.take k,y.id < id)) (fun i=>p.L9.length - (Go.RowKit.intOf i).toNat)
 case atStart=>exact ⟨0,Ky _,rfl,fun y hy=>by simp at hy⟩
 case round=>
  obtain ⟨k,hk,rfl,HA⟩:=hrel;have i0:(0:Int)<=(k:Int):=zo
  have icap:(k:Int)<=(p.aO:Int):=zo
  have i2:(k:Int)<=(p.L9.length:Int):=zo
  rcases zm (fun y:aB=>y.id) id p.L9 k with ⟨x,hx,hc,hlt⟩ | ⟨x,hx,hc,hlt⟩ | hlt
  .have HT:Hid (∀ y∈p.L9.take (k+1),y.id < id):=nE hx HA.I hc
   have i1:(k:Int) < (p.L9.length:Int):=zo
   obtain ⟨g,ha,hat⟩:=j4 HB.I.2.1.at.2.2.1 hx;have c0:=hat.1;have m:=m4;rw [ha] at m;clear m4 hat hx;exact ZbB
  focus
   have HX:Hid (∀ y,p.L9[k]? =o_ y-> ¬ y.id < id):=fun y hy e=>by rw [hx] at hy; cases hy; exact hc e
   have i1:(k:Int) < (p.L9.length:Int):=zo
   obtain ⟨g,ha,hat⟩:=j4 HB.I.2.1.at.2.2.1 hx;have c0:=hat.1;have m:=m4;rw [ha] at m;clear m4 hat hx ha
  rotate_left
  focus
   have HX:Hid (∀ y,p.L9[k]? =o_ y-> ¬ y.id < id):=fun y hy=>absurd (Lj.1 hy).1 hlt
   have i1: ¬ (k:Int) < (p.L9.length:Int):=zo
   have m:=m4;clear m4
  all_goals
   have hkl:(p.L9.take k).length=k:=by rw [Lk]; omega
   have hb3:B_ W2.heap.size W2 (W2.alloc (c_ #[] 91)):=(Kp _ _).alloc (Ki _) _;obtain ⟨a5,c5,w5,hap,oe,A7,-⟩:=qu (W2.alloc (c_ #[] 91)) W2.heap.size (o_ ⟨W2.heap.size,0,n_⟩) 0 [] (i6 (Kj _ _) (Ki _)) p.ay (p.L9.take k) p.aO (uM k (HB.I.2.1.below hb3).at.2.2.1.1) ZdP hb3.size;rw [hkl] at hap oe;simp only [K4,Li,Ll] at hap oe;have iJ:B_ W2.heap.size W2 w5:=hb3.grown A7 hb3.size fun c e=>by cases e; exact Ki _
   have jQ:B_ w5.heap.size w5 (w5.alloc (c_ #[i_ j_ id,b_ false] 91)):=(Kp _ _).alloc (Ki _) _;have yJ:B_ W2.heap.size W2 (w5.alloc (c_ #[i_ j_ id,b_ false] 91)):=iJ.trans (jQ.mono iJ.size);have qH:(w5.alloc (c_ #[i_ j_ id,b_ false] 91)).ownsRow W2.heap.size 91 2 (s_ a5 (p.L9.take k).length c5) (p.L9.take k).length (bJ.flat (p.L9.take k)):=by rw [hkl]; exact cR oe jQ
   obtain ⟨a7,c7,w7,gT,mP,xI,-⟩:=qu (w5.alloc (c_ #[i_ j_ id,b_ false] 91)) W2.heap.size a5 c5 (p.L9.take k) qH (o_ ⟨w5.heap.size,0,n_⟩) [(⟨id,false⟩:aB)] 1 (jO (Kj _ _)) ZdO yJ.size;have mI:(p.L9.take k ++ [(⟨id,false⟩:aB)]).length=k+1:=by rw [Lf,hkl]; rfl
   rw [hkl] at gT mP;simp only [Lg,K4,Li] at gT mP;have gh:B_ W2.heap.size W2 w7:=yJ.grown xI yJ.size fun c e=>(cf oe (di e)).1
   have Em:Hid (w7.ownsRow W2.heap.size 91 2 (s_ a7 (k+1) c7) (k+1) (bJ.flat (p.L9.take k ++ [(⟨id,false⟩:aB)]))/\B_ W2.heap.size W2 w7/\(p.L9.take k ++ [(⟨id,false⟩:aB)]).length=k+1):=⟨mP,gh,mI⟩
   have m2:(W2.alloc (c_ #[] 91)).cell? ⟨w.heap.size,4,n_⟩=o_ (s_ p.ay p.L9.length p.aO):=(HB.I.1.below hb3).cells.2.2.2.2.1;have hbo:W2.heap.size<=w7.heap.size:=gh.size;obtain ⟨⟨u,co⟩,fo⟩:(∃ u,w7.cell? ⟨o,4,n_⟩=o_ u)/\w7.frozen? ⟨o,4,n_⟩=false:=⟨⟨_,(HQ.I.1.below gh).cells.2.2.2.2.1⟩,Ko _ _ _ _ _ (HQ.I.1.below gh)⟩
   clear oe A7 iJ jQ yJ qH mP xI gh hb3 mI;go_wp2_with (at_builtin; first | (refine br _ rfl _ _ 26 rfl _ _ _ _ rfl rfl hap ?_; clear hap) | (refine br _ rfl _ _ 26 rfl _ _ _ _ rfl rfl gT ?_; clear gT));have H8:Hid (((av (w7.setCell ⟨o,4,n_⟩ (s_ a7 (k+1) c7)) w.heap.size p/\ap (w7.setCell ⟨o,4,n_⟩ (s_ a7 (k+1) c7)) b0 p/\B_ w.heap.size w (w7.setCell ⟨o,4,n_⟩ (s_ a7 (k+1) c7))/\(w7.setCell ⟨o,4,n_⟩ (s_ a7 (k+1) c7)).heap[w.heap.size+1]? =o_ (c_ ar 31))/\(w7.setCell ⟨o,4,n_⟩ (s_ a7 (k+1) c7)).heap[o]? =o_ (c_ #[i_ j_ q.id,i_ j_ q.next,s_ q.aN q.L8.length q.aW,s_ q.bc q.aj.length q.bF,s_ a7 (k+1) c7,s_ q.ax q.ag.length q.aP,s_ q.am q.ae.length q.aG,s_ q.aK q.ai.length q.aV] 31)/\ap (w7.setCell ⟨o,4,n_⟩ (s_ a7 (k+1) c7)) W.heap.size q)/\(w7.setCell ⟨o,4,n_⟩ (s_ a7 (k+1) c7)).ownsRow W2.heap.size 91 2 (s_ a7 (k+1) c7) (k+1) (bJ.flat (p.L9.take k ++ [(⟨id,false⟩:aB)]))/\W2.heap.size<=(w7.setCell ⟨o,4,n_⟩ (s_ a7 (k+1) c7)).heap.size):=by
    have gh:=Em.I.2.1;have hq:=HQ.I;exact mt
   generalize w7.setCell ⟨o,4,n_⟩ (s_ a7 (k+1) c7)=W8 at *;have HS:Hid (W8.cell? ⟨w.heap.size,4,n_⟩=o_ (s_ p.ay p.L9.length p.aO)):=H8.I.1.1.1.cells.2.2.2.2.1;have co8:W8.drew.cell? ⟨o,4,n_⟩=o_ (s_ a7 (k+1) c7):=by rw [K5 _ _ _ _ _ _ (show W8.drew.heap[o]? =_ from H8.I.1.2.1)]; rfl
   clear m m2 co fo hbo i1 hlt;obtain ⟨u6,Jx⟩: ∃ u6,(if p.aO=k then p.ay else Option.map (fun x=>x.add (k * 2)) p.ay)=u6:=⟨_,rfl⟩
   refine Kr (S:=fun w'=>w'.cell? ⟨w.heap.size,4,n_⟩=o_ (s_ p.ay p.L9.length p.aO)) ZcS HS.I (fun hHeld=> ?_);refine tt 0 hHeld ?_ (hy:=fun w0 hS0=>by have cm:=hS0; go_simp; try with_reducible rfl);refine tt 2 hHeld ?_ (hy:=fun w0 hS0=>by have cm:=hS0; go_simp; try with_reducible rfl);refine tt 3 hHeld ?_ (hy:=fun w0 hS0=>by have cm:=hS0; go_simp; try with_reducible rfl);refine tt 4 hHeld ?_ (hy:=fun w0 hS0=>by have cm:=hS0; go_simp; try with_reducible rfl);refine tt 5 hHeld ?_ (hy:=fun w0 hS0=>by have cm:=hS0; go_simp; try with_reducible rfl);refine L7 1 (fun K hK=> ?_);go_wp2_with fail;refine hK.out _ _ HS.I (fun hHeld=> ?_);clear hK K
   try simp only [pt,sb,s0,s1]
   have hbd:B_ W8.heap.size W8 W8.drew:=(Kp _ _).drew;have mI:=Em.I.2.2;have hkd:(p.L9.drop k).length=p.L9.length - k:=Ql;obtain ⟨a9,c9,w9,hr,xj,FW,-⟩:=qu W8.drew W2.heap.size a7 c7 (p.L9.take k ++ [(⟨id,false⟩:aB)]) ZdK u6 (p.L9.drop k) (p.aO - k) (by rw [<- Jx]; exact qK hcap (H8.I.1.1.2.1.below hbd).at.2.2.1.1) (by rw [mI,hkd]; omega) H8.I.2.2;rw [mI,hkd] at hr xj;have kN:B_ W2.heap.size W8.drew w9:=(Kp _ _).grown (a:=W8.drew) FW H8.I.2.2 fun c e=>(cf H8.I.2.1 (di e)).1
   have hq:=HQ.I;have h8:=H8.I;have p7:o < W2.heap.size:=hq.2.2.2.2.2.2;have hwl:w.heap.size+1 < o:=zo
   have lV:w9.heap[o]? =o_ (c_ #[i_ j_ q.id,i_ j_ q.next,s_ q.aN q.L8.length q.aW,s_ q.bc q.aj.length q.bF,s_ a7 (k+1) c7,s_ q.ax q.ag.length q.aP,s_ q.am q.ae.length q.aG,s_ q.aK q.ai.length q.aV] 31):=(kN.block _ p7).trans h8.1.2.1;have YU:Hid (w9.cell? ⟨w.heap.size,4,n_⟩=o_ (s_ p.ay p.L9.length p.aO)/\(w9.setCell ⟨o,4,n_⟩ (s_ a9 (k+1+(p.L9.length - k)) c9)).cell? ⟨w.heap.size,4,n_⟩=o_ (s_ p.ay p.L9.length p.aO)):=by
    have e1:w9.cell? ⟨w.heap.size,4,n_⟩=o_ (s_ p.ay p.L9.length p.aO):=(J1 (kN.block _ ZdR)).trans HS.I;exact Zbr
   have sR:((p.L9.take k ++ [(⟨id,false⟩:aB)]) ++ p.L9.drop k).length=k+1+(p.L9.length - k):=by rw [Lf,mI,hkd]
   have gn:({ q with L9:=(p.L9.take k ++ [(⟨id,false⟩:aB)]) ++ p.L9.drop k,ay:=a9,aO:=c9 } :af).pure= { p.pure with L9:=cA (·.id) (⟨id,false⟩:aB) p.pure.L9 } :=by
    have e1:(p.L9.take k ++ [(⟨id,false⟩:aB)]) ++ p.L9.drop k=cA (·.id) (⟨id,false⟩:aB) p.pure.L9:=by
     exact Zb0
    have e2:=HQ.I.2.2.1
    show ({ q.pure with L9:=(p.L9.take k ++ [(⟨id,false⟩:aB)]) ++ p.L9.drop k } :aE)=_
    rw [e1,e2]
   have eX:Hid (av (w9.setCell ⟨o,4,n_⟩ (s_ a9 (k+1+(p.L9.length - k)) c9)) w.heap.size p/\ap (w9.setCell ⟨o,4,n_⟩ (s_ a9 (k+1+(p.L9.length - k)) c9)) b0 p/\B_ w.heap.size w (w9.setCell ⟨o,4,n_⟩ (s_ a9 (k+1+(p.L9.length - k)) c9))/\(w9.setCell ⟨o,4,n_⟩ (s_ a9 (k+1+(p.L9.length - k)) c9)).heap[w.heap.size+1]? =o_ (c_ ar 31)/\av (w9.setCell ⟨o,4,n_⟩ (s_ a9 (k+1+(p.L9.length - k)) c9)) o ({ q with L9:=(p.L9.take k ++ [(⟨id,false⟩:aB)]) ++ p.L9.drop k,ay:=a9,aO:=c9 } :af)/\ap (w9.setCell ⟨o,4,n_⟩ (s_ a9 (k+1+(p.L9.length - k)) c9)) W.heap.size ({ q with L9:=(p.L9.take k ++ [(⟨id,false⟩:aB)]) ++ p.L9.drop k,ay:=a9,aO:=c9 } :af)/\({ q with L9:=(p.L9.take k ++ [(⟨id,false⟩:aB)]) ++ p.L9.drop k,ay:=a9,aO:=c9 } :af).pure= { p.pure with L9:=cA (·.id) (⟨id,false⟩:aB) p.pure.L9 }):=by
    have hpb: ∀ g∈p.Mc,g < w.heap.size:=Au.I;have nW: ∀ g∈q.Mc,g < o:=hq.2.2.2.1;have sm: ∀ g,g < W2.heap.size->g≠o->(w9.setCell ⟨o,4,n_⟩ (s_ a9 (k+1+(p.L9.length - k)) c9)).heap[g]? =W8.heap[g]? :=fun g hg hne=>(aH hne).trans (kN.block _ hg)
    have lY:B_ w.heap.size w (w9.setCell ⟨o,4,n_⟩ (s_ a9 (k+1+(p.L9.length - k)) c9)):=bP (h8.1.1.2.2.1.drew.trans (kN.mono zo)) zo;refine ⟨(sm _ zo zo).trans h8.1.1.1,h8.1.1.2.1.same fun g hg=>sm g Zc4 Zc4,lY,(sm _ zo zo).trans h8.1.1.2.2.2,?_,?_,gn⟩
    .have h5:=cx (i:=4) (v:=s_ a9 (k+1+(p.L9.length - k)) c9) lV
     unfold av;simp only [sR];exact h5
    .refine h8.1.2.2.Ge (B:=W2.heap.size) zo (fun g hg=>by have:=nW g hg; omega) (fun g hg=>sm g Zc7 Zc7) ?_
     exact Zbw
   refine L7 6 (fun K hK=> ?_);refine cM _ _ _ rfl _ _ _ w9 rfl rfl hr ?_;refine hK.out _ _ YU.I.1 (fun hHeld=> ?_);clear hK K
   try simp only [pt,sb,s0,s1]
   obtain ⟨⟨u,co⟩,fo⟩:(∃ u,w9.cell? ⟨o,4,n_⟩=o_ u)/\w9.frozen? ⟨o,4,n_⟩=false:=⟨⟨_,by rw [K5 _ _ _ _ _ _ lV]; rfl⟩,Ko _ _ _ _ _ lV⟩
   clear hr xj FW kN hq h8 p7 hwl lV hbd;refine tt 7 hHeld ?_ (hy:=fun w0 hS0=>by have cm:=hS0; go_simp; try with_reducible rfl);refine L7 8 (fun K hK=> ?_);go_wp2_with fail;refine hK.out _ _ YU.I.2 (fun hHeld=> ?_);clear hK K
   try simp only [pt,sb,s0,s1]
   refine K3 ZcS ?_ _;clear hHeld co fo YU HS co8;generalize w9.setCell ⟨o,4,n_⟩ (s_ a9 (k+1+(p.L9.length - k)) c9)=W10 at *;have Mb:=fi p ({ q with L9:=(p.L9.take k ++ [(⟨id,false⟩:aB)]) ++ p.L9.drop k,ay:=a9,aO:=c9 } :af) W10 ⟨fl.I.1,fl.I.2.1,eX.I.2.1.at⟩ (fun hr=>by
    have h5:aE.Small ({ q with L9:=(p.L9.take k ++ [(⟨id,false⟩:aB)]) ++ p.L9.drop k,ay:=a9,aO:=c9 } :af).pure:=by rw [eX.I.2.2.2.2.2.2]; exact vS fl.I.2.2.1 hr fl.I.2.2.2
    exact ⟨dV h5,fun x hx=>(cY h5 hx).1,eX.I.2.2.2.2.2.1.at⟩)
   obtain ⟨m0,m1,m2,m3,m4,m5,m6,m7⟩:=eX.I.1.cells;obtain ⟨k0,k1,k2,k3,k4,k5,k6,k7⟩:=eX.I.2.2.2.2.1.cells;unfold af.cells at Mb;simp only [sR] at Mb k0 k1 k2 k3 k4 k5 k6 k7;have DM:Hid (((p.L9.take k ++ [(⟨id,false⟩:aB)]) ++ p.L9.drop k).length=k+1+(p.L9.length - k)):=sR;clear sR mI hkd Jx gn;go_wp2_with fail;refine Mb.mono ?_;clear Mb m0 m1 m2 m3 m4 m5 m6 m7 k0 k1 k2 k3 k4 k5 k6 k7;rintro e ow ⟨gy,hok⟩;have hq:=HQ.I.2.2.2.2;have HZ:Hid (B_ w.heap.size w ow/\ow.heap[w.heap.size+1]? =o_ (c_ ar 31)/\ap ow W.heap.size ({ q with L9:=(p.L9.take k ++ [(⟨id,false⟩:aB)]) ++ p.L9.drop k,ay:=a9,aO:=c9 } :af)/\w.heap.size+1 < W.heap.size):=⟨eX.I.2.2.1.trans (gy.mono eX.I.2.2.1.size),(gy.block _ (J2.1 eX.I.2.2.2.1).1).trans eX.I.2.2.2.1,eX.I.2.2.2.2.2.1.below gy,hq.2.1⟩
   clear gy hq;rw [eX.I.2.2.2.2.2.2] at hok;rcases hok with ⟨hok,rfl⟩ | ⟨hok,rfl⟩
   .have HN:Hid (cB p.pure { p.pure with L9:=cA (·.id) (⟨id,false⟩:aB) p.pure.L9 } =o_ { p.pure with L9:=cA (·.id) (⟨id,false⟩:aB) p.pure.L9 }):=jS hok
    clear hok;go_wp2_with (refine ec 4 49 #[i_ j_ q.id,i_ j_ q.next,s_ q.aN q.L8.length q.aW,s_ q.bc q.aj.length q.bF,s_ a9 (k+1+(p.L9.length - k)) c9,s_ q.ax q.ag.length q.aP,s_ q.am q.ae.length q.aG,s_ q.aK q.ai.length q.aV] HZ.I.2.1 ?_);refine mG results74 (b_ true) HZ.I.2.1 ?_;have hl:=HZ.I.2.2.2;rw [HN.I];refine ⟨({ q with L9:=(p.L9.take k ++ [(⟨id,false⟩:aB)]) ++ p.L9.drop k,ay:=a9,aO:=c9 } :af),by unfold af.cells; simp only [DM.I]; rfl,(HZ.I.2.2.1.lower zo).same fun g hg=>KH _ _ _ _ Zc2,eX.I.2.2.2.2.2.2,q_ HZ.I.1 zo _⟩
   .have HN:Hid (cB p.pure { p.pure with L9:=cA (·.id) (⟨id,false⟩:aB) p.pure.L9 } =n_):=jh hok
    clear hok;go_wp2_with (refine ec 4 49 ar HZ.I.2.1 ?_);refine mG results74 (b_ false) HZ.I.2.1 ?_;exact Zae
def ra (p:af) (id:Int) (w:w_) (b0:Nat) (hwf:(Lit.int j_ id).wf=true) (qY:p.pure.Small) (h:ap w b0 p):
  k_ J3 75 #[a_ p.cells,i_ j_ id] w fun e w'=>gI w (cB p.pure { p.pure with ag:=cA (·.id) (⟨id,false,⟨#[]⟩⟩:az) p.pure.ag }) e w':=by
 have HB:Hid (av ((w.alloc (c_ p.row 31)).alloc (c_ ar 31)) w.heap.size p/\ap ((w.alloc (c_ p.row 31)).alloc (c_ ar 31)) b0 p/\B_ w.heap.size w ((w.alloc (c_ p.row 31)).alloc (c_ ar 31))/\((w.alloc (c_ p.row 31)).alloc (c_ ar 31)).heap[w.heap.size+1]? =o_ (c_ ar 31)):=by
  exact Q4
 have fl:Hid (p.Fit/\(∀ x∈p.L8,x.dX)/\p.pure.Small/\(Lit.int j_ id).wf=true):=⟨dV qY,fun x hx=>(cY qY hx).1,qY,hwf⟩
 have hpl:=fl.I.1.short.ag;have hcap:p.ag.length<=p.aP:=nV h.ag;have pd: ∀ g∈p.Mc,g < w.heap.size:=fun g hg=>(h.lt g hg).2
 clear h qY hwf;obtain ⟨m0,m1,m2,m3,m4,m5,m6,m7⟩:=HB.I.1.cells;unfold af.cells
 go_enter func75,ntmps75
 go_wp2_with fail;generalize (w.alloc (c_ p.row 31)).alloc (c_ ar 31)=W at *;clear m0 m1 m2 m3 m4 m5 m6 m7;refine (fR p W fl.I.1 fl.I.2.1 HB.I.2.1.at).mono ?_;rintro e W1 ⟨q,rfl,hown,gn,hb1⟩;have hb2:B_ W1.heap.size W1 (W1.alloc (c_ q.row 31)):=(Kp _ _).alloc (Ki _) _;have hlt:w.heap.size+1 < W.heap.size:=(J2.1 HB.I.2.2.2).1;have hb3:B_ W.heap.size W (W1.alloc (c_ q.row 31)):=hb1.trans (hb2.mono hb1.size);have hq1: ∀ g∈q.Mc,g < W1.heap.size:=fun g hg=>(hown.lt g hg).2
 have HQ:Hid (av (W1.alloc (c_ q.row 31)) W1.heap.size q/\ap (W1.alloc (c_ q.row 31)) W.heap.size q/\q.pure=p.pure/\(∀ g∈q.Mc,g < W1.heap.size)/\W.heap.size<=W1.heap.size/\w.heap.size+1 < W.heap.size/\W1.heap.size < (W1.alloc (c_ q.row 31)).heap.size):=⟨Kj _ _,hown.below hb2,gn,hq1,hb1.size,hlt,by simp⟩
 replace HB:Hid (av (W1.alloc (c_ q.row 31)) w.heap.size p/\ap (W1.alloc (c_ q.row 31)) b0 p/\B_ w.heap.size w (W1.alloc (c_ q.row 31))/\(W1.alloc (c_ q.row 31)).heap[w.heap.size+1]? =o_ (c_ ar 31)):=⟨HB.I.1.below hb3,HB.I.2.1.below hb3,HB.I.2.2.1.trans (hb3.mono HB.I.2.2.1.size),(hb3.block _ hlt).trans HB.I.2.2.2⟩
 have Au:Hid (∀ g∈p.Mc,g < w.heap.size):=fun g hg=>pd g hg
 clear hown gn hb1 hb2 hb3 hq1 hlt pd;obtain ⟨m0,m1,m2,m3,m4,m5,m6,m7⟩:=HB.I.1.cells;unfold af.cells;go_wp2_with fail;generalize W1.alloc (c_ q.row 31)=W2 at *;clear m0 m1 m2 m3 m4 m6 m7;generalize W1.heap.size=o at *
 go_loop [7] (fun i=> ∃ k:Nat,k<=p.ag.length/\i=i_ j_ k/\Hid (∀ y∈p.ag.take k,y.id < id)) (fun i=>p.ag.length - (Go.RowKit.intOf i).toNat)
 case atStart=>exact ⟨0,Ky _,rfl,fun y hy=>by simp at hy⟩
 case round=>
  obtain ⟨k,hk,rfl,HA⟩:=hrel;have i0:(0:Int)<=(k:Int):=zo
  have icap:(k:Int)<=(p.aP:Int):=zo
  have i2:(k:Int)<=(p.ag.length:Int):=zo
  rcases zm (fun y:az=>y.id) id p.ag k with ⟨x,hx,hc,hlt⟩ | ⟨x,hx,hc,hlt⟩ | hlt
  .have HT:Hid (∀ y∈p.ag.take (k+1),y.id < id):=nE hx HA.I hc
   have i1:(k:Int) < (p.ag.length:Int):=zo
   obtain ⟨g,ha,hat⟩:=jr HB.I.2.1.at.2.2.2.1 hx;have c0:=hat.1;have m:=m5;rw [ha] at m;clear m5 hat hx;exact ZbB
  focus
   have HX:Hid (∀ y,p.ag[k]? =o_ y-> ¬ y.id < id):=fun y hy e=>by rw [hx] at hy; cases hy; exact hc e
   have i1:(k:Int) < (p.ag.length:Int):=zo
   obtain ⟨g,ha,hat⟩:=jr HB.I.2.1.at.2.2.2.1 hx;have c0:=hat.1;have m:=m5;rw [ha] at m;clear m5 hat hx ha
  rotate_left
  focus
   have HX:Hid (∀ y,p.ag[k]? =o_ y-> ¬ y.id < id):=fun y hy=>absurd (Lj.1 hy).1 hlt
   have i1: ¬ (k:Int) < (p.ag.length:Int):=zo
   have m:=m5;clear m5
  all_goals
   have hkl:(p.ag.take k).length=k:=by rw [Lk]; omega
   have hb3:B_ W2.heap.size W2 (W2.alloc (c_ #[] 93)):=(Kp _ _).alloc (Ki _) _;obtain ⟨a5,c5,w5,hap,oe,A7,-⟩:=pX (W2.alloc (c_ #[] 93)) W2.heap.size (o_ ⟨W2.heap.size,0,n_⟩) 0 [] (i6 (Kj _ _) (Ki _)) p.ax (p.ag.take k) p.aP (uM k (HB.I.2.1.below hb3).at.2.2.2.1.1) ZdP hb3.size;rw [hkl] at hap oe;simp only [K4,Li,Ll] at hap oe;have iJ:B_ W2.heap.size W2 w5:=hb3.grown A7 hb3.size fun c e=>by cases e; exact Ki _
   have jQ:B_ w5.heap.size w5 (w5.alloc (c_ #[i_ j_ id,b_ false,t_ ⟨#[]⟩] 93)):=(Kp _ _).alloc (Ki _) _;have yJ:B_ W2.heap.size W2 (w5.alloc (c_ #[i_ j_ id,b_ false,t_ ⟨#[]⟩] 93)):=iJ.trans (jQ.mono iJ.size);have qH:(w5.alloc (c_ #[i_ j_ id,b_ false,t_ ⟨#[]⟩] 93)).ownsRow W2.heap.size 93 3 (s_ a5 (p.ag.take k).length c5) (p.ag.take k).length (bG.flat (p.ag.take k)):=by rw [hkl]; exact cR oe jQ
   obtain ⟨a7,c7,w7,gT,mP,xI,-⟩:=pX (w5.alloc (c_ #[i_ j_ id,b_ false,t_ ⟨#[]⟩] 93)) W2.heap.size a5 c5 (p.ag.take k) qH (o_ ⟨w5.heap.size,0,n_⟩) [(⟨id,false,⟨#[]⟩⟩:az)] 1 (jO (Kj _ _)) ZdO yJ.size;have mI:(p.ag.take k ++ [(⟨id,false,⟨#[]⟩⟩:az)]).length=k+1:=by rw [Lf,hkl]; rfl
   rw [hkl] at gT mP;simp only [Lg,K4,Li] at gT mP;have gh:B_ W2.heap.size W2 w7:=yJ.grown xI yJ.size fun c e=>(cf oe (di e)).1
   have Em:Hid (w7.ownsRow W2.heap.size 93 3 (s_ a7 (k+1) c7) (k+1) (bG.flat (p.ag.take k ++ [(⟨id,false,⟨#[]⟩⟩:az)]))/\B_ W2.heap.size W2 w7/\(p.ag.take k ++ [(⟨id,false,⟨#[]⟩⟩:az)]).length=k+1):=⟨mP,gh,mI⟩
   have m2:(W2.alloc (c_ #[] 93)).cell? ⟨w.heap.size,5,n_⟩=o_ (s_ p.ax p.ag.length p.aP):=(HB.I.1.below hb3).cells.2.2.2.2.2.1;have hbo:W2.heap.size<=w7.heap.size:=gh.size;obtain ⟨⟨u,co⟩,fo⟩:(∃ u,w7.cell? ⟨o,5,n_⟩=o_ u)/\w7.frozen? ⟨o,5,n_⟩=false:=⟨⟨_,(HQ.I.1.below gh).cells.2.2.2.2.2.1⟩,Ko _ _ _ _ _ (HQ.I.1.below gh)⟩
   clear oe A7 iJ jQ yJ qH mP xI gh hb3 mI;go_wp2_with (at_builtin; first | (refine br _ rfl _ _ 27 rfl _ _ _ _ rfl rfl hap ?_; clear hap) | (refine br _ rfl _ _ 27 rfl _ _ _ _ rfl rfl gT ?_; clear gT));have H8:Hid (((av (w7.setCell ⟨o,5,n_⟩ (s_ a7 (k+1) c7)) w.heap.size p/\ap (w7.setCell ⟨o,5,n_⟩ (s_ a7 (k+1) c7)) b0 p/\B_ w.heap.size w (w7.setCell ⟨o,5,n_⟩ (s_ a7 (k+1) c7))/\(w7.setCell ⟨o,5,n_⟩ (s_ a7 (k+1) c7)).heap[w.heap.size+1]? =o_ (c_ ar 31))/\(w7.setCell ⟨o,5,n_⟩ (s_ a7 (k+1) c7)).heap[o]? =o_ (c_ #[i_ j_ q.id,i_ j_ q.next,s_ q.aN q.L8.length q.aW,s_ q.bc q.aj.length q.bF,s_ q.ay q.L9.length q.aO,s_ a7 (k+1) c7,s_ q.am q.ae.length q.aG,s_ q.aK q.ai.length q.aV] 31)/\ap (w7.setCell ⟨o,5,n_⟩ (s_ a7 (k+1) c7)) W.heap.size q)/\(w7.setCell ⟨o,5,n_⟩ (s_ a7 (k+1) c7)).ownsRow W2.heap.size 93 3 (s_ a7 (k+1) c7) (k+1) (bG.flat (p.ag.take k ++ [(⟨id,false,⟨#[]⟩⟩:az)]))/\W2.heap.size<=(w7.setCell ⟨o,5,n_⟩ (s_ a7 (k+1) c7)).heap.size):=by
    have gh:=Em.I.2.1;have hq:=HQ.I;exact mt
   generalize w7.setCell ⟨o,5,n_⟩ (s_ a7 (k+1) c7)=W8 at *;have HS:Hid (W8.cell? ⟨w.heap.size,5,n_⟩=o_ (s_ p.ax p.ag.length p.aP)):=H8.I.1.1.1.cells.2.2.2.2.2.1;have co8:W8.drew.cell? ⟨o,5,n_⟩=o_ (s_ a7 (k+1) c7):=by rw [K5 _ _ _ _ _ _ (show W8.drew.heap[o]? =_ from H8.I.1.2.1)]; rfl
   clear m m2 co fo hbo i1 hlt;obtain ⟨u6,Jx⟩: ∃ u6,(if p.aP=k then p.ax else Option.map (fun x=>x.add (k * 3)) p.ax)=u6:=⟨_,rfl⟩
   refine Kr (S:=fun w'=>w'.cell? ⟨w.heap.size,5,n_⟩=o_ (s_ p.ax p.ag.length p.aP)) ZcS HS.I (fun hHeld=> ?_);refine tt 0 hHeld ?_ (hy:=fun w0 hS0=>by have cm:=hS0; go_simp; try with_reducible rfl);refine tt 2 hHeld ?_ (hy:=fun w0 hS0=>by have cm:=hS0; go_simp; try with_reducible rfl);refine tt 3 hHeld ?_ (hy:=fun w0 hS0=>by have cm:=hS0; go_simp; try with_reducible rfl);refine tt 4 hHeld ?_ (hy:=fun w0 hS0=>by have cm:=hS0; go_simp; try with_reducible rfl);refine tt 5 hHeld ?_ (hy:=fun w0 hS0=>by have cm:=hS0; go_simp; try with_reducible rfl);refine L7 1 (fun K hK=> ?_);go_wp2_with fail;refine hK.out _ _ HS.I (fun hHeld=> ?_);clear hK K
   try simp only [pt,sb,s0,s1]
   have hbd:B_ W8.heap.size W8 W8.drew:=(Kp _ _).drew;have mI:=Em.I.2.2;have hkd:(p.ag.drop k).length=p.ag.length - k:=Ql;obtain ⟨a9,c9,w9,hr,xj,FW,-⟩:=pX W8.drew W2.heap.size a7 c7 (p.ag.take k ++ [(⟨id,false,⟨#[]⟩⟩:az)]) ZdK u6 (p.ag.drop k) (p.aP - k) (by rw [<- Jx]; exact qK hcap (H8.I.1.1.2.1.below hbd).at.2.2.2.1.1) (by rw [mI,hkd]; omega) H8.I.2.2;rw [mI,hkd] at hr xj;have kN:B_ W2.heap.size W8.drew w9:=(Kp _ _).grown (a:=W8.drew) FW H8.I.2.2 fun c e=>(cf H8.I.2.1 (di e)).1
   have hq:=HQ.I;have h8:=H8.I;have p7:o < W2.heap.size:=hq.2.2.2.2.2.2;have hwl:w.heap.size+1 < o:=zo
   have lV:w9.heap[o]? =o_ (c_ #[i_ j_ q.id,i_ j_ q.next,s_ q.aN q.L8.length q.aW,s_ q.bc q.aj.length q.bF,s_ q.ay q.L9.length q.aO,s_ a7 (k+1) c7,s_ q.am q.ae.length q.aG,s_ q.aK q.ai.length q.aV] 31):=(kN.block _ p7).trans h8.1.2.1;have YU:Hid (w9.cell? ⟨w.heap.size,5,n_⟩=o_ (s_ p.ax p.ag.length p.aP)/\(w9.setCell ⟨o,5,n_⟩ (s_ a9 (k+1+(p.ag.length - k)) c9)).cell? ⟨w.heap.size,5,n_⟩=o_ (s_ p.ax p.ag.length p.aP)):=by
    have e1:w9.cell? ⟨w.heap.size,5,n_⟩=o_ (s_ p.ax p.ag.length p.aP):=(J1 (kN.block _ ZdR)).trans HS.I;exact Zbr
   have sR:((p.ag.take k ++ [(⟨id,false,⟨#[]⟩⟩:az)]) ++ p.ag.drop k).length=k+1+(p.ag.length - k):=by rw [Lf,mI,hkd]
   have gn:({ q with ag:=(p.ag.take k ++ [(⟨id,false,⟨#[]⟩⟩:az)]) ++ p.ag.drop k,ax:=a9,aP:=c9 } :af).pure= { p.pure with ag:=cA (·.id) (⟨id,false,⟨#[]⟩⟩:az) p.pure.ag } :=by
    have e1:(p.ag.take k ++ [(⟨id,false,⟨#[]⟩⟩:az)]) ++ p.ag.drop k=cA (·.id) (⟨id,false,⟨#[]⟩⟩:az) p.pure.ag:=by
     exact Zb0
    have e2:=HQ.I.2.2.1
    show ({ q.pure with ag:=(p.ag.take k ++ [(⟨id,false,⟨#[]⟩⟩:az)]) ++ p.ag.drop k } :aE)=_
    rw [e1,e2]
   have eX:Hid (av (w9.setCell ⟨o,5,n_⟩ (s_ a9 (k+1+(p.ag.length - k)) c9)) w.heap.size p/\ap (w9.setCell ⟨o,5,n_⟩ (s_ a9 (k+1+(p.ag.length - k)) c9)) b0 p/\B_ w.heap.size w (w9.setCell ⟨o,5,n_⟩ (s_ a9 (k+1+(p.ag.length - k)) c9))/\(w9.setCell ⟨o,5,n_⟩ (s_ a9 (k+1+(p.ag.length - k)) c9)).heap[w.heap.size+1]? =o_ (c_ ar 31)/\av (w9.setCell ⟨o,5,n_⟩ (s_ a9 (k+1+(p.ag.length - k)) c9)) o ({ q with ag:=(p.ag.take k ++ [(⟨id,false,⟨#[]⟩⟩:az)]) ++ p.ag.drop k,ax:=a9,aP:=c9 } :af)/\ap (w9.setCell ⟨o,5,n_⟩ (s_ a9 (k+1+(p.ag.length - k)) c9)) W.heap.size ({ q with ag:=(p.ag.take k ++ [(⟨id,false,⟨#[]⟩⟩:az)]) ++ p.ag.drop k,ax:=a9,aP:=c9 } :af)/\({ q with ag:=(p.ag.take k ++ [(⟨id,false,⟨#[]⟩⟩:az)]) ++ p.ag.drop k,ax:=a9,aP:=c9 } :af).pure= { p.pure with ag:=cA (·.id) (⟨id,false,⟨#[]⟩⟩:az) p.pure.ag }):=by
    have hpb: ∀ g∈p.Mc,g < w.heap.size:=Au.I;have nW: ∀ g∈q.Mc,g < o:=hq.2.2.2.1;have sm: ∀ g,g < W2.heap.size->g≠o->(w9.setCell ⟨o,5,n_⟩ (s_ a9 (k+1+(p.ag.length - k)) c9)).heap[g]? =W8.heap[g]? :=fun g hg hne=>(aH hne).trans (kN.block _ hg)
    have lY:B_ w.heap.size w (w9.setCell ⟨o,5,n_⟩ (s_ a9 (k+1+(p.ag.length - k)) c9)):=bP (h8.1.1.2.2.1.drew.trans (kN.mono zo)) zo;refine ⟨(sm _ zo zo).trans h8.1.1.1,h8.1.1.2.1.same fun g hg=>sm g Zc4 Zc4,lY,(sm _ zo zo).trans h8.1.1.2.2.2,?_,?_,gn⟩
    .have h5:=cx (i:=5) (v:=s_ a9 (k+1+(p.ag.length - k)) c9) lV
     unfold av;simp only [sR];exact h5
    .refine h8.1.2.2.GV (B:=W2.heap.size) zo (fun g hg=>by have:=nW g hg; omega) (fun g hg=>sm g Zc7 Zc7) ?_
     exact Zbw
   refine L7 6 (fun K hK=> ?_);refine cM _ _ _ rfl _ _ _ w9 rfl rfl hr ?_;refine hK.out _ _ YU.I.1 (fun hHeld=> ?_);clear hK K
   try simp only [pt,sb,s0,s1]
   obtain ⟨⟨u,co⟩,fo⟩:(∃ u,w9.cell? ⟨o,5,n_⟩=o_ u)/\w9.frozen? ⟨o,5,n_⟩=false:=⟨⟨_,by rw [K5 _ _ _ _ _ _ lV]; rfl⟩,Ko _ _ _ _ _ lV⟩
   clear hr xj FW kN hq h8 p7 hwl lV hbd;refine tt 7 hHeld ?_ (hy:=fun w0 hS0=>by have cm:=hS0; go_simp; try with_reducible rfl);refine L7 8 (fun K hK=> ?_);go_wp2_with fail;refine hK.out _ _ YU.I.2 (fun hHeld=> ?_);clear hK K
   try simp only [pt,sb,s0,s1]
   refine K3 ZcS ?_ _;clear hHeld co fo YU HS co8;generalize w9.setCell ⟨o,5,n_⟩ (s_ a9 (k+1+(p.ag.length - k)) c9)=W10 at *;have Mb:=fi p ({ q with ag:=(p.ag.take k ++ [(⟨id,false,⟨#[]⟩⟩:az)]) ++ p.ag.drop k,ax:=a9,aP:=c9 } :af) W10 ⟨fl.I.1,fl.I.2.1,eX.I.2.1.at⟩ (fun hr=>by
    have h5:aE.Small ({ q with ag:=(p.ag.take k ++ [(⟨id,false,⟨#[]⟩⟩:az)]) ++ p.ag.drop k,ax:=a9,aP:=c9 } :af).pure:=by rw [eX.I.2.2.2.2.2.2]; exact vR fl.I.2.2.1 hr ⟨fl.I.2.2.2,Ky _⟩
    exact ⟨dV h5,fun x hx=>(cY h5 hx).1,eX.I.2.2.2.2.2.1.at⟩)
   obtain ⟨m0,m1,m2,m3,m4,m5,m6,m7⟩:=eX.I.1.cells;obtain ⟨k0,k1,k2,k3,k4,k5,k6,k7⟩:=eX.I.2.2.2.2.1.cells;unfold af.cells at Mb;simp only [sR] at Mb k0 k1 k2 k3 k4 k5 k6 k7;have DM:Hid (((p.ag.take k ++ [(⟨id,false,⟨#[]⟩⟩:az)]) ++ p.ag.drop k).length=k+1+(p.ag.length - k)):=sR;clear sR mI hkd Jx gn;go_wp2_with fail;refine Mb.mono ?_;clear Mb m0 m1 m2 m3 m4 m5 m6 m7 k0 k1 k2 k3 k4 k5 k6 k7;rintro e ow ⟨gy,hok⟩;have hq:=HQ.I.2.2.2.2;have HZ:Hid (B_ w.heap.size w ow/\ow.heap[w.heap.size+1]? =o_ (c_ ar 31)/\ap ow W.heap.size ({ q with ag:=(p.ag.take k ++ [(⟨id,false,⟨#[]⟩⟩:az)]) ++ p.ag.drop k,ax:=a9,aP:=c9 } :af)/\w.heap.size+1 < W.heap.size):=⟨eX.I.2.2.1.trans (gy.mono eX.I.2.2.1.size),(gy.block _ (J2.1 eX.I.2.2.2.1).1).trans eX.I.2.2.2.1,eX.I.2.2.2.2.2.1.below gy,hq.2.1⟩
   clear gy hq;rw [eX.I.2.2.2.2.2.2] at hok;rcases hok with ⟨hok,rfl⟩ | ⟨hok,rfl⟩
   .have HN:Hid (cB p.pure { p.pure with ag:=cA (·.id) (⟨id,false,⟨#[]⟩⟩:az) p.pure.ag } =o_ { p.pure with ag:=cA (·.id) (⟨id,false,⟨#[]⟩⟩:az) p.pure.ag }):=jS hok
    clear hok;go_wp2_with (refine ec 4 49 #[i_ j_ q.id,i_ j_ q.next,s_ q.aN q.L8.length q.aW,s_ q.bc q.aj.length q.bF,s_ q.ay q.L9.length q.aO,s_ a9 (k+1+(p.ag.length - k)) c9,s_ q.am q.ae.length q.aG,s_ q.aK q.ai.length q.aV] HZ.I.2.1 ?_);refine mG results75 (b_ true) HZ.I.2.1 ?_;have hl:=HZ.I.2.2.2;rw [HN.I];refine ⟨({ q with ag:=(p.ag.take k ++ [(⟨id,false,⟨#[]⟩⟩:az)]) ++ p.ag.drop k,ax:=a9,aP:=c9 } :af),by unfold af.cells; simp only [DM.I]; rfl,(HZ.I.2.2.1.lower zo).same fun g hg=>KH _ _ _ _ Zc2,eX.I.2.2.2.2.2.2,q_ HZ.I.1 zo _⟩
   .have HN:Hid (cB p.pure { p.pure with ag:=cA (·.id) (⟨id,false,⟨#[]⟩⟩:az) p.pure.ag } =n_):=jh hok
    clear hok;go_wp2_with (refine ec 4 49 ar HZ.I.2.1 ?_);refine mG results75 (b_ false) HZ.I.2.1 ?_;exact Zae
end
section
open Go.RowKit Go.Maps
section
variable {α:Type} {num:α->Int}
def rF {β:Type} {je:β->Int} (f:α->β) (hf: ∀ y,je (f y)=num y) (x:α): ∀ l:List α,(bY num x l).map f=bY je (f x) (l.map f)
 | [] =>rfl
 | y :: r=>by
  simp only [bY,List.map_cons,hf]
  split
  .simp
  .simp [rF f hf x r]
def AL {x:α} : ∀ {l:List α},(∀ y∈l,¬ num x < num y)->bY num x l=l ++ [x]
 | [],_=>rfl
 | y :: r,h=>by
  simp only [bY,if_neg (h y zw),Qw];rw [AL fun z hz=>h z (by simp [hz])]
def xv {x:α} : ∀ {l r:List α},(∃ y∈l,num x < num y)->bY num x (l ++ r)=bY num x l ++ r
 | [],_,h=>by obtain ⟨y,hy,_⟩:=h; cases hy
 | y :: l,r,h=>by
  simp only [Qw,bY]
  split
  .rfl
  .rename_i hn
   rw [xv,Qw];obtain ⟨z,hz,hlt⟩:=h;rcases Kt.1 hz with rfl | hz
   .exact absurd hlt hn
   .exact ⟨z,hz,hlt⟩
def Cp {x y:α} {l:List α} (h: ∀ z∈l,¬ num x < num z) (hy:num x < num y):bY num x (l ++ [y])=l ++ [x] ++ [y] :=by
 induction l with
 | nil=>simp [bY,hy]
 | cons z r ih=>
  simp only [Qw,bY,if_neg (h z zw)];rw [ih fun u hu=>h u (by simp [hu])]
def pz (x:α): ∀ l:List α,(bY num x l).Perm (x :: l)
 | [] =>RA _
 | y :: r=>by
  simp only [bY]
  split
  .exact RA _
  .exact (List.Perm.cons y (pz x r)).trans (List.Perm.swap x y r)
def gY (num:α->Int) (x:α) (l:List α) (k:Nat) (dn:Bool) (acc:List α):Prop:=
 (dn=false/\acc=l.take k/\ ∀ y∈l.take k,¬ num x < num y)\/(dn=true/\acc=bY num x (l.take k)/\ ∃ y∈l.take k,num x < num y)
def gY.start (x:α) (l:List α):gY num x l 0 false [] := .inl ⟨rfl,by simp,fun y hy=>by simp at hy⟩
def gY.on {x y:α} {l:List α} {k:Nat} {acc:List α} (h:gY num x l k true acc) (hy:l[k]? =o_ y):gY num x l (k+1) true (acc ++ [y]):=by
 rcases h with ⟨h,-⟩ | ⟨-,rfl,z,hz,hlt⟩
 .cases h
 .rw [gY,cj hy]
  exact .inr ⟨rfl,(xv ⟨z,hz,hlt⟩).symm,z,List.mem_append_left _ hz,hlt⟩
def gY.past {x y:α} {l:List α} {k:Nat} {acc:List α} (h:gY num x l k false acc) (hy:l[k]? =o_ y) (hn: ¬ num x < num y):gY num x l (k+1) false (acc ++ [y]):=by
 rcases h with ⟨-,rfl,h⟩ | ⟨h,-⟩
 .rw [gY,cj hy]
  refine .inl ⟨rfl,rfl,fun z hz=> ?_⟩;rcases Kg.1 hz with hz | hz
  .exact h z hz
  .rw [List.mem_singleton.1 hz]; exact hn
 .cases h
def gY.here {x y:α} {l:List α} {k:Nat} {acc:List α} (h:gY num x l k false acc) (hy:l[k]? =o_ y) (hn:num x < num y):gY num x l (k+1) true (acc ++ [x] ++ [y]):=by
 rcases h with ⟨-,rfl,h⟩ | ⟨h,-⟩
 .rw [gY,cj hy]
  exact .inr ⟨rfl,(Cp h hn).symm,y,by simp,hn⟩
 .cases h
def gY.done {x:α} {l:List α} {k:Nat} {acc:List α} (h:gY num x l k true acc) (hk: ¬ k < l.length):acc=bY num x l:=by
 rcases h with ⟨h,-⟩ | ⟨-,rfl,-⟩
 .cases h
 .rw [KF zo]
def gY.last {x:α} {l:List α} {k:Nat} {acc:List α} (h:gY num x l k false acc) (hk: ¬ k < l.length):acc ++ [x] =bY num x l:=by
 rcases h with ⟨-,rfl,h⟩ | ⟨h,-⟩
 .rw [KF zo] at h ⊢
  exact (AL h).symm
 .cases h
def gY.le {x:α} {l:List α} {k:Nat} {dn:Bool} {acc:List α} (h:gY num x l k dn acc):acc.length<=l.length+1:=by
 rcases h with ⟨-,rfl,-⟩ | ⟨-,rfl,-⟩
 .rw [Lk]; omega
 .rw [er,Lk]; omega
end
structure fy {α:Type} (K:Kind α) (T:T_) (t8:Array v_) (W w:w_) (acc:List α) (a:Option d_) (c:Nat):Prop where
 own:w.ownsRow W.heap.size T K.n (s_ a acc.length c) acc.length (K.flat acc)
 ne: ∀ g∈blk a,g≠W.heap.size+1
 cd:B_ W.heap.size W w
 box:w.heap[W.heap.size+1]? =o_ (c_ t8 T)
def fy.start {α:Type} {K:Kind α} {T:T_} {t8:Array v_} {W:w_} :fy K T t8 W ((W.alloc (c_ #[] T)).alloc (c_ t8 T)) [] (o_ ⟨W.heap.size,0,n_⟩) 0:=by
 have b1:B_ W.heap.size W (W.alloc (c_ #[] T)):=(Kp _ _).alloc (Ki _) _;refine ⟨i6 ((PU zw).trans (Kj _ _)) (Ki _),fun g hg=>by simp [blk] at hg; omega,b1.alloc b1.size _,Kq _ _ _⟩
def fy.add {α:Type} {K:Kind α} {T:T_} {t8:Array v_} {W w:w_} {acc:List α} {a:Option d_} {c:Nat} (h:fy K T t8 W w acc a c) (t:T_) (bytes:Nat) {z0:v_} {P:Program} (ht:P.underlying t=o_ (.slice T))
  (hi:(P.info? T).map (fun i=>(i.zero,i.size,i.bytes))=o_ (o_ z0,K.n,bytes)) (hz:z0.cells.size=K.n) (hn:0 < K.n) (hby:bytes<=1000) (z:α) (zs:Array v_) (hzs:zs.toList=K.vals z) (h1: ∀ u∈K.vals z,u.oneCell'=true) (hl:acc.length<=2000000):
  ∃ a' c' w',(Builtin.append_ #[t,t] t #[s_ a acc.length c,s_ (o_ ⟨w.heap.size,0,n_⟩) 1 1]).run P (w.alloc (c_ zs T))= .ok (s_ a' (acc.length+1) c') w'/\fy K T t8 W w' (acc ++ [z]) a' c':=by
 obtain ⟨i,hi,e⟩:=Kw.1 hi;simp only [Kx] at e;have b1:B_ w.heap.size w (w.alloc (c_ zs T)):=(Kp _ _).alloc (Ki _) _;have b2:=h.cd.trans (b1.mono h.cd.size);have hlt:=(J2.1 h.box).1;obtain ⟨a',c',w',hr,ho,hg,hq⟩:=jD (P:=P) (w.alloc (c_ zs T)) W.heap.size t t T i z0 K.n bytes ht hi e.1 e.2.1 e.2.2 hz hn a acc.length c _ (cR h.own b1) (o_ ⟨w.heap.size,0,n_⟩) 1 1 (K.vals z) (by rw [<- hzs]; exact jO (Kj _ _)) (by rw [K.len,Nat.one_mul]) h1 zo hby b2.size;refine ⟨a',c',w',hr,⟨?_,fun g hg2=> ?_,b2.grown hg b2.size fun k e=>(cf h.own (di e)).1,?_⟩⟩
 .exact Zbi
 .rcases hq g hg2 with h5 | h5
  .exact h.ne g h5
  .rw [h5]; have:=b1.size; omega
 .refine (hg.block _ ZcT (fun e=> ?_)).trans ((b1.block _ hlt).trans h.box)
  exact h.ne _ (di e.symm) rfl
def oS {Z A A' C C' R:List Nat} (h:(Z ++ (A ++ (C ++ R))).Nodup) (hA:A'.Nodup) (hC:C'.Nodup) (h1: ∀ g∈A',g∉Z ++ (A ++ (C ++ R))/\g∉C') (h2: ∀ g∈C',g∈C\/g∉Z ++ (A ++ (C ++ R))):(Z ++ (A' ++ (C' ++ R))).Nodup:=by
 simp only [Kg,not_or] at h1 h2;simp only [List.nodup_append,Kg] at h ⊢;obtain ⟨hz,⟨-,⟨-,hR,hCR⟩,-⟩,hzz⟩:=h;refine ⟨hz,⟨hA,⟨hC,hR,fun a ha b hb e=> ?_⟩,fun a ha b hb e=> ?_⟩,fun a ha b hb e=> ?_⟩
 .rcases h2 a ha with h5 | h5
  .exact hCR a h5 b hb e
  .exact h5.2.2.2 (e ▸ hb)
 .rcases hb with hb | hb
  .exact (h1 a ha).2 (e ▸ hb)
  .exact (h1 a ha).1.2.2.2 (e ▸ hb)
 .rcases hb with hb | hb | hb
  .exact (h1 b hb).1.1 (e ▸ ha)
  .rcases h2 b hb with h5 | h5
   .exact hzz a ha b (.inr (.inl h5)) e
   .exact h5.1 (e ▸ ha)
  .exact hzz a ha b (.inr (.inr hb)) e
def rB {x:ao} : ∀ u∈bg.vals x,u.oneCell'=true:=fun u hu=>by
 simp only [bg,qN,Kt,Ku,or_false] at hu;rcases hu with rfl | rfl | rfl | rfl | rfl | rfl | rfl | rfl | rfl | rfl | rfl | rfl <;> rfl
def ap.IX {w w':w_} {base B:Nat} {q:af} {l:List ao} {a':Option d_} {c':Nat} (h:ap w base q) (hb:base<=B) (hB: ∀ g∈q.Mc,g < B) (hs: ∀ g∈q.Mc,w'.heap[g]? =w.heap[g]?)
  (ho:w'.ownsRow B 41 12 (s_ a' l.length c') l.length (bg.flat l)) (hm: ∀ x∈l,aR.cO w' base x) (hn:(l.filterMap aR.bt).Nodup) (hk: ∀ g∈l.filterMap aR.bt,g∈q.L8.filterMap aR.bt\/g∉q.Mc) (hk2: ∀ g∈l.filterMap aR.bt,g < B):ap w' base ({ q with L8:=l,aN:=a',aW:=c' } :af):=by
 refine ⟨cq ho hb,aL h.aj fun g hg=>hs g ZcV,aL h.L9 fun g hg=>hs g ZcV,aL h.ag fun g hg=>hs g ZcV,aL h.ae fun g hg=>hs g ZcV,aL h.ai fun g hg=>hs g ZcV,hm,fun x hx=>(h.eE x hx).same fun g hg=>hs g ?_,fun x hx=>(h.eR x hx).same fun g hg=>hs g ?_,?_⟩
 .exact R_
 .exact N_
 .have h5:=h.nodup
  have h6: ∀ g∈blk a',g∉q.Mc/\g∉l.filterMap aR.bt:=fun g hg=>⟨fun hm=>by have:=(cf ho hg).1; have:=hB g hm; omega,fun hm=>by have:=(cf ho hg).1; have:=hk2 g hm; omega⟩
  have e1:({ q with L8:=l,aN:=a',aW:=c' } :af).Mc=([] :List Nat) ++ (blk a' ++ (l.filterMap aR.bt ++ (blk q.bc ++ (blk q.ay ++ (blk q.ax ++ (blk q.am ++ (q.ae.filterMap aC.bt ++ (blk q.aK ++ (q.ai.filterMap aU.bt))))))))):=by simp [af.Mc]
  have e3:q.Mc=([] :List Nat) ++ (blk q.aN ++ (q.L8.filterMap aR.bt ++ (blk q.bc ++ (blk q.ay ++ (blk q.ax ++ (blk q.am ++ (q.ae.filterMap aC.bt ++ (blk q.aK ++ (q.ai.filterMap aU.bt))))))))):=by simp [af.Mc]
  exact ZbI
def nz {x:au} : ∀ u∈bm.vals x,u.oneCell'=true:=fun u hu=>by
 simp only [bm,nD,Kt,Ku,or_false] at hu;rcases hu with rfl | rfl | rfl <;> rfl
def ap.Eu {w w':w_} {base B:Nat} {q:af} {l:List au} {a':Option d_} {c':Nat} (h:ap w base q) (hb:base<=B) (hB: ∀ g∈q.Mc,g < B) (hs: ∀ g∈q.Mc,w'.heap[g]? =w.heap[g]?)
  (ho:w'.ownsRow B 96 3 (s_ a' l.length c') l.length (bm.flat l)) (hm: ∀ x∈l,aC.cO w' base x) (hn:(l.filterMap aC.bt).Nodup) (hk: ∀ g∈l.filterMap aC.bt,g∈q.ae.filterMap aC.bt\/g∉q.Mc) (hk2: ∀ g∈l.filterMap aC.bt,g < B):ap w' base ({ q with ae:=l,am:=a',aG:=c' } :af):=by
 refine ⟨aL h.L8 fun g hg=>hs g ZcV,aL h.aj fun g hg=>hs g ZcV,aL h.L9 fun g hg=>hs g ZcV,aL h.ag fun g hg=>hs g ZcV,cq ho hb,aL h.ai fun g hg=>hs g ZcV,fun x hx=>(h.eI x hx).same fun g hg=>hs g ?_,hm,fun x hx=>(h.eR x hx).same fun g hg=>hs g ?_,?_⟩
 .exact ZaD
 .exact N_
 .have h5:=h.nodup
  have h6: ∀ g∈blk a',g∉q.Mc/\g∉l.filterMap aC.bt:=fun g hg=>⟨fun hm=>by have:=(cf ho hg).1; have:=hB g hm; omega,fun hm=>by have:=(cf ho hg).1; have:=hk2 g hm; omega⟩
  have e1:({ q with ae:=l,am:=a',aG:=c' } :af).Mc=(blk q.aN ++ (q.L8.filterMap aR.bt ++ (blk q.bc ++ (blk q.ay ++ (blk q.ax))))) ++ (blk a' ++ (l.filterMap aC.bt ++ (blk q.aK ++ (q.ai.filterMap aU.bt)))):=by simp [af.Mc]
  have e3:q.Mc=(blk q.aN ++ (q.L8.filterMap aR.bt ++ (blk q.bc ++ (blk q.ay ++ (blk q.ax))))) ++ (blk q.am ++ (q.ae.filterMap aC.bt ++ (blk q.aK ++ (q.ai.filterMap aU.bt)))):=by simp [af.Mc]
  exact ZbI
def qX {x:aM} : ∀ u∈bX.vals x,u.oneCell'=true:=fun u hu=>by
 simp only [bX,qT,Kt,Ku,or_false] at hu;rcases hu with rfl | rfl | rfl | rfl | rfl <;> rfl
def ap.Jb {w w':w_} {base B:Nat} {q:af} {l:List aM} {a':Option d_} {c':Nat} (h:ap w base q) (hb:base<=B) (hB: ∀ g∈q.Mc,g < B) (hs: ∀ g∈q.Mc,w'.heap[g]? =w.heap[g]?)
  (ho:w'.ownsRow B 115 5 (s_ a' l.length c') l.length (bX.flat l)) (hm: ∀ x∈l,aU.cO w' base x) (hn:(l.filterMap aU.bt).Nodup) (hk: ∀ g∈l.filterMap aU.bt,g∈q.ai.filterMap aU.bt\/g∉q.Mc) (hk2: ∀ g∈l.filterMap aU.bt,g < B):ap w' base ({ q with ai:=l,aK:=a',aV:=c' } :af):=by
 refine ⟨aL h.L8 fun g hg=>hs g ZcV,aL h.aj fun g hg=>hs g ZcV,aL h.L9 fun g hg=>hs g ZcV,aL h.ag fun g hg=>hs g ZcV,aL h.ae fun g hg=>hs g ZcV,cq ho hb,fun x hx=>(h.eI x hx).same fun g hg=>hs g ?_,fun x hx=>(h.eE x hx).same fun g hg=>hs g ?_,hm,?_⟩
 .exact ZaD
 .exact R_
 .have h5:=h.nodup
  have h6: ∀ g∈blk a',g∉q.Mc/\g∉l.filterMap aU.bt:=fun g hg=>⟨fun hm=>by have:=(cf ho hg).1; have:=hB g hm; omega,fun hm=>by have:=(cf ho hg).1; have:=hk2 g hm; omega⟩
  have e1:({ q with ai:=l,aK:=a',aV:=c' } :af).Mc=(blk q.aN ++ (q.L8.filterMap aR.bt ++ (blk q.bc ++ (blk q.ay ++ (blk q.ax ++ (blk q.am ++ (q.ae.filterMap aC.bt))))))) ++ (blk a' ++ (l.filterMap aU.bt ++ ([] :List Nat))):=by simp [af.Mc]
  have e3:q.Mc=(blk q.aN ++ (q.L8.filterMap aR.bt ++ (blk q.bc ++ (blk q.ay ++ (blk q.ax ++ (blk q.am ++ (q.ae.filterMap aC.bt))))))) ++ (blk q.aK ++ (q.ai.filterMap aU.bt ++ ([] :List Nat))):=by simp [af.Mc]
  exact ZbI
end
section
open Go.RowKit Go.Maps
attribute [local go_sem ↓] Kc Kd
def ac8 {w:w_} {base g n cap off:Nat} {e:T_} {xs vs:List v_} (h:w.ownsRow base e 1 (s_ (o_ ⟨g,0,n_⟩) n cap) n xs) (ho:n<=off):(bn w g off vs).ownsRow base e 1 (s_ (o_ ⟨g,0,n_⟩) n cap) n xs:=by
 refine ⟨h.1,?_⟩;rcases h.2 with ⟨h1,-⟩ | ⟨g',cap',cur,h1,h2,h3,h4,h5,h6,h7⟩
 .cases h1
 .simp only [LD,LF,aeS,and_true,true_and] at h1
  obtain ⟨rfl,rfl⟩:=h1;refine .inr ⟨g,cap,iD cur off vs,rfl,h2,jc vs h3,h4,h5,by rw [kM]; exact h6,?_⟩;rw [<- h7];apply List.ext_getElem?;intro j;rw [QW,QW]
  split
  .rw [QJ,QJ,lL _ _ _ _ zo]
  .rfl
def acR {w:w_} {base g n cap:Nat} {e:T_} {xs:List v_} (h:w.ownsRow base e 1 (s_ (o_ ⟨g,0,n_⟩) n cap) n xs) {j:Nat} (hj:j < cap):(w.cell? ⟨g,j,n_⟩).isSome=true/\w.frozen? ⟨g,j,n_⟩=false:=by
 rcases h.2 with ⟨h1,-⟩ | ⟨g',cap',cur,h1,h2,h3,h4,h5,h6,h7⟩
 .cases h1
 .simp only [LD,LF,aeS,and_true,true_and] at h1
  obtain ⟨rfl,rfl⟩:=h1
  have:j < cur.size:=zo
  simp [World.cell?,World.frozen?,h3,this]
def adk {w:w_} {base g n cap:Nat} {e:T_} {xs:List v_} (h:w.ownsRow base e 1 (s_ (o_ ⟨g,0,n_⟩) n cap) n xs):w.ownsRow base e 1 (s_ (o_ ⟨g,0,n_⟩) 0 cap) 0 [] :=by
 rcases h.2 with ⟨h1,-⟩ | ⟨g',cap',cur,h1,h2,h3,h4,h5,h6,h7⟩
 .cases h1
 .simp only [LD,LF,aeS,and_true,true_and] at h1
  obtain ⟨rfl,rfl⟩:=h1;exact ⟨rfl,.inr ⟨g,cap,cur,rfl,h2,h3,Ky _,h5,h6,by simp⟩⟩
def acW (a:Option d_) (n cap:Nat) (w:w_) (hn:n<=cap) (hc:cap<=maxLen) (hz:a=n_->n=0/\cap=0):
  k_ J3 189 #[s_ a n cap,i_ j_ 0,i_ j_ 0] w fun e w'=>e=r_ (s_ a n cap)/\w'=w:=by
 unfold maxLen at hc;cases a with
 | none=>
  obtain ⟨rfl,rfl⟩:=hz rfl;clear hz hn hc
  go_enter func189,ntmps189
  go_wp2;go_ret;exact ⟨rfl,rfl⟩
 | some ad=>
  clear hz;have h1:(n:Int)<=(cap:Int):=zo
  have h2:(0:Int)<=(n:Int):=zo
  go_enter func189,ntmps189
  go_wp2;go_ret;exact ⟨rfl,rfl⟩
def ac7 (g cap N base:Nat) (l:List ByteArray) (w:w_) (h0:0 < N) (hN:N<=l.length) (hl:l.length<=1000) (ho:w.ownsRow base 9 1 (s_ (o_ ⟨g,0,n_⟩) l.length cap) l.length (bT.flat l)):
  k_ J3 189 #[s_ (o_ ⟨g,0,n_⟩) l.length cap,i_ j_ 0,i_ j_ N] w fun e w'=>e=r_ (s_ (o_ ⟨g,0,n_⟩) (l.length - N) cap)/\w'.ownsRow base 9 1 (s_ (o_ ⟨g,0,n_⟩) (l.length - N) cap) (l.length - N) (bT.flat (l.drop N))/\aI w w' [g] :=by
 have hcap:l.length<=cap/\cap<=maxLen:=by
  rcases ho.2 with ⟨h1,-⟩ | ⟨g',cap',cur,h1,h2,h3,h4,h5,h6,h7⟩
  .cases h1
  .simp only [LD,LF,aeS,and_true,true_and] at h1
   obtain ⟨rfl,rfl⟩:=h1;exact ⟨h4,h5⟩
 obtain ⟨A,hA,hsrc⟩: ∃ A:d_,(if cap=N then o_ (⟨g,0,n_⟩:d_) else o_ ⟨g,N,n_⟩)=o_ A/\ ∀ j u,(bT.flat (l.drop N))[j]? =o_ u->w.drew.cell? (A.add j)=o_ u:=by
  have h1:=qK (K:=bT) (k:=N) (c:=cap) hcap.1 (nP ho);have e:(if cap=N then o_ (⟨g,0,n_⟩:d_) else Option.map (fun x:d_=>x.add (N * bT.n)) (o_ (⟨g,0,n_⟩:d_)))=(if cap=N then o_ (⟨g,0,n_⟩:d_) else o_ ⟨g,N,n_⟩):=by
   split
   .rfl
   .show o_ ((⟨g,0,n_⟩:d_).add (N * 1))=_
    rw [qZ,Nat.mul_one]
  rw [e] at h1;refine ⟨if cap=N then ⟨g,0,n_⟩ else ⟨g,N,n_⟩,by split <;> rfl,fun j u hu=> ?_⟩;obtain ⟨ad,h2,h3⟩:=h1 j u hu;have h4:(if cap=N then (⟨g,0,n_⟩:d_) else ⟨g,N,n_⟩)=ad:=by
   split at h2 <;> rename_i hh
   .rw [if_pos hh]; exact KC h2
   .rw [if_neg hh]; exact KC h2
  rw [h4];exact h3
 obtain ⟨i,hi,e⟩:=Kw.1 zD;simp only [Kx] at e;have hld:(l.drop N).length=l.length - N:=Ql;obtain ⟨w1,hr1,ho1,CT⟩:=run_append_fits (P:=J3) w.drew base 94 94 9 i 1 underlying94 hi e.2.1 g 0 cap [] (aL (adk ho) fun _ _=>rfl) A (l.length - N) (cap - N) (bT.flat (l.drop N)) (by rw [bT.dM,hld]; rfl) hsrc yK zo;simp only [Li,Ll] at hr1 ho1;have hcl: ∀ ty,(Builtin.clear_ #[94] ty #[s_ (o_ ⟨g,l.length - N,n_⟩) (l.length - (l.length - N)) (cap - (l.length - N))]).run J3 w1= .ok (u_ #[]) (w1.setCells g (l.length - N) (List.replicate (l.length - (l.length - N)) (t_ ⟨#[]⟩))):=fun ty=>
  Lib.run_clear_slice w1 _ _ ty _ underlying94 Tryz.zeroValue9 rfl rfl g (l.length - N) _ _ zo (fun j hj=>(acR ho1 zo).1) (fun j hj=>(acR ho1 zo).2)
 have HE:Hid ((w1.setCells g (l.length - N) (List.replicate (l.length - (l.length - N)) (t_ ⟨#[]⟩))).ownsRow base 9 1 (s_ (o_ ⟨g,0,n_⟩) (l.length - N) cap) (l.length - N) (bT.flat (l.drop N))/\aI w (w1.setCells g (l.length - N) (List.replicate (l.length - (l.length - N)) (t_ ⟨#[]⟩))) [g]):=by
  rw [iL];refine ⟨ac8 ho1 (Ki _),?_⟩;have h5:aI w w1 [g] :=⟨CT.os,CT.tape,CT.output,CT.size,fun k hk hn=>CT.block k hk fun ee=>hn (by simp at ee; simp [ee])⟩
  exact h5.trans (aI.set _ zw)
 have HR:=aA hr1;have n1:(N:Int)<=(l.length:Int):=zo
 have n2:(l.length:Int)<=(cap:Int):=zo
 have n3:(N:Int)<=(cap:Int):=zo
 have n4: ¬ (0:Int)=(N:Int):=zo
 have n5:(0:Int)<=(N:Int):=zo
 have n6:N<=cap:=zo
 have n7:l.length<=cap:=hcap.1;have n8:(cap:Int)<=9223372036854775807:=by have:=hcap.2; unfold maxLen at this; omega
 have n9: ¬ 0=N:=zo
 clear hsrc ho1 CT ho hr1 e hi hcap hld
 go_enter func189,ntmps189
 go_upto_region 5 with fail;refine Kr (S:=fun _=>True) ZcS trivial (fun _=> ?_);refine tt 0 trivial ?_;refine tt 1 trivial ?_;refine tt 2 trivial ?_;refine tt 3 trivial ?_;refine tt 4 trivial ?_;refine tt 5 trivial ?_
 try simp only [pt,sb,s0,s1]
 refine L7 6 (fun Q hQ=> ?_);refine cM _ _ 94 rfl _ _ _ w1 rfl rfl HR.I ?_;refine hQ.out _ _ trivial (fun _=> ?_);clear hQ Q HR
 try simp only [pt,sb,s0,s1]
 refine tt 7 trivial ?_;refine K3 ZcS ?_ _;have n10:((l.length - N:Nat):Int)<=(l.length:Int):=zo
 have n11:(0:Int)<=((l.length - N:Nat):Int):=zo
 have n12: ¬ cap=l.length - N:=zo
 go_wp2;go_ret;exact ⟨rfl,HE.I⟩
def adJ (a:Option d_) (cap N base:Nat) (l:List ByteArray) (w:w_) (hN:N<=l.length) (hl:l.length<=1000) (ho:w.ownsRow base 9 1 (s_ a l.length cap) l.length (bT.flat l)):
  k_ J3 189 #[s_ a l.length cap,i_ j_ 0,i_ j_ N] w fun e w'=>e=r_ (s_ a (l.length - N) cap)/\w'.ownsRow base 9 1 (s_ a (l.length - N) cap) (l.length - N) (bT.flat (l.drop N))/\aI w w' (blk a):=by
 by_cases h0:N=0
 .subst h0
  have hc:l.length<=cap/\cap<=maxLen/\(a=n_->l.length=0/\cap=0):=by
   rcases ho.2 with ⟨h1,h2⟩ | ⟨g',cap',cur,h1,h2,h3,h4,h5,h6,h7⟩
   .simp only [LD] at h1
    exact ⟨zo,by rw [h1.2.2]; exact Ky _,fun _=>⟨h2,h1.2.2⟩⟩
   .simp only [LD] at h1
    rw [h1.2.2];exact ⟨h4,h5,fun e=>by rw [e] at h1; cases h1.1⟩
  refine (acW a l.length cap w hc.1 hc.2.1 hc.2.2).mono ?_;rintro e w' ⟨rfl,rfl⟩;exact ⟨by rw [Nat.sub_zero],by rw [Nat.sub_zero,List.drop_zero]; exact ho,aI.refl _ _⟩
 .rcases ho.2 with ⟨h1,h2⟩ | ⟨g',cap',cur,h1,h2,h3,h4,h5,h6,h7⟩
  .omega
  .simp only [LD] at h1
   obtain ⟨rfl,-,rfl⟩:=h1;exact (ac7 g' cap N base l w zo hN hl ho).mono fun e w' h=>⟨h.1,h.2.1,h.2.2.mono fun b hb=>by simpa [blk] using hb⟩
end
end Go.Proofs.YtfncpmaefninjaaGreatDoor
