/- What the proof leans on, part 9. -/
import Derived.Test.YtgdmbemagdbmaaaGreatDoorOwnR8
import Derived.Lib.SliceRun
set_option linter.unusedVariables false
set_option maxRecDepth 100000
set_option maxHeartbeats 8000000
open Go.Proofs.Tryz
open Go renaming World->w_,Value->v_,Calls->k_,Addr->d_,TypeId->T_,below_setRow->q_
open Go.Ending renaming returned->r_
open Go.IntKind renaming i64->j_
open Go.Obj renaming cells->c_
open Go.RowKit renaming Below->B_
open Go.Value renaming int->i_,slice->s_,bool->b_,string->t_,agg->a_,pointer->p_,tuple->u_
open Option renaming some->o_,none->n_
open Array renaming getElem?_eq_some_iff->J2,getElem?_toList->QJ
open Bool renaming and_eq_true->J7,and_false->PP,or_eq_true->Kb
open Function renaming comp_def->Ls
open Go renaming frozen_of_row->Ko,heap_alloc2_new->Kq,heap_alloc_new->Kj,setRow_heap->KU,setRow_other->KH,wpAnyH_done->K3,wp_at_succ->Kd,wp_at_zero->Kc,wp_region_held_drew->Kr
open Go.Addr.mk renaming injEq->aeS
open Go.ByteArray renaming toList_eq->PQ
open Go.Proofs.Tryz renaming prog->J3
open Go.RowKit.Below renaming refl->Kp
open Go.Value.slice renaming injEq->LD
open Go.World renaming cell?_of_block->J1
open Int renaming le_refl->LJ
open List renaming cons_append->Qw,getElem?_eq_getElem->Kz,getElem?_eq_some_iff->Lj,getElem?_map->Kk,getElem?_set_self->LU,getElem?_take->QW,length_append->Lf,length_cons->Lg,length_nil->K4,length_set->LI,length_take->Lk,map_congr_left->Lw,map_map->Lv,map_set->PN,mem_append->Kg,mem_append_left->Lz,mem_append_right->Ly,mem_cons->Kt,mem_cons_of_mem->LB,mem_filterMap->Lq,mem_iff_getElem->LK,mem_map->Lr,mem_of_getElem?->KA,nodup_append->Kf,nodup_cons->Lp,not_mem_nil->Ku,pairwise_iff_getElem->P8,set_set->PV,take_of_length_le->KF
open Nat renaming add_zero->PT,le_refl->Ki,le_trans->LG,lt_trichotomy->P9,zero_add->Li,zero_le->Ky
open Option renaming map_eq_some_iff->Kw
open Option.some renaming inj->KC,injEq->LF
open Prod.mk renaming injEq->Kx

namespace Go.Proofs.YtgdmbemagdbmaaaGreatDoor
theorem empty_eq {s:ByteArray} (h:bI s=true):s=rM:=by
 have h1:s.data.toList= [] :=by simpa [bI,PQ] using h
 cases s with
 | mk d=>
  have:d= #[] :=Array.toList_eq_nil_iff.1 h1
  rw [this]; rfl
def afc (id:Int) (p:aE):Prop:= ∀ y∈p.L8,y.id=id→y.Md=1
def xr (id:Int) (p:aE):Prop:= ∀ y∈p.L8,y.id=id→y.Md=1∧y.left=0
section
variable {p:aE} {id:Int}
theorem xr.up (h:xr id p):afc id p:=fun y hy hi=>(h y hy hi).1
theorem afc.not (h:afc id p): ∀ y∈p.L8,y.id=id→ ¬ y.Md=0:=fun y hy hi=>by rw [h y hy hi]; decide
theorem afc.other {k nx:Int} {f:aD→aD} (h:afc id p) (hk: ¬ k=id) (hf: ∀ x,(f x).id=x.id):afc id { p with next:=nx,L8:=ce k f p.L8 } :=fun y hy hi=>by
 obtain ⟨z,hz,rfl⟩:=Lr.1 (show y∈ce k f p.L8 from hy)
 split at hi
 ·rw [hf] at hi; omega
 ·rw [if_neg ‹_›]; exact h z hz hi
theorem xr.got {t:ByteArray} {k:Int} (h:xr id p):xr id (ez t k p):=fun y hy hi=>by
 obtain ⟨z,hz,rfl⟩:=Lr.1 (show y∈ce k (lG t) p.L8 from hy)
 split at hi
 ·rw [if_pos ‹_›]; exact h z hz hi
 ·rw [if_neg ‹_›]; exact h z hz hi
theorem afc.Mg {f:aD→aD} {x:aD} (h:afc id p) (hx:x∈p.L8) (hs: ¬ x.Md=1) (hf: ∀ y,(f y).id=y.id):afc id (gF f p x):=
 afc.other h (fun e=>hs (h x hx e)) fun y=>by rw [(rD _ _ _).1,hf]
theorem afc.gW {f:aD→aD} {st on:Int} (hst: ¬ st=1) (hf: ∀ y,(f y).id=y.id): ∀ (n:Nat) (p:aE),afc id p→afc id (gW f st on n p)
 | 0,_,h=>h
 | n+1,p,h=>by
  unfold Go.Proofs.YtgdmbemagdbmaaaGreatDoor.gW
  split
  ·exact h
  ·rename_i x hx
   obtain ⟨m1,m2,-⟩:=ft hx;exact afc.gW hst hf n _ (h.Mg m1 (by omega) hf)
theorem afc.ff {f:aD→aD} {st on:Int} (h:afc id p) (hst: ¬ st=1) (hf: ∀ y,(f y).id=y.id):afc id (ff f st on p):=afc.gW hst hf _ _ h
theorem D6 {code:Int} (h:aQ p) (hu:afc id p) (hc:cv code 0 3=true):aQ (bu code id p):=zF h hu.not hc
theorem sO {st on Mg:Int} {held:ByteArray} (h:aQ p) (hu:xr id p) (hn:p.next+1≤1000000000)
  (hs:st=2∧on=0∧bI held=true∧cv Mg 1 2000000000=true∨(st=5∧bw held=true∨(st=3∨st=4∨st=6∨st=7)∧bI held=true)∧lh Mg=true∧hasB p st on=true):aQ (kC st on held Mg id p):=by
 have hnx:=bz.1 h.next;refine h.ju (f:=zb p.next st on held Mg) (fun _=>rfl) ⟨by omega,hn⟩ fun x hx hi=> ?_
 obtain ⟨hx1,hx2⟩:=hu x hx hi;obtain ⟨-,k1,k2,k3⟩:=h.proc hx;have hop:=iT k1 (by rw [hx1]; decide);have hb:=iF k1;have hh:bw held=true:=by
  rcases hs with hs | ⟨hs | hs,-⟩
  ·rw [empty_eq hs.2.2.1]; rfl
  ·exact hs.2
  ·rw [empty_eq hs.2]; rfl
 have ho:dU (zb p.next st on held Mg x)=true:=eB hop.1 (by show x.pc≤(x.prog.length:Int) - 1; omega);have hst:bO (zb p.next st on held Mg x)=true:=by
  unfold bO;rw [ho]
  show (if st=0 then _ else if st=1 then _ else if st=2 then true && decide (x.left=0) && cv Mg 1 2000000000 && decide (on=0) && bI held else if st=5 then true && decide (x.left=0) && lh Mg else if st=3∨st=4∨st=6∨st=7 then true && decide (x.left=0) && lh Mg && bI held else false)=true
  rw [hx2];rcases hs with ⟨rfl,rfl,h3,h4⟩ | ⟨⟨rfl,h3⟩ | ⟨h3,h4⟩,h5,-⟩
  ·simp [h3,h4]
  ·simp [h5]
  ·rcases h3 with rfl | rfl | rfl | rfl <;> simp [h4,h5]
 refine ⟨?_,?_,?_,.inr (.inr rfl)⟩
 ·rw [fG,J7]
  refine ⟨?_,hst⟩;unfold jY at hb ⊢;simp only [J7] at hb ⊢;exact ⟨⟨⟨hb.1.1.1,hh⟩,hb.1.2⟩,hb.2⟩
 ·unfold fF
  rw [Kb];exact ZaV
 ·unfold dG
  show (if 3≤st then hasB p st on else true)=true
  rcases hs with ⟨rfl,-⟩ | ⟨-,-,h5⟩
  ·rfl
  ·split
   ·exact h5
   ·rfl
theorem Ha {st now:Int} {o:dN} (h:aQ p) (hu:xr id p) (hn:p.next+1≤1000000000) (eu:0≤now∧now≤1000000000) (hm:cv o.2.2.1 (-1) 1000=true)
  (hs:st=5∧bw o.2.2.2=true∨(st=3∨st=4∨st=6∨st=7)∧bI o.2.2.2=true) (hh:hasB p st o.2.1=true):aQ (mX st o now id p):=by
 have hm':=bz.1 hm;unfold mX
 split
 ·exact D6 h hu.up rfl
 ·refine sO h hu hn (.inr ⟨hs,?_,hh⟩)
  unfold lh kZ;rw [Kb]
  split
  ·exact .inl (eB (by omega) (by omega))
  ·exact .inr (by simp)
theorem IT {st now:Int} {o:dN} :p.next≤(mX st o now id p).next∧(mX st o now id p).next≤p.next+1:=by
 unfold mX
 split
 ·exact ⟨LJ _,by show p.next≤_; omega⟩
 ·exact ⟨by show p.next≤p.next+1; omega,LJ _⟩
theorem mx {k d:Int} (h:aQ p) (hd: ∀ s∈p.aj,s.id=k→0≤s.n+d∧s.n+d≤s.max):aQ (nZ k d p):=
 h.GD Zdg (nj h.aj (fun _=>rfl) fun s hs hk=>by
  have h1:=(cK h.aj s hs).2;unfold gw at h1 ⊢;simp only [J7] at h1 ⊢;exact ⟨h1.1,eB (hd s hs hk).1 (hd s hs hk).2⟩)
theorem kw {k:Int} {b:Bool} (h:aQ p):aQ (gL k b p):=h.Cz Zdg (nj h.L9 (fun _=>rfl) fun _ _ _=>rfl)
theorem kA {k:Int} {b:Bool} {t:ByteArray} (h:aQ p) (ht:bw t=true) (hb:b=true∨bI t=true):aQ (ib k b t p):=
 h.C5 Zdg (nj h.ag (fun _=>rfl) fun s hs hk=>by
  unfold cU;simp only [J7,Kb];exact ⟨ht,hb⟩)
theorem lv {l:List ByteArray} {m:Int} :dJ l m=true↔(l.length:Int)≤m∧ ∀ t∈l,bw t=true:=by
 unfold dJ;simp [and_comm]
theorem gN {k:Int} {l:List ByteArray} (h:aQ p) (hl: ∀ b∈p.ae,b.id=k→(l.length:Int)≤b.max) (ht: ∀ t∈l,bw t=true):aQ (cV k l p):=
 h.Cb Zdg (nj h.ae (fun _=>rfl) fun s hs hk=>by
  have h1:=(cK h.ae s hs).2;unfold ct at h1 ⊢;simp only [J7] at h1 ⊢;exact ⟨h1.1,lv.2 ⟨hl s hs hk,ht⟩⟩)
theorem jj {k:Int} {l:List ByteArray} (h:aQ p) (hl: ∀ b∈p.ai,b.id=k→(l.length:Int)≤b.max) (ht: ∀ t∈l,bw t=true):aQ (gU k l p):=
 h.Es Zdg (nj h.ai (fun _=>rfl) fun s hs hk=>by
  have h1:=(cK h.ai s hs).2;unfold dj at h1 ⊢;simp only [J7] at h1 ⊢;exact ⟨h1.1,lv.2 ⟨hl s hs hk,ht⟩⟩)
theorem only {α:Type} {num:α→Int} {ok:α→Bool} {last k:Int} {l:List α} {x y:α} (h:aw num ok last l=true) (hx:cg num k l=o_ x) (hy:y∈l) (hk:num y=k):y=x:=by
 obtain ⟨h1,h2⟩:=ks hx;have h5:=(db h).2;rw [P8] at h5;obtain ⟨i,hi1,rfl⟩:=LK.1 hy;obtain ⟨j,DS,rfl⟩:=LK.1 h1;exact Zal
theorem ul {α:Type} {num:α→Int} {k:Int} {l:List α} {x:α} (h:cg num k l=o_ x):decide (k∈l.map num)=true:=by
 obtain ⟨h1,h2⟩:=ks h;exact decide_eq_true (Lr.2 ⟨x,h1,h2⟩)
end
section
open Go.RowKit Go.Maps
attribute [local go_sem ↓] Kc Kd
def fE (code:Int) (x:ao):ao:=⟨jT code x.toaD,x.aY,x.bH⟩
abbrev CB (W w:w_) (base:Nat) (q:af) (v:Array v_):Prop:=av W w.heap.size q∧W.heap[w.heap.size+1]? =o_ (c_ ar 36)∧W.heap[w.heap.size+1+1]? =o_ (c_ v 44)∧ap W base q∧B_ w.heap.size w W
theorem aI.more {w w1 w2:w_} {bs:List Nat} (h:aI w w1 bs) (hb:B_ w.heap.size w1 w2):aI w w2 bs:=⟨hb.os.trans h.os,hb.tape.trans h.tape,hb.output.trans h.output,LG h.size hb.size,fun g hg hn=>(hb.block g hg).trans (h.same g hg hn)⟩
theorem ug {W w:w_} {base gs n:Nat} {q:af} {x y:ao} {vs:List v_} (h1:av W w.heap.size q) (h2:W.heap[w.heap.size+1]? =o_ (c_ ar 36)) (h3:w.heap.size+1+1 < W.heap.size) (h4:ap W base q) (h5:B_ w.heap.size w W)
  (hx:q.L8[n]? =o_ x) (ha:q.aN=o_ ⟨gs,0,n_⟩) (hb:base≤w.heap.size) (CT:base≤gs) (hg2:gs < w.heap.size) (yD: ∀ g∈q.Mc,g < w.heap.size) (hv:vs=bg.vals y) (hy:y.prog=x.prog∧y.aY=x.aY∧y.bH=x.bH):
  W.there gs (n * 12) 12∧ap (W.setCells gs (n * 12) vs) base ({ q with L8:=q.L8.set n y } :af)∧av (W.setCells gs (n * 12) vs) w.heap.size q∧(W.setCells gs (n * 12) vs).heap[w.heap.size+1]? =o_ (c_ ar 36)∧B_ base w (W.setCells gs (n * 12) vs)∧(∀ g∈({ q with L8:=q.L8.set n y } :af).Mc,g≠w.heap.size+1)∧aI w (W.setCells gs (n * 12) vs) [gs] :=by
 have hn:n < q.L8.length:=(Lj.1 hx).1;have hl:vs.length=12:=by rw [hv]; exact bg.len y
 have oC:W.there gs (n * 12) 12:=by
  obtain ⟨g,hg,hrow⟩:=bl.fX (K:=bg) h4.L8 (by omega);exact Zaz
 have h7:=h4.kB (n:=n) (j:=0) (x:=x) (y:=y) (vs:=vs) hx ha hy (by omega) (fun r _=>by rw [Li,hv]) (fun r hr hn=>absurd ⟨Ky _,by omega⟩ hn);rw [PT,← iL] at h7;have hs: ∀ g,g≠gs→g < W.heap.size→(W.setCells gs (n * 12) vs).heap[g]? =W.heap[g]? :=fun g hg hl=>h7.2.1.same g hl (by simpa using hg)
 refine ⟨oC,h7.1,(hs _ (by omega) (by omega)).trans h1,(hs _ (by omega) (by omega)).trans h2,(h5.mono hb).trans (h7.2.1.below (by omega) ZcJ),fun g hg e=> ?_,(aI.dI h5).trans h7.2.1⟩;have h8:=yD g (h7.2.2 ▸ hg);omega
theorem ve (q:af) (n base:Nat) (x:ao) (code:Int) (w:w_) (h:ap w base q) (hb:base≤w.heap.size) (hx:q.L8[n]? =o_ x) (hpc:0≤x.pc∧x.pc < x.prog.length) (hl:x.prog.length≤1048576):
  k_ J3 159 #[a_ q.cells,i_ j_ n,i_ j_ code] w fun e w'=>e=r_ (a_ q.cells)∧ap w' base ({ q with L8:=q.L8.set n (fE code x) } :af)∧B_ base w w'∧aI w w' (blk q.aN):=by
 obtain ⟨gs,ha,hat⟩:=cn h.at.1 hx;have hgs:=cf h.L8 (g:=gs) (by rw [ha]; simp [blk]);have hnl:n < q.L8.length:=(Lj.1 hx).1;obtain ⟨afG,afd,ps,pA,pC,ss,afV,afX,es,afA,afq,bs,afR,afK,fs,aga,afN,ts,afr,af4⟩:=q;simp only at ha;subst ha;obtain ⟨C,hC⟩: ∃ C:Array v_,C= #[i_ j_ afG,i_ j_ afd,s_ (o_ ⟨gs,0,n_⟩) ps.length pC,s_ afV ss.length afX,s_ afA es.length afq,s_ afR bs.length afK,s_ aga fs.length afN,s_ afr ts.length af4] :=⟨_,rfl⟩
 obtain ⟨G,hG⟩: ∃ G:Array v_,G= #[i_ j_ x.id,i_ j_ x.RX,s_ x.aY x.prog.length x.bH,i_ j_ 1,i_ j_ (x.pc+1),i_ j_ 0,i_ j_ 0,i_ j_ 0,t_ ⟨#[]⟩,t_ x.got,i_ j_ code,i_ j_ x.RU] :=⟨_,rfl⟩
 obtain ⟨D,hD⟩: ∃ D:af,D=(⟨afG,afd,ps,o_ ⟨gs,0,n_⟩,pC,ss,afV,afX,es,afA,afq,bs,afR,afK,fs,aga,afN,ts,afr,af4⟩:af):=⟨_,rfl⟩
 obtain ⟨A,hA⟩: ∃ A:w_,A=(w.alloc (c_ C 36)).alloc (c_ ar 36):=⟨_,rfl⟩
 obtain ⟨B,hB⟩: ∃ B:w_,B=A.alloc (c_ G 44):=⟨_,rfl⟩
 have b1:B_ w.heap.size w A:=by rw [hA]; exact dT _ _ _
 have b2:B_ w.heap.size w B:=by rw [hB,hA]; exact fg _ _ _ _
 have h3:=dR w (c_ C 36) (c_ ar 36) (c_ G 44);have H6:Hid (CB B w base D G):=by subst hB hA hG hD hC; exact ⟨h3.1,h3.2.1,h3.2.2.1,h.below b2,b2⟩
 have HC:Hid (ps[n]? =o_ x∧base≤gs∧gs < w.heap.size∧base≤w.heap.size∧n < ps.length):=⟨hx,hgs.1,hgs.2,hb,hnl⟩
 obtain ⟨d0,d1,d2,d3,d4,d5,d6,d7,d8,d9,tH,tS⟩:ao.At A gs n x:=by
  obtain ⟨g,e,h5⟩:=cn (h.below b1).at.1 hx;cases e;exact h5
 have PBK:Hid (∀ g∈D.Mc,g < w.heap.size):=fun g hg=>(h.lt g (hD ▸ hg)).2
 obtain ⟨n0,n1⟩:=hpc;have n2:x.pc≤1048576:=by omega
 have j0:(0:Int)≤(n:Int):=by omega
 have j1:(n:Int) < (ps.length:Int):=by have:n < ps.length:=hnl; omega
 clear h hb hx hgs hat b1 b2 h3 hnl hl;subst hB hA hG hD hC;unfold af.cells;simp only
 go_enter func159,ntmps159
 by_cases hlen:x.pc+1=x.prog.length
 ·have afx:Hid (fE code x=(⟨j7 (jM code x.toaD),x.aY,x.bH⟩:ao)):=by show fE code x=_; unfold fE jT; rw [if_pos hlen]
  have e1:(x.pc+1 == (x.prog.length:Int))=true:=by simp [hlen]
  clear hlen n1;have Mb:=mN (⟨jM code x.toaD,x.aY,x.bH⟩:ao);simp only [jM,rM] at Mb;go_wp2_with fail;clear d0 d1 d2 d3 d4 d5 d6 d7 d8 d9 tH tS e1;refine (Mb _).mono ?_;clear Mb;rintro e w5 ⟨rfl,iJ⟩;have H5:Hid (CB w5 w base (⟨afG,afd,ps,o_ ⟨gs,0,n_⟩,pC,ss,afV,afX,es,afA,afq,bs,afR,afK,fs,aga,afN,ts,afr,af4⟩:af) #[i_ j_ x.id,i_ j_ x.RX,s_ x.aY x.prog.length x.bH,i_ j_ 1,i_ j_ (x.pc+1),i_ j_ 0,i_ j_ 0,i_ j_ 0,t_ ⟨#[]⟩,t_ x.got,i_ j_ code,i_ j_ x.RU]):=⟨H6.I.1.below iJ,(iJ.block _ (J2.1 H6.I.2.1).1).trans H6.I.2.1,(iJ.block _ (J2.1 H6.I.2.2.1).1).trans H6.I.2.2.1,H6.I.2.2.2.1.below iJ,H6.I.2.2.2.2.trans (iJ.mono H6.I.2.2.2.2.size)⟩
  have H8:Hid (CB (w5.setRow (w.heap.size+1+1) #[i_ j_ x.id,i_ j_ x.RX,s_ x.aY x.prog.length x.bH,i_ j_ 0,i_ j_ 0,i_ j_ 0,i_ j_ 0,i_ j_ 0,t_ ⟨#[]⟩,t_ x.got,i_ j_ code,i_ j_ 0]) w base (⟨afG,afd,ps,o_ ⟨gs,0,n_⟩,pC,ss,afV,afX,es,afA,afq,bs,afR,afK,fs,aga,afN,ts,afr,af4⟩:af) #[i_ j_ x.id,i_ j_ x.RX,s_ x.aY x.prog.length x.bH,i_ j_ 0,i_ j_ 0,i_ j_ 0,i_ j_ 0,i_ j_ 0,t_ ⟨#[]⟩,t_ x.got,i_ j_ code,i_ j_ 0]):=by
   refine ⟨(KH _ _ _ _ (by omega)).trans H5.I.1,(KH _ _ _ _ (by omega)).trans H5.I.2.1,KU _ _ _ _ _ _ H5.I.2.2.1,H5.I.2.2.2.1.same fun g hg=>KH _ _ _ _ (by have:=PBK.I g hg; omega),q_ H5.I.2.2.2.2 (by omega) _⟩
  clear iJ H6;obtain ⟨m0,m1,m2,m3,m4,m5,m6,m7⟩:=H8.I.1.cells;obtain ⟨r0,r1,r2,r3,r4,r5,r6,r7,r8,r9,Ju,Jq⟩:=bo (x:=(⟨j7 (jM code x.toaD),x.aY,x.bH⟩:ao)) H8.I.2.2.1;have hz:=ug (y:=(⟨j7 (jM code x.toaD),x.aY,x.bH⟩:ao)) (vs:=(#[i_ j_ x.id,i_ j_ x.RX,s_ x.aY x.prog.length x.bH,i_ j_ 0,i_ j_ 0,i_ j_ 0,i_ j_ 0,i_ j_ 0,t_ ⟨#[]⟩,t_ x.got,i_ j_ code,i_ j_ 0] :Array v_).toList) H8.I.1 H8.I.2.1 (J2.1 H8.I.2.2.1).1 H8.I.2.2.2.1 H8.I.2.2.2.2 HC.I.1 rfl HC.I.2.2.2.1 HC.I.2.1 HC.I.2.2.1 PBK.I rfl ⟨rfl,rfl,rfl⟩;have oC:=hz.1;have HZ:Hid (_):=hz.2;clear hz;simp only [j7,jM] at r0 r1 r2 r3 r4 r5 r6 r7 r8 r9 Ju Jq
  dsimp only
  repeat (first | (go_big_may; first | (refine wpList_store_row rfl 44 (Operand.tmp 7) (Operand.tmp 31) rfl (w.heap.size+1+1) _ _ #[i_ j_ x.id,i_ j_ x.RX,s_ x.aY x.prog.length x.bH,i_ j_ 0,i_ j_ 0,i_ j_ 0,i_ j_ 0,i_ j_ 0,t_ ⟨#[]⟩,t_ x.got,i_ j_ code,i_ j_ 0] rfl rfl H5.I.2.2.1 ZcI rfl ZcI ?_) | (refine wpList_store_mid rfl 44 (Operand.tmp 36) (Operand.tmp 35) rfl gs (n * 12) #[i_ j_ x.id,i_ j_ x.RX,s_ x.aY x.prog.length x.bH,i_ j_ 0,i_ j_ 0,i_ j_ 0,i_ j_ 0,i_ j_ 0,t_ ⟨#[]⟩,t_ x.got,i_ j_ code,i_ j_ 0] rfl rfl ?ht ZcI ZcI ?_)) | go_values | go_skip | go_guarded | go_step | go_upon)
  case ht=>exact oC
  clear oC m0 m1 m2 m3 m4 m5 m6 m7 r0 r1 r2 r3 r4 r5 r6 r7 r8 r9 Ju Jq;generalize World.setCells (w5.setRow (w.heap.size+1+1) #[i_ j_ x.id,i_ j_ x.RX,s_ x.aY x.prog.length x.bH,i_ j_ 0,i_ j_ 0,i_ j_ 0,i_ j_ 0,i_ j_ 0,t_ ⟨#[]⟩,t_ x.got,i_ j_ code,i_ j_ 0]) gs (n * 12) (#[i_ j_ x.id,i_ j_ x.RX,s_ x.aY x.prog.length x.bH,i_ j_ 0,i_ j_ 0,i_ j_ 0,i_ j_ 0,i_ j_ 0,t_ ⟨#[]⟩,t_ x.got,i_ j_ code,i_ j_ 0] :Array v_).toList=WZ at *;exact BC
 ·have afx:Hid (fE code x=(⟨jM code x.toaD,x.aY,x.bH⟩:ao)):=by show fE code x=_; unfold fE jT; rw [if_neg hlen]
  have e1:(x.pc+1 == (x.prog.length:Int))=false:=by simp [hlen]
  clear hlen n1;obtain ⟨m0,m1,m2,m3,m4,m5,m6,m7⟩:=H6.I.1.cells;obtain ⟨r0,r1,r2,r3,r4,r5,r6,r7,r8,r9,Ju,Jq⟩:=bo (x:=(⟨jM code x.toaD,x.aY,x.bH⟩:ao)) H6.I.2.2.1;have hz:=ug (y:=(⟨jM code x.toaD,x.aY,x.bH⟩:ao)) (vs:=(#[i_ j_ x.id,i_ j_ x.RX,s_ x.aY x.prog.length x.bH,i_ j_ 1,i_ j_ (x.pc+1),i_ j_ 0,i_ j_ 0,i_ j_ 0,t_ ⟨#[]⟩,t_ x.got,i_ j_ code,i_ j_ x.RU] :Array v_).toList) H6.I.1 H6.I.2.1 (J2.1 H6.I.2.2.1).1 H6.I.2.2.2.1 H6.I.2.2.2.2 HC.I.1 rfl HC.I.2.2.2.1 HC.I.2.1 HC.I.2.2.1 PBK.I rfl ⟨rfl,rfl,rfl⟩;have oC:=hz.1;have HZ:Hid (_):=hz.2;clear hz;simp only [jM] at r0 r1 r2 r3 r4 r5 r6 r7 r8 r9 Ju Jq
  repeat (first | (go_big_may; first | (refine wpList_store_mid rfl 44 (Operand.tmp 36) (Operand.tmp 35) rfl gs (n * 12) #[i_ j_ x.id,i_ j_ x.RX,s_ x.aY x.prog.length x.bH,i_ j_ 1,i_ j_ (x.pc+1),i_ j_ 0,i_ j_ 0,i_ j_ 0,t_ ⟨#[]⟩,t_ x.got,i_ j_ code,i_ j_ x.RU] rfl rfl ?ht ZcI ZcI ?_)) | go_values | go_skip | go_guarded | go_step | go_upon)
  case ht=>exact oC
  clear oC m0 m1 m2 m3 m4 m5 m6 m7 r0 r1 r2 r3 r4 r5 r6 r7 r8 r9 Ju Jq;generalize World.setCells _ gs (n * 12) (#[i_ j_ x.id,i_ j_ x.RX,s_ x.aY x.prog.length x.bH,i_ j_ 1,i_ j_ (x.pc+1),i_ j_ 0,i_ j_ 0,i_ j_ 0,t_ ⟨#[]⟩,t_ x.got,i_ j_ code,i_ j_ x.RU] :Array v_).toList=WZ at *;exact BC
theorem Bt {W w:w_} {base gs n:Nat} {q:af} {x:ao} {nx:Int} (h1:av W w.heap.size q) (h2:W.heap[w.heap.size+1]? =o_ (c_ ar 36)) (h4:ap W base q) (h5:B_ w.heap.size w W)
  (hx:q.L8[n]? =o_ x) (ha:q.aN=o_ ⟨gs,0,n_⟩) (hb:base≤w.heap.size) (CT:base≤gs) (hg2:gs < w.heap.size) (yD: ∀ g∈q.Mc,g < w.heap.size):
  ((∃ u,W.cell? ⟨gs,n * 12+11,n_⟩=o_ u)∧W.frozen? ⟨gs,n * 12+11,n_⟩=false)∧ap (W.setCell ⟨gs,n * 12+11,n_⟩ (i_ j_ nx)) base ({ q with L8:=q.L8.set n { x with RU:=nx } } :af)∧av (W.setCell ⟨gs,n * 12+11,n_⟩ (i_ j_ nx)) w.heap.size q∧(W.setCell ⟨gs,n * 12+11,n_⟩ (i_ j_ nx)).heap[w.heap.size+1]? =o_ (c_ ar 36)∧B_ base w (W.setCell ⟨gs,n * 12+11,n_⟩ (i_ j_ nx))∧(∀ g∈({ q with L8:=q.L8.set n { x with RU:=nx } } :af).Mc,g < w.heap.size)∧aI w (W.setCell ⟨gs,n * 12+11,n_⟩ (i_ j_ nx)) [gs] :=by
 have hn:n < q.L8.length:=(Lj.1 hx).1;have hc:(∃ u,W.cell? ⟨gs,n * 12+11,n_⟩=o_ u)∧W.frozen? ⟨gs,n * 12+11,n_⟩=false:=by
  obtain ⟨g,hg,hrow⟩:=bl.fX (K:=bg) h4.L8 (by omega);rw [ha] at hg;cases hg;exact ⟨⟨_,(hrow.cell hx (r:=11) (by decide)).1⟩,(hrow.cell hx (r:=11) (by decide)).2⟩
 have h7:=h4.kB (n:=n) (j:=11) (x:=x) (y:= { x with RU:=nx }) (vs:= [i_ j_ nx]) hx ha ⟨rfl,rfl,rfl⟩ (by show 11+1≤12; omega) (fun r hr=>by match r,hr with | 0,_=>rfl) (fun r hr hn=>by
  have hne:r≠11:=fun e=>hn ⟨by omega,by show r < 11+1; omega⟩
  match r,hr,hne with | 0,_,_=>rfl | 1,_,_=>rfl | 2,_,_=>rfl | 3,_,_=>rfl | 4,_,_=>rfl | 5,_,_=>rfl | 6,_,_=>rfl | 7,_,_=>rfl | 8,_,_=>rfl | 9,_,_=>rfl | 10,_,_=>rfl | 11,_,hne=>exact absurd rfl hne)
 simp only [bn] at h7;have l1:=(J2.1 h2).1;have hs: ∀ g,g≠gs→(W.setCell ⟨gs,n * 12+11,n_⟩ (i_ j_ nx)).heap[g]? =W.heap[g]? :=fun g hg=>aH hg
 exact ⟨hc,h7.1,(hs _ (by omega)).trans h1,(hs _ (by omega)).trans h2,(h5.mono hb).trans (h7.2.1.below (by have:=h5.size; omega) ZcJ),fun g hg=>yD g (h7.2.2 ▸ hg),(aI.dI h5).trans h7.2.1⟩
theorem qG (q:af) (n base:Nat) (x:ao) (w:w_) (h:ap w base q) (hb:base≤w.heap.size) (hx:q.L8[n]? =o_ x) (hn:0≤q.next∧q.next≤1000000000):
  k_ J3 188 #[a_ q.cells,i_ j_ n] w fun e w'=> ∃ q2:af,e=r_ (a_ q2.cells)∧q2= { q with next:=q.next+1,L8:=q.L8.set n { x with RU:=q.next } } ∧ap w' base q2∧B_ base w w'∧aI w w' (blk q.aN):=by
 obtain ⟨gs,ha,-⟩:=cn h.at.1 hx;have hgs:=cf h.L8 (g:=gs) (by rw [ha]; simp [blk]);have hnl:n < q.L8.length:=(Lj.1 hx).1;have b1:B_ w.heap.size w ((w.alloc (c_ q.cells 36)).alloc (c_ ar 36)):=dT _ _ _;have h2:=cZ w (c_ q.cells 36) (c_ ar 36);have hz:=Bt (nx:=q.next) h2.1 h2.2 (h.below b1) b1 hx ha hb hgs.1 hgs.2 fun g hg=>(h.lt g hg).2
 obtain ⟨⟨⟨u,pe⟩,f11⟩,hz⟩:=hz;have H2:Hid (_):=hz;have HB:Hid (av ((w.alloc (c_ q.cells 36)).alloc (c_ ar 36)) w.heap.size q∧base≤w.heap.size∧q.aN=o_ ⟨gs,0,n_⟩):=⟨h2.1,hb,ha⟩
 have H3:Hid ((((w.alloc (c_ q.cells 36)).alloc (c_ ar 36)).setCell ⟨gs,n * 12+11,n_⟩ (i_ j_ q.next)).setCell ⟨w.heap.size,1,n_⟩ (i_ j_ (q.next+1)) |> fun W=>av W w.heap.size { q with next:=q.next+1 } ∧W.heap[w.heap.size+1]? =o_ (c_ ar 36)∧ap W base { q with next:=q.next+1,L8:=q.L8.set n { x with RU:=q.next } } ∧B_ base w W∧(∀ g∈({ q with L8:=q.L8.set n { x with RU:=q.next } } :af).Mc,g < w.heap.size)∧aI w W [gs]):=by
  have ho:=hz.1.same (w':=(((w.alloc (c_ q.cells 36)).alloc (c_ ar 36)).setCell ⟨gs,n * 12+11,n_⟩ (i_ j_ q.next)).setCell ⟨w.heap.size,1,n_⟩ (i_ j_ (q.next+1))) fun g hg=>aH (by have:=hz.2.2.2.2.1 g hg; omega)
  exact ⟨cx (i:=1) (v:=i_ j_ (q.next+1)) hz.2.1,(aH (by omega)).trans hz.2.2.1,⟨ho.L8,ho.aj,ho.L9,ho.ag,ho.ae,ho.ai,ho.eI,ho.eE,ho.eR,ho.nodup⟩,bP hz.2.2.2.1 hb,hz.2.2.2.2.1,hz.2.2.2.2.2.more (bP (Kp _ _) (Ki _))⟩
 have k1f:(((w.alloc (c_ q.cells 36)).alloc (c_ ar 36)).setCell ⟨gs,n * 12+11,n_⟩ (i_ j_ q.next)).frozen? ⟨w.heap.size,1,n_⟩=false:=Ko _ _ _ _ _ hz.2.1;have k1:=hz.2.1.cells.2.1;obtain ⟨-,m1,m2,-⟩:=h2.1 |> av.cells (p:=q)
 obtain ⟨r0,r1,r2,r3,r4,r5,r6,r7⟩:=H3.I.1.cells;have j0:(0:Int)≤(n:Int):=by omega
 have j1:(n:Int) < (q.L8.length:Int):=by omega
 obtain ⟨n0,n1⟩:=hn;clear h hb hx b1 h2 hz hgs hnl;rw [ha] at m2;unfold af.cells at *;simp only [HB.I.2.2] at *
 go_enter func188,ntmps188
 go_wp2_with (refine ec 4 16 #[i_ j_ q.id,i_ j_ (q.next+1),s_ (o_ ⟨gs,0,n_⟩) q.L8.length q.aW,s_ q.bc q.aj.length q.bF,s_ q.ay q.L9.length q.aO,s_ q.ax q.ag.length q.aP,s_ q.am q.ae.length q.aG,s_ q.aK q.ai.length q.aV] H3.I.2.1 ?_);refine gZ results188 H3.I.2.1 ?_;have hb:=HB.I.2.1;refine ⟨_,?_,rfl,H3.I.2.2.1.same fun g hg=>KH _ _ _ _ (by have:=H3.I.2.2.2.2.1 g hg; omega),q_ H3.I.2.2.2.1 (by omega) _,?_⟩
 ·simp only [LI]
 ·exact H3.I.2.2.2.2.2.more (q_ (Kp _ _) (by omega) _)



end
section
open Go.RowKit Go.Maps
section
variable {α:Type} {num:α→Int}
theorem xv {x:α} : ∀ {l r:List α},(∃ y∈l,num x < num y)→bY num x (l ++ r)=bY num x l ++ r
 | [],_,h=>by obtain ⟨y,hy,_⟩:=h; cases hy
 | y :: l,r,h=>by
  simp only [Qw,bY]
  split
  ·rfl
  ·rename_i hn
   rw [xv,Qw];obtain ⟨z,hz,hlt⟩:=h;rcases Kt.1 hz with rfl | hz
   ·exact absurd hlt hn
   ·exact ⟨z,hz,hlt⟩
def gY (num:α→Int) (x:α) (l:List α) (k:Nat) (dn:Bool) (acc:List α):Prop:=
 (dn=false∧acc=l.take k∧ ∀ y∈l.take k,¬ num x < num y)∨(dn=true∧acc=bY num x (l.take k)∧ ∃ y∈l.take k,num x < num y)
theorem gY.start (x:α) (l:List α):gY num x l 0 false [] := .inl ⟨rfl,by simp,fun y hy=>by simp at hy⟩
theorem gY.on {x y:α} {l:List α} {k:Nat} {acc:List α} (h:gY num x l k true acc) (hy:l[k]? =o_ y):gY num x l (k+1) true (acc ++ [y]):=by
 rcases h with ⟨h,-⟩ | ⟨-,rfl,z,hz,hlt⟩
 ·cases h
 ·rw [gY,cj hy]
  exact .inr ⟨rfl,(xv ⟨z,hz,hlt⟩).symm,z,Lz _ hz,hlt⟩
theorem gY.past {x y:α} {l:List α} {k:Nat} {acc:List α} (h:gY num x l k false acc) (hy:l[k]? =o_ y) (hn: ¬ num x < num y):gY num x l (k+1) false (acc ++ [y]):=by
 rcases h with ⟨-,rfl,h⟩ | ⟨h,-⟩
 ·rw [gY,cj hy]
  refine .inl ⟨rfl,rfl,fun z hz=> ?_⟩;rcases Kg.1 hz with hz | hz
  ·exact h z hz
  ·rw [List.mem_singleton.1 hz]; exact hn
 ·cases h
theorem gY.done {x:α} {l:List α} {k:Nat} {acc:List α} (h:gY num x l k true acc) (hk: ¬ k < l.length):acc=bY num x l:=by
 rcases h with ⟨h,-⟩ | ⟨-,rfl,-⟩
 ·cases h
 ·rw [KF (by omega)]
theorem gY.le {x:α} {l:List α} {k:Nat} {dn:Bool} {acc:List α} (h:gY num x l k dn acc):acc.length≤l.length+1:=by
 rcases h with ⟨-,rfl,-⟩ | ⟨-,rfl,-⟩
 ·rw [Lk]; omega
 ·rw [er,Lk]; omega
end
structure fy {α:Type} (K:Kind α) (T:T_) (t8:Array v_) (W w:w_) (acc:List α) (a:Option d_) (c:Nat):Prop where
 own:w.ownsRow W.heap.size T K.n (s_ a acc.length c) acc.length (K.flat acc)
 ne: ∀ g∈blk a,g≠W.heap.size+1
 cd:B_ W.heap.size W w
 box:w.heap[W.heap.size+1]? =o_ (c_ t8 T)
theorem fy.start {α:Type} {K:Kind α} {T:T_} {t8:Array v_} {W:w_} :fy K T t8 W ((W.alloc (c_ #[] T)).alloc (c_ t8 T)) [] (o_ ⟨W.heap.size,0,n_⟩) 0:=by
 have b1:B_ W.heap.size W (W.alloc (c_ #[] T)):=(Kp _ _).alloc (Ki _) _;refine ⟨i6 ((PU (by simp)).trans (Kj _ _)) (Ki _),fun g hg=>by simp [blk] at hg; omega,b1.alloc b1.size _,Kq _ _ _⟩
theorem fy.add {α:Type} {K:Kind α} {T:T_} {t8:Array v_} {W w:w_} {acc:List α} {a:Option d_} {c:Nat} (h:fy K T t8 W w acc a c) (t:T_) (bytes:Nat) {z0:v_} {P:Program} (ht:P.underlying t=o_ (.slice T))
  (hi:(P.info? T).map (fun i=>(i.zero,i.size,i.bytes))=o_ (o_ z0,K.n,bytes)) (hz:z0.cells.size=K.n) (hn:0 < K.n) (hby:bytes≤1000) (z:α) (zs:Array v_) (hzs:zs.toList=K.vals z) (h1: ∀ u∈K.vals z,u.oneCell'=true) (hl:acc.length≤2000000):
  ∃ a' c' w',(Builtin.append_ #[t,t] t #[s_ a acc.length c,s_ (o_ ⟨w.heap.size,0,n_⟩) 1 1]).run P (w.alloc (c_ zs T))= .ok (s_ a' (acc.length+1) c') w'∧fy K T t8 W w' (acc ++ [z]) a' c':=by
 obtain ⟨i,hi,e⟩:=Kw.1 hi;simp only [Kx] at e;have b1:B_ w.heap.size w (w.alloc (c_ zs T)):=(Kp _ _).alloc (Ki _) _;have b2:=h.cd.trans (b1.mono h.cd.size);have hlt:=(J2.1 h.box).1;obtain ⟨a',c',w',hr,ho,hg,hq⟩:=jD (P:=P) (w.alloc (c_ zs T)) W.heap.size t t T i z0 K.n bytes ht hi e.1 e.2.1 e.2.2 hz hn a acc.length c _ (cR h.own b1) (o_ ⟨w.heap.size,0,n_⟩) 1 1 (K.vals z) (by rw [← hzs]; exact jO (Kj _ _)) (by rw [K.len,Nat.one_mul]) h1 (by omega) hby b2.size;refine ⟨a',c',w',hr,⟨?_,fun g hg2=> ?_,b2.grown hg b2.size fun k e=>(cf h.own (di e)).1,?_⟩⟩
 ·exact Zbf
 ·rcases hq g hg2 with h5 | h5
  ·exact h.ne g h5
  ·rw [h5]; have:=b1.size; omega
 ·refine (hg.block _ ZcJ (fun e=> ?_)).trans ((b1.block _ hlt).trans h.box)
  exact h.ne _ (di e.symm) rfl
end
section
open Go Go.RowKit
theorem tkr {P:Program} {md:Region.Mode} {ops:Array Oper} {Q:Exit→Act→w_→Prop} {S:w_→Prop} (i:Nat) {oi:Oper} {v:v_} {fuel:Nat} {RV:Array Bool} {a:Act} {w:w_} {d:Tmp} (hi:ops[i]? =o_ oi) (hy:YieldsIf P ops S oi v a) (hS:S w)
  (h:wpAnyH P md ops Q S fuel (RV.setIfInBounds i true) (a.put (o_ d) v) w) (hd:oi.dst=o_ d:=by rfl) (h1:Region.noSelect ops=true:=by kernel_rfl) (h2:Region.free md ops RV i=true:=by kernel_rfl) (h3:(Region.ready md ops RV).contains i=true:=by kernel_rfl)
  (hQ: ∀ c a w,Q (.panic c) (a.put (o_ d) v) w→Q (.panic c) a w:=by exact fun _ _ _ h=>h):wpAnyH P md ops Q S (fuel+1) RV a w:=by
 rw [← hd] at h hQ;exact wpAnyH_take (i:=i) hi h1 h2 h3 hQ hy hS h
def oc (cs:Array v_) (T:T_) (X:Nat) (W:w_):Prop:=W.heap[X]? =o_ (c_ cs T)
section
variable {cs:Array v_} {T:T_} {X:Nat} {W W':w_} {bs:List Nat}
theorem oc.lt (h:oc cs T X W):X < W.heap.size:=(J2.1 h).1
theorem oc.below (h:oc cs T X W) (hb:B_ W.heap.size W W'):oc cs T X W':=(hb.block _ h.lt).trans h
theorem oc.kept (h:oc cs T X W) (hk:aI W W' bs) (hs:X∉bs):oc cs T X W':=(hk.same _ h.lt hs).trans h
end
theorem Y5 {α : Type} {l : List α} {i : Nat} (h : i < l.toArray.size) : l.toArray[i]'h = l[i]'(by simpa using h) := by simp
theorem gz {α : Type} {a : α} {l : List α} (h : 0 < (a :: l).length) : (a :: l)[0]'h = a := rfl
theorem gs {α : Type} {a : α} {l : List α} {i : Nat} (h : i + 1 < (a :: l).length) : (a :: l)[i + 1]'h = l[i]'(Nat.lt_of_succ_lt_succ h) := rfl
section
variable {p q:af} {w W U V:w_} {B X b:Nat} {cs:Array v_} {T:T_} {Y:Prop}
end
end
section
open Go.RowKit Go.Maps
attribute [local go_sem ↓] Kc Kd
theorem cJ.lower {w:w_} {base base' o:Nat} {S:aZ} (h:cJ w base o S) (hb:base'≤base):cJ w base' o S:=
 ⟨h.opn,h.L8.lower hb,h.aj.lower hb,h.L9.lower hb,h.ag.lower hb,h.ae.lower hb,h.ai.lower hb,fun p hp=>(h.eI p hp).low hb,fun p hp=>(h.eE p hp).low hb,fun p hp=>(h.eR p hp).low hb,h.nodup,LG hb h.low⟩
theorem cJ.ge {w:w_} {base o:Nat} {S:aZ} (h:cJ w base o S): ∀ c∈o :: (S.boxes ++ S.kids),base≤c:=fun c hc=>by
 simp only [aZ.boxes,aZ.kids,Kt,Kg] at hc;exact E_
theorem SL (p:af) (id RX:Int) (a:Option d_) (l:List dN) (c:Nat) (w:w_) (hid:(Lit.int j_ id).wf=true) (hl:l.length≤1048576∧ ∀ o∈l,o.2.2.2.size≤1048576) (hr:Row w a (fk.flat l)) (hg:p.Good w):
  k_ J3 14 #[a_ p.cells,i_ j_ id,i_ j_ RX,s_ a l.length c] w fun e w'=>gI w (cB p.pure { p.pure with L8:=bY (·.id) (newP id RX l) p.pure.L8 }) e w':=by
 have b1:B_ w.heap.size w ((w.alloc (c_ p.cells 36)).alloc (c_ ar 36)):=dT _ _ _;obtain ⟨b,d,W,hap,ho,hgr⟩:=FR ((w.alloc (c_ p.cells 36)).alloc (c_ ar 36)) a l c (hr.below b1) hl.1;have b2:B_ (w.heap.size+1+1) ((w.alloc (c_ p.cells 36)).alloc (c_ ar 36)) W:=by have h5:=(Kp ((w.alloc (c_ p.cells 36)).alloc (c_ ar 36)).heap.size ((w.alloc (c_ p.cells 36)).alloc (c_ ar 36))).grown hgr (Ki _) (fun c e=>by cases e); simpa using h5
 have hs1:((w.alloc (c_ p.cells 36)).alloc (c_ ar 36)).heap.size=w.heap.size+1+1:=by simp
 have HB:Hid (p.Good W∧B_ w.heap.size w W∧W.heap[w.heap.size+1]? =o_ (c_ ar 36)∧av W w.heap.size p∧(Lit.int j_ id).wf=true∧aR.cO W (w.heap.size+1+1) (⟨newP id RX l,b,d⟩:ao)∧(l.length≤1048576∧ ∀ o∈l,o.2.2.2.size≤1048576)∧w.heap.size+1+1≤W.heap.size):=by
  have h2:=cZ w (c_ p.cells 36) (c_ ar 36);have b3:B_ w.heap.size w W:=b1.trans (b2.mono (by omega));refine ⟨hg.below b3,b3,(b2.block _ (by omega)).trans h2.2,(b2.block _ (by omega)).trans h2.1,hid,?_,hl,by have:=b2.size; omega⟩;rw [hs1] at ho;exact ho
 clear hg hid hl hr b1 b2 ho hgr hs1;obtain ⟨m0,m1,m2,m3,m4,m5,m6,m7⟩:=HB.I.2.2.2.1.cells;unfold af.cells at *
 go_enter func14,ntmps14
 go_wp2_with (at_builtin; refine br _ rfl _ _ 41 rfl _ _ _ _ rfl rfl hap ?_; clear hap);clear m0 m1 m2 m3 m4 m5 m6 m7;refine (iO p W HB.I.1).mono ?_;rintro e w1 ⟨hb1,⟨hno,rfl⟩ | ⟨fm,o,S,rfl,hat,gn⟩⟩
 ·have HZ:Hid (B_ w.heap.size w w1∧w1.heap[w.heap.size+1]? =o_ (c_ ar 36)∧True):=⟨HB.I.2.1.trans (hb1.mono HB.I.2.1.size),(hb1.block _ (J2.1 HB.I.2.2.1).1).trans HB.I.2.2.1,trivial⟩
  have HN:Hid (cB p.pure { p.pure with L8:=bY (·.id) (newP id RX l) p.pure.L8 } =n_):=nm (dL hno);clear hb1 hno;go_wp2_with (refine ec 8 34 ar HZ.I.2.1 ?_);refine mG results14 (b_ false) HZ.I.2.1 ?_;exact Zan
 have HK:Hid (∀ g,aR.bt (⟨newP id RX l,b,d⟩:ao)=o_ g→g∉o :: (S.boxes ++ S.kids)):=fun g hk hm=>by have h5:=(HB.I.2.2.2.2.2.1.lt hk).2; have h6:=hat.ge g hm; omega
 have HZ:Hid (B_ w.heap.size w w1∧w1.heap[w.heap.size+1]? =o_ (c_ ar 36)∧aQ S.pure∧cJ w1 (w.heap.size+1+1) o S∧S.pure=p.pure∧aR.cO w1 (w.heap.size+1+1) (⟨newP id RX l,b,d⟩:ao)∧(w.heap.size+1+1)≤w1.heap.size):=⟨HB.I.2.1.trans (hb1.mono HB.I.2.1.size),(hb1.block _ (J2.1 HB.I.2.2.1).1).trans HB.I.2.2.1,by rw [gn]; exact fm,hat.lower HB.I.2.2.2.2.2.2.2,gn,Di HB.I.2.2.2.2.2.1 hb1,by have:=hb1.size; have:=HB.I.2.2.2.2.2.2.2; omega⟩
 have c0:w1.cell? ⟨o,2,n_⟩=o_ (i_ j_ 6):=hat.opn.cell 2;have c1:w1.cell? ⟨o,3,n_⟩=o_ (.map (o_ S.q.bp)):=hat.opn.cell 3;have HM:Hid (bK { p.pure with L8:=bY (·.id) (newP id RX l) p.pure.L8 } =iI 6 (RW (fun x:ao=>x.id) S.lp) id (cH (newP id RX l))):=by
  have h5:=S8 (id:=id) (RX:=RX) (l:=l) HZ.I.2.2.1;rw [gn] at h5;refine h5.trans ?_;have h6:p.pure.L8=S.lp.map (fun p=>(fun y:ao=>y.toaD) p.1):=by rw [← gn]; rfl
  rw [h6];exact (oP (num:=(fun x:ao=>x.id)) (je:=(·.id)) (fun y:ao=>y.toaD) (fun _=>rfl) cH (⟨newP id RX l,b,d⟩:ao) 6 S.lp).symm
 have Mb:=Bp 6 S.q.bp (RW (fun x:ao=>x.id) S.lp) (⟨newP id RX l,b,d⟩:ao) w1 hat.L8.map HB.I.2.2.2.2.1 (by have h5:=(iB HZ.I.2.2.1).dl; rw [bZ]; omega) ⟨⟨HB.I.2.2.2.2.2.2.1.1,HB.I.2.2.2.2.2.2.1.2,Ky _,Ky _⟩,HZ.I.2.2.2.2.2.1.row⟩;have D1:Hid (∀ e w',dD w1 S.q.bp (RW (fun x:ao=>x.id) S.lp) (iI 6 (RW (fun x:ao=>x.id) S.lp) id (cH (newP id RX l))) id (aX (⟨newP id RX l,b,d⟩:ao)) 44 e w'→dD w1 S.q.bp (RW (fun x:ao=>x.id) S.lp) (bK { p.pure with L8:=bY (·.id) (newP id RX l) p.pure.L8 }) id (aX (⟨newP id RX l,b,d⟩:ao)) 44 e w'):=fun e w' h5=>by rw [HM.I]; exact h5
 simp only [aX] at Mb;clear hb1 fm hat gn HM;go_wp2_with fail;refine Mb.mono ?_;clear Mb c0 c1;intro e w2 hE;replace hE:=D1.I e w2 hE;clear D1;cases hok:bK { p.pure with L8:=bY (·.id) (newP id RX l) p.pure.L8 }
 ·rw [hok] at hE
  obtain ⟨rfl,hb2,-⟩:=hE;have iP:Hid (B_ w.heap.size w w2∧w2.heap[w.heap.size+1]? =o_ (c_ ar 36)∧True):=⟨HZ.I.1.trans ((hb2 rfl).mono HZ.I.1.size),((hb2 rfl).block _ (J2.1 HZ.I.2.1).1).trans HZ.I.2.1,trivial⟩
  have HN:Hid (cB p.pure { p.pure with L8:=bY (·.id) (newP id RX l) p.pure.L8 } =n_):=ox hok;clear hok hb2;go_wp2_with (refine ec 8 34 ar iP.I.2.1 ?_);refine mG results14 (b_ false) iP.I.2.1 ?_;exact ca HN.I (q_ iP.I.1 (by omega) _)
 rw [hok] at hE;obtain ⟨g,g8,hb2⟩:=HZ.I.2.2.2.1.S9 (x:=(⟨newP id RX l,b,d⟩:ao)) HZ.I.2.2.2.2.2.2 HZ.I.2.2.2.2.2.1 HK.I hE;obtain ⟨rfl,-,-⟩:=hE;have HN:Hid (cB p.pure { p.pure with L8:=bY (·.id) (newP id RX l) p.pure.L8 } =o_ { p.pure with L8:=bY (·.id) (newP id RX l) p.pure.L8 }):=mZ Zc0 hok;have H2:Hid (cJ w2 (w.heap.size+1+1) o ({ S with lp:=fc (fun x:ao=>x.id) ((⟨newP id RX l,b,d⟩:ao),g) S.lp } :aZ)∧B_ w.heap.size w w2∧w2.heap[w.heap.size+1]? =o_ (c_ ar 36)):=⟨g8,HZ.I.1.trans (hb2.mono (by omega)),(hb2.block _ (by omega)).trans HZ.I.2.1⟩
 have HF:Hid (({ S with lp:=fc (fun x:ao=>x.id) ((⟨newP id RX l,b,d⟩:ao),g) S.lp } :aZ).pure= { p.pure with L8:=bY (·.id) (newP id RX l) p.pure.L8 } ∧({ S with lp:=fc (fun x:ao=>x.id) ((⟨newP id RX l,b,d⟩:ao),g) S.lp } :aZ).Fits):=by
  have e1:({ S with lp:=fc (fun x:ao=>x.id) ((⟨newP id RX l,b,d⟩:ao),g) S.lp } :aZ).pure= { p.pure with L8:=bY (·.id) (newP id RX l) p.pure.L8 } :=by
   have h6:p.pure.L8=S.lp.map (fun p=>(fun y:ao=>y.toaD) p.1):=by rw [← HZ.I.2.2.2.2.1]; rfl
   have h7:(fc (fun x:ao=>x.id) ((⟨newP id RX l,b,d⟩:ao),g) S.lp).map (fun p=>(fun y:ao=>y.toaD) p.1)=bY (·.id) (newP id RX l) p.pure.L8:=by
    rw [m9 (num:=(fun x:ao=>x.id)) (je:=(·.id)) (fun y:ao=>y.toaD) (fun _=>rfl),← h6]
   exact ZaI
  exact ZbG
 clear g8 hb2 hok;go_wp2_with fail;refine (jR o (w.heap.size+1+1) _ w2 H2.I.1 HF.I.2).mono ?_;rintro e w3 ⟨r,rfl,Bn,wu,hb3⟩;have H3:Hid (ap w3 (w.heap.size+1+1) r∧B_ w.heap.size w w3∧w3.heap[w.heap.size+1]? =o_ (c_ ar 36)∧r.pure= { p.pure with L8:=bY (·.id) (newP id RX l) p.pure.L8 }):=⟨Bn,H2.I.2.1.trans (hb3.mono H2.I.2.1.size),(hb3.block _ (J2.1 H2.I.2.2).1).trans H2.I.2.2,wu.trans HF.I.1⟩
 clear Bn wu hb3;go_wp2_with (refine ec 8 36 (af.cells r) H3.I.2.2.1 ?_);refine mG results14 (b_ true) H3.I.2.2.1 ?_;exact W_
theorem FC (p:af) (z:bD) (w:w_) (hid:(Lit.int j_ z.id).wf=true) (hg:p.Good w):
  k_ J3 22 #[a_ p.cells,a_ #[i_ j_ z.id,i_ j_ z.n,i_ j_ z.max]] w fun e w'=>gI w (cB p.pure { p.pure with aj:=cA (·.id) z p.pure.aj }) e w':=by
 have HB:Hid (p.Good (((w.alloc (c_ p.cells 36)).alloc (c_ #[i_ j_ z.id,i_ j_ z.n,i_ j_ z.max] 59)).alloc (c_ ar 36))∧B_ w.heap.size w (((w.alloc (c_ p.cells 36)).alloc (c_ #[i_ j_ z.id,i_ j_ z.n,i_ j_ z.max] 59)).alloc (c_ ar 36))∧(((w.alloc (c_ p.cells 36)).alloc (c_ #[i_ j_ z.id,i_ j_ z.n,i_ j_ z.max] 59)).alloc (c_ ar 36)).heap[w.heap.size+1+1]? =o_ (c_ ar 36)∧av (((w.alloc (c_ p.cells 36)).alloc (c_ #[i_ j_ z.id,i_ j_ z.n,i_ j_ z.max] 59)).alloc (c_ ar 36)) w.heap.size p∧(Lit.int j_ z.id).wf=true∧(((w.alloc (c_ p.cells 36)).alloc (c_ #[i_ j_ z.id,i_ j_ z.n,i_ j_ z.max] 59)).alloc (c_ ar 36)).heap[w.heap.size+1]? =o_ (c_ #[i_ j_ z.id,i_ j_ z.n,i_ j_ z.max] 59)):=by
  have b1:B_ w.heap.size w (((w.alloc (c_ p.cells 36)).alloc (c_ #[i_ j_ z.id,i_ j_ z.n,i_ j_ z.max] 59)).alloc (c_ ar 36)):=fg _ _ _ _;have h3:=dR w (c_ p.cells 36) (c_ #[i_ j_ z.id,i_ j_ z.n,i_ j_ z.max] 59) (c_ ar 36);exact ⟨hg.below b1,b1,h3.2.2.1,h3.1,hid,h3.2.1⟩
 clear hg hid;obtain ⟨m0,m1,m2,m3,m4,m5,m6,m7⟩:=HB.I.2.2.2.1.cells;unfold af.cells at *
 go_enter func22,ntmps22
 go_wp2_with fail;generalize ((w.alloc (c_ p.row 36)).alloc (c_ #[i_ j_ z.id,i_ j_ z.n,i_ j_ z.max] 59)).alloc (c_ ar 36)=W at *;clear m0 m1 m2 m3 m4 m5 m6 m7;refine (iO p W HB.I.1).mono ?_;rintro e w1 ⟨hb1,⟨hno,rfl⟩ | ⟨fm,o,S,rfl,hat,gn⟩⟩
 all_goals replace hb1:=hb1.drew
 ·have HZ:Hid (B_ w.heap.size w w1.drew∧w1.drew.heap[w.heap.size+1+1]? =o_ (c_ ar 36)∧True):=⟨HB.I.2.1.trans (hb1.mono HB.I.2.1.size),(hb1.block _ (J2.1 HB.I.2.2.1).1).trans HB.I.2.2.1,trivial⟩
  have HN:Hid (cB p.pure { p.pure with aj:=cA (·.id) z p.pure.aj } =n_):=nm (dL hno);clear hb1 hno;go_wp2_with fail;refine aT (fun w'=>w'=w1.drew) ZcI rfl ?_
  iterate 3 (refine PI ?_ (hy:=fun w0 hS0=>by subst hS0; go_simp; try with_reducible rfl))
  iterate 7 (refine nl ?_; simp only [pt,sb,s0,s1])
  (refine PI ?_ (hy:=fun w0 hS0=>by subst hS0; go_simp; try with_reducible rfl))
  refine bk ZcI ?_ _;intro w1 cm;subst cm;go_wp2_with (refine ec 4 24 ar HZ.I.2.1 ?_);refine mG results22 (b_ false) HZ.I.2.1 ?_;exact Zan
 replace hat:=hat.drew;have HZ:Hid (B_ w.heap.size w w1.drew∧w1.drew.heap[w.heap.size+1+1]? =o_ (c_ ar 36)∧aQ S.pure∧cJ w1.drew W.heap.size o S∧S.pure=p.pure∧w.heap.size+1+1 < W.heap.size∧W.heap.size≤w1.drew.heap.size):=⟨HB.I.2.1.trans (hb1.mono HB.I.2.1.size),(hb1.block _ (J2.1 HB.I.2.2.1).1).trans HB.I.2.2.1,by rw [gn]; exact fm,hat,gn,(J2.1 HB.I.2.2.1).1,hb1.size⟩
 obtain ⟨z0,z1,z2⟩:=gm (x:=z) ((hb1.block _ (by have:=(J2.1 HB.I.2.2.1).1; omega)).trans HB.I.2.2.2.2.2);have c0:w1.drew.cell? ⟨o,4,n_⟩=o_ (i_ j_ 5):=hat.opn.cell 4;have c1:w1.drew.cell? ⟨o,5,n_⟩=o_ (.map (o_ S.q.bs)):=hat.opn.cell 5;have HM:Hid (bK { p.pure with aj:=cA (·.id) z p.pure.aj } =iI 5 (RW (fun x:bD=>x.id) S.ls) z.id (gw z)):=by
  have h5:=Ed (x:=z) HZ.I.2.2.1;rw [gn] at h5;refine h5.trans ?_;have h6:p.pure.aj=S.ls.map (fun p=>(fun y:bD=>y) p.1):=by rw [← gn]; rfl
  rw [h6];exact (oP (num:=(fun x:bD=>x.id)) (je:=(·.id)) (fun y:bD=>y) (fun _=>rfl) gw z 5 S.ls).symm
 have Mb:=tU 5 S.q.bs (RW (fun x:bD=>x.id) S.ls) z w1.drew hat.aj.map HB.I.2.2.2.2.1 (by have h5:=(iB HZ.I.2.2.1).fx; rw [bZ]; omega) trivial;have D1:Hid (∀ e w',dD w1.drew S.q.bs (RW (fun x:bD=>x.id) S.ls) (iI 5 (RW (fun x:bD=>x.id) S.ls) z.id (gw z)) z.id (eH z) 59 e w'→dD w1.drew S.q.bs (RW (fun x:bD=>x.id) S.ls) (bK { p.pure with aj:=cA (·.id) z p.pure.aj }) z.id (eH z) 59 e w'):=fun e w' h5=>by rw [HM.I]; exact h5
 simp only [eH] at Mb;have HC:Hid (∀ w':w_,w'.heap[o]? =w1.drew.heap[o]? →w'.heap[w.heap.size+1]? =w1.drew.heap[w.heap.size+1]? →w'.cell? ⟨o,4,n_⟩=o_ (i_ j_ 5)∧w'.cell? ⟨o,5,n_⟩=o_ (.map (o_ S.q.bs))∧w'.cell? ⟨w.heap.size+1,0,n_⟩=o_ (i_ j_ z.id)∧w'.cell? ⟨w.heap.size+1,1,n_⟩=o_ (i_ j_ z.n)∧w'.cell? ⟨w.heap.size+1,2,n_⟩=o_ (i_ j_ z.max)):=fun w' e1 e2=>⟨(J1 e1).trans c0,(J1 e1).trans c1,(J1 e2).trans z0,(J1 e2).trans z1,(J1 e2).trans z2⟩
 clear hb1 fm hat gn HM;go_wp2_with fail;refine Kr (S:=fun w'=>w'.cell? ⟨o,4,n_⟩=o_ (i_ j_ 5)∧w'.cell? ⟨o,5,n_⟩=o_ (.map (o_ S.q.bs))∧w'.cell? ⟨w.heap.size+1,0,n_⟩=o_ (i_ j_ z.id)∧w'.cell? ⟨w.heap.size+1,1,n_⟩=o_ (i_ j_ z.n)∧w'.cell? ⟨w.heap.size+1,2,n_⟩=o_ (i_ j_ z.max)) ZcI (HC.I _ rfl rfl) (fun hHeld=> ?_);refine tt 0 hHeld ?_;refine tt 1 hHeld ?_;refine tt 2 hHeld ?_;refine tt 3 hHeld ?_;refine tt 4 hHeld ?_;refine tt 5 hHeld ?_;refine tt 6 hHeld ?_;refine tt 7 hHeld ?_;refine L7 8 (fun K hK=> ?_);go_wp2_with fail;refine Mb.mono ?_;clear Mb c0 c1 hHeld z0 z1 z2;intro e w2 hE;replace hE:=D1.I e w2 hE;clear D1;cases hok:bK { p.pure with aj:=cA (·.id) z p.pure.aj }
 ·rw [hok] at hE
  obtain ⟨rfl,hb2,-⟩:=hE;have iP:Hid (B_ w.heap.size w w2∧w2.heap[w.heap.size+1+1]? =o_ (c_ ar 36)∧True):=⟨HZ.I.1.trans ((hb2 rfl).mono HZ.I.1.size),((hb2 rfl).block _ (J2.1 HZ.I.2.1).1).trans HZ.I.2.1,trivial⟩
  have HN:Hid (cB p.pure { p.pure with aj:=cA (·.id) z p.pure.aj } =n_):=ox hok;refine hK.out _ _ (HC.I w2 ((hb2 rfl).block _ (J2.1 HZ.I.2.2.2.1.opn).1) ((hb2 rfl).block _ (by have:=HZ.I.2.2.2.2.2; omega))) (fun hHeld=> ?_);clear hK K
  try simp only [pt,sb,s0,s1]
  refine tt 9 hHeld ?_;refine tt 10 hHeld ?_;refine K3 ZcI ?_ _;clear hHeld HC;clear hok hb2;go_wp2_with (refine ec 4 24 ar iP.I.2.1 ?_);refine mG results22 (b_ false) iP.I.2.1 ?_;exact ca HN.I (q_ iP.I.1 (by omega) _)
 rw [hok] at hE;obtain ⟨g,g8,hb2⟩:=HZ.I.2.2.2.1.laySem (x:=z) HZ.I.2.2.2.2.2.2 hE;obtain ⟨rfl,-,-⟩:=hE;have hlt:=HZ.I.2.2.2.2.2.1;have HN:Hid (cB p.pure { p.pure with aj:=cA (·.id) z p.pure.aj } =o_ { p.pure with aj:=cA (·.id) z p.pure.aj }):=mZ Zc0 hok;have H2:Hid (cJ w2 W.heap.size o ({ S with ls:=fc (fun x:bD=>x.id) (z,g) S.ls } :aZ)∧B_ w.heap.size w w2∧w2.heap[w.heap.size+1+1]? =o_ (c_ ar 36)∧W.heap.size≤w2.heap.size):=⟨g8,HZ.I.1.trans (hb2.mono (by omega)),(hb2.block _ hlt).trans HZ.I.2.1,by have:=hb2.size; have:=HZ.I.2.2.2.2.2.2; omega⟩
 have HF:Hid (({ S with ls:=fc (fun x:bD=>x.id) (z,g) S.ls } :aZ).pure= { p.pure with aj:=cA (·.id) z p.pure.aj } ∧({ S with ls:=fc (fun x:bD=>x.id) (z,g) S.ls } :aZ).Fits):=by
  have h5:=Ed (x:=z) HZ.I.2.2.1;rw [HZ.I.2.2.2.2.1,hok] at h5;have e1:({ S with ls:=fc (fun x:bD=>x.id) (z,g) S.ls } :aZ).pure= { p.pure with aj:=cA (·.id) z p.pure.aj } :=by
   have h6:p.pure.aj=S.ls.map (fun p=>(fun y:bD=>y) p.1):=by rw [← HZ.I.2.2.2.2.1]; rfl
   have h7:(fc (fun x:bD=>x.id) (z,g) S.ls).map (fun p=>(fun y:bD=>y) p.1)=cA (·.id) z p.pure.aj:=by
    rw [m9 (num:=(fun x:bD=>x.id)) (je:=(·.id)) (fun y:bD=>y) (fun _=>rfl),← h6];exact (rf _ _ (uq h5.symm)).symm
   exact ZaI
  exact ZbG
 refine hK.out _ _ (HC.I w2 (H2.I.1.opn.trans HZ.I.2.2.2.1.opn.symm) (hb2.block _ (by omega))) (fun hHeld=> ?_);clear hK K
 try simp only [pt,sb,s0,s1]
 refine tt 9 hHeld ?_;refine tt 10 hHeld ?_;refine K3 ZcI ?_ _;clear hHeld HC;clear g8 hb2 hok;go_wp2_with fail;refine (jR o W.heap.size _ w2 H2.I.1 HF.I.2).mono ?_;rintro e w3 ⟨r,rfl,Bn,wu,hb3⟩;have H3:Hid (ap w3 W.heap.size r∧B_ w.heap.size w w3∧w3.heap[w.heap.size+1+1]? =o_ (c_ ar 36)∧r.pure= { p.pure with aj:=cA (·.id) z p.pure.aj }):=⟨Bn,H2.I.2.1.trans (hb3.mono H2.I.2.1.size),(hb3.block _ (J2.1 H2.I.2.2.1).1).trans H2.I.2.2.1,wu.trans HF.I.1⟩
 clear Bn wu hb3;go_wp2_with (refine ec 4 26 (af.cells r) H3.I.2.2.1 ?_);refine mG results22 (b_ true) H3.I.2.2.1 ?_;exact W_
theorem C7 (p:af) (id Me:Int) (w:w_) (hid:(Lit.int j_ id).wf=true) (hg:p.Good w):
  k_ J3 23 #[a_ p.cells,i_ j_ id,i_ j_ Me] w fun e w'=>gI w (cB p.pure { p.pure with ae:=bY (·.id) (⟨id,Me,[]⟩:ci) p.pure.ae }) e w':=by
 have HB:Hid (p.Good ((w.alloc (c_ p.row 36)).alloc (c_ ar 36))∧B_ w.heap.size w ((w.alloc (c_ p.row 36)).alloc (c_ ar 36))∧((w.alloc (c_ p.row 36)).alloc (c_ ar 36)).heap[w.heap.size+1]? =o_ (c_ ar 36)∧av ((w.alloc (c_ p.row 36)).alloc (c_ ar 36)) w.heap.size p∧(Lit.int j_ id).wf=true):=by
  have b1:B_ w.heap.size w ((w.alloc (c_ p.row 36)).alloc (c_ ar 36)):=((Kp _ _).alloc (Ki _) _).alloc (by simp) _;exact ⟨hg.below b1,b1,Kq _ _ _,(PU (by simp)).trans (Kj _ _),hid⟩
 clear hg hid;obtain ⟨m0,m1,m2,m3,m4,m5,m6,m7⟩:=HB.I.2.2.2.1.cells;unfold af.cells
 go_enter func23,ntmps23
 go_wp2_with fail;generalize (w.alloc (c_ p.row 36)).alloc (c_ ar 36)=W at *;clear m0 m1 m2 m3 m4 m5 m6 m7;refine (iO p W HB.I.1).mono ?_;rintro e w1 ⟨hb1,⟨hno,rfl⟩ | ⟨fm,o,S,rfl,hat,gn⟩⟩
 ·have HZ:Hid (B_ w.heap.size w w1∧w1.heap[w.heap.size+1]? =o_ (c_ ar 36)∧True):=⟨HB.I.2.1.trans (hb1.mono HB.I.2.1.size),(hb1.block _ (J2.1 HB.I.2.2.1).1).trans HB.I.2.2.1,trivial⟩
  have HN:Hid (cB p.pure { p.pure with ae:=bY (·.id) (⟨id,Me,[]⟩:ci) p.pure.ae } =n_):=nm (dL hno);clear hb1 hno;go_wp2_with (refine ec 6 28 ar HZ.I.2.1 ?_);refine mG results23 (b_ false) HZ.I.2.1 ?_;exact Zan
 have HZ:Hid (B_ w.heap.size w w1∧w1.heap[w.heap.size+1]? =o_ (c_ ar 36)∧aQ S.pure∧cJ w1 W.heap.size o S∧S.pure=p.pure∧w.heap.size+1 < W.heap.size∧W.heap.size≤w1.heap.size):=⟨HB.I.2.1.trans (hb1.mono HB.I.2.1.size),(hb1.block _ (J2.1 HB.I.2.2.1).1).trans HB.I.2.2.1,by rw [gn]; exact fm,hat,gn,(J2.1 HB.I.2.2.1).1,hb1.size⟩
 have c0:w1.cell? ⟨o,10,n_⟩=o_ (i_ j_ 5):=hat.opn.cell 10;have c1:w1.cell? ⟨o,11,n_⟩=o_ (.map (o_ S.q.bf)):=hat.opn.cell 11;have HM:Hid (bK { p.pure with ae:=bY (·.id) (⟨id,Me,[]⟩:ci) p.pure.ae } =iI 5 (RW (fun x:au=>x.id) S.lf) id (ct (⟨id,Me,[]⟩:ci))):=by
  have h5:=vE (x:=(⟨id,Me,[]⟩:ci)) HZ.I.2.2.1;rw [gn] at h5;refine h5.trans ?_;have h6:p.pure.ae=S.lf.map (fun p=>(fun y:au=>y.toci) p.1):=by rw [← gn]; rfl
  rw [h6];exact (oP (num:=(fun x:au=>x.id)) (je:=(·.id)) (fun y:au=>y.toci) (fun _=>rfl) ct (⟨⟨id,Me,[]⟩,n_,0⟩:au) 5 S.lf).symm
 have Mb:=pV 5 S.q.bf (RW (fun x:au=>x.id) S.lf) (⟨⟨id,Me,[]⟩,n_,0⟩:au) w1 hat.ae.map HB.I.2.2.2.2 (by have h5:=(iB HZ.I.2.2.1).cb; rw [bZ]; omega) ⟨Ky _,(fun s hs=>by cases hs),(fun j u hu=>by cases hu)⟩;have D1:Hid (∀ e w',dD w1 S.q.bf (RW (fun x:au=>x.id) S.lf) (iI 5 (RW (fun x:au=>x.id) S.lf) id (ct (⟨id,Me,[]⟩:ci))) id (bQ (⟨⟨id,Me,[]⟩,n_,0⟩:au)) 114 e w'→dD w1 S.q.bf (RW (fun x:au=>x.id) S.lf) (bK { p.pure with ae:=bY (·.id) (⟨id,Me,[]⟩:ci) p.pure.ae }) id (bQ (⟨⟨id,Me,[]⟩,n_,0⟩:au)) 114 e w'):=fun e w' h5=>by rw [HM.I]; exact h5
 simp only [bQ,K4] at Mb;clear hb1 fm hat gn HM;go_wp2_with fail;refine Mb.mono ?_;clear Mb c0 c1;intro e w2 hE;replace hE:=D1.I e w2 hE;clear D1;cases hok:bK { p.pure with ae:=bY (·.id) (⟨id,Me,[]⟩:ci) p.pure.ae }
 ·rw [hok] at hE
  obtain ⟨rfl,hb2,-⟩:=hE;have iP:Hid (B_ w.heap.size w w2∧w2.heap[w.heap.size+1]? =o_ (c_ ar 36)∧True):=⟨HZ.I.1.trans ((hb2 rfl).mono HZ.I.1.size),((hb2 rfl).block _ (J2.1 HZ.I.2.1).1).trans HZ.I.2.1,trivial⟩
  have HN:Hid (cB p.pure { p.pure with ae:=bY (·.id) (⟨id,Me,[]⟩:ci) p.pure.ae } =n_):=ox hok;clear hok hb2;go_wp2_with (refine ec 6 28 ar iP.I.2.1 ?_);refine mG results23 (b_ false) iP.I.2.1 ?_;exact ca HN.I (q_ iP.I.1 (by omega) _)
 rw [hok] at hE;obtain ⟨g,g8,hb2⟩:=HZ.I.2.2.2.1.EZ (x:=(⟨⟨id,Me,[]⟩,n_,0⟩:au)) HZ.I.2.2.2.2.2.2 (World.ownsRow_nil _ _ _ _) (fun c hc=>by cases hc) hE;obtain ⟨rfl,-,-⟩:=hE;have hlt:=HZ.I.2.2.2.2.2.1;have HN:Hid (cB p.pure { p.pure with ae:=bY (·.id) (⟨id,Me,[]⟩:ci) p.pure.ae } =o_ { p.pure with ae:=bY (·.id) (⟨id,Me,[]⟩:ci) p.pure.ae }):=mZ Zc0 hok;have H2:Hid (cJ w2 W.heap.size o ({ S with lf:=fc (fun x:au=>x.id) ((⟨⟨id,Me,[]⟩,n_,0⟩:au),g) S.lf } :aZ)∧B_ w.heap.size w w2∧w2.heap[w.heap.size+1]? =o_ (c_ ar 36)∧W.heap.size≤w2.heap.size):=⟨g8,HZ.I.1.trans (hb2.mono (by omega)),(hb2.block _ hlt).trans HZ.I.2.1,by have:=hb2.size; have:=HZ.I.2.2.2.2.2.2; omega⟩
 have HF:Hid (({ S with lf:=fc (fun x:au=>x.id) ((⟨⟨id,Me,[]⟩,n_,0⟩:au),g) S.lf } :aZ).pure= { p.pure with ae:=bY (·.id) (⟨id,Me,[]⟩:ci) p.pure.ae } ∧({ S with lf:=fc (fun x:au=>x.id) ((⟨⟨id,Me,[]⟩,n_,0⟩:au),g) S.lf } :aZ).Fits):=by
  have h5:=vE (x:=(⟨id,Me,[]⟩:ci)) HZ.I.2.2.1;rw [HZ.I.2.2.2.2.1,hok] at h5;have e1:({ S with lf:=fc (fun x:au=>x.id) ((⟨⟨id,Me,[]⟩,n_,0⟩:au),g) S.lf } :aZ).pure= { p.pure with ae:=bY (·.id) (⟨id,Me,[]⟩:ci) p.pure.ae } :=by
   have h6:p.pure.ae=S.lf.map (fun p=>(fun y:au=>y.toci) p.1):=by rw [← HZ.I.2.2.2.2.1]; rfl
   have h7:(fc (fun x:au=>x.id) ((⟨⟨id,Me,[]⟩,n_,0⟩:au),g) S.lf).map (fun p=>(fun y:au=>y.toci) p.1)=bY (·.id) (⟨id,Me,[]⟩:ci) p.pure.ae:=by
    rw [m9 (num:=(fun x:au=>x.id)) (je:=(·.id)) (fun y:au=>y.toci) (fun _=>rfl),← h6]
   exact ZaI
  exact ZbG
 clear g8 hb2 hok;go_wp2_with fail;refine (jR o W.heap.size _ w2 H2.I.1 HF.I.2).mono ?_;rintro e w3 ⟨r,rfl,Bn,wu,hb3⟩;have H3:Hid (ap w3 W.heap.size r∧B_ w.heap.size w w3∧w3.heap[w.heap.size+1]? =o_ (c_ ar 36)∧r.pure= { p.pure with ae:=bY (·.id) (⟨id,Me,[]⟩:ci) p.pure.ae }):=⟨Bn,H2.I.2.1.trans (hb3.mono H2.I.2.1.size),(hb3.block _ (J2.1 H2.I.2.2.1).1).trans H2.I.2.2.1,wu.trans HF.I.1⟩
 clear Bn wu hb3;go_wp2_with (refine ec 6 30 (af.cells r) H3.I.2.2.1 ?_);refine mG results23 (b_ true) H3.I.2.2.1 ?_;exact W_
theorem ac8 {w:w_} {base g n cap off:Nat} {e:T_} {xs vs:List v_} (h:w.ownsRow base e 1 (s_ (o_ ⟨g,0,n_⟩) n cap) n xs) (ho:n≤off):(bn w g off vs).ownsRow base e 1 (s_ (o_ ⟨g,0,n_⟩) n cap) n xs:=by
 refine ⟨h.1,?_⟩;rcases h.2 with ⟨h1,-⟩ | ⟨g',cap',cur,h1,h2,h3,h4,h5,h6,h7⟩
 ·cases h1
 ·simp only [LD,LF,aeS,and_true,true_and] at h1
  obtain ⟨rfl,rfl⟩:=h1;refine .inr ⟨g,cap,iD cur off vs,rfl,h2,jc vs h3,h4,h5,by rw [kM]; exact h6,?_⟩;rw [← h7];apply List.ext_getElem?;intro j;rw [QW,QW]
  split
  ·rw [QJ,QJ,lL _ _ _ _ (by omega)]
  ·rfl
theorem acR {w:w_} {base g n cap:Nat} {e:T_} {xs:List v_} (h:w.ownsRow base e 1 (s_ (o_ ⟨g,0,n_⟩) n cap) n xs) {j:Nat} (hj:j < cap):(w.cell? ⟨g,j,n_⟩).isSome=true∧w.frozen? ⟨g,j,n_⟩=false:=by
 rcases h.2 with ⟨h1,-⟩ | ⟨g',cap',cur,h1,h2,h3,h4,h5,h6,h7⟩
 ·cases h1
 ·simp only [LD,LF,aeS,and_true,true_and] at h1
  obtain ⟨rfl,rfl⟩:=h1
  have:j < cur.size:=by omega
  simp [World.cell?,World.frozen?,h3,this]
theorem adk {w:w_} {base g n cap:Nat} {e:T_} {xs:List v_} (h:w.ownsRow base e 1 (s_ (o_ ⟨g,0,n_⟩) n cap) n xs):w.ownsRow base e 1 (s_ (o_ ⟨g,0,n_⟩) 0 cap) 0 [] :=by
 rcases h.2 with ⟨h1,-⟩ | ⟨g',cap',cur,h1,h2,h3,h4,h5,h6,h7⟩
 ·cases h1
 ·simp only [LD,LF,aeS,and_true,true_and] at h1
  obtain ⟨rfl,rfl⟩:=h1;exact ⟨rfl,.inr ⟨g,cap,cur,rfl,h2,h3,Ky _,h5,h6,by simp⟩⟩
theorem acW (a:Option d_) (n cap:Nat) (w:w_) (hn:n≤cap) (hc:cap≤maxLen) (hz:a=n_→n=0∧cap=0):
  k_ J3 176 #[s_ a n cap,i_ j_ 0,i_ j_ 0] w fun e w'=>e=r_ (s_ a n cap)∧w'=w:=by
 unfold maxLen at hc;cases a with
 | none=>
  obtain ⟨rfl,rfl⟩:=hz rfl;clear hz hn hc
  go_enter func176,ntmps176
  go_wp2;go_ret;exact ⟨rfl,rfl⟩
 | some ad=>
  clear hz;have h1:(n:Int)≤(cap:Int):=by omega
  have h2:(0:Int)≤(n:Int):=by omega
  go_enter func176,ntmps176
  go_wp2;go_ret;exact ⟨rfl,rfl⟩
theorem ac7 (g cap N base:Nat) (l:List ByteArray) (w:w_) (h0:0 < N) (hN:N≤l.length) (hl:l.length≤1000) (ho:w.ownsRow base 9 1 (s_ (o_ ⟨g,0,n_⟩) l.length cap) l.length (bT.flat l)):
  k_ J3 176 #[s_ (o_ ⟨g,0,n_⟩) l.length cap,i_ j_ 0,i_ j_ N] w fun e w'=>e=r_ (s_ (o_ ⟨g,0,n_⟩) (l.length - N) cap)∧w'.ownsRow base 9 1 (s_ (o_ ⟨g,0,n_⟩) (l.length - N) cap) (l.length - N) (bT.flat (l.drop N))∧aI w w' [g] :=by
 have hcap:l.length≤cap∧cap≤maxLen:=by
  rcases ho.2 with ⟨h1,-⟩ | ⟨g',cap',cur,h1,h2,h3,h4,h5,h6,h7⟩
  ·cases h1
  ·simp only [LD,LF,aeS,and_true,true_and] at h1
   obtain ⟨rfl,rfl⟩:=h1;exact ⟨h4,h5⟩
 obtain ⟨A,hA,hsrc⟩: ∃ A:d_,(if cap=N then o_ (⟨g,0,n_⟩:d_) else o_ ⟨g,N,n_⟩)=o_ A∧ ∀ j u,(bT.flat (l.drop N))[j]? =o_ u→w.drew.cell? (A.add j)=o_ u:=by
  have h1:=qK (K:=bT) (k:=N) (c:=cap) hcap.1 (nP ho);have e:(if cap=N then o_ (⟨g,0,n_⟩:d_) else Option.map (fun x:d_=>x.add (N * bT.n)) (o_ (⟨g,0,n_⟩:d_)))=(if cap=N then o_ (⟨g,0,n_⟩:d_) else o_ ⟨g,N,n_⟩):=by
   split
   ·rfl
   ·show o_ ((⟨g,0,n_⟩:d_).add (N * 1))=_
    rw [qZ,Nat.mul_one]
  rw [e] at h1;refine ⟨if cap=N then ⟨g,0,n_⟩ else ⟨g,N,n_⟩,by split <;> rfl,fun j u hu=> ?_⟩;obtain ⟨ad,h2,h3⟩:=h1 j u hu;have h4:(if cap=N then (⟨g,0,n_⟩:d_) else ⟨g,N,n_⟩)=ad:=by
   split at h2 <;> rename_i hh
   ·rw [if_pos hh]; exact KC h2
   ·rw [if_neg hh]; exact KC h2
  rw [h4];exact h3
 obtain ⟨i,hi,e⟩:=Kw.1 zD;simp only [Kx] at e;have hld:(l.drop N).length=l.length - N:=List.length_drop;obtain ⟨w1,hr1,ho1,CT⟩:=run_append_fits (P:=J3) w.drew base 112 112 9 i 1 underlying112 hi e.2.1 g 0 cap [] (aL (adk ho) fun _ _=>rfl) A (l.length - N) (cap - N) (bT.flat (l.drop N)) (by rw [bT.dM,hld]; rfl) hsrc yK (by omega);simp only [Li,List.nil_append] at hr1 ho1;have hcl: ∀ ty,(Builtin.clear_ #[112] ty #[s_ (o_ ⟨g,l.length - N,n_⟩) (l.length - (l.length - N)) (cap - (l.length - N))]).run J3 w1= .ok (u_ #[]) (w1.setCells g (l.length - N) (List.replicate (l.length - (l.length - N)) (t_ ⟨#[]⟩))):=fun ty=>
  Lib.run_clear_slice w1 _ _ ty _ underlying112 Tryz.zeroValue9 rfl rfl g (l.length - N) _ _ (by omega) (fun j hj=>(acR ho1 (by omega)).1) (fun j hj=>(acR ho1 (by omega)).2)
 have HE:Hid ((w1.setCells g (l.length - N) (List.replicate (l.length - (l.length - N)) (t_ ⟨#[]⟩))).ownsRow base 9 1 (s_ (o_ ⟨g,0,n_⟩) (l.length - N) cap) (l.length - N) (bT.flat (l.drop N))∧aI w (w1.setCells g (l.length - N) (List.replicate (l.length - (l.length - N)) (t_ ⟨#[]⟩))) [g]):=by
  rw [iL];refine ⟨ac8 ho1 (Ki _),?_⟩;have h5:aI w w1 [g] :=⟨CT.os,CT.tape,CT.output,CT.size,fun k hk hn=>CT.block k hk fun ee=>hn (by simp at ee; simp [ee])⟩
  exact h5.trans (aI.set _ (by simp))
 have HR:=aA hr1;have n1:(N:Int)≤(l.length:Int):=by omega
 have n2:(l.length:Int)≤(cap:Int):=by omega
 have n3:(N:Int)≤(cap:Int):=by omega
 have n4: ¬ (0:Int)=(N:Int):=by omega
 have n5:(0:Int)≤(N:Int):=by omega
 have n6:N≤cap:=by omega
 have n7:l.length≤cap:=hcap.1;have n8:(cap:Int)≤9223372036854775807:=by have:=hcap.2; unfold maxLen at this; omega
 have n9: ¬ 0=N:=by omega
 clear hsrc ho1 CT ho hr1 e hi hcap hld
 go_enter func176,ntmps176
 go_upto_region 5 with fail;refine Kr (S:=fun _=>True) ZcI trivial (fun _=> ?_);refine tt 0 trivial ?_;refine tt 1 trivial ?_;refine tt 2 trivial ?_;refine tt 3 trivial ?_;refine tt 4 trivial ?_;refine tt 5 trivial ?_
 try simp only [pt,sb,s0,s1]
 refine L7 6 (fun Q hQ=> ?_);refine cM _ _ 112 rfl _ _ _ w1 rfl rfl HR.I ?_;refine hQ.out _ _ trivial (fun _=> ?_);clear hQ Q HR
 try simp only [pt,sb,s0,s1]
 refine tt 7 trivial ?_;refine K3 ZcI ?_ _;have n10:((l.length - N:Nat):Int)≤(l.length:Int):=by omega
 have n11:(0:Int)≤((l.length - N:Nat):Int):=by omega
 have n12: ¬ cap=l.length - N:=by omega
 go_wp2;go_ret;exact ⟨rfl,HE.I⟩
theorem adJ (a:Option d_) (cap N base:Nat) (l:List ByteArray) (w:w_) (hN:N≤l.length) (hl:l.length≤1000) (ho:w.ownsRow base 9 1 (s_ a l.length cap) l.length (bT.flat l)):
  k_ J3 176 #[s_ a l.length cap,i_ j_ 0,i_ j_ N] w fun e w'=>e=r_ (s_ a (l.length - N) cap)∧w'.ownsRow base 9 1 (s_ a (l.length - N) cap) (l.length - N) (bT.flat (l.drop N))∧aI w w' (blk a):=by
 by_cases h0:N=0
 ·subst h0
  have hc:l.length≤cap∧cap≤maxLen∧(a=n_→l.length=0∧cap=0):=by
   rcases ho.2 with ⟨h1,h2⟩ | ⟨g',cap',cur,h1,h2,h3,h4,h5,h6,h7⟩
   ·simp only [LD] at h1
    exact ⟨by omega,by rw [h1.2.2]; exact Ky _,fun _=>⟨h2,h1.2.2⟩⟩
   ·simp only [LD] at h1
    rw [h1.2.2];exact ⟨h4,h5,fun e=>by rw [e] at h1; cases h1.1⟩
  refine (acW a l.length cap w hc.1 hc.2.1 hc.2.2).mono ?_;rintro e w' ⟨rfl,rfl⟩;exact ⟨by rw [Nat.sub_zero],by rw [Nat.sub_zero,List.drop_zero]; exact ho,aI.refl _ _⟩
 ·rcases ho.2 with ⟨h1,h2⟩ | ⟨g',cap',cur,h1,h2,h3,h4,h5,h6,h7⟩
  ·omega
  ·simp only [LD] at h1
   obtain ⟨rfl,-,rfl⟩:=h1;exact (ac7 g' cap N base l w (by omega) hN hl ho).mono fun e w' h=>⟨h.1,h.2.1,h.2.2.mono fun b hb=>by simpa [blk] using hb⟩
end
theorem dv {o:dN} (h:kc o=true):(1≤o.1∧o.1≤17)∧(¬ o.1=17→1≤o.2.1∧o.2.1≤1000)∧cv o.2.2.1 (-1) 1000=true∧bw o.2.2.2=true∧(¬ o.1=8→ ¬ o.1=10→ ¬ o.1=13→bI o.2.2.2=true):=by
 unfold kc mQ at h
 split at h
 ·simp only [J7,decide_eq_true_eq] at h
  have h1:=bz.1 h.1.1;exact ⟨by omega,fun _=>h1,by rw [h.1.2]; rfl,by rw [empty_eq h.2]; rfl,fun _ _ _=>h.2⟩
 ·split at h
  ·simp only [J7] at h
   have h1:=bz.1 h.1.1;exact ⟨by omega,fun _=>h1,h.1.2,by rw [empty_eq h.2]; rfl,fun _ _ _=>h.2⟩
  ·split at h
   ·simp only [J7] at h
    have h1:=bz.1 h.1.1;exact ⟨by omega,fun _=>h1,h.1.2,h.2,fun e _ _=>by omega⟩
   ·split at h
    ·simp only [J7,decide_eq_true_eq] at h
     have h1:=bz.1 h.1.1;exact ⟨by omega,fun _=>h1,by rw [h.1.2]; rfl,h.2,fun _ e1 e2=>by omega⟩
    ·split at h
     ·simp only [J7,decide_eq_true_eq] at h
      exact ⟨by omega,fun e=>by omega,by rw [h.1.2]; rfl,by rw [empty_eq h.2]; rfl,fun _ _ _=>h.2⟩
     ·cases h
theorem n7 (n:Int):n≤n∧n≤n+7:=by omega
def sS (p q:aE):Prop:=aQ q∧p.next≤q.next∧q.next≤p.next+7
section
variable {p:aE} {id now:Int} {o:dN}
theorem cP {code:Int} {q:aE} (h:aQ q) (hu:afc id q) (hc:cv code 0 3=true) (hn:p.next≤q.next∧q.next≤p.next+7):sS p (bu code id q):=⟨D6 h hu hc,hn⟩
theorem B8 {st:Int} {q:aE} (h:aQ q) (hu:xr id q) (hq:q.next=p.next) (hn:p.next+1≤1000000000) (eu:0≤now∧now≤1000000000) (hm:cv o.2.2.1 (-1) 1000=true)
  (hs:st=5∧bw o.2.2.2=true∨(st=3∨st=4∨st=6∨st=7)∧bI o.2.2.2=true) (hh:hasB q st o.2.1=true):sS p (mX st o now id q):=by
 have h1:=IT (p:=q) (id:=id) (st:=st) (now:=now) (o:=o);exact ⟨Ha h hu (by omega) eu hm hs hh,by omega,by omega⟩
theorem pw {s:bD} (h:aQ p) (hf:cg (·.id) o.2.1 p.aj=o_ s):hasB p 3 o.2.1=true∧0≤s.n∧s.n≤s.max:=by
 refine ⟨ul hf,?_⟩;have h1:=(cK h.aj s (ks hf).1).2;unfold gw at h1;simp only [J7] at h1;exact bz.1 h1.2
theorem ji {b:ci} (h:aQ p) (hf:cg (·.id) o.2.1 p.ae=o_ b):hasB p 5 o.2.1=true∧hasB p 6 o.2.1=true∧(b.Ma.length:Int)≤b.max∧ ∀ t∈b.Ma,bw t=true:=by
 refine ⟨ul hf,ul hf,?_⟩;have h1:=(cK h.ae b (ks hf).1).2;unfold ct at h1;simp only [J7] at h1;exact lv.1 h1.2
theorem nB {q:dS} (h:aQ p) (hf:cg (·.id) o.2.1 p.ai=o_ q):1≤q.max∧(q.Ma.length:Int)≤q.max∧ ∀ t∈q.Ma,bw t=true:=by
 have h1:=(cK h.ai q (ks hf).1).2;unfold dj at h1;simp only [J7] at h1;exact ⟨(bz.1 h1.1.1).1,lv.1 h1.2⟩
theorem sX {b:az} (h:aQ p) (hf:cg (·.id) o.2.1 p.ag=o_ b):hasB p 7 o.2.1=true∧bw b.text=true:=by
 refine ⟨ul hf,?_⟩;have h1:=(cK h.ag b (ks hf).1).2;unfold cU at h1;simp only [J7] at h1;exact h1.1
theorem CO (h:aQ p) (hu:xr id p) (hn:p.next≤999999990) (ho:kc o=true) (hk:o.1=3) (eu:0≤now∧now≤1000000000):sS p (mh o now id p):=by
 obtain ⟨f0,f1,f2,f3,f4⟩:=dv ho;unfold mh
 split
 ·exact N_
 ·rename_i s hs
  obtain ⟨k1,k2,k3⟩:=pw h hs
  split
  ·exact B8 h hu rfl (by omega) eu f2 (.inr ⟨.inl rfl,f4 (by omega) (by omega) (by omega)⟩) k1
  ·exact ZbN
theorem yH (h:aQ p) (hu:xr id p) (hn:p.next≤999999990):sS p (gJ o id p):=by
 unfold gJ
 split
 ·exact N_
 ·rename_i s hs
  obtain ⟨k1,k2,k3⟩:=pw h hs
  split
  ·rename_i y hy
   obtain ⟨m1,m2,-⟩:=ft hy;have h3:=mU p.next y;exact cP (i9 h m1 (by omega) (.inl rfl) (by omega)) (hu.up.Mg m1 (by omega) fun _=>rfl) rfl Zc7
  ·split
   ·exact N_
   ·exact ZbN
theorem zn (h:aQ p) (hu:xr id p) (hn:p.next≤999999990) (ho:kc o=true) (hk:o.1=5∨o.1=6∨o.1=7) (eu:0≤now∧now≤1000000000):sS p (dE o now id p):=by
 obtain ⟨f0,f1,f2,f3,f4⟩:=dv ho;unfold dE
 split
 ·exact N_
 ·rename_i e he
  split
  ·have h1:=pP (on:=o.2.1) (f:=fun y=>y) (st:=4) (by decide) (.inl rfl) (kw (k:=o.2.1) (b:=true) h) hn
   have h2:(gL o.2.1 true p).next=p.next:=rfl;exact cP h1.1 (afc.ff (p:=gL o.2.1 true p) hu.up (by decide) fun _=>rfl) rfl (by omega)
  ·split
   ·exact cP (kw h) hu.up rfl (n7 p.next)
   ·split
    ·exact N_
    ·exact B8 h hu rfl (by omega) eu f2 (.inr ⟨.inr (.inl rfl),f4 (by omega) (by omega) (by omega)⟩) (ul he)
theorem Dg (h:aQ p) (hu:xr id p) (hn:p.next≤999999990) (ho:kc o=true) (eu:0≤now∧now≤1000000000):sS p (lc o now id p):=by
 obtain ⟨f0,f1,f2,f3,f4⟩:=dv ho;unfold lc
 split
 ·exact N_
 ·rename_i b hb
  obtain ⟨k1,k2,k3,k4⟩:=ji h hb
  split
  ·rename_i y hy
   obtain ⟨m1,m2,-⟩:=ft hy;have h3:=mU p.next y;exact cP (i9 h m1 (by omega) (.inr ⟨_,f3,rfl⟩) (by omega)) (hu.up.Mg m1 (by omega) fun _=>rfl) rfl Zc7
  ·split
   ·exact B8 h hu rfl (by omega) eu f2 (.inl ⟨rfl,f3⟩) k1
   ·refine cP (gN h (fun y hy hk=> ?_) fun t ht=> ?_) hu.up rfl (n7 p.next)
    ·rw [only h.ae hb hy hk,Lf]; simp only [Lg,K4]; omega
    ·rcases Kg.1 ht with ht | ht
     ·exact k4 t ht
     ·exact ZbF
theorem Dd (h:aQ p) (hu:xr id p) (hn:p.next≤999999990) (ho:kc o=true) (hk:o.1=9) (eu:0≤now∧now≤1000000000):sS p (ka o now id p):=by
 obtain ⟨f0,f1,f2,f3,f4⟩:=dv ho;unfold ka
 split
 ·exact N_
 ·rename_i b hb
  obtain ⟨k1,k2,k3,k4⟩:=ji h hb
  split
  ·exact B8 (iQ h jX) hu.got rfl (by omega) eu f2 (.inr ⟨.inr (.inr (.inl rfl)),f4 (by omega) (by omega) (by omega)⟩) k2
  ·rename_i t r hr
   rw [hr] at k3 k4;simp only [Lg] at k3;have hg:aQ (ez t id p):=iQ h (k4 t (by simp));have hg':xr id (ez t id p):=hu.got;have hgb:cg (·.id) o.2.1 (ez t id p).ae=o_ b:=hb
   split
   ·refine cP (gN hg (fun y hy hk=> ?_) fun t ht=>k4 t (by simp [ht])) hg'.up rfl (n7 p.next)
    rw [only hg.ae hgb hy hk]; omega
   ·rename_i y hy
    obtain ⟨m1,m2,-⟩:=ft hy;have h3:=mU p.next y;have hh:bw y.held=true:=by
     have h5:=iF (hg.proc m1).2.1;unfold jY at h5;simp only [J7] at h5;exact h5.1.1.2
    have hb2:aQ (cV o.2.1 (r ++ [y.held]) (ez t id p)):=gN hg (fun z hz hk=>by rw [only hg.ae hgb hz hk,Lf]; simp only [Lg,K4]; omega) fun s hs=>by
     rcases Kg.1 hs with hs | hs
     ·exact k4 s (by simp [hs])
     ·simp only [Kt,Ku,or_false] at hs; rw [hs]; exact hh
    exact cP (i9 hb2 m1 (by omega) (.inl rfl) (by show p.next+1≤_; omega)) (afc.Mg (p:=cV o.2.1 (r ++ [y.held]) (ez t id p)) hg'.up m1 (by omega) fun _=>rfl) rfl Zc7
theorem yv (h:aQ p) (hu:xr id p) (hn:p.next≤999999990) (ho:kc o=true) (hk:o.1=10∨o.1=11∨o.1=12) (eu:0≤now∧now≤1000000000):sS p (dC o now id p):=by
 obtain ⟨f0,f1,f2,f3,f4⟩:=dv ho;unfold dC
 split
 ·exact N_
 ·rename_i b hb
  obtain ⟨k1,k2⟩:=sX h hb
  split
  ·have h1:=pP (on:=o.2.1) (f:=lG o.2.2.2) (st:=7) (by decide) (.inr ⟨_,f3,rfl⟩) (kA (k:=o.2.1) (b:=true) h f3 (.inl rfl)) hn
   have h2:(ib o.2.1 true o.2.2.2 p).next=p.next:=rfl;exact cP h1.1 (afc.ff (p:=ib o.2.1 true o.2.2.2 p) hu.up (by decide) fun _=>rfl) rfl (by omega)
  ·split
   ·exact cP (kA h jX (.inr oB)) hu.up rfl (n7 p.next)
   ·split
    ·exact cP (iQ h k2) hu.got.up rfl (n7 p.next)
    ·exact B8 (iQ h k2) hu.got rfl (by omega) eu f2 (.inr ⟨.inr (.inr (.inr rfl)),f4 (by omega) (by omega) (by omega)⟩) k1
theorem By (h:aQ p) (hu:xr id p) (ho:kc o=true):sS p (ig o id p):=by
 obtain ⟨f0,f1,f2,f3,f4⟩:=dv ho;unfold ig
 split
 ·exact N_
 ·rename_i q hq
  obtain ⟨k1,k2,k3⟩:=nB h hq
  split
  ·exact N_
  ·split
   ·refine cP (jj h (fun y hy hk=> ?_) fun t ht=> ?_) hu.up rfl (n7 p.next)
    ·rw [only h.ai hq hy hk]; exact k1
    ·exact ZbF
   ·split
    ·exact N_
    ·refine cP (jj h (fun y hy hk=> ?_) fun t ht=> ?_) hu.up rfl (n7 p.next)
     ·rw [only h.ai hq hy hk,Lf]; simp only [Lg,K4]; omega
     ·rcases Kg.1 ht with ht | ht
      ·exact k3 t ht
      ·exact ZbF
theorem zO (h:aQ p) (hu:xr id p):sS p (gC o id p):=by
 unfold gC
 split
 ·exact N_
 ·rename_i q hq
  obtain ⟨k1,k2,k3⟩:=nB h hq
  split
  ·exact N_
  ·split
   ·exact cP (iQ h jX) hu.got.up rfl (n7 p.next)
   ·rename_i t r hr
    rw [hr] at k2 k3;simp only [Lg] at k2;have hg:aQ (ez t id p):=iQ h (k3 t (by simp));have hgb:cg (·.id) o.2.1 (ez t id p).ai=o_ q:=hq
    split
    ·refine cP (jj hg (fun y hy hk=> ?_) fun t ht=>k3 t (by simp [ht])) hu.got.up rfl (n7 p.next)
     rw [only hg.ai hgb hy hk]; omega
    ·exact cP hg hu.got.up rfl (n7 p.next)
theorem AO (h:aQ p) (hu:xr id p) (hn:p.next≤999999990):sS p (jU o id p):=by
 have hnx:=bz.1 h.next;unfold jU
 split
 ·exact N_
 ·rename_i y hy
  split
  ·rename_i h0
   obtain ⟨m1,m2⟩:=ks hy;have hne: ¬ o.2.1=id:=fun e=>by have:=hu.up y m1 (by omega); omega
   refine cP (h.ju (nx:=p.next+1) (f:=fun y=> { y with Md:=1,RU:=p.next }) (fun _=>rfl) ⟨by omega,by omega⟩ fun z hz hi=> ?_) (hu.up.other hne fun _=>rfl) rfl (by show p.next≤p.next+1∧p.next+1≤p.next+7; omega);have e:=only h.L8 hy hz hi;subst e;obtain ⟨-,q1,q2,q3⟩:=h.proc hz;have q4:=iF q1;rw [fG,J7] at q1;have q5:=q1.2;unfold bO at q5;rw [if_pos h0] at q5;simp only [J7,decide_eq_true_eq] at q5;obtain ⟨⟨⟨⟨⟨a1,a2⟩,a3⟩,a4⟩,a5⟩,a6⟩:=q5;have q6:jm z.prog=true:=by
    unfold jY at q4;simp only [J7] at q4;exact q4.1.1.1.2
   refine ⟨?_,?_,rfl,.inr (.inr rfl)⟩
   ·exact Zbj
   ·unfold fF
    rw [Kb];exact ZaV
  ·exact N_
theorem nG (h:aQ p) {k:Int} :aQ (ot k p):=by
 have hnx:=bz.1 h.next;refine h.ju (nx:=p.next) (f:=j7) (fun _=>rfl) ⟨LJ _,hnx.2⟩ fun z hz hi=> ?_
 exact ⟨vQ (iF (h.proc hz).2.1),rfl,rfl,.inr (.inl rfl)⟩
theorem Dr (h:aQ p) (hu:xr id p):sS p (lg o id p):=by
 unfold lg
 split
 ·exact N_
 ·split
  ·exact N_
  ·split
   ·exact ⟨nG h,n7 p.next⟩
   ·rename_i hne
    exact cP (nG h) (hu.up.other hne fun _=>rfl) rfl (n7 p.next)
end
theorem fK {P:aE→Prop} {c:Prop} [Decidable c] {a b:aE} (h1:c→P a) (h2: ¬ c→P b):P (if c then a else b):=by
 split
 ·exact h1 ‹_›
 ·exact h2 ‹_›
theorem AW {p:aE} {x:aD} {now:Int} (h:aQ p) (hx:x∈p.L8) (hs:x.Md=1) (hn:p.next≤999999990) (eu:0≤now∧now≤1000000000):kc (opAt x)=true∧sS p (lX now x (opAt x) p):=by
 obtain ⟨-,k1,k2,k3⟩:=h.proc hx;have hnx:=bz.1 h.next;have hop:=iT k1 (by rw [hs]; decide);have hb:=iF k1;have hpl:jm x.prog=true:=by
  unfold jY at hb;simp only [J7] at hb;exact hb.1.1.1.2
 have hlt:x.pc.toNat < x.prog.length:=by omega
 have hoa:opAt x=x.prog[x.pc.toNat] :=by unfold opAt; rw [Kz hlt]; rfl
 have ho:kc (opAt x)=true:=by rw [hoa]; exact yG hpl (Kz hlt)
 refine ⟨ho,?_⟩;have hst:dU x=true∧jJ x=true∧x.Mg=0∧x.on=0∧bI x.held=true:=by
  rw [fG,J7] at k1;have h3:=k1.2;unfold bO at h3;rw [if_neg (by omega),if_pos hs] at h3;simp only [J7,decide_eq_true_eq] at h3;exact ⟨h3.1.1.1.1,h3.1.1.1.2,h3.1.1.2,h3.1.2,h3.2⟩
 have hone: ∀ y∈p.L8,y.id=x.id→y=x:=fun y hy e=>by
  exact Zcw
 have hup:afc x.id p:=fun y hy e=>by rw [hone y hy e]; exact hs
 obtain ⟨f0,f1,f2,f3,f4⟩:=dv ho;have hl: ¬ (opAt x).1=1→xr x.id p:=fun hk y hy e=>by
  rw [hone y hy e];refine ⟨hs,?_⟩;have h4:=hst.2.1;unfold jJ at h4;rw [if_neg hk] at h4;exact of_decide_eq_true h4
 unfold lX;refine fK (P:=sS p) (fun hk=> ?_) (fun hk1=> ?_)
 ·have h4:=hst.2.1
  unfold jJ at h4;rw [if_pos hk] at h4;simp only [J7,decide_eq_true_eq] at h4;have hN:=f1 (by omega);unfold GY;refine fK (P:=sS p) (fun _=> ?_) (fun hne=> ?_)
  ·exact cP h hup rfl (by omega)
  ·refine ⟨h.ju (nx:=p.next) (f:=fun y=> { y with left:=(if x.left=0 then (opAt x).2.1 else x.left) - 1 }) (fun _=>rfl) ⟨LJ _,hnx.2⟩ fun z hz hi=> ?_,n7 p.next⟩
   rw [hone z hz hi];refine ⟨?_,k2,k3,.inl rfl⟩;rw [fG,J7];refine ⟨hb,?_⟩;unfold bO
   show (if x.Md=0 then _ else if x.Md=1 then dU x && jJ { x with left:=(if x.left=0 then (opAt x).2.1 else x.left) - 1 } && decide (x.Mg=0) && decide (x.on=0) && bI x.held else _)=true
   have h5:jJ { x with left:=(if x.left=0 then (opAt x).2.1 else x.left) - 1 } =true:=by
    unfold jJ
    show (if (opAt x).1=1 then decide (0≤(if x.left=0 then (opAt x).2.1 else x.left) - 1) && decide ((if x.left=0 then (opAt x).2.1 else x.left) - 1 < (opAt x).2.1) else _)=true
    rw [if_pos hk];simp only [J7,decide_eq_true_eq]
    split <;> omega
   rw [if_neg (by omega),if_pos hs,h5,hst.1,hst.2.2.1,hst.2.2.2.1,hst.2.2.2.2]; rfl
 ·have hu:=hl hk1
  refine fK (P:=sS p) (fun hk=> ?_) (fun _=> ?_)
  ·have hN:=f1 (by omega)
   exact ⟨sO h hu (by omega) (.inl ⟨rfl,rfl,oB,eB (by omega) (by omega)⟩),by show p.next≤p.next+1; omega,by show p.next+1≤_; omega⟩
  ·refine fK (P:=sS p) (fun hk=> ?_) (fun _=> ?_)
   ·exact CO h hu hn ho hk eu
   ·refine fK (P:=sS p) (fun hk=> ?_) (fun _=> ?_)
    ·clear hk; exact yH h hu hn
    ·refine fK (P:=sS p) (fun hk=> ?_) (fun _=> ?_)
     ·exact zn h hu hn ho hk eu
     ·refine fK (P:=sS p) (fun hk=> ?_) (fun _=> ?_)
      ·exact Dg h hu hn ho eu
      ·refine fK (P:=sS p) (fun hk=> ?_) (fun _=> ?_)
       ·exact Dd h hu hn ho hk eu
       ·refine fK (P:=sS p) (fun hk=> ?_) (fun _=> ?_)
        ·exact yv h hu hn ho hk eu
        ·refine fK (P:=sS p) (fun hk=> ?_) (fun _=> ?_)
         ·exact By h hu ho
         ·refine fK (P:=sS p) (fun hk=> ?_) (fun _=> ?_)
          ·exact zO h hu
          ·refine fK (P:=sS p) (fun hk=> ?_) (fun _=> ?_)
           ·exact AO h hu hn
           ·refine fK (P:=sS p) (fun hk=> ?_) (fun _=> ?_)
            ·exact Dr h hu
            ·refine ⟨h.ju (nx:=p.next) (f:=fun y=> { y with pc:=0 }) (fun _=>rfl) ⟨LJ _,hnx.2⟩ fun z hz hi=> ?_,n7 p.next⟩
             rw [hone z hz hi];have h5:=hu x hx rfl;have h6:=lK hpl;refine ⟨?_,k2,k3,.inl rfl⟩;rw [fG,J7];exact ⟨hb,mr (x:= { x with pc:=0 }) hpl hs ⟨LJ _,by show (0:Int) < x.prog.length; omega⟩ h5.2 hst.2.2.1 hst.2.2.2.1 hst.2.2.2.2⟩
theorem DA {p:aE} {now:Int} (h:aQ p) (hn:p.next≤999999980) (eu:0≤now∧now≤1000000000):aQ (mS now p)∧p.next≤(mS now p).next∧(mS now p).next≤p.next+13:=by
 obtain ⟨h1,h2,h3⟩:=ru (now:=now) h (by omega);unfold mS
 split
 ·exact ⟨h1,h2,by omega⟩
 ·rename_i x hx
  obtain ⟨m1,m2,-⟩:=ft hx;obtain ⟨-,h4,h5,h6⟩:=AW (now:=now) h1 m1 m2 (by omega) eu;exact ⟨h4,by omega,by omega⟩
section
open Go.RowKit Go.Maps
attribute [local go_sem ↓] Kc Kd
def pF (nx code:Int) (x:ao):ao:=⟨iY nx code x.toaD,x.aY,x.bH⟩
abbrev yA (W w:w_) (base gs:Nat) (z q:af):Prop:=av W w.heap.size z∧W.heap[w.heap.size+1]? =o_ (c_ ar 36)∧ap W base q∧aI w W [gs] ∧B_ base w W
theorem re {n:Nat} {x y:ao} {l:List ao} (hx:l[n]? =o_ x) (hy:y.aY=x.aY):(l.set n y).filterMap aR.bt=l.filterMap aR.bt:=by
 have hn:=(Lj.1 hx).1;have e:l[n] =x:=(Lj.1 hx).2;rw [List.set_eq_take_append_cons_drop,if_pos hn]
 conv=>rhs; rw [← List.take_append_drop n l,List.drop_eq_getElem_cons hn]
 simp only [List.filterMap_append,List.filterMap_cons,e];have hk:aR.bt y=aR.bt x:=by show (y.aY).map _=(x.aY).map _; rw [hy]
 rw [hk]
theorem Ad {n:Nat} {q:af} {x:ao} {code:Int} {g:Nat} (hx:q.L8[n]? =o_ x) (h:g∈({ q with L8:=q.L8.set n (fE code x) } :af).Mc):g∈q.Mc:=by
 unfold af.Mc at h ⊢;simp only [re hx (show (fE code x).aY=x.aY from rfl)] at h;exact h
theorem yZ {n:Nat} {q:af} {nx s:Int} {y:ao} {g:Nat} (hx:q.L8[n]? =o_ y) (h:g∈({ q with next:=nx,L8:=q.L8.set n { y with RU:=s } } :af).Mc):g∈q.Mc:=by
 unfold af.Mc at h ⊢;simp only [re hx (show ({ y with RU:=s } :ao).aY=y.aY from rfl)] at h;exact h
theorem vT (q:af) (n base:Nat) (x:ao) (code:Int) (w:w_) (h:ap w base q) (hb:base≤w.heap.size) (hx:q.L8[n]? =o_ x) (hpc:0≤x.pc∧x.pc < x.prog.length) (hl:x.prog.length≤1048576) (hn:0≤q.next∧q.next≤1000000000):
  k_ J3 158 #[a_ q.cells,i_ j_ n,i_ j_ code] w fun e w'=> ∃ q2:af,e=r_ (a_ q2.cells)∧q2= { q with next:=gf q.next x.toaD,L8:=q.L8.set n (pF q.next code x) } ∧ap w' base q2∧B_ base w w'∧aI w w' (blk q.aN):=by
 obtain ⟨gs,ha,-⟩:=cn h.at.1 hx;have hgs:=cf h.L8 (g:=gs) (by rw [ha]; simp [blk]);have hnl:n < q.L8.length:=(Lj.1 hx).1;obtain ⟨afG,afd,ps,pA,pC,ss,afV,afX,es,afA,afq,bs,afR,afK,fs,aga,afN,ts,afr,af4⟩:=q;simp only at ha;subst ha;obtain ⟨C,hC⟩: ∃ C:Array v_,C= #[i_ j_ afG,i_ j_ afd,s_ (o_ ⟨gs,0,n_⟩) ps.length pC,s_ afV ss.length afX,s_ afA es.length afq,s_ afR bs.length afK,s_ aga fs.length afN,s_ afr ts.length af4] :=⟨_,rfl⟩
 obtain ⟨D,hD⟩: ∃ D:af,D=(⟨afG,afd,ps,o_ ⟨gs,0,n_⟩,pC,ss,afV,afX,es,afA,afq,bs,afR,afK,fs,aga,afN,ts,afr,af4⟩:af):=⟨_,rfl⟩
 obtain ⟨A,hA⟩: ∃ A:w_,A=(w.alloc (c_ C 36)).alloc (c_ ar 36):=⟨_,rfl⟩
 have b1:B_ w.heap.size w A:=by rw [hA]; exact dT _ _ _
 have h2:=cZ w (c_ C 36) (c_ ar 36);have HC:Hid (ps[n]? =o_ x∧base≤gs∧gs < w.heap.size∧base≤w.heap.size∧n < ps.length):=⟨hx,hgs.1,hgs.2,hb,hnl⟩
 have PBK:Hid (∀ g∈D.Mc,g < w.heap.size):=fun g hg=>(h.lt g (hD ▸ hg)).2
 have HA:Hid (av A w.heap.size D∧A.heap[w.heap.size+1]? =o_ (c_ ar 36)∧ap A base D∧B_ w.heap.size w A):=by subst hA hD hC; exact ⟨h2.1,h2.2,h.below b1,b1⟩
 subst hA hD hC;have HN:Hid (0≤afd∧afd≤1000000000):=hn;have Mb:=ve _ n base x code _ HA.I.2.2.1 (by have:=HC.I.2.2.2.1; have:=b1.size; omega) hx hpc hl;have j0:(0:Int)≤(n:Int):=by omega
 have j1:(n:Int) < ((ps.set n (fE code x)).length:Int):=by have:n < ps.length:=hnl; rw [LI]; omega
 rw [LI] at j1;clear h hb hx hgs b1 h2 hnl hl hpc hn;unfold af.cells at Mb ⊢;simp only at Mb ⊢
 go_enter func158,ntmps158
 obtain ⟨m0,m1,m2,m3,m4,m5,m6,m7⟩:=HA.I.1.cells;go_wp2_with fail;clear m0 m1 m2 m3 m4 m5 m6 m7;refine Mb.mono ?_;clear Mb;rintro e w1 ⟨rfl,ho1,hb1,hk1⟩;have H1:Hid (yA w1 w base gs (⟨afG,afd,ps,o_ ⟨gs,0,n_⟩,pC,ss,afV,afX,es,afA,afq,bs,afR,afK,fs,aga,afN,ts,afr,af4⟩:af) (⟨afG,afd,(ps.set n (fE code x)),o_ ⟨gs,0,n_⟩,pC,ss,afV,afX,es,afA,afq,bs,afR,afK,fs,aga,afN,ts,afr,af4⟩:af)):=by
  have hc:=HC.I;have hk:aI w w1 [gs] :=(aI.dI HA.I.2.2.2).trans hk1;have l1:=(J2.1 HA.I.2.1).1;exact ⟨(hk1.same _ (by omega) ZdD).trans HA.I.1,(hk1.same _ (by omega) ZdD).trans HA.I.2.1,ho1,hk,(HA.I.2.2.2.mono hc.2.2.2.1).trans hb1⟩
 have PB1:Hid (∀ g∈(⟨afG,afd,(ps.set n (fE code x)),o_ ⟨gs,0,n_⟩,pC,ss,afV,afX,es,afA,afq,bs,afR,afK,fs,aga,afN,ts,afr,af4⟩:af).Mc,g < w.heap.size):=fun g hg=>PBK.I g (Ad HC.I.1 hg)
 clear ho1 hb1 hk1 HA;have H2:Hid (yA (w1.setRow w.heap.size #[i_ j_ afG,i_ j_ afd,s_ (o_ ⟨gs,0,n_⟩) ps.length pC,s_ afV ss.length afX,s_ afA es.length afq,s_ afR bs.length afK,s_ aga fs.length afN,s_ afr ts.length af4]) w base gs (⟨afG,afd,ps,o_ ⟨gs,0,n_⟩,pC,ss,afV,afX,es,afA,afq,bs,afR,afK,fs,aga,afN,ts,afr,af4⟩:af) (⟨afG,afd,(ps.set n (fE code x)),o_ ⟨gs,0,n_⟩,pC,ss,afV,afX,es,afA,afq,bs,afR,afK,fs,aga,afN,ts,afr,af4⟩:af)):=by
  have hc:=HC.I;exact ⟨KU _ _ _ _ _ _ H1.I.1,(KH _ _ _ _ (by omega)).trans H1.I.2.1,H1.I.2.2.1.same fun g hg=>KH _ _ _ _ (by have:=PB1.I g hg; omega),H1.I.2.2.2.1.more (q_ (Kp _ _) (by omega) _),q_ H1.I.2.2.2.2 (by omega) _⟩
 have hx1:(ps.set n (fE code x))[n]? =o_ (fE code x):=by rw [LU HC.I.2.2.2.2]
 have xi:Hid ((ps.set n (fE code x))[n]? =o_ (fE code x)):=hx1;obtain ⟨m0,m1,m2,m3,m4,m5,m6,m7⟩:=H2.I.1.cells;obtain ⟨d3⟩:World.cell? (w1.setRow w.heap.size #[i_ j_ afG,i_ j_ afd,s_ (o_ ⟨gs,0,n_⟩) ps.length pC,s_ afV ss.length afX,s_ afA es.length afq,s_ afR bs.length afK,s_ aga fs.length afN,s_ afr ts.length af4]) ⟨gs,n * 12+3,n_⟩=o_ (i_ j_ (fE code x).Md)∧True:=by
  obtain ⟨g,e,h5⟩:=cn H2.I.2.2.1.at.1 hx1;cases e;exact ⟨h5.2.2.2.1,trivial⟩
 by_cases hlen:x.pc+1=x.prog.length
 ·have e1:((fE code x).Md == 1)=false:=by show ((jT code x.toaD).Md == 1)=false; unfold jT; rw [if_pos hlen]; rfl
  have HE:Hid (gf afd x.toaD=afd∧pF afd code x=(fE code x)):=by show _∧_; unfold gf pF fE iY jT; rw [if_pos hlen,if_pos hlen,if_pos hlen]; exact ⟨rfl,rfl⟩
  clear hlen hx1;go_wp2_with (first | (refine ec 3 10 #[i_ j_ afG,i_ j_ afd,s_ (o_ ⟨gs,0,n_⟩) ps.length pC,s_ afV ss.length afX,s_ afA es.length afq,s_ afR bs.length afK,s_ aga fs.length afN,s_ afr ts.length af4] H1.I.1 ?_) | (refine ec 6 21 #[i_ j_ afG,i_ j_ afd,s_ (o_ ⟨gs,0,n_⟩) ps.length pC,s_ afV ss.length afX,s_ afA es.length afq,s_ afR bs.length afK,s_ aga fs.length afN,s_ afr ts.length af4] H2.I.2.1 ?_));refine gZ results158 H2.I.2.1 ?_;rw [HE.I.1,HE.I.2];refine ⟨_,?_,rfl,H2.I.2.2.1.same fun g hg=>KH _ _ _ _ (by have:=PB1.I g hg; omega),q_ H2.I.2.2.2.2 (by have:=HC.I.2.2.2.1; omega) _,H2.I.2.2.2.1.more (q_ (Kp _ _) (by omega) _)⟩;simp only [LI]
 have e1:((fE code x).Md == 1)=true:=by show ((jT code x.toaD).Md == 1)=true; unfold jT; rw [if_neg hlen]; rfl
 have HE:Hid (gf afd x.toaD=afd+1∧pF afd code x= { (fE code x) with RU:=afd }):=by show _∧_; unfold gf pF fE iY jT; rw [if_neg hlen,if_neg hlen,if_neg hlen]; exact ⟨rfl,rfl⟩
 clear hlen;have Mb:=qG _ n base (fE code x) _ H2.I.2.2.1 (by have:=HC.I.2.2.2.1; have:=H2.I.2.2.2.1.size; omega) hx1 HN.I;unfold af.cells at Mb;simp only [LI] at Mb;clear hx1;go_wp2_with (refine ec 3 10 #[i_ j_ afG,i_ j_ afd,s_ (o_ ⟨gs,0,n_⟩) ps.length pC,s_ afV ss.length afX,s_ afA es.length afq,s_ afR bs.length afK,s_ aga fs.length afN,s_ afr ts.length af4] H1.I.1 ?_);clear m0 m1 m2 m3 m4 m5 m6 m7 d3 e1;refine Mb.mono ?_;clear Mb;rintro e w3 ⟨q3,he,rfl,Bn,hb3,hk3⟩;simp only [LI] at he;subst he;have H3:Hid (yA w3 w base gs (⟨afG,afd,ps,o_ ⟨gs,0,n_⟩,pC,ss,afV,afX,es,afA,afq,bs,afR,afK,fs,aga,afN,ts,afr,af4⟩:af) (⟨afG,(afd+1),((ps.set n (fE code x)).set n ({ (fE code x) with RU:=afd } :ao)),o_ ⟨gs,0,n_⟩,pC,ss,afV,afX,es,afA,afq,bs,afR,afK,fs,aga,afN,ts,afr,af4⟩:af)):=by
  have hc:=HC.I;have l1:=(J2.1 H2.I.2.1).1;exact ⟨(hk3.same _ (by omega) ZdD).trans H2.I.1,(hk3.same _ (by omega) ZdD).trans H2.I.2.1,Bn,H2.I.2.2.2.1.trans hk3,H2.I.2.2.2.2.trans hb3⟩
 have PB3:Hid (∀ g∈(⟨afG,(afd+1),((ps.set n (fE code x)).set n ({ (fE code x) with RU:=afd } :ao)),o_ ⟨gs,0,n_⟩,pC,ss,afV,afX,es,afA,afq,bs,afR,afK,fs,aga,afN,ts,afr,af4⟩:af).Mc,g < w.heap.size):=fun g hg=>PB1.I g (yZ (q:=(⟨afG,afd,(ps.set n (fE code x)),o_ ⟨gs,0,n_⟩,pC,ss,afV,afX,es,afA,afq,bs,afR,afK,fs,aga,afN,ts,afr,af4⟩:af)) xi.I hg)
 clear Bn hb3 hk3 H1 H2;have H4:Hid (yA (w3.setRow w.heap.size #[i_ j_ afG,i_ j_ (afd+1),s_ (o_ ⟨gs,0,n_⟩) ps.length pC,s_ afV ss.length afX,s_ afA es.length afq,s_ afR bs.length afK,s_ aga fs.length afN,s_ afr ts.length af4]) w base gs (⟨afG,(afd+1),ps,o_ ⟨gs,0,n_⟩,pC,ss,afV,afX,es,afA,afq,bs,afR,afK,fs,aga,afN,ts,afr,af4⟩:af) (⟨afG,(afd+1),((ps.set n (fE code x)).set n ({ (fE code x) with RU:=afd } :ao)),o_ ⟨gs,0,n_⟩,pC,ss,afV,afX,es,afA,afq,bs,afR,afK,fs,aga,afN,ts,afr,af4⟩:af)):=by
  have hc:=HC.I;exact ⟨KU _ _ _ _ _ _ H3.I.1,(KH _ _ _ _ (by omega)).trans H3.I.2.1,H3.I.2.2.1.same fun g hg=>KH _ _ _ _ (by have:=PB3.I g hg; omega),H3.I.2.2.2.1.more (q_ (Kp _ _) (by omega) _),q_ H3.I.2.2.2.2 (by omega) _⟩
 obtain ⟨m0,m1,m2,m3,m4,m5,m6,m7⟩:=H4.I.1.cells;go_wp2_with (first | (refine ec 3 20 #[i_ j_ afG,i_ j_ (afd+1),s_ (o_ ⟨gs,0,n_⟩) ps.length pC,s_ afV ss.length afX,s_ afA es.length afq,s_ afR bs.length afK,s_ aga fs.length afN,s_ afr ts.length af4] H3.I.1 ?_) | (refine ec 6 21 #[i_ j_ afG,i_ j_ (afd+1),s_ (o_ ⟨gs,0,n_⟩) ps.length pC,s_ afV ss.length afX,s_ afA es.length afq,s_ afR bs.length afK,s_ aga fs.length afN,s_ afr ts.length af4] H4.I.2.1 ?_));refine gZ results158 H4.I.2.1 ?_;rw [HE.I.1,HE.I.2];refine ⟨_,?_,rfl,?_,q_ H4.I.2.2.2.2 (by have:=HC.I.2.2.2.1; omega) _,H4.I.2.2.2.1.more (q_ (Kp _ _) (by omega) _)⟩
 ·simp only [LI]
 ·have h5:=H4.I.2.2.1.same (w':=(w3.setRow w.heap.size #[i_ j_ afG,i_ j_ (afd+1),s_ (o_ ⟨gs,0,n_⟩) ps.length pC,s_ afV ss.length afX,s_ afA es.length afq,s_ afR bs.length afK,s_ aga fs.length afN,s_ afr ts.length af4]).setRow (w.heap.size+1) #[i_ j_ afG,i_ j_ (afd+1),s_ (o_ ⟨gs,0,n_⟩) ps.length pC,s_ afV ss.length afX,s_ afA es.length afq,s_ afR bs.length afK,s_ aga fs.length afN,s_ afr ts.length af4]) fun g hg=>KH _ _ _ _ (by have:=PB3.I g hg; omega)
  rw [PV] at h5;exact h5

theorem fy.drew {α:Type} {K:Kind α} {T:T_} {t8:Array v_} {W w:w_} {acc:List α} {a:Option d_} {c:Nat} (h:fy K T t8 W w acc a c):fy K T t8 W w.drew acc a c:=⟨aL h.own fun _ _=>rfl,h.ne,h.cd.drew,h.box⟩
structure ng {α:Type} (K:Kind α) (T:T_) (W w:w_) (acc:List α) (a:Option d_) (c:Nat):Prop where
 own:w.ownsRow W.heap.size T K.n (s_ a acc.length c) acc.length (K.flat acc)
 cd:B_ W.heap.size W w
theorem ng.start {α:Type} {K:Kind α} {T:T_} {W:w_} :ng K T W (W.alloc (c_ #[] T)) [] (o_ ⟨W.heap.size,0,n_⟩) 0:=⟨i6 (Kj _ _) (Ki _),(Kp _ _).alloc (Ki _) _⟩
theorem ng.add {α:Type} {K:Kind α} {T:T_} {W w:w_} {acc:List α} {a:Option d_} {c:Nat} (h:ng K T W w acc a c) (t:T_) (bytes:Nat) {z0:v_} {P:Program} (ht:P.underlying t=o_ (.slice T))
  (hi:(P.info? T).map (fun i=>(i.zero,i.size,i.bytes))=o_ (o_ z0,K.n,bytes)) (hz:z0.cells.size=K.n) (hn:0 < K.n) (hby:bytes≤1000) (z:α) (zs:Array v_) (hzs:zs.toList=K.vals z) (h1: ∀ u∈K.vals z,u.oneCell'=true) (hl:acc.length≤2000000):
  ∃ a' c' w',(Builtin.append_ #[t,t] t #[s_ a acc.length c,s_ (o_ ⟨w.heap.size,0,n_⟩) 1 1]).run P (w.alloc (c_ zs T))= .ok (s_ a' (acc.length+1) c') w'∧ng K T W w' (acc ++ [z]) a' c':=by
 obtain ⟨i,hi,e⟩:=Kw.1 hi;simp only [Kx] at e;have b1:B_ w.heap.size w (w.alloc (c_ zs T)):=(Kp _ _).alloc (Ki _) _;have b2:=h.cd.trans (b1.mono h.cd.size);obtain ⟨a',c',w',hr,ho,hg,-⟩:=jD (P:=P) (w.alloc (c_ zs T)) W.heap.size t t T i z0 K.n bytes ht hi e.1 e.2.1 e.2.2 hz hn a acc.length c _ (cR h.own b1) (o_ ⟨w.heap.size,0,n_⟩) 1 1 (K.vals z) (by rw [← hzs]; exact jO (Kj _ _)) (by rw [K.len,Nat.one_mul]) h1 (by omega) hby b2.size;refine ⟨a',c',w',hr,⟨?_,b2.grown hg b2.size fun k e=>(cf h.own (di e)).1⟩⟩;exact Zbf
end
def agL (now:Int) (p:aE):Nat→Option aE
 | 0=>o_ p
 | n+1=>(agL now p n).bind fun q=>hZ q (now+n)
def agc (p:aE) (now n:Int):Option aE:=if bK p && cv n 0 200 then agL now p n.toNat else n_
section
variable {now:Int} {p q:aE} {i n:Nat}
theorem ah6 (h:agL now p i=n_) (hn:i≤n):agL now p n=n_:=by
 induction n with
 | zero=>
  obtain rfl:i=0:=by omega
  exact h
 | succ n ih=>
  rcases Nat.lt_or_ge n i with h5 | h5
  ·obtain rfl:i=n+1:=by omega
   exact h
  ·show (agL now p n).bind _=n_
   rw [ih h5];rfl
structure agI (now:Int) (p:aE) (i:Nat) (q:aE):Prop where
 is:agL now p i=o_ q
 right:aQ q
 akr:i=0∨0≤now+i∧now+i≤1000000001
theorem agI.start (h:aQ p):agI now p 0 p:=⟨rfl,h,.inl rfl⟩
theorem agI.no (h:agI now p i q) (hb:(cv (now+i) 0 1000000000 && decide (q.next≤999999980))=false) (hn:i < n):agL now p n=n_:=by
 refine ah6 (i:=i+1) ?_ hn
 show (agL now p i).bind _=n_
 rw [h.is]
 show hZ q (now+i)=n_
 unfold hZ;rw [Bool.and_assoc,hb,PP];rfl
theorem agI.next (h:agI now p i q) (hb:(cv (now+i) 0 1000000000 && decide (q.next≤999999980))=true):agI now p (i+1) (mS (now+i) q):=by
 have hb':=hb;rw [J7,decide_eq_true_eq] at hb';have h1:=bz.1 hb'.1;refine ⟨?_,(DA h.right hb'.2 h1).1,.inr (by omega)⟩
 show (agL now p i).bind _=_
 rw [h.is]
 show hZ q (now+i)=_
 unfold hZ;rw [Bool.and_assoc,hb,(ch q).2 h.right];rfl
end
section
open Go.RowKit
def jH (w:w_) (base:Nat) (q:af) (f:aE) (e:Ending) (w':w_):Prop:= ∃ q2:af,e=r_ (a_ q2.cells)∧q2.pure=f∧yr w base q q2 w'
structure Fr (w:w_) (M base:Nat) (q0 z q:af) (W:w_):Prop where
 box:av W w.heap.size z
 own:ap W base q
 kept:aI w W q0.Mc
 far: ∀ g∈q.Mc,g∈q0.Mc∨M≤g
 lo: ∀ g∈q0.Mc,base≤g∧g < w.heap.size
 sz:w.heap.size < M∧M≤W.heap.size∧base≤w.heap.size
section
variable {w W W2:w_} {M base:Nat} {q0 z q q2:af}
theorem Fr.yO (h:Fr w M base q0 z q W) {X:Nat} (h1:w.heap.size≤X) (h2:X < M):X∉q.Mc:=fun hm=>by
 rcases h.far X hm with h3 | h3
 ·have:=(h.lo X h3).2; omega
 ·omega
theorem Fr.start (h:ap w base q) (hb:base≤w.heap.size) (hx:av W w.heap.size q) (hw:B_ w.heap.size w W) (hM:w.heap.size < M∧M≤W.heap.size):Fr w M base q q q W:=
 ⟨hx,h.below hw,aI.dI hw,fun _ hg=> .inl hg,h.lt,hM.1,hM.2,hb⟩
theorem Fr.call (h:Fr w M base q0 z q W) (ht:yr W base q q2 W2):Fr w M base q0 z q2 W2∧ ∀ X,w.heap.size≤X→X < M→W2.heap[X]? =W.heap[X]? :=by
 have hk: ∀ X,w.heap.size≤X→X < M→W2.heap[X]? =W.heap[X]? :=fun X h1 h2=>ht.kept.same X (by have:=h.sz; omega) (h.yO h1 h2)
 refine ⟨⟨(hk _ (Ki _) h.sz.1).trans h.box,ht.own,⟨ht.kept.os.trans h.kept.os,ht.kept.tape.trans h.kept.tape,ht.kept.output.trans h.kept.output,LG h.kept.size ht.kept.size,fun g h1 h2=>(ht.kept.same g (by have:=h.kept.size; omega) fun hm=> ?_).trans (h.kept.same g h1 h2)⟩,fun g hg=> ?_,h.lo,h.sz.1,LG h.sz.2.1 ht.kept.size,h.sz.2.2⟩,hk⟩
 ·rcases h.far g hm with h3 | h3
  ·exact h2 h3
  ·have:=h.sz; omega
 ·rcases ht.far g hg with h3 | h3
  ·exact h.far g h3
  ·exact .inr (by have:=h.sz; omega)
theorem Fr.reads (h:Fr w M base q0 z q W) (hb:B_ W.heap.size W W2):Fr w M base q0 z q W2∧ ∀ X,X < M→W2.heap[X]? =W.heap[X]? :=
 ⟨⟨h.box.below hb,h.own.below hb,⟨hb.os.trans h.kept.os,hb.tape.trans h.kept.tape,hb.output.trans h.kept.output,LG h.kept.size hb.size,fun g h1 h2=>(hb.block g (by have:=h.kept.size; omega)).trans (h.kept.same g h1 h2)⟩,h.far,h.lo,h.sz.1,LG h.sz.2.1 hb.size,h.sz.2.2⟩,fun X hX=>hb.block X (by have:=h.sz; omega)⟩
theorem Fr.other (h:Fr w M base q0 z q W) {X:Nat} (h1:w.heap.size≤X) (h2:X < M) (cs:Array v_) (hz:av (W.setRow X cs) w.heap.size q2):Fr w M base q0 q2 q (W.setRow X cs):=
 ⟨hz,h.own.same fun g hg=>KH _ _ _ _ fun e=>h.yO h1 h2 (e ▸ hg),⟨h.kept.os,h.kept.tape,h.kept.output,by simpa using h.kept.size,fun g h3 h4=>(KH _ _ _ _ (by omega)).trans (h.kept.same g h3 h4)⟩,h.far,h.lo,h.sz.1,by simpa using h.sz.2.1,h.sz.2.2⟩
theorem Fr.put (h:Fr w M base q0 z q W):Fr w M base q0 q q (W.setRow w.heap.size q.cells):=h.other (Ki _) h.sz.1 _ (KU _ _ _ _ _ _ h.box)
theorem Fr.mK (h:Fr w M base q0 z q W) {X:Nat} (h1:w.heap.size < X) (h2:X < M) (cs:Array v_):yr w base q0 q (W.setRow X cs):=by
 have h3:=h.other (q2:=z) (Nat.le_of_lt h1) h2 cs ((KH _ _ _ _ (by omega)).trans h.box);exact ⟨h3.own,h3.kept,fun g hg=>(h3.far g hg).imp_right fun h4=>by have:=h.sz; omega⟩
end
end
section
open Go.RowKit Go.Maps
attribute [local go_sem ↓] Kc Kd
structure DZ (now:Int) (base:Nat) (w:w_) (q0:af) (k:Nat) (q:af) (wr:w_):Prop where
 box:av wr w.heap.size q
 mK:wr.heap[w.heap.size+1]? =o_ (c_ ar 36)
 own:ap wr base q
 cd:B_ base w wr
 wk:af9 now q.pure
 same:gj now q.pure=gj now q0.pure
 cnt:(lF now q.pure.L8).length=k
 short: ∀ x∈q.L8,x.prog.length≤1048576
 low: ∀ g∈q.Mc,g < w.heap.size
theorem un {q:af} {gs:Nat} (h:q.aN=o_ ⟨gs,0,n_⟩):gs∈q.Mc:=by
 unfold af.Mc;rw [h];simp [blk]
theorem Eb {now:Int} {q:af} {n:Nat} {y:ao} {code:Int} (hw:af9 now q.pure) (hy:q.L8[n]? =o_ y) (hp:q.pure.L8[n]? =o_ y.toaD) (hc:mL y.toaD=code) (hs: ∀ x∈q.L8,x.prog.length≤1048576):
  ({ q with next:=gf q.next y.toaD,L8:=q.L8.set n (pF q.next code y) } :af).pure=gu q.pure y.toaD∧({ q with next:=gf q.next y.toaD,L8:=q.L8.set n (pF q.next code y) } :af).Mc=q.Mc∧(∀ x∈({ q with next:=gf q.next y.toaD,L8:=q.L8.set n (pF q.next code y) } :af).L8,x.prog.length≤1048576):=by
 refine ⟨?_,?_,fun x hx=> ?_⟩
 ·unfold gu
  rw [rp hw.kW hp rfl,hc]
  show ({ q.pure with next:=gf q.next y.toaD,L8:=(q.L8.set n (pF q.next code y)).map (·.toaD) } :aE)=_
  rw [PN];rfl
 ·unfold af.Mc
  simp only [re hy (show (pF q.next code y).aY=y.aY from rfl)]
 ·rcases List.mem_or_eq_of_mem_set hx with h5 | h5
  ·exact hs x h5
  ·rw [h5]
   show (iY q.next code y.toaD).prog.length≤_
   rw [(rD _ _ _).2];exact hs y (KA hy)
theorem ti (q0:af) (now:Int) (base:Nat) (w:w_) (h:ap w base q0) (hb:base≤w.heap.size) (hk:af9 now q0.pure) (hs: ∀ x∈q0.L8,x.prog.length≤1048576):
  k_ J3 105 #[a_ q0.cells,i_ j_ now] w fun e w'=> ∃ q:af,e=r_ (a_ q.cells)∧q.pure=gj now q0.pure∧ap w' base q∧B_ base w w':=by
 have b1:B_ w.heap.size w ((w.alloc (c_ q0.cells 36)).alloc (c_ ar 36)):=dT _ _ _;have HB:Hid (DZ now base w q0 (lF now q0.pure.L8).length q0 ((w.alloc (c_ q0.cells 36)).alloc (c_ ar 36))∧base≤w.heap.size):=⟨⟨(cZ _ _ _).1,(cZ _ _ _).2,h.below b1,b1.mono hb,hk,rfl,rfl,hs,fun g hg=>(h.lt g hg).2⟩,hb⟩
 clear h hb hk hs b1;unfold af.cells at *
 go_enter func105,ntmps105
 go_wp2_with fail;generalize (w.alloc (c_ #[i_ j_ q0.id,i_ j_ q0.next,s_ q0.aN q0.L8.length q0.aW,s_ q0.bc q0.aj.length q0.bF,s_ q0.ay q0.L9.length q0.aO,s_ q0.ax q0.ag.length q0.aP,s_ q0.am q0.ae.length q0.aG,s_ q0.aK q0.ai.length q0.aV] 36)).alloc (c_ ar 36)=W at *
 go_loopg [] (lF now q0.pure.L8).length (fun k wr=> ∃ q:af,Hid (DZ now base w q0 k q wr))
 case atStart=>exact ⟨q0,HB.I.1⟩
 case round=>
  obtain ⟨q,HO⟩:=hrel
  rename w_=>W1
  have hql:q.L8.length≤6:=by have h5:=HO.I.wk.low; simpa [af.pure] using h5
  go_wp2_with fail
  go_loopw [5,6] (fun b i wr=> ∃ (k:Nat) (z:Int),k≤q.L8.length∧i=i_ j_ k∧b=i_ j_ z∧Hid (eN l8 (og now) q.pure.L8 k z∧B_ W1.heap.size W1 wr)) (fun _ i _=>q.L8.length - (Go.RowKit.intOf i).toNat)
  case atStart=>exact ⟨0,-1,Ky _,rfl,rfl,⟨eN.start _ _ _,Kp _ _⟩⟩
  case round=>
   obtain ⟨k,z,hk,rfl,rfl,HA⟩:=hrel;have HW:Hid (av wr w.heap.size q∧ap wr base q):=⟨HO.I.box.below HA.I.2,HO.I.own.below HA.I.2⟩
   obtain ⟨m0,m1,m2,m3,m4,m5,m6,m7⟩:=HW.I.1.cells;by_cases hlt:k < q.L8.length
   ·have i0:(0:Int)≤(k:Int):=by omega
    have i1:(k:Int) < (q.L8.length:Int):=by omega
    clear m0 m1 m3 m4 m5 m6 m7;obtain ⟨x,hx⟩: ∃ x,q.L8[k]? =o_ x:=⟨_,Kz hlt⟩
    have HX:Hid (q.L8[k]? =o_ x∧q.pure.L8[k]? =o_ x.toaD):=⟨hx,by show (q.L8.map (·.toaD))[k]? =_; rw [Kk,hx]; rfl⟩
    obtain ⟨gs,ha,hat⟩:=cn HW.I.2.at.1 hx;have HG:Hid (q.aN=o_ ⟨gs,0,n_⟩):=ha;rw [ha] at m2;obtain ⟨d0,d1,d2,d3,d4,d5,d6,d7,d8,d9,tH,tS⟩:=hat;clear hx ha;have hgl:w.heap.size < wr.heap.size:=(J2.1 HW.I.1).1;have HN:Hid (av (wr.alloc (c_ x.row 44)) w.heap.size q∧ap (wr.alloc (c_ x.row 44)) base q∧jx (wr.alloc (c_ x.row 44)) wr.heap.size x∧B_ W1.heap.size W1 (wr.alloc (c_ x.row 44))):=⟨HW.I.1.below ((Kp _ _).alloc (Ki _) _),HW.I.2.below ((Kp _ _).alloc (Ki _) _),Kj _ _,HA.I.2.alloc HA.I.2.size _⟩
    go_wp2_with fail;generalize wr.alloc (c_ x.row 44)=W5 at *;generalize wr.heap.size=X at *;clear d0 d1 d2 d3 d4 d5 d6 d7 d8 d9 tH tS m2 hgl;obtain ⟨-,-,m2,-⟩:=HN.I.1.cells;rw [HG.I] at m2;obtain ⟨-,-,-,b3,-,-,b6,-⟩:=HN.I.2.2.1.cells;by_cases hs:2≤x.Md;rotate_left
    ·have d1:decide (2≤x.Md)=false:=decide_eq_false hs
     have HY:Hid (eN l8 (og now) q.pure.L8 (k+1) z):=HA.I.1.skip HX.I.2 (by show (decide (2≤x.Md) && _)=false; rw [d1]; rfl);clear hs;refine aT (fun w'=>(w'.cell? ⟨w.heap.size,2,n_⟩=o_ (s_ (o_ ⟨gs,0,n_⟩) q.L8.length q.aW)∧w'.cell? ⟨X,3,n_⟩=o_ (i_ j_ x.Md)∧w'.cell? ⟨X,6,n_⟩=o_ (i_ j_ x.Mg))∧Hid (B_ W5.heap.size W5 w')) ZcI ⟨⟨m2,b3,b6⟩,(Kp _ _).drew⟩ ?_
     iterate 4 (refine PI ?_)
     iterate 4 (refine nl ?_; simp only [pt,sb,s0,s1])
     exact PC
    have d1:decide (2≤x.Md)=true:=decide_eq_true hs;cases hv:cv x.Mg 1 now
    ·have afp:Hid (Ending.returned (b_ (cv x.Mg 1 now))=Ending.returned (b_ false)):=by show _=_; rw [hv]
     have HY:Hid (eN l8 (og now) q.pure.L8 (k+1) z):=HA.I.1.skip HX.I.2 (by show (_ && cv x.Mg 1 now)=false; rw [hv,PP]);clear hs hv;refine aT (fun w'=>(w'.cell? ⟨w.heap.size,2,n_⟩=o_ (s_ (o_ ⟨gs,0,n_⟩) q.L8.length q.aW)∧w'.cell? ⟨X,3,n_⟩=o_ (i_ j_ x.Md)∧w'.cell? ⟨X,6,n_⟩=o_ (i_ j_ x.Mg))∧Hid (B_ W5.heap.size W5 w')) ZcI ⟨⟨m2,b3,b6⟩,(Kp _ _).drew⟩ ?_
     iterate 7 (refine PI ?_)
     refine cl (b_ false) 27 #[i_ j_ x.Mg,i_ j_ 1,i_ j_ now] ?_ ?_ ?_
     ·intro w0 hS0
      obtain ⟨⟨o2,o3,o6⟩,hH⟩:=hS0
      exact Fd
     ·exact Zaa
     simp only [pt,sb,s0,s1]
     exact PC
    have afp:Hid (Ending.returned (b_ (cv x.Mg 1 now))=Ending.returned (b_ true)):=by show _=_; rw [hv]
    have HF:Hid (og now x.toaD=true):=by show (decide (2≤x.Md) && cv x.Mg 1 now)=true; rw [hv,d1]; rfl
    clear hs hv;by_cases hz:z < 0
    ·have afO:decide (z < 0)=true:=decide_eq_true hz
     have HY:Hid (eN l8 (og now) q.pure.L8 (k+1) k):=HA.I.1.first hz HX.I.2 HF.I;refine aT (fun w'=>(w'.cell? ⟨w.heap.size,2,n_⟩=o_ (s_ (o_ ⟨gs,0,n_⟩) q.L8.length q.aW)∧w'.cell? ⟨X,3,n_⟩=o_ (i_ j_ x.Md)∧w'.cell? ⟨X,6,n_⟩=o_ (i_ j_ x.Mg))∧Hid (B_ W5.heap.size W5 w')) ZcI ⟨⟨m2,b3,b6⟩,(Kp _ _).drew⟩ ?_
     iterate 7 (refine PI ?_)
     refine cl (b_ true) 27 #[i_ j_ x.Mg,i_ j_ 1,i_ j_ now] ?_ ?_ ?_
     ·intro w0 hS0
      obtain ⟨⟨o2,o3,o6⟩,hH⟩:=hS0
      exact Fd
     ·exact Zaa
     simp only [pt,sb,s0,s1]
     iterate 5 (refine PI ?_)
     iterate 9 (refine nl ?_; simp only [pt,sb,s0,s1])
     iterate 2 (refine PI ?_)
     exact Zab
    have afO:decide (z < 0)=false:=decide_eq_false hz;obtain ⟨n,y0,hzn,hn,hy0,hbe⟩:=HA.I.1.got hz;subst hzn;have Fm:Hid (eN l8 (og now) q.pure.L8 (k+1) (if l8 x.toaD y0 then (k:Int) else (n:Int))):=eN.next hn hy0 hbe HX.I.2 HF.I;obtain ⟨y,hy,rfl⟩: ∃ y,q.L8[n]? =o_ y∧y.toaD=y0:=by
     have h5:(q.L8.map (·.toaD))[n]? =o_ y0:=hy0;rw [Kk,Kw] at h5;exact h5
    have j0:(0:Int)≤(n:Int):=by omega
    have j1:(n:Int) < (q.L8.length:Int):=by omega
    obtain ⟨gs2,ha2,g8⟩:=cn HN.I.2.1.at.1 hy;rw [HG.I] at ha2;cases ha2;obtain ⟨-,-,-,-,-,-,y6,-⟩:=g8;clear hy hy0 hbe hz;by_cases hw:x.Mg < y.Mg
    ·have af6:decide (x.Mg < y.Mg)=true:=decide_eq_true hw
     have HY:Hid (eN l8 (og now) q.pure.L8 (k+1) k):=by have h5:=Fm.I; rwa [show l8 x.toaD y.toaD=true from af6,if_pos rfl] at h5
     clear hw Fm;refine aT (fun w'=>(w'.cell? ⟨w.heap.size,2,n_⟩=o_ (s_ (o_ ⟨gs,0,n_⟩) q.L8.length q.aW)∧w'.cell? ⟨X,3,n_⟩=o_ (i_ j_ x.Md)∧w'.cell? ⟨X,6,n_⟩=o_ (i_ j_ x.Mg)∧w'.cell? ⟨gs,n * 12+6,n_⟩=o_ (i_ j_ y.Mg))∧Hid (B_ W5.heap.size W5 w')) ZcI ⟨⟨m2,b3,b6,y6⟩,(Kp _ _).drew⟩ ?_
     iterate 7 (refine PI ?_)
     refine cl (b_ true) 27 #[i_ j_ x.Mg,i_ j_ 1,i_ j_ now] ?_ ?_ ?_
     ·intro w0 hS0
      obtain ⟨⟨o2,o3,o6,afI⟩,hH⟩:=hS0
      exact Fd
     ·exact Zaa
     simp only [pt,sb,s0,s1]
     iterate 16 (refine PI ?_)
     exact Zab
    ·have af6:decide (x.Mg < y.Mg)=false:=decide_eq_false hw
     have HY:Hid (eN l8 (og now) q.pure.L8 (k+1) n):=by have h5:=Fm.I; rwa [show l8 x.toaD y.toaD=false from af6,if_neg Bool.false_ne_true] at h5
     clear hw Fm;refine aT (fun w'=>(w'.cell? ⟨w.heap.size,2,n_⟩=o_ (s_ (o_ ⟨gs,0,n_⟩) q.L8.length q.aW)∧w'.cell? ⟨X,3,n_⟩=o_ (i_ j_ x.Md)∧w'.cell? ⟨X,6,n_⟩=o_ (i_ j_ x.Mg)∧w'.cell? ⟨gs,n * 12+6,n_⟩=o_ (i_ j_ y.Mg))∧Hid (B_ W5.heap.size W5 w')) ZcI ⟨⟨m2,b3,b6,y6⟩,(Kp _ _).drew⟩ ?_
     iterate 7 (refine PI ?_)
     refine cl (b_ true) 27 #[i_ j_ x.Mg,i_ j_ 1,i_ j_ now] ?_ ?_ ?_
     ·intro w0 hS0
      obtain ⟨⟨o2,o3,o6,afI⟩,hH⟩:=hS0
      exact Fd
     ·exact Zaa
     simp only [pt,sb,s0,s1]
     iterate 16 (refine PI ?_)
     refine bk ZcI ?_ _;intro w1 cm;have HV:Hid (B_ W1.heap.size W1 w1):=HN.I.2.2.2.trans (cm.2.I.mono HN.I.2.2.2.size);clear cm;go_wp2;go_roundw
     case rel=>exact ⟨k+1,n,by omega,by go_num,rfl,⟨HY.I,HV.I⟩⟩
     case measure=>simp [Go.RowKit.intOf]; omega
   ·have i1: ¬ (k:Int) < (q.L8.length:Int):=by omega
    have HE:Hid (eN l8 (og now) q.pure.L8 q.L8.length z):=by have h5:=HA.I.1; rwa [show k=q.L8.length by omega] at h5
    have hfl:q.pure.L8.take q.L8.length=q.pure.L8:=by rw [KF]; simp [af.pure]
    have Ih:Hid (wr.heap[w.heap.size+1]? =o_ (c_ ar 36)∧B_ base w wr):=⟨(HA.I.2.block _ (J2.1 HO.I.mK).1).trans HO.I.mK,HO.I.cd.trans (HA.I.2.mono (by have:=HO.I.cd.size; have:=HB.I.2; omega))⟩
    by_cases hz:z < 0
    ·have HD:Hid (lZ now q.pure.L8=n_):=by have h5:=HE.I.none' hz; rwa [hfl] at h5
     have afO:decide (z < 0)=true:=decide_eq_true hz;clear hfl hz;go_wp2_with (refine ec 4 48 q.row Ih.I.1 ?_);refine gZ results105 Ih.I.1 ?_;exact ⟨q,rfl,by rw [← HO.I.same]; exact (Co HD.I).symm,HW.I.2.same fun g hg=>KH _ _ _ _ (by have:=HO.I.low g hg; omega),q_ Ih.I.2 (by have:=HB.I.2; omega) _⟩
    have afO:decide (z < 0)=false:=decide_eq_false hz;obtain ⟨n,y0,hzn,hn,hy0,hbe⟩:=HE.I.got hz;subst hzn;rw [hfl] at hbe;obtain ⟨y,hy,rfl⟩: ∃ y,q.L8[n]? =o_ y∧y.toaD=y0:=by
     have h5:(q.L8.map (·.toaD))[n]? =o_ y0:=hy0;rw [Kk,Kw] at h5;exact h5
    have HD:Hid (lZ now q.pure.L8=o_ y.toaD∧q.L8[n]? =o_ y∧q.pure.L8[n]? =o_ y.toaD):=⟨hbe,hy,hy0⟩
    have j0:(0:Int)≤(n:Int):=by omega
    have j1:(n:Int) < (q.L8.length:Int):=by omega
    obtain ⟨gs,ha,hat⟩:=cn HW.I.2.at.1 hy;have HG:Hid (q.aN=o_ ⟨gs,0,n_⟩):=ha;have d3:=hat.2.2.2.1;rw [ha] at m2;have hdu:=(af9.mem hbe)
    have hst:2≤y.Md:=by have h5:=hdu.2; unfold og at h5; simp only [J7,decide_eq_true_eq] at h5; exact h5.1
    have hop:=HO.I.wk.op y.toaD hdu.1 hst;have hro:=HO.I.wk.room;have hle:=HO.I.short y (KA hy);have Mb:=fun code=>vT q n base y code wr HW.I.2 (by have:=HO.I.cd.size; have:=HA.I.2.size; have:=HB.I.2; omega) hy hop hle (by have h5:q.pure.next=q.next:=rfl; omega)
    clear hfl hz hbe hy hy0 hat ha hdu hst hop hro hle hn;unfold af.cells at Mb;simp only [HG.I] at Mb;cases e2:(y.Md == 2)
    ·skip
     replace Mb:=Mb 2;have HCO:Hid (mL y.toaD=2):=by show mL y.toaD=_; unfold mL; rw [if_neg (by simpa using e2)]
     exact iv
    ·skip
     replace Mb:=Mb 0;have HCO:Hid (mL y.toaD=0):=by show mL y.toaD=_; unfold mL; rw [if_pos (by simpa using e2)]
     exact iv
end
section
open Go.RowKit
theorem kv {s:ByteArray} (h:bw s=true):s.size≤1048576:=by
 unfold bw at h;simp only [J7,decide_eq_true_eq] at h;omega
theorem ta {p:aE} (h:aQ p):p.Small:=by
 have hid: ∀ {α:Type} {num:α→Int} {ok:α→Bool} {last:Int} {l:List α},aw num ok last l=true→ ∀ x∈l,(Lit.int j_ (num x)).wf=true∧ok x=true:=fun hl x hx=>by
  obtain ⟨h1,h2⟩:=cK hl x hx
  have:=bz.1 h1
  exact ⟨pT (by omega) (by omega),h2⟩
 have hwf: ∀ {α:Type} {num:α→Int} {ok:α→Bool} {last k:Int} {l:List α},aw num ok last l=true→decide (k∈l.map num)=true→(Lit.int j_ k).wf=true:=fun hl hk=>by
  obtain ⟨x,hx,rfl⟩:=Lr.1 (of_decide_eq_true hk);exact (hid hl x hx).1
 refine ⟨by have:=h.dl; omega,by have:=h.fx; omega,by have:=h.cD; omega,by have:=h.cC; omega,by have:=h.cb; omega,by have:=h.dH; omega,fun x hx=> ?_,fun x hx=>(hid h.aj x hx).1,fun x hx=>(hid h.L9 x hx).1,fun x hx=> ?_,fun x hx=> ?_,fun x hx=> ?_⟩
 ·obtain ⟨k0,k1,k2,k3⟩:=h.proc hx
  have hb:=iF k1;unfold jY at hb;simp only [J7] at hb;have hl:=lK hb.1.1.1.2;have hi:=bz.1 k0;have hnx:=bz.1 h.next;refine ⟨⟨by omega,fun o ho=> ?_,kv hb.1.1.2,kv hb.1.2⟩,pT (by omega) (by omega),?_,?_⟩
  ·obtain ⟨i,hi1,hi2⟩:=LK.1 ho
   exact kv (dv (yG hb.1.1.1.2 (i:=i) (by rw [Kz hi1,hi2]))).2.2.2.1
  ·unfold dG at k3
   by_cases h3:3≤x.Md
   ·rw [if_pos h3] at k3
    unfold hasB at k3
    split at k3
    ·exact hwf h.aj k3
    ·split at k3
     ·exact hwf h.L9 k3
     ·split at k3
      ·exact hwf h.ae k3
      ·split at k3
       ·exact hwf h.ag k3
       ·cases k3
   ·rw [fG,J7] at k1
    have k4:=k1.2;unfold bO at k4;have h0:x.on=0:=by
     split at k4
     ·simp only [J7,decide_eq_true_eq] at k4; exact k4.1.1.2
     ·split at k4
      ·simp only [J7,decide_eq_true_eq] at k4; exact k4.1.2
      ·split at k4
       ·simp only [J7,decide_eq_true_eq] at k4; exact k4.1.2
       ·split at k4
        ·omega
        ·split at k4
         ·omega
         ·cases k4
    rw [h0]; rfl
  ·by_cases h0:x.Md=0
   ·rw [kx k1 h0]; rfl
   ·unfold fF at k2
    simp only [Kb,decide_eq_true_eq,h0,false_or] at k2
    have:=bz.1 k2
    exact pT (by omega) (by omega)
 ·obtain ⟨k1,k2⟩:=hid h.ag x hx
  unfold cU at k2;simp only [J7] at k2;exact ⟨k1,kv k2.1⟩
 ·obtain ⟨k1,k2⟩:=hid h.ae x hx
  unfold ct at k2;simp only [J7] at k2;have k3:=lv.1 k2.2;have k4:=bz.1 k2.1;exact ⟨k1,by omega,fun s hs=>kv (k3.2 s hs)⟩
 ·obtain ⟨k1,k2⟩:=hid h.ai x hx
  unfold dj at k2;simp only [J7] at k2;have k3:=lv.1 k2.2;have k4:=bz.1 k2.1.1;exact ⟨k1,by omega,fun s hs=>kv (k3.2 s hs)⟩
theorem ai4 {α:Type} {c:α→Nat} {l:List α} {M N:Nat} (h: ∀ x∈l,c x≤M) (hl:l.length≤N):g9 c l≤N * M:=by
 refine LG ?_ (Nat.mul_le_mul_right M hl);clear hl;unfold g9
 induction l with
 | nil=>simp
 | cons x r ih=>
  have h1:=h x (by simp);have h2:=ih fun y hy=>h y Zdi
  simp only [List.map_cons,List.sum_cons,Lg];rw [Nat.add_mul];omega
theorem aiQ {p:aE} (h:aQ p):p.total≤1000:=by
 have s1:g9 (fun x:aD=>x.prog.length) p.L8≤6 * 20:=ai4 (fun x hx=>by
  have hb:=iF (h.proc hx).2.1;unfold jY at hb;simp only [J7] at hb;exact (lK hb.1.1.1.2).2) h.dl
 have s2:g9 (fun x:ci=>x.Ma.length) p.ae≤5 * 5:=ai4 (fun x hx=>by
  have k2:=(cK h.ae x hx).2;unfold ct at k2;simp only [J7] at k2
  have:=(lv.1 k2.2).1
  have:=(bz.1 k2.1).2
  omega) h.cb
 have s3:g9 (fun x:dS=>x.Ma.length) p.ai≤5 * 5:=ai4 (fun x hx=>by
  have k2:=(cK h.ai x hx).2;unfold dj at k2;simp only [J7] at k2
  have:=(lv.1 k2.2).1
  have:=(bz.1 k2.1.1).2
  omega) h.dH
 have:=h.dl
 have:=h.fx
 have:=h.cD
 have:=h.cC
 have:=h.cb
 have:=h.dH
 unfold aE.total;omega
theorem agP {r:Option aE} (h: ∀ q,r=o_ q→aQ q):(r.getD cN).Small∧(r.getD cN).total≤1000:=by
 cases r with
 | none=>exact ⟨hY,by decide⟩
 | some q=>exact ⟨ta (h q rfl),aiQ (h q rfl)⟩
theorem agt {p q:aE} {now:Int} (h:hZ p now=o_ q):aQ q:=by
 unfold hZ at h
 split at h
 ·rename_i h5
  simp only [J7,decide_eq_true_eq] at h5;rw [← KC h];exact (DA ((ch _).1 h5.1.1) h5.2 (bz.1 h5.1.2)).1
 ·cases h
end
section
open Go.RowKit Go.Maps
attribute [local go_sem ↓] Kc Kd
theorem cJ.SA {w w':w_} {base o g:Nat} {S:aZ} {f:ao→ao} {nx:Int} (h:cJ w base o S) (hf: ∀ x,(f x).id=x.id∧(f x).prog=x.prog∧(f x).aY=x.aY∧(f x).bH=x.bH)
  (hc: ∀ p∈S.lp,p.2=g→w'.heap[g]? =o_ (c_ (aX (f p.1)) 44)) (hg:g∈S.lp.map (·.2)) (ho:fa w' o { S.q with next:=nx }) (hs: ∀ b∈S.boxes ++ S.kids,b≠g→b≠o→w'.heap[b]? =w.heap[b]?):cJ w' base o (S.ju g f nx):=by
 have iH: ∀ x,aR.bt (f x)=aR.bt x:=fun x=>by show (f x).aY.map (·.block)=x.aY.map (·.block); rw [(hf x).2.2.1]
 have hn:=h.nodup;have hno:=(Lp.1 hn).1;have yD:=(Kf.1 (Lp.1 hn).2)
 have jQ:=yD.1;unfold aZ.boxes at jQ;have hin: ∀ b,b∈S.boxes∨b∈S.kids→b≠o:=fun b hb e=>hno (by rw [← e]; exact Kg.2 hb)
 have hp:=Kf.1 jQ;have l9:g∈S.q.bp :: S.lp.map (·.2):=LB _ hg;have hgr: ∀ b,b∈((S.q.bs :: S.ls.map (·.2)) ++ ((S.q.be :: S.le.map (·.2)) ++ ((S.q.bb :: S.lb.map (·.2)) ++ ((S.q.bf :: S.lf.map (·.2)) ++ (S.q.bq :: S.lq.map (·.2))))))→b≠g:=fun b hb e=>hp.2.2 g l9 b hb e.symm
 have EI: ∀ b∈S.kids,b≠g:=fun b hb e=>yD.2.2 g (by unfold aZ.boxes; exact Lz _ l9) b hb e.symm
 have hbp:S.q.bp≠g:=fun e=>by
  have:=(Lp.1 hp.1).1
  rw [e] at this;exact this hg
 have lW: ∀ b,b∈(S.q.bp :: S.lp.map (·.2))→b≠o:=fun b hb=>hin b (.inl (by unfold aZ.boxes; exact Lz _ hb))
 have hbr: ∀ b,b∈((S.q.bs :: S.ls.map (·.2)) ++ ((S.q.be :: S.le.map (·.2)) ++ ((S.q.bb :: S.lb.map (·.2)) ++ ((S.q.bf :: S.lf.map (·.2)) ++ (S.q.bq :: S.lq.map (·.2))))))→w'.heap[b]? =w.heap[b]? :=fun b hb=>hs b (Lz _ Zdy) (hgr b hb) (hin b (.inl Zdy))
 have hkk: ∀ b∈S.kids,w'.heap[b]? =w.heap[b]? :=fun b hb=>hs b (Ly _ hb) (EI b hb) (hin b (.inr hb))
 have hmem: ∀ (b:Nat),(b∈kids aR S.lp∨b∈kids aC S.lf∨b∈kids aU S.lq)→b∈S.kids:=fun b hb=>by simp only [aZ.kids,Kg]; exact hb
 refine ⟨ho,h.L8.sU (fun p _ _=>(hf p.1).1) hc (hs _ (Lz _ (by unfold aZ.boxes; exact Lz _ (by simp))) hbp (lW _ (by simp))) (fun b hb hne=>hs b (Lz _ (by unfold aZ.boxes; exact Lz _ (LB _ hb))) hne (lW b (LB _ hb))),h.aj.same fun b hb=>hbr b (Lz _ hb),h.L9.same fun b hb=>hbr b (Ly _ (Lz _ hb)),h.ag.same fun b hb=>hbr b (Ly _ (Ly _ (Lz _ hb))),h.ae.same fun b hb=>hbr b (Ly _ (Ly _ (Ly _ (Lz _ hb)))),h.ai.same fun b hb=>hbr b (Ly _ (Ly _ (Ly _ (Ly _ hb)))),fun p hp'=> ?_,fun p hp'=>(h.eE p hp').same fun b hb=>hkk b (hmem b (.inr (.inl (Lq.2 ⟨p,hp',hb⟩)))),fun p hp'=>(h.eR p hp').same fun b hb=>hkk b (hmem b (.inr (.inr (Lq.2 ⟨p,hp',hb⟩)))),?_,h.low⟩
 ·exact Q_
 ·exact ZaS
theorem aZ.Sb {S:aZ} {g:Nat} {x:ao} {f:ao→ao} {f':aD→aD} {nx:Int} (Sw:S.pure.L8.Pairwise (fun x y=>x.id < y.id)) (hn: ∀ p∈S.lp,p.2=g→p=(x,g)) (hx:(x,g)∈S.lp) (hf: ∀ y,(f y).toaD=f' y.toaD):
  (S.ju g f nx).pure= { S.pure with next:=nx,L8:=ce x.id f' S.pure.L8 } :=by
 have key:(sU g f S.lp).map (·.1.toaD)=ce x.id f' (S.lp.map (·.1.toaD)):=by
  unfold sU ce;rw [Lv,Lv];refine Lw fun p hp=> ?_
  simp only [Ls];by_cases hg:p.2=g
  ·have hpx:=hn p hp hg
   subst hpx;rw [if_pos rfl,if_pos rfl];exact hf x
  ·rw [if_neg hg]
   have hne: ¬ p.1.toaD.id=x.id:=fun e=>by
    have h5:S.pure.L8.Pairwise (fun a b=>a.id < b.id):=Sw;have h6:(S.lp.map (·.1.toaD)).Pairwise (fun a b=>a.id < b.id):=h5;rw [List.pairwise_map] at h6;obtain ⟨i,hi⟩:=List.mem_iff_getElem?.1 hp;obtain ⟨j,hj⟩:=List.mem_iff_getElem?.1 hx;obtain ⟨hi1,rfl⟩:=Lj.1 hi;obtain ⟨DS,hj2⟩:=Lj.1 hj;rw [P8] at h6;have OG:(S.lp[j]).1.id=x.id:=by rw [hj2]
    rcases P9 i j with hlt | heq | hgt
    ·exact ZbB
    ·subst heq; exact hg (by rw [hj2])
    ·exact ZbC
   rw [if_neg hne]
 exact ZbP
theorem aI.row {w:w_} {g:Nat} {cs:Array v_} :aI w (w.drew.setRow g cs) [g] :=by
 have h:=q_ (g:=g) (Kp 0 w).drew (Ky _) cs;exact ⟨h.os,h.tape,h.output,h.size,fun b _ hn=>KH _ _ _ _ (by simpa using hn)⟩
theorem Sj (g:Nat) (x:ao) (code:Int) (w:w_) (h:w.heap[g]? =o_ (c_ (aX x) 44)) (hpc:0≤x.pc∧x.pc < x.prog.length) (hl:x.prog.length≤1048576):
  k_ J3 94 #[p_ (o_ ⟨g,0,n_⟩),i_ j_ code] w fun e w'=>e=r_ (u_ #[])∧w'.heap[g]? =o_ (c_ (aX (fE code x)) 44)∧aI w w' [g] :=by
 have h1:(w.setCell ⟨g,10,n_⟩ (i_ j_ code)).heap[g]? =o_ (c_ (aX ({ x with code:=code } :ao)) 44):=cx (i:=10) (v:=i_ j_ code) h;have h2:((w.setCell ⟨g,10,n_⟩ (i_ j_ code)).setCell ⟨g,4,n_⟩ (i_ j_ (x.pc+1))).heap[g]? =o_ (c_ (aX ({ x with code:=code,pc:=x.pc+1 } :ao)) 44):=cx (i:=4) (v:=i_ j_ (x.pc+1)) h1;have qF:w.cell? ⟨g,10,n_⟩=o_ (i_ j_ x.code):=(bo h).2.2.2.2.2.2.2.2.2.2.1;have f10:w.frozen? ⟨g,10,n_⟩=false:=Ko _ _ _ _ _ h;have c4:(w.setCell ⟨g,10,n_⟩ (i_ j_ code)).cell? ⟨g,4,n_⟩=o_ (i_ j_ x.pc):=(bo h1).2.2.2.2.1;have f4:(w.setCell ⟨g,10,n_⟩ (i_ j_ code)).frozen? ⟨g,4,n_⟩=false:=Ko _ _ _ _ _ h1;obtain ⟨r0,r1,r2,r3,r4,r5,r6,r7,r8,r9,Ju,Jq⟩:=bo h2;have H2:Hid (((w.setCell ⟨g,10,n_⟩ (i_ j_ code)).setCell ⟨g,4,n_⟩ (i_ j_ (x.pc+1))).heap[g]? =o_ (c_ (aX ({ x with code:=code,pc:=x.pc+1 } :ao)) 44)∧aI w ((w.setCell ⟨g,10,n_⟩ (i_ j_ code)).setCell ⟨g,4,n_⟩ (i_ j_ (x.pc+1))) [g]):=⟨h2,aI.cell.trans aI.cell⟩
 have Mb:=kn ({ x with code:=code,pc:=x.pc+1 } :ao) ((w.setCell ⟨g,10,n_⟩ (i_ j_ code)).setCell ⟨g,4,n_⟩ (i_ j_ (x.pc+1))) hl;obtain ⟨n0,n1⟩:=hpc;have n2:x.pc≤1048576:=by omega
 have hv:dU ({ x with code:=code,pc:=x.pc+1 } :ao).toaD=decide (¬ x.pc+1=x.prog.length):=by
  show cv (x.pc+1) 0 ((x.prog.length:Int) - 1)=_
  by_cases e:x.pc+1=x.prog.length
  ·rw [decide_eq_false (by simpa using e)]
   cases h5:cv (x.pc+1) 0 ((x.prog.length:Int) - 1) with
   | false=>rfl
   | true=>have:=bz.1 h5; omega
  ·rw [decide_eq_true e]
   exact bz.2 (by omega)
 rw [hv] at Mb;simp only [aX] at Mb;clear hv h h1 h2 hl n1
 go_enter func94,ntmps94
 go_wp2_with fail;clear qF f10 c4 f4 r0 r1 r2 r3 r4 r5 r6 r7 r8 r9 Ju Jq;refine Mb.mono ?_;clear Mb;rintro e w3 ⟨rfl,hb3⟩;have H3:Hid (w3.heap[g]? =o_ (c_ (aX ({ x with code:=code,pc:=x.pc+1 } :ao)) 44)∧aI w w3 [g]):=⟨(hb3.block _ (J2.1 H2.I.1).1).trans H2.I.1,H2.I.2.trans (aI.dI hb3)⟩
 clear hb3 H2;by_cases hlen:x.pc+1=x.prog.length
 ·have afx:Hid (fE code x=(⟨j7 (jM code x.toaD),x.aY,x.bH⟩:ao)):=by show fE code x=_; unfold fE jT; rw [if_pos hlen]
  have e1:decide (¬ x.pc+1=x.prog.length)=false:=decide_eq_false (by simpa using hlen);rw [e1];clear hlen e1;go_wp2_with fail;refine (NI g ({ x with code:=code,pc:=x.pc+1 } :ao) w3 H3.I.1).mono ?_;rintro e w4 ⟨rfl,rfl⟩;go_wp2;refine bodyPost_ret (results_none results94 _ _ _) rfl ?_;rw [afx.I];exact ⟨rfl,KU _ _ _ _ _ _ H3.I.1,H3.I.2.trans aI.row⟩
 have afx:Hid (fE code x=(⟨jM code x.toaD,x.aY,x.bH⟩:ao)):=by show fE code x=_; unfold fE jT; rw [if_neg hlen]
 have e1:decide (¬ x.pc+1=x.prog.length)=true:=decide_eq_true hlen;rw [e1];clear hlen e1;have c3:=(bo H3.I.1).2.2.2.1;have f3:w3.frozen? ⟨g,3,n_⟩=false:=Ko _ _ _ _ _ H3.I.1;have k3:(w3.setCell ⟨g,3,n_⟩ (i_ j_ 1)).heap[g]? =o_ (c_ (aX ({ x with code:=code,pc:=x.pc+1,Md:=1 } :ao)) 44):=cx (i:=3) (v:=i_ j_ 1) H3.I.1;have c5:=(bo k3).2.2.2.2.2.1;have f5:(w3.setCell ⟨g,3,n_⟩ (i_ j_ 1)).frozen? ⟨g,5,n_⟩=false:=Ko _ _ _ _ _ k3;have k5:((w3.setCell ⟨g,3,n_⟩ (i_ j_ 1)).setCell ⟨g,5,n_⟩ (i_ j_ 0)).heap[g]? =o_ (c_ (aX ({ x with code:=code,pc:=x.pc+1,Md:=1,left:=0 } :ao)) 44):=cx (i:=5) (v:=i_ j_ 0) k3;have c6:=(bo k5).2.2.2.2.2.2.1;have f6:((w3.setCell ⟨g,3,n_⟩ (i_ j_ 1)).setCell ⟨g,5,n_⟩ (i_ j_ 0)).frozen? ⟨g,6,n_⟩=false:=Ko _ _ _ _ _ k5;have k6:(((w3.setCell ⟨g,3,n_⟩ (i_ j_ 1)).setCell ⟨g,5,n_⟩ (i_ j_ 0)).setCell ⟨g,6,n_⟩ (i_ j_ 0)).heap[g]? =o_ (c_ (aX ({ x with code:=code,pc:=x.pc+1,Md:=1,left:=0,Mg:=0 } :ao)) 44):=cx (i:=6) (v:=i_ j_ 0) k5;have c7:=(bo k6).2.2.2.2.2.2.2.1;have f7:(((w3.setCell ⟨g,3,n_⟩ (i_ j_ 1)).setCell ⟨g,5,n_⟩ (i_ j_ 0)).setCell ⟨g,6,n_⟩ (i_ j_ 0)).frozen? ⟨g,7,n_⟩=false:=Ko _ _ _ _ _ k6;have k7:((((w3.setCell ⟨g,3,n_⟩ (i_ j_ 1)).setCell ⟨g,5,n_⟩ (i_ j_ 0)).setCell ⟨g,6,n_⟩ (i_ j_ 0)).setCell ⟨g,7,n_⟩ (i_ j_ 0)).heap[g]? =o_ (c_ (aX ({ x with code:=code,pc:=x.pc+1,Md:=1,left:=0,Mg:=0,on:=0 } :ao)) 44):=cx (i:=7) (v:=i_ j_ 0) k6;have c8:=(bo k7).2.2.2.2.2.2.2.2.1;have f8:((((w3.setCell ⟨g,3,n_⟩ (i_ j_ 1)).setCell ⟨g,5,n_⟩ (i_ j_ 0)).setCell ⟨g,6,n_⟩ (i_ j_ 0)).setCell ⟨g,7,n_⟩ (i_ j_ 0)).frozen? ⟨g,8,n_⟩=false:=Ko _ _ _ _ _ k7;have k8:(((((w3.setCell ⟨g,3,n_⟩ (i_ j_ 1)).setCell ⟨g,5,n_⟩ (i_ j_ 0)).setCell ⟨g,6,n_⟩ (i_ j_ 0)).setCell ⟨g,7,n_⟩ (i_ j_ 0)).setCell ⟨g,8,n_⟩ (t_ ⟨#[]⟩)).heap[g]? =o_ (c_ (aX ({ x with code:=code,pc:=x.pc+1,Md:=1,left:=0,Mg:=0,on:=0,held:=rM } :ao)) 44):=cx (i:=8) (v:=t_ ⟨#[]⟩) k7;have HF:Hid ((((((w3.setCell ⟨g,3,n_⟩ (i_ j_ 1)).setCell ⟨g,5,n_⟩ (i_ j_ 0)).setCell ⟨g,6,n_⟩ (i_ j_ 0)).setCell ⟨g,7,n_⟩ (i_ j_ 0)).setCell ⟨g,8,n_⟩ (t_ ⟨#[]⟩)).heap[g]? =o_ (c_ (aX (⟨jM code x.toaD,x.aY,x.bH⟩:ao)) 44)∧aI w (((((w3.setCell ⟨g,3,n_⟩ (i_ j_ 1)).setCell ⟨g,5,n_⟩ (i_ j_ 0)).setCell ⟨g,6,n_⟩ (i_ j_ 0)).setCell ⟨g,7,n_⟩ (i_ j_ 0)).setCell ⟨g,8,n_⟩ (t_ ⟨#[]⟩)) [g]):=⟨k8,(((((H3.I.2.trans aI.cell).trans aI.cell).trans aI.cell).trans aI.cell).trans aI.cell)⟩
 clear k3 k5 k6 k7 k8;go_wp2
 go_end0
 rw [afx.I];exact ⟨rfl,HF.I.1,HF.I.2⟩
theorem ahO (o g base:Nat) (S:aZ) (x:ao) (code:Int) (w:w_) (h:cJ w base o S) (lY:base≤w.heap.size) (hx:(x,g)∈S.lp) (n0:0≤S.q.next) (n1:S.q.next≤1000000000) (hpc:0≤x.pc∧x.pc < x.prog.length) (hl:x.prog.length≤1048576):
  k_ J3 87 #[p_ (o_ ⟨o,0,n_⟩),p_ (o_ ⟨g,0,n_⟩),i_ j_ code] w fun e w'=>e=r_ (u_ #[])∧cJ w' base o (S.ju g (pF S.q.next code) (gf S.q.next x.toaD))∧aI w w' [g,o] :=by
 have hgb:w.heap[g]? =o_ (c_ (aX x) 44):=h.L8.box (x,g) hx;have bR:g∈S.lp.map (·.2):=Lr.2 ⟨(x,g),hx,rfl⟩;have hno: ¬ o=g:=fun e=>by
  exact Zbw
 have hgl:base≤g:=h.L8.low g (LB _ bR);have HC:Hid (cJ w base o S∧(x,g)∈S.lp∧g∈S.lp.map (·.2)∧base≤g∧base≤w.heap.size∧ ¬ o=g∧o < w.heap.size):=⟨h,hx,bR,hgl,lY,hno,(J2.1 h.opn).1⟩
 have Mb:=Sj g x code w hgb hpc hl;clear hgb bR hgl h hx lY hpc hl
 go_enter func87,ntmps87
 go_wp2_with fail;refine Mb.mono ?_;clear Mb;rintro e w1 ⟨rfl,CT,hk1⟩;have H1:Hid (w1.heap[g]? =o_ (c_ (aX (fE code x)) 44)∧aI w w1 [g] ∧fa w1 o S.q):=⟨CT,hk1,(hk1.same o HC.I.2.2.2.2.2.2 (by simpa using HC.I.2.2.2.2.2.1)).trans HC.I.1.opn⟩
 have s3:=(bo CT).2.2.2.1;clear CT hk1;by_cases hlen:x.pc+1=x.prog.length
 ·have e1:((fE code x).Md == 1)=false:=by show ((jT code x.toaD).Md == 1)=false; unfold jT; rw [if_pos hlen]; rfl
  have HE:Hid (gf S.q.next x.toaD=S.q.next∧pF S.q.next code x=fE code x):=by show _∧_; unfold gf pF fE iY jT; rw [if_pos hlen,if_pos hlen,if_pos hlen]; exact ⟨rfl,rfl⟩
  clear hlen;go_wp2
  go_end0
  have hlt: ∀ b∈S.boxes ++ S.kids,b < w.heap.size:=fun b hb=>HC.I.1.lt b (LB _ hb)
  exact ⟨rfl,HC.I.1.SA (fun y=>⟨(rD _ _ _).1,(rD _ _ _).2,rfl,rfl⟩) (fun p hp hpg=>by have e:=HC.I.1.L8.one hp HC.I.2.1 hpg; subst e; rw [HE.I.2]; exact H1.I.1) HC.I.2.2.1 (by rw [HE.I.1]; exact H1.I.2.2) (fun b hb h5 h6=>H1.I.2.1.same b (hlt b hb) (by simpa using h5)),H1.I.2.1.mono (by simp)⟩
 have e1:((fE code x).Md == 1)=true:=by show ((jT code x.toaD).Md == 1)=true; unfold jT; rw [if_neg hlen]; rfl
 have HE:Hid (gf S.q.next x.toaD=S.q.next+1∧pF S.q.next code x= { fE code x with RU:=S.q.next }):=by show _∧_; unfold gf pF fE iY jT; rw [if_neg hlen,if_neg hlen,if_neg hlen]; exact ⟨rfl,rfl⟩
 clear hlen;have Mb:=wE o g S.q.next w1 (H1.I.2.2.cell 1) (Ko _ _ _ _ _ H1.I.2.2) ⟨_,(bo H1.I.1).2.2.2.2.2.2.2.2.2.2.2⟩ (Ko _ _ _ _ _ H1.I.1) hno n0 n1;go_wp2_with fail;refine Mb.mono ?_;clear Mb s3 e1;rintro e w2 ⟨rfl,rfl⟩;have HF:Hid (cJ ((w1.setCell ⟨g,11,n_⟩ (i_ j_ S.q.next)).setCell ⟨o,1,n_⟩ (i_ j_ (S.q.next+1))) base o (S.ju g (pF S.q.next code) (gf S.q.next x.toaD))∧aI w ((w1.setCell ⟨g,11,n_⟩ (i_ j_ S.q.next)).setCell ⟨o,1,n_⟩ (i_ j_ (S.q.next+1))) [g,o]):=by
  have hlt: ∀ b∈S.boxes ++ S.kids,b < w.heap.size:=fun b hb=>HC.I.1.lt b (LB _ hb)
  have hg3:((w1.setCell ⟨g,11,n_⟩ (i_ j_ S.q.next)).setCell ⟨o,1,n_⟩ (i_ j_ (S.q.next+1))).heap[g]? =o_ (c_ (aX ({ fE code x with RU:=S.q.next } :ao)) 44):=(aH (fun e=>HC.I.2.2.2.2.2.1 e.symm:g≠o)).trans (cx (i:=11) (v:=i_ j_ S.q.next) H1.I.1);have Bn:fa ((w1.setCell ⟨g,11,n_⟩ (i_ j_ S.q.next)).setCell ⟨o,1,n_⟩ (i_ j_ (S.q.next+1))) o { S.q with next:=S.q.next+1 } :=by
   have h5:(w1.setCell ⟨g,11,n_⟩ (i_ j_ S.q.next)).heap[o]? =_:=(aH HC.I.2.2.2.2.2.1).trans H1.I.2.2;exact cx (i:=1) (v:=i_ j_ (S.q.next+1)) h5
  exact ⟨HC.I.1.SA (fun y=>⟨(rD _ _ _).1,(rD _ _ _).2,rfl,rfl⟩) (fun p hp hpg=>by have e:=HC.I.1.L8.one hp HC.I.2.1 hpg; subst e; rw [HE.I.2]; exact hg3) HC.I.2.2.1 (by rw [HE.I.1]; exact Bn) (fun b hb h5 h6=>(aH h6).trans ((aH h5).trans (H1.I.2.1.same b (hlt b hb) (by simpa using h5)))),((H1.I.2.1.trans aI.cell).mono (by simp)).trans (aI.cell.mono (by simp))⟩
 go_wp2
 go_end0
 exact ⟨rfl,HF.I.1,HF.I.2⟩
end
def ahG (r:Option aE):aE:=r.getD cN
def akb:aE:=⟨1,1,[],[],[],[],[],[]⟩
def akF:aE:=ahG (cB akb { akb with aj:=cA (·.id) (⟨1,0,1⟩:bD) akb.aj })
def ahc:aE:=ahG (cB akF { akF with ae:=bY (·.id) (⟨1,3,[]⟩:ci) akF.ae })
def air (p:aE) (id RX:Int) (l:List dN):Option aE:=cB p { p with L8:=bY (·.id) (newP id RX l) p.L8 }
def agA (l:List dN):Option aE:=kD (ahG (air ahc 1 5 l)) 1
def ah8 (r:Option aE) (id:Int) (f:aD→Bool):Bool:=match r with
 | none=>false
 | some p=>match ew p id with
  | none=>false
  | some x=>f x
def akQ (n:Int):Bool:=(air ahc 1 5 [(1,n,0,rM)]).isSome && (agA [(1,n,0,rM)]).isSome && ah8 (agc (ahG (agA [(1,n,0,rM)])) 7 (n - 1)) 1 (fun x=>decide (x.Md=1)) && ah8 (agc (ahG (agA [(1,n,0,rM)])) 7 n) 1 (fun x=>decide (x.Md=0))
theorem ak4:((List.range 32).all fun k=>akQ (k+1))=true:=by kernel_rfl
def akA (n:Int):Option aE:=kD (ahG (air (ahG (agA [(1,n,0,rM)])) 2 4 [(1,100,0,rM)])) 2
def akN (n:Int):Bool:=(air (ahG (agA [(1,n,0,rM)])) 2 4 [(1,100,0,rM)]).isSome && (akA n).isSome && ah8 (agc (ahG (akA n)) 0 n) 2 (fun x=>decide (x.left=0) && decide (x.Md=1)) && ah8 (agc (ahG (akA n)) 0 (n+1)) 2 (fun x=>decide (x.left=99))
theorem akV:((List.range 32).all fun k=>akN (k+1))=true:=by kernel_rfl
section
open Go.RowKit
section
variable {w W w':w_} {M base n m gs:Nat} {q0 z q q2:af} {x y:ao}
theorem tN (ha:q.aN=o_ ⟨gs,0,n_⟩):gs∈q.Mc:=by unfold af.Mc; rw [ha]; simp [blk]
theorem yr.of (ho:ap w' base q2) (hk:aI w w' (blk q.aN)) (hb:q2.Mc=q.Mc):yr w base q q2 w':=
 ⟨ho,hk.mono fun g hg=>by unfold af.Mc; exact Lz _ hg,fun g hg=> .inl (hb ▸ hg)⟩
theorem yr.refl (h:ap w base q):yr w base q q w:=⟨h,aI.refl _ _,fun _ hg=> .inl hg⟩
theorem nT {nx:Int} (hx:q.L8[n]? =o_ x) (hy:y.aY=x.aY):({ q with next:=nx,L8:=q.L8.set n y } :af).Mc=q.Mc:=by
 unfold af.Mc;simp only [re hx hy]
theorem jd {nx:Int} :({ q with next:=nx,L8:=q.L8.set n y } :af).cells=({ q with next:=nx } :af).cells:=by unfold af.cells; simp
theorem mj (hx:q.L8[n]? =o_ x):q.pure.L8[n]? =o_ x.toaD:=by show (q.L8.map (·.toaD))[n]? =_; rw [Kk,hx]; rfl
theorem iu (hx:q.L8[n]? =o_ x):x.toaD∈q.pure.L8:=KA (mj hx)
theorem g7 {nx:Int} {f:aD→aD} (hr:q.pure.L8.Pairwise (fun x y=>x.id < y.id)) (hx:q.L8[n]? =o_ x) (hy:y.toaD=f x.toaD):({ q with next:=nx,L8:=q.L8.set n y } :af).pure= { q.pure with next:=nx,L8:=ce x.id f q.pure.L8 } :=by
 rw [rp hr (mj hx) rfl,← hy]
 show ({ q.pure with next:=nx,L8:=(q.L8.set n y).map (·.toaD) } :aE)=_
 rw [PN];rfl
theorem bB (code:Int) (h:ap w base q) (hb:base≤w.heap.size) (hr:aQ q.pure) (hx:q.L8[n]? =o_ x) (h0: ¬ x.Md=0):k_ J3 159 #[a_ q.cells,i_ j_ n,i_ j_ code] w (jH w base q (bu code x.id q.pure)):=by
 have h1:=(hr.proc (iu hx)).2.1;have h2:=iT h1 h0;have h3:=iF h1;unfold jY at h3;simp only [J7] at h3;have h4:=(lK h3.1.1.1.2).2;refine (ve q n base x code w h hb hx h2 (by omega)).mono ?_;rintro e w' ⟨rfl,ho,-,hk⟩;exact ⟨({ q with L8:=q.L8.set n (fE code x) } :af),congrArg (fun c=>Ending.returned (a_ c)) (jd (nx:=q.next)).symm,g7 hr.kW hx (f:=jT code) rfl,yr.of ho hk (nT hx rfl)⟩
theorem lP (h:ap w base q) (hb:base≤w.heap.size) (hr:aQ q.pure) (hx:q.L8[n]? =o_ x) (h0: ¬ x.Md=0) (hn:q.next≤1000000000):k_ J3 158 #[a_ q.cells,i_ j_ n,i_ j_ 0] w (jH w base q (gF (fun y=>y) q.pure x.toaD)):=by
 have h1:=(hr.proc (iu hx)).2.1;have h2:=iT h1 h0;have h3:=iF h1;unfold jY at h3;simp only [J7] at h3;have h4:=(lK h3.1.1.1.2).2;have h5:=bz.1 hr.next;refine (vT q n base x 0 w h hb hx h2 (by omega) ⟨by have:q.pure.next=q.next:=rfl; omega,hn⟩).mono ?_;rintro e w' ⟨q2,rfl,rfl,ho,-,hk⟩;exact ⟨_,rfl,g7 hr.kW hx (f:=iY q.next 0) rfl,yr.of ho hk (nT hx rfl)⟩
theorem oT (h:ap w base q) (hb:base≤w.heap.size) (hr:q.pure.L8.Pairwise (fun x y=>x.id < y.id)) (hx:q.L8[n]? =o_ x) (hn:0≤q.next∧q.next≤1000000000):k_ J3 188 #[a_ q.cells,i_ j_ n] w (jH w base q { q.pure with next:=q.next+1,L8:=ce x.id (fun y=> { y with RU:=q.next }) q.pure.L8 }):=by
 refine (qG q n base x w h hb hx hn).mono ?_;rintro e w' ⟨q2,rfl,rfl,ho,-,hk⟩;exact ⟨_,rfl,g7 hr hx (f:=fun y=> { y with RU:=q.next }) rfl,yr.of ho hk (nT hx rfl)⟩
theorem Fr.kB {j:Nat} {v:v_} (h:Fr w M base q0 z q W) (hx:q.L8[n]? =o_ x) (ha:q.aN=o_ ⟨gs,0,n_⟩) (hy:y.prog=x.prog∧y.aY=x.aY∧y.bH=x.bH) (hj:j < 12)
  (hv:bg.vals y=(bg.vals x).set j v):
  Fr w M base q0 z ({ q with L8:=q.L8.set n y } :af) (W.setCell ⟨gs,n * 12+j,n_⟩ v)∧(∀ X,w.heap.size≤X→X < M→(W.setCell ⟨gs,n * 12+j,n_⟩ v).heap[X]? =W.heap[X]?)∧(∃ u,W.cell? ⟨gs,n * 12+j,n_⟩=o_ u)∧W.frozen? ⟨gs,n * 12+j,n_⟩=false:=by
 have h1:(bg.vals y)[j]? =o_ v:=by rw [hv,LU (by rw [bg.len]; exact hj)]
 have h2: ∀ r,r < 12→r≠j→(bg.vals y)[r]? =(bg.vals x)[r]? :=fun r _ hr=>by rw [hv,List.getElem?_set_ne (by omega)]
 have h3:=h.own.kB (n:=n) (j:=j) (x:=x) (y:=y) (vs:= [v]) hx ha hy ZcJ (fun r hr=>by simp at hr; subst hr; rw [PT,h1]; rfl) (fun r hr hn=>h2 r hr (by simp at hn; omega));have hg:gs∈q.Mc:=tN ha;have hs: ∀ X,w.heap.size≤X→X < M→(W.setCell ⟨gs,n * 12+j,n_⟩ v).heap[X]? =W.heap[X]? :=fun X a b=>aH fun e=>h.yO a b (e ▸ hg)
 have hc:(∃ u,W.cell? ⟨gs,n * 12+j,n_⟩=o_ u)∧W.frozen? ⟨gs,n * 12+j,n_⟩=false:=by
  obtain ⟨g,hg,hrow⟩:=bl.fX (K:=bg) h.own.L8 ZdM;exact Zbm
 exact ⟨⟨(hs _ (Ki _) h.sz.1).trans h.box,h3.1,⟨h.kept.os,h.kept.tape,h.kept.output,by simpa [World.setCell] using h.kept.size,fun g a b=>(aH fun e=>by
  rcases h.far gs hg with c | c
  ·exact b (e ▸ c)
  ·have:=h.sz; omega).trans (h.kept.same g a b)⟩,fun g hg=>h.far g (h3.2.2 ▸ hg),h.lo,h.sz.1,by simpa [World.setCell] using h.sz.2.1,h.sz.2.2⟩,hs,hc⟩
theorem pm {k:Int} {f g:aD→aD} (hf: ∀ y,(f y).id=y.id) (l:List aD):ce k g (ce k f l)=ce k (fun y=>g (f y)) l:=by
 unfold ce;rw [Lv];refine Lw fun z _=> ?_
 simp only [Ls];by_cases e:z.id=k
 ·rw [if_pos e,if_pos e,if_pos (by rw [hf]; exact e)]
 ·rw [if_neg e,if_neg e,if_neg e]
theorem us {nx:Int} (hr:q.pure.L8.Pairwise (fun x y=>x.id < y.id)) (hx:q.L8[n]? =o_ x) (hy:y.id=x.id):({ q with next:=nx,L8:=q.L8.set n y } :af).pure.L8.Pairwise (fun x y=>x.id < y.id):=by
 rw [g7 (f:=fun z=> { y.toaD with id:=z.id }) hr hx (by show y.toaD= { y.toaD with id:=x.id }; rw [← hy])];refine rW (f:=fun z=> { y.toaD with id:=z.id }) ?_ hr;intro _; rfl
theorem Hi (hx:q.L8[n]? =o_ x):({ q with L8:=q.L8.set n x } :af)=q:=by
 have hn:=(Lj.1 hx).1;have e:q.L8.set n x=q.L8:=by
  rw [← (Lj.1 hx).2]; simp
 rw [e]
theorem Fr.again {j:Nat} {v:v_} (h:Fr w M base q0 z { q with L8:=q.L8.set n x } W) (hn:n < q.L8.length) (ha:q.aN=o_ ⟨gs,0,n_⟩) (hy:y.prog=x.prog∧y.aY=x.aY∧y.bH=x.bH) (hj:j < 12) (hv:bg.vals y=(bg.vals x).set j v):
  Fr w M base q0 z ({ q with L8:=q.L8.set n y } :af) (W.setCell ⟨gs,n * 12+j,n_⟩ v)∧(∀ X,w.heap.size≤X→X < M→(W.setCell ⟨gs,n * 12+j,n_⟩ v).heap[X]? =W.heap[X]?)∧(∃ u,W.cell? ⟨gs,n * 12+j,n_⟩=o_ u)∧W.frozen? ⟨gs,n * 12+j,n_⟩=false:=by
 have h1:=h.kB (n:=n) (y:=y) (x:=x) (j:=j) (v:=v) (by show (q.L8.set n x)[n]? =_; rw [LU hn]) ha hy hj hv;simpa only [PV] using h1
end
end
section
open Go.RowKit Go.Maps
attribute [local go_sem ↓] Kc Kd
theorem uy (p:af) (w:w_):k_ J3 63 #[a_ p.cells] w fun e w'=>e=r_ (b_ (decide (p.next≤999999980)))∧B_ w.heap.size w w':=by
 have HB:Hid (av (w.alloc (c_ p.cells 36)) w.heap.size p∧B_ w.heap.size w (w.alloc (c_ p.cells 36))):=⟨Kj _ _,(Kp _ _).alloc (Ki _) _⟩
 unfold af.cells at *;obtain ⟨-,m1,-⟩:=HB.I.1.cells
 go_enter func63,ntmps63
 go_wp2;go_ret;exact ⟨rfl,HB.I.2⟩
theorem cJ.below {w w':w_} {base o:Nat} {S:aZ} (h:cJ w base o S) (hb:B_ w.heap.size w w'):cJ w' base o S:=
 ⟨(hb.block _ (J2.1 h.opn).1).trans h.opn,h.L8.below hb,h.aj.below hb,h.L9.below hb,h.ag.below hb,h.ae.below hb,h.ai.below hb,fun p hp=>Di (h.eI p hp) hb,fun p hp=>Di (h.eE p hp) hb,fun p hp=>Di (h.eR p hp) hb,h.nodup,h.low⟩
theorem St {S:aZ} (h:aQ S.pure) {p:ao × Nat} (hp:p∈S.lp):p.1.prog.length≤1048576:=by
 have h1:=(cK h.L8 p.1.toaD (Lr.2 ⟨p,hp,rfl⟩)).2;simp only [cH,J7] at h1;have h2:=h1.1.1.1.1.1.1.2;unfold jm nq at h2;simp only [decide_eq_true_eq] at h2;omega
end
section
open Go.RowKit
def j9 (o:dN):Array v_:= #[i_ j_ o.1,i_ j_ o.2.1,i_ j_ o.2.2.1,t_ o.2.2.2]
def oo (W:w_) (X:Nat) (o:dN):Prop:=W.heap[X]? =o_ (c_ (j9 o) 40)
theorem oo.cells {W:w_} {X:Nat} {o:dN} (h:oo W X o):W.cell? ⟨X,0,n_⟩=o_ (i_ j_ o.1)∧W.cell? ⟨X,1,n_⟩=o_ (i_ j_ o.2.1)∧W.cell? ⟨X,2,n_⟩=o_ (i_ j_ o.2.2.1)∧W.cell? ⟨X,3,n_⟩=o_ (t_ o.2.2.2):=by
 unfold oo at h;simp [World.cell?,h,j9]
structure Xf (w:w_) (base:Nat) (q0 z q:af) (o:dN) (W:w_):Prop where
 fr:Fr w (w.heap.size+3) base q0 z q W
 op:oo W (w.heap.size+1) o
 an:W.heap[w.heap.size+2]? =o_ (c_ ar 36)
section
variable {w W W2:w_} {base:Nat} {q0 z q q2:af} {o:dN}
theorem Xf.start (h:ap w base q) (hb:base≤w.heap.size):Xf w base q q q o (((w.alloc (c_ q.cells 36)).alloc (c_ (j9 o) 40)).alloc (c_ ar 36)):=by
 have h3:=dR w (c_ q.cells 36) (c_ (j9 o) 40) (c_ ar 36);exact ⟨Fr.start h hb h3.1 (fg _ _ _ _) ⟨by omega,by rw [h3.2.2.2]; omega⟩,h3.2.1,h3.2.2.1⟩
theorem Xf.call (h:Xf w base q0 z q o W) (ht:yr W base q q2 W2):Xf w base q0 z q2 o W2:=by
 have h5:=h.fr.call ht;exact ⟨h5.1,(h5.2 _ (by omega) (by omega)).trans h.op,(h5.2 _ (by omega) (by omega)).trans h.an⟩
theorem Xf.reads (h:Xf w base q0 z q o W) (hb:B_ W.heap.size W W2):Xf w base q0 z q o W2:=by
 have h5:=h.fr.reads hb;exact ⟨h5.1,(h5.2 _ (by omega)).trans h.op,(h5.2 _ (by omega)).trans h.an⟩
theorem Xf.put (h:Xf w base q0 z q o W):Xf w base q0 q q o (W.setRow w.heap.size q.cells):=⟨h.fr.put,(KH _ _ _ _ (by omega)).trans h.op,(KH _ _ _ _ (by omega)).trans h.an⟩
theorem Xf.done (h:Xf w base q0 z q o W) (cs:Array v_):yr w base q0 q (W.setRow (w.heap.size+2) cs):=h.fr.mK (by omega) (by omega) cs
theorem Xf.again {n gs j:Nat} {x y:ao} {v:v_} (h:Xf w base q0 z { q with L8:=q.L8.set n x } o W) (hn:n < q.L8.length) (ha:q.aN=o_ ⟨gs,0,n_⟩) (hy:y.prog=x.prog∧y.aY=x.aY∧y.bH=x.bH) (hj:j < 12) (hv:bg.vals y=(bg.vals x).set j v):
  Xf w base q0 z ({ q with L8:=q.L8.set n y } :af) o (W.setCell ⟨gs,n * 12+j,n_⟩ v)∧(∃ u,W.cell? ⟨gs,n * 12+j,n_⟩=o_ u)∧W.frozen? ⟨gs,n * 12+j,n_⟩=false:=by
 have h5:=h.fr.again hn ha hy hj hv;exact ⟨⟨h5.1,(h5.2.1 _ (by omega) (by omega)).trans h.op,(h5.2.1 _ (by omega) (by omega)).trans h.an⟩,h5.2.2⟩
theorem Xf.low (h:Xf w base q0 z q o W):base≤W.heap.size:=by have:=h.fr.sz; omega
theorem Xf.m2 {gs:Nat} (h:Xf w base q0 z q o W) (ha:z.aN=o_ ⟨gs,0,n_⟩):W.cell? ⟨w.heap.size,2,n_⟩=o_ (s_ (o_ ⟨gs,0,n_⟩) z.L8.length z.aW):=by rw [← ha]; exact h.fr.box.cells.2.2.1
end
end
section
open Go.RowKit Go.Maps
attribute [local go_sem ↓] Kc Kd
theorem sT (q:af) (n base:Nat) (x:ao) (st on wait now:Int) (held:ByteArray) (w:w_) (h:ap w base q) (hb:base≤w.heap.size) (hr:aQ q.pure) (hx:q.L8[n]? =o_ x) (hn:q.next≤1000000000) (eu:0≤now∧now≤1000000000) (hw: -1≤wait∧wait≤1000):
  k_ J3 160 #[a_ q.cells,i_ j_ n,i_ j_ st,i_ j_ on,t_ held,i_ j_ wait,i_ j_ now] w (jH w base q (kC st on held (kZ now wait) x.id q.pure)):=by
 obtain ⟨gs,ha,-⟩:=cn h.at.1 hx;have hnl:n < q.L8.length:=(Lj.1 hx).1;have b1:=dT w (c_ q.cells 36) (c_ ar 36);have h2:=cZ w (c_ q.cells 36) (c_ ar 36);have S:Hid (Fr w (w.heap.size+2) base q q ({ q with L8:=q.L8.set n x } :af) ((w.alloc (c_ q.cells 36)).alloc (c_ ar 36))∧((w.alloc (c_ q.cells 36)).alloc (c_ ar 36)).heap[w.heap.size+1]? =o_ (c_ ar 36)):=⟨by rw [Hi hx]; exact Fr.start h hb h2.1 b1 ⟨by omega,by have:=(J2.1 h2.2).1; omega⟩,h2.2⟩
 have j0:(0:Int)≤(n:Int):=by omega
 have j1:(n:Int) < (q.L8.length:Int):=by omega
 have HR:Hid (aQ q.pure∧(0≤q.next∧q.next≤1000000000)∧q.L8[n]? =o_ x∧n < q.L8.length∧q.aN=o_ ⟨gs,0,n_⟩):=⟨hr,⟨by have h5:=bz.1 hr.next; have:q.pure.next=q.next:=rfl; omega,hn⟩,hx,hnl,ha⟩
 obtain ⟨n0,n1⟩:=eu;obtain ⟨w0,w1⟩:=hw;clear h hb hr hx hn b1 h2 ha hnl
 go_enter func160,ntmps160
 go_upto_region 1 with fail;generalize (w.alloc (c_ q.cells 36)).alloc (c_ ar 36)=A at *;have m:=S.I.1.box.cells.2.2.1;rw [HR.I.2.2.2.2] at m;obtain ⟨s,k,⟨u,c⟩,f⟩:=S.I.1.again (y:= { x with Md:=st }) (j:=3) (v:=i_ j_ st) HR.I.2.2.2.1 HR.I.2.2.2.2 ⟨rfl,rfl,rfl⟩ (by decide) rfl;replace S:=aA (And.intro s ((k _ (by omega) (by omega)).trans S.I.2));clear s k;go_upto_region 2 with fail;generalize A.setCell ⟨gs,n * 12+3,n_⟩ (i_ j_ st)=A at *;clear m c f u;have m:=S.I.1.box.cells.2.2.1;rw [HR.I.2.2.2.2] at m;obtain ⟨s,k,⟨u,c⟩,f⟩:=S.I.1.again (y:= { x with Md:=st,on:=on }) (j:=7) (v:=i_ j_ on) HR.I.2.2.2.1 HR.I.2.2.2.2 ⟨rfl,rfl,rfl⟩ (by decide) rfl;replace S:=aA (And.intro s ((k _ (by omega) (by omega)).trans S.I.2));clear s k;go_upto_region 3 with fail;generalize A.setCell ⟨gs,n * 12+7,n_⟩ (i_ j_ on)=A at *;clear m c f u;have m:=S.I.1.box.cells.2.2.1;rw [HR.I.2.2.2.2] at m;obtain ⟨s,k,⟨u,c⟩,f⟩:=S.I.1.again (y:= { x with Md:=st,on:=on,held:=held }) (j:=8) (v:=t_ held) HR.I.2.2.2.1 HR.I.2.2.2.2 ⟨rfl,rfl,rfl⟩ (by decide) rfl;replace S:=aA (And.intro s ((k _ (by omega) (by omega)).trans S.I.2));clear s k;go_upto_region 4 with fail;generalize A.setCell ⟨gs,n * 12+8,n_⟩ (t_ held)=A at *;clear m c f u;have m:=S.I.1.box.cells.2.2.1;rw [HR.I.2.2.2.2] at m;obtain ⟨s,k,⟨u,c⟩,f⟩:=S.I.1.again (y:= { x with Md:=st,on:=on,held:=held,Mg:= -1 }) (j:=6) (v:=i_ j_ (-1)) HR.I.2.2.2.1 HR.I.2.2.2.2 ⟨rfl,rfl,rfl⟩ (by decide) rfl;replace S:=aA (And.intro s ((k _ (by omega) (by omega)).trans S.I.2));clear s k;go_upto_region 5 with fail;generalize A.setCell ⟨gs,n * 12+6,n_⟩ (i_ j_ (-1))=A at *;clear m c f u;by_cases FN:0≤wait
 ·have af6:decide (wait≥0)=true:=decide_eq_true FN
  have m:=S.I.1.box.cells.2.2.1;rw [HR.I.2.2.2.2] at m;obtain ⟨s,k,⟨u,c⟩,f⟩:=S.I.1.again (y:= { x with Md:=st,on:=on,held:=held,Mg:=now+wait }) (j:=6) (v:=i_ j_ (now+wait)) HR.I.2.2.2.1 HR.I.2.2.2.2 ⟨rfl,rfl,rfl⟩ (by decide) rfl;replace S:=aA (And.intro s ((k _ (by omega) (by omega)).trans S.I.2));clear s k;go_upto_region 7 with fail;generalize A.setCell ⟨gs,n * 12+6,n_⟩ (i_ j_ (now+wait))=A at *;clear m c f u;have hp:({ q with L8:=q.L8.set n { x with Md:=st,on:=on,held:=held,Mg:=now+wait } } :af).pure=_:=g7 (nx:=q.next) (f:=fun y=> { y with Md:=st,on:=on,held:=held,Mg:=now+wait }) HR.I.1.kW HR.I.2.2.1 rfl;have Mb:=oT (n:=n) (x:= { x with Md:=st,on:=on,held:=held,Mg:=now+wait }) S.I.1.own ZcN (us HR.I.1.kW HR.I.2.2.1 rfl) ZdN HR.I.2.1;rw [jd (nx:=q.next),hp] at Mb;have HE:Hid ({ q.pure with next:=q.next+1,L8:=ce x.id (fun y=> { y with RU:=q.next }) (ce x.id (fun y=> { y with Md:=st,on:=on,held:=held,Mg:=now+wait }) q.pure.L8) } =kC st on held (kZ now wait) x.id q.pure):=by show _=kC st on held (kZ now wait) x.id q.pure; rw [pm (by intro _; rfl)]; unfold kZ; rw [if_pos FN]; rfl
  exact G_
 ·have af6:decide (wait≥0)=false:=decide_eq_false FN
  go_upto_region 7 with fail;have hp:({ q with L8:=q.L8.set n { x with Md:=st,on:=on,held:=held,Mg:= -1 } } :af).pure=_:=g7 (nx:=q.next) (f:=fun y=> { y with Md:=st,on:=on,held:=held,Mg:= -1 }) HR.I.1.kW HR.I.2.2.1 rfl;have Mb:=oT (n:=n) (x:= { x with Md:=st,on:=on,held:=held,Mg:= -1 }) S.I.1.own ZcN (us HR.I.1.kW HR.I.2.2.1 rfl) ZdN HR.I.2.1;rw [jd (nx:=q.next),hp] at Mb;have HE:Hid ({ q.pure with next:=q.next+1,L8:=ce x.id (fun y=> { y with RU:=q.next }) (ce x.id (fun y=> { y with Md:=st,on:=on,held:=held,Mg:= -1 }) q.pure.L8) } =kC st on held (kZ now wait) x.id q.pure):=by show _=kC st on held (kZ now wait) x.id q.pure; rw [pm (by intro _; rfl)]; unfold kZ; rw [if_neg FN]; rfl
  exact G_
end
end Go.Proofs.YtgdmbemagdbmaaaGreatDoor
