/- What the proof leans on, part 12. -/
import Derived.Test.YtfncpmaefninjaaGreatDoorOwnS11
import Derived.Deep.CutRange
import Derived.Stop.Asserts
set_option linter.defProp false
set_option linter.unusedVariables false
set_option maxRecDepth 100000
set_option maxHeartbeats 8000000
open Go.Proofs.Tryz
open Go renaming World->w_,Value->v_,Calls->k_,Addr->d_,TypeId->T_,below_setRow->q_
open Go.Ending renaming returned->r_
open Go.IntKind renaming i64->j_
open Go.Obj renaming cells->c_
open Go.RowKit renaming Below->B_
open Go.Value renaming int->i_,slice->s_,bool->b_,string->t_,agg->a_,pointer->p_,tuple->u_
open Option renaming some->o_,none->n_
open Array renaming getElem?_eq_some_iff->J2
open Bool renaming and_eq_true->J7
open Go renaming block_lt_of_cell->Le,frozen_of_row->Ko,heap_alloc_new->Kj,setRow_heap->KU,setRow_other->KH,wpAnyH_done->K3,wpAnyH_ready->KW,wp_at_succ->Kd,wp_at_zero->Kc,wp_load_row->LX,wp_region_held_drew->Kr,wp_store_row->LY
open Go.AllReadyH renaming cons->KX,nil->KY
open Go.IntKind renaming wrap_i64->K8
open Go.Proofs.Tryz renaming prog->J3
open Go.RowKit.Below renaming refl->Kp
open Go.Sem renaming run_bind->QR
open Go.World renaming cell?_of_block->J1
open List renaming getElem_cons_succ->K1,getElem_cons_zero->K0,getElem_toArray->KZ,length_nil->K4,length_set->LI,mem_append->Kg,mem_cons->Kt,mem_cons_of_mem->LB,mem_filterMap->Lq,mem_map->Lr,mem_or_eq_of_mem_set->PO,mem_singleton->KB
open Nat renaming le_refl->Ki,le_trans->LG,zero_add->Li,zero_le->Ky
open Option renaming map_eq_some_iff->Kw

namespace Go.Proofs.YtfncpmaefninjaaGreatDoor
section
open Go.RowKit
attribute [local go_sem ↓] Kc Kd
def agI.more {p q r:aE} {now:Int} {i:Nat} (h:agI now p i q) (hr:hZ q (now+i)=o_ r):agI now p (i+1) r:=by
 refine ⟨?_,agt hr,?_⟩
 .show (agL now p i).bind _=_
  rw [h.is];exact hr
 .unfold hZ at hr
  split at hr
  .rename_i h5
   simp only [J7] at h5
   have:=bz.1 h5.1.2
   exact .inr zo
  .cases hr
end
section
open Go.RowKit
def iR {p p':aE} :((cB p p').getD cN).Small:=by
 unfold cB
 split
 .rename_i h
  simp only [J7] at h;exact ta ((ch _).1 h.2)
 .exact hY
def Qy {p p':aE} {q:af} {M:Int} (h:q.pure=(cB p p').getD cN) (hm:0<=M/\p'.next<=M):0<=M/\q.next<=M:=by
 have e:q.next=((cB p p').getD cN).next:=congrArg aE.next h;refine ⟨hm.1,?_⟩;rw [e];unfold cB
 split
 .exact hm.2
 .exact hm.1
def Sk {p:aE} {q:af} {M now:Int} (h:q.pure=(hZ p now).getD cN) (hm:0<=M/\p.next<=M):0<=M+13/\q.next<=M+13:=by
 have e:q.next=((hZ p now).getD cN).next:=congrArg aE.next h;refine ⟨zo,?_⟩;rw [e];unfold hZ
 split
 .rename_i h
  simp only [J7,decide_eq_true_eq] at h
  have:=(DA ((ch _).1 h.1.1) h.2 (bz.1 h.1.2)).2.2
  show (mS now p).next<=_
  omega
 .show (0:Int)<=_
  omega
def Si {p:aE} {q:af} {M id:Int} (h:q.pure=(kD p id).getD cN) (hm:0<=M/\p.next<=M):0<=M+1/\q.next<=M+1:=by
 have e:q.next=((kD p id).getD cN).next:=congrArg aE.next h;refine ⟨zo,?_⟩;rw [e];unfold kD hU
 repeat' split
 .show p.next+1<=_
  omega
 all_goals show (0:Int)<=_; omega
def wZ {p:aE} {id:Int} (hp:p.Small):((kD p id).getD cN).Small:=by
 unfold kD;refine zJ hp fun h y _ hy=> ?_
 have h2:=IZ h;exact ⟨hy.1,hy.2.1,hy.2.2.1,h2⟩
def ap.S6 {W:w_} {base:Nat} {q:af} (h:ap W base q) (id nx:Int):ap W base { q with id:=id,next:=nx } :=⟨h.L8,h.aj,h.L9,h.ag,h.ae,h.ai,h.eI,h.eE,h.eR,h.nodup⟩
def EV {id:Int} (_h:cv id 1 6=true):(⟨id,1,[],n_,0,[],n_,0,[],n_,0,[],n_,0,[],n_,0,[],n_,0⟩:af).pure.Small:=⟨Ky _,Ky _,Ky _,Ky _,Ky _,Ky _,(fun x hx=>by cases hx),(fun x hx=>by cases hx),(fun x hx=>by cases hx),(fun x hx=>by cases hx),(fun x hx=>by cases hx),(fun x hx=>by cases hx)⟩
def vP: ∀ os:List dN,gO os=fk.flat os
 | [] =>rfl
 | o :: os=>by
  show _=fk.vals o ++ fk.flat os
  rw [<- vP os];rfl
def gG.setRow {r X:Nat} {w W:w_} (h:gG r w W) (hX:w.heap.size<=X) (cs:Array v_):gG r w (W.setRow X cs):=
 ⟨h.os,h.tape,h.output,by simpa using h.size,fun k h1 h2=>(KH _ _ _ _ zo).trans (h.block k h1 h2)⟩
structure S4 (M:Int) (r:Nat) (a:Option d_) (len cap:Nat) (w:w_) (X:Nat) (q:af) (W:w_):Prop where
 rd:Rd r a len cap W
 st:Rd r a len cap w
 but:gG r w W
 own:ap W (w.heap.size+1) q
 nin:X∉q.Mc
 small:q.pure.Small
 low:0<=M/\q.next<=M
 box:av W X q
 mK:W.heap[w.heap.size]? =o_ (c_ ar 31)
 hx:w.heap.size < X
section
variable {r len cap X:Nat} {a:Option d_} {w W W2:w_} {q q2:af} {M M2:Int}
def S4.drawn (h:S4 M r a len cap w X q W) (hb:gG r W W2) (hr:Rd r a len cap W2):S4 M r a len cap w X q W2:=by
 have hl:=h.st.lt;have hx:=h.hx;exact ⟨hr,h.st,h.but.trans hb,h.own.same fun g hg=>hb.block g (h.own.lt g hg).2 ZdL,h.nin,h.small,h.low,(hb.block _ (av.lt h.box) zo).trans h.box,(hb.block _ (J2.1 h.mK).1 zo).trans h.mK,hx⟩
def S4.up (h:S4 M r a len cap w X q W) (hm:M<=M2):S4 M2 r a len cap w X q W:=⟨h.rd,h.st,h.but,h.own,h.nin,h.small,⟨by have:=h.low; omega,by have:=h.low; omega⟩,h.box,h.mK,h.hx⟩
def S4.reads (h:S4 M r a len cap w X q W) (hb:B_ W.heap.size W W2):S4 M r a len cap w X q W2:=h.drawn (gG.dI hb) (h.rd.below hb)
def S4.put (h:S4 M r a len cap w X q W) (hb:B_ W.heap.size W W2) (ho:ap W2 W.heap.size q2) (hs:q2.pure.Small) (hn:0<=M2/\q2.next<=M2):S4 M2 r a len cap w X q2 (W2.setRow X q2.cells):=by
 have h1:=h.reads hb;have hx:=h.hx;have hl:=h.st.lt;have hXW:=av.lt h.box;have hrl:=h1.rd;refine ⟨⟨?_,h.st.2.but (h1.but.setRow zo _)⟩,h.st,h1.but.setRow zo _,(ho.lower zo).same fun g hg=>KH _ _ _ _ (by have:=(ho.lt g hg).1; omega),fun hm=>by have:=(ho.lt X hm).1; omega,hs,hn,KU _ _ _ _ _ _ h1.box,(KH _ _ _ _ zo).trans h1.mK,hx⟩;obtain ⟨p,hp,hc⟩:=hrl.1;exact ⟨p,hp,(KH _ _ _ _ zo).trans hc⟩
def S4.first (hr:Rd r a len cap W) (st:Rd r a len cap w) (hb:gG r w W) (ho:ap W (w.heap.size+1) q) (hs:q.pure.Small) (hn:0<=M/\q.next<=M) (ha:W.heap[w.heap.size]? =o_ (c_ ar 31)):S4 M r a len cap w W.heap.size q ((W.alloc (c_ ar 31)).setRow W.heap.size q.cells):=by
 have hl:=(J2.1 ha).1;have h1:B_ W.heap.size W ((W.alloc (c_ ar 31)).setRow W.heap.size q.cells):=q_ ((Kp _ _).alloc (Ki _) _) (Ki _) _;exact ⟨hr.below h1,st,hb.trans (gG.dI h1),ho.below h1,fun hm=>by have:=(ho.lt _ hm).2; omega,hs,hn,KU _ _ _ _ _ _ (Kj _ _),(h1.block _ hl).trans ha,hl⟩
def S4.fin (h:S4 M r a len cap w X q W) {cs:Array v_} :ap (W.setRow w.heap.size cs) w.heap.size q/\q.pure.Small/\q.next<=M/\gG r w (W.setRow w.heap.size cs)/\Rd r a len cap (W.setRow w.heap.size cs):=by
 have hx:=h.hx;have hl:=h.st.lt;refine ⟨(h.own.lower zo).same fun g hg=>KH _ _ _ _ ZdL,h.small,h.low.2,h.but.setRow (Ki _) _,?_,h.st.2.but (h.but.setRow (Ki _) _)⟩;obtain ⟨p,hp,hc⟩:=h.rd.1;exact ⟨p,hp,(KH _ _ _ _ zo).trans hc⟩
def S4.cell {x y:ao} {gs n j:Nat} {v:v_} (h:S4 M r a len cap w X q W) (hx:q.L8[n]? =o_ x) (ha:q.aN=o_ ⟨gs,0,n_⟩) (hy:y.prog=x.prog/\y.aY=x.aY/\y.bH=x.bH) (hj:j < 12) (hv:bg.vals y=(bg.vals x).set j v) (hs:({ q with L8:=q.L8.set n y } :af).pure.Small):
  S4 M r a len cap w X ({ q with L8:=q.L8.set n y } :af) (W.setCell ⟨gs,n * 12+j,n_⟩ v)/\(∃ u,W.cell? ⟨gs,n * 12+j,n_⟩=o_ u)/\W.frozen? ⟨gs,n * 12+j,n_⟩=false:=by
 obtain ⟨s1,h2⟩:=eY h.own hx ha hy hj hv;have hg:gs∈q.Mc:=tN ha;have hgl:=h.own.lt gs hg;have hl:=h.st.lt;have hb:gG r w (W.setCell ⟨gs,n * 12+j,n_⟩ v):=⟨h.but.os,h.but.tape,h.but.output,by rw [ja]; exact h.but.size,fun k h5 h6=>(aH zo).trans (h.but.block k h5 h6)⟩
 have hne:X≠gs:=fun e=>h.nin (e ▸ hg)
 have hbl:({ q with L8:=q.L8.set n y } :af).Mc=q.Mc:=nT (nx:=q.next) hx hy.2.1;refine ⟨⟨⟨?_,h.st.2.but hb⟩,h.st,hb,s1.own,by rw [hbl]; exact h.nin,hs,h.low,?_,(aH zo).trans h.mK,h.hx⟩,h2⟩
 .obtain ⟨p,hp,hc⟩:=h.rd.1
  exact ⟨p,hp,(aH zo).trans hc⟩
 .have h5:=(aH (i:=n * 12+j) (v:=v) hne).trans h.box
  unfold av at h5 ⊢;simpa only [LI] using h5
def Ao {x:ao} {n:Nat} {v:Int} (h:q.pure.Small) (hx:q.L8[n]? =o_ x) (hv:(Lit.int j_ v).wf=true):({ q with L8:=q.L8.set n { x with RU:=v } } :af).pure.Small:=by
 have hp:=h.L8 x.toaD (iu hx);refine ⟨by have h5:=h.dl; simpa [af.pure] using h5,h.fx,h.cD,h.cC,h.cb,h.dH,fun y hy=> ?_,h.aj,h.L9,h.ag,h.ae,h.ai⟩;obtain ⟨z,hz,rfl⟩:=Lr.1 hy;rcases PO hz with hz | rfl
 .exact h.L8 z.toaD (Lr.2 ⟨z,hz,rfl⟩)
 .exact ⟨hp.1,hp.2.1,hp.2.2.1,hv⟩
def Ax {x:ao} {n:Nat} {v:Int} (h:q.pure.Small) (hx:q.L8[n]? =o_ x):({ q with L8:=q.L8.set n { x with Md:=v } } :af).pure.Small:=by
 have hp:=h.L8 x.toaD (iu hx);refine ⟨by have h5:=h.dl; simpa [af.pure] using h5,h.fx,h.cD,h.cC,h.cb,h.dH,fun y hy=> ?_,h.aj,h.L9,h.ag,h.ae,h.ai⟩;obtain ⟨z,hz,rfl⟩:=Lr.1 hy;rcases PO hz with hz | rfl
 .exact h.L8 z.toaD (Lr.2 ⟨z,hz,rfl⟩)
 .exact ⟨hp.1,hp.2.1,hp.2.2.1,hp.2.2.2⟩
end
end
section
open Go.RowKit Go.Maps
section
variable {w w1:w_} {base o c:Nat} {S:aZ}
def o4.sem {x x':bD} (F:bD->bD) (h:cJ w base o S) (hx:(x,c)∈S.ls) (hb:w1.heap[c]? =o_ (c_ (eH x') 89)) (hF:x'=F x) (hid:x'.id=x.id) (hk:aI w w1 [c]): ∃ S',o4 o base S w S' w1/\S'.pure= { S.pure with aj:=jP (·.id) x.id F S.pure.aj } /\S'.lp=S.lp/\S'.q=S.q:=by
 have hc:c∈S.boxes:=aZ.ahS (LB _ (Lr.2 ⟨_,hx,rfl⟩));have ha:=h.sem hx hb hid fun b hb2 hne=>hk.same b (h.lt b hb2) (by simpa using hne)
 refine ⟨_,⟨ha,hk.mono fun b hb2=> ?_,fun b hb2 _=> ?_⟩,?_,rfl,rfl⟩
 .rw [KB.1 hb2]
  exact aZ.agr hc
 .have e1:({ S with ls:=sU c (fun _=>x') S.ls } :aZ).boxes=S.boxes:=by simp only [aZ.boxes,qb]
  exact ZbV
 .show ({ S.pure with aj:=(sU c (fun _=>x') S.ls).map (·.1) } :aE)=_
  rw [h.aj.ah2 (f:=fun y=>y) (nb:=fun y:bD=>y.id) (F:=F) (fun _=>rfl) hx hF];rfl
def o4.event {x x':aB} (F:aB->aB) (h:cJ w base o S) (hx:(x,c)∈S.le) (hb:w1.heap[c]? =o_ (c_ (cG x') 91)) (hF:x'=F x) (hid:x'.id=x.id) (hk:aI w w1 [c]): ∃ S',o4 o base S w S' w1/\S'.pure= { S.pure with L9:=jP (·.id) x.id F S.pure.L9 } /\S'.lp=S.lp/\S'.q=S.q:=by
 have hc:c∈S.boxes:=aZ.agZ (LB _ (Lr.2 ⟨_,hx,rfl⟩));have ha:=h.event hx hb hid fun b hb2 hne=>hk.same b (h.lt b hb2) (by simpa using hne)
 refine ⟨_,⟨ha,hk.mono fun b hb2=> ?_,fun b hb2 _=> ?_⟩,?_,rfl,rfl⟩
 .rw [KB.1 hb2]
  exact aZ.agr hc
 .have e1:({ S with le:=sU c (fun _=>x') S.le } :aZ).boxes=S.boxes:=by simp only [aZ.boxes,qb]
  exact ZbV
 .show ({ S.pure with L9:=(sU c (fun _=>x') S.le).map (·.1) } :aE)=_
  rw [h.L9.ah2 (f:=fun y=>y) (nb:=fun y:aB=>y.id) (F:=F) (fun _=>rfl) hx hF];rfl
def o4.ajl {x x':az} (F:az->az) (h:cJ w base o S) (hx:(x,c)∈S.lb) (hb:w1.heap[c]? =o_ (c_ (cI x') 93)) (hF:x'=F x) (hid:x'.id=x.id) (hk:aI w w1 [c]): ∃ S',o4 o base S w S' w1/\S'.pure= { S.pure with ag:=jP (·.id) x.id F S.pure.ag } /\S'.lp=S.lp/\S'.q=S.q:=by
 have hc:c∈S.boxes:=aZ.ag0 (LB _ (Lr.2 ⟨_,hx,rfl⟩));have ha:=h.ajl hx hb hid fun b hb2 hne=>hk.same b (h.lt b hb2) (by simpa using hne)
 refine ⟨_,⟨ha,hk.mono fun b hb2=> ?_,fun b hb2 _=> ?_⟩,?_,rfl,rfl⟩
 .rw [KB.1 hb2]
  exact aZ.agr hc
 .have e1:({ S with lb:=sU c (fun _=>x') S.lb } :aZ).boxes=S.boxes:=by simp only [aZ.boxes,qb]
  exact ZbV
 .show ({ S.pure with ag:=(sU c (fun _=>x') S.lb).map (·.1) } :aE)=_
  rw [h.ag.ah2 (f:=fun y=>y) (nb:=fun y:az=>y.id) (F:=F) (fun _=>rfl) hx hF];rfl
def o4.buffer {x x':au} (F:ci->ci) (h:cJ w base o S) (hx:(x,c)∈S.lf) (hb:w1.heap[c]? =o_ (c_ (bQ x') 96)) (hm:aC.cO w1 base x') (hF:x'.toci=F x.toci) (hid:x'.id=x.id) (hk:aI w w1 (c :: blk x.ak)) (hn: ∀ b∈blk x'.ak,b∈blk x.ak\/w.heap.size<=b): ∃ S',o4 o base S w S' w1/\S'.pure= { S.pure with ae:=jP (·.id) x.id F S.pure.ae } /\S'.lp=S.lp/\S'.q=S.q/\(x',c)∈S'.lf:=by
 have hc:c∈S.boxes:=aZ.F9 (LB _ (Lr.2 ⟨_,hx,rfl⟩));have iH: ∀ b∈blk x.ak,b∈S.kids:=fun b hb2=>by
  unfold aZ.kids;simp only [Kg];exact .inr (.inl (Lq.2 ⟨_,hx,fZ.1 hb2⟩))
 have ha:=h.buffer hx hb hm hid (fun b hb2 hne hni=>hk.same b (h.lt b hb2) (by simp [hne,hni])) (fun b hb2=>(hn b hb2).imp_right fun h5 h6=>Nat.not_lt.2 h5 (h.lt b h6));refine ⟨_,⟨ha.1,hk.mono fun b hb2=> ?_,fun b hb2 hl=> ?_⟩,?_,rfl,rfl,show (x',c)∈sU c (fun _=>x') S.lf from yy.2 ⟨(x,c),hx,by simp⟩⟩
 .exact Zb9
 .exact ZbF
 .show ({ S.pure with ae:=(sU c (fun _=>x') S.lf).map (·.1.toci) } :aE)=_
  rw [h.ae.ah2 (f:=fun y:au=>y.toci) (nb:=fun y:ci=>y.id) (F:=F) (fun _=>rfl) hx hF];rfl
def o4.port {x x':aM} (F:dS->dS) (h:cJ w base o S) (hx:(x,c)∈S.lq) (hb:w1.heap[c]? =o_ (c_ (cW x') 115)) (hm:aU.cO w1 base x') (hF:x'.todS=F x.todS) (hid:x'.id=x.id) (hk:aI w w1 (c :: blk x.ak)) (hn: ∀ b∈blk x'.ak,b∈blk x.ak\/w.heap.size<=b): ∃ S',o4 o base S w S' w1/\S'.pure= { S.pure with ai:=jP (·.id) x.id F S.pure.ai } /\S'.lp=S.lp/\S'.q=S.q/\(x',c)∈S'.lq:=by
 have hc:c∈S.boxes:=aZ.agV (LB _ (Lr.2 ⟨_,hx,rfl⟩));have iH: ∀ b∈blk x.ak,b∈S.kids:=fun b hb2=>by
  unfold aZ.kids;simp only [Kg];exact .inr (.inr (Lq.2 ⟨_,hx,fZ.1 hb2⟩))
 have ha:=h.port hx hb hm hid (fun b hb2 hne hni=>hk.same b (h.lt b hb2) (by simp [hne,hni])) (fun b hb2=>(hn b hb2).imp_right fun h5 h6=>Nat.not_lt.2 h5 (h.lt b h6));refine ⟨_,⟨ha.1,hk.mono fun b hb2=> ?_,fun b hb2 hl=> ?_⟩,?_,rfl,rfl,show (x',c)∈sU c (fun _=>x') S.lq from yy.2 ⟨(x,c),hx,by simp⟩⟩
 .exact Zb9
 .exact ZbF
 .show ({ S.pure with ai:=(sU c (fun _=>x') S.lq).map (·.1.todS) } :aE)=_
  rw [h.ai.ah2 (f:=fun y:aM=>y.todS) (nb:=fun y:dS=>y.id) (F:=F) (fun _=>rfl) hx hF];rfl
end
def agz (b:d_):v_:= .iface 287 (p_ (o_ b))
structure Ers (w:w_) (base:Nat) (E:d_ × d_ × d_):Prop where
 past:w.cell? ⟨0,0,n_⟩=o_ (agz E.1)
 non:w.cell? ⟨2,0,n_⟩=o_ (agz E.2.1)
 not:w.cell? ⟨3,0,n_⟩=o_ (agz E.2.2)
 low:4<=base
 ety:w.cell? ⟨1,0,n_⟩=o_ (.iface 250 (a_ #[p_ (o_ ⟨4,187,n_⟩)]))
 bx: ∀ b,b=E.1\/b=E.2.1\/b=E.2.2->b.block < base/\ ∃ cs t,w.heap[b.block]? =o_ (c_ cs t)
 ne:E.1≠E.2.1/\E.1≠E.2.2/\E.2.1≠E.2.2
def Ers.below {w w':w_} {base:Nat} {E:d_ × d_ × d_} (h:Ers w base E) (hb:B_ base w w'):Ers w' base E:=by
 have hl:=h.low;exact ⟨(J1 (hb.block 0 zo)).trans h.past,(J1 (hb.block 2 zo)).trans h.non,(J1 (hb.block 3 zo)).trans h.not,hl,(J1 (hb.block 1 zo)).trans h.ety,fun b h5=>⟨(h.bx b h5).1,by obtain ⟨cs,t,h6⟩:=(h.bx b h5).2; exact ⟨cs,t,(hb.block b.block (h.bx b h5).1).trans h6⟩⟩,h.ne⟩
def aiB (E:d_ × d_ × d_) (c:Int):v_:=if c=0 then .nilIface else if c= -1 then agz E.1 else if c=3 then agz E.2.1 else if c=1 then agz E.2.2 else .iface 192 (a_ #[i_ j_ (c - 10)])
def agG {S:aZ} {g:Nat} {x:ao} {f:ao->ao} {nx:Int} (hx:(x,g)∈S.lp):g∈(S.ju g f nx).lp.map (·.2):=by
 show g∈(sU g f S.lp).map (·.2)
 rw [qb];exact Lr.2 ⟨_,hx,rfl⟩
def agf (E:d_ × d_ × d_) (o base g:Nat) (S:aZ) (r:aE × Int) (w:w_) (e:Ending) (w':w_):Prop:= ∃ S',e=r_ (aiB E r.2)/\o4 o base S w S' w'/\S'.pure=r.1/\(r.2= -1/\g∈S'.lp.map (·.2)\/afU g S S')
structure Job (w:w_) (base o d g:Nat) (E:d_ × d_ × d_) (S:aZ) (x:ao) (op:dN) (now:Int):Prop where
 dg:afb w base o d g S op now
 er:Ers w base E
 hx:(x,g)∈S.lp
 right:aQ S.pure
 up:x.Md=1
 room:S.q.next<=999999990
 ok:kc op=true
 op:op=opAt x.toaD
 now:0<=now/\now<=1000000000
section
variable {w:w_} {base o d g:Nat} {E:d_ × d_ × d_} {S:aZ} {x:ao} {op:dN} {now:Int}
def Job.wk (h:Job w base o d g E S x op now) (st:Int) (hs: ¬ st=0/\ ¬ st=1:=by decide):aij g S st:=
 ⟨h.right,by have:=h.room; omega,hs,fun y hy=>by rw [show y=x from congrArg Prod.fst (h.dg.at'.L8.one hy h.hx rfl)]; exact h.up⟩
def Job.nx (h:Job w base o d g E S x op now):0<=S.q.next/\S.q.next<=1000000000:=(h.wk 2).low
def Job.box (h:Job w base o d g E S x op now):w.heap[g]? =o_ (c_ (aX x) 41):=h.dg.at'.L8.box _ h.hx
def Job.ae9 (h:Job w base o d g E S x op now):o≠g:=(h.dg.at'.apart (aZ.ago (LB _ (Lr.2 ⟨_,h.hx,rfl⟩)))).1
def Job.dg' (h:Job w base o d g E S x op now):d≠g:=fun e=>h.dg.I (e ▸ aZ.agr (aZ.ago (LB _ (Lr.2 ⟨_,h.hx,rfl⟩))))
def Job.below {w1:w_} (h:Job w base o d g E S x op now) (hb:B_ w.heap.size w w1):Job w1 base o d g E S x op now:=
 ⟨h.dg.move (o4.below h.dg.at' hb),h.er.below ((o4.below h.dg.at' hb).cd h.dg.at' h.dg.low),h.hx,h.right,h.up,h.room,h.ok,h.op,h.now⟩
def agf.pre {w1 w2:w_} {S1:aZ} {r:aE × Int} {e:Ending} (h:agf E o base g S1 r w1 e w2) (hm:o4 o base S w S1 w1) (hk:afU g S S1):agf E o base g S r w e w2:=by
 obtain ⟨S',h1,h2,h3,h4⟩:=h;exact ⟨S',h1,hm.trans h2,h3,h4.imp_right fun h5=>hk.trans h5⟩
def agf.same {c:Int} {w1:w_} (h:Job w base o d g E S x op now) (hb:B_ w.heap.size w w1):agf E o base g S (S.pure,c) w (r_ (aiB E c)) w1:=⟨S,rfl,o4.below h.dg.at' hb,rfl,.inr afU.refl⟩
def Job.ju {f:ao->ao} {f':aD->aD} {nx:Int} {w1:w_} (h:Job w base o d g E S x op now) (hf: ∀ y:ao,f y=⟨f' y.toaD,y.aY,y.bH⟩) (hf2: ∀ y,(f' y).id=y.id/\(f' y).prog=y.prog) (hc:w1.heap[g]? =o_ (c_ (aX (f x)) 41)) (ho:fa w1 o { S.q with next:=nx }) (hk:aI w w1 [g,o]):o4 o base S w (S.ju g f nx) w1/\(S.ju g f nx).pure= { S.pure with next:=nx,L8:=ce x.id f' S.pure.L8 } :=by
 refine ⟨o4.ju h.dg.at' (fun y=>by rw [hf y]; exact ⟨(hf2 _).1,(hf2 _).2,rfl,rfl⟩) h.hx hc ho hk,?_⟩;exact aZ.Sb (agv h.right) (fun p hp hpg=>h.dg.at'.L8.one hp h.hx hpg) h.hx (fun y=>by rw [hf y])
end
structure TqS (w0:w_) (L:List (Nat × af)) (B:List (Nat × ao)) (O:List (Nat × dN)) (W:w_):Prop where
 ins: ∀ x∈L,o8 W x.1 w0.heap.size x.2/\x.2.pure.Small/\w0.heap.size<=x.1
 box: ∀ x∈B,W.heap[x.1]? =o_ (c_ (aX x.2) 41)
 row: ∀ x∈B,Row W x.2.aY (fk.flat x.2.prog)
 ops: ∀ x∈O,W.heap[x.1]? =o_ (c_ #[i_ j_ x.2.1,i_ j_ x.2.2.1,i_ j_ x.2.2.2.1,t_ x.2.2.2.2] 45)
 low:B_ w0.heap.size w0 W
section
variable {w0 W A:w_} {L:List (Nat × af)} {B B':List (Nat × ao)} {O:List (Nat × dN)} {p q:af} {x:ao} {o:dN} {X:Nat}
def TqS.good (h:TqS w0 L B O W) {x:Nat × af} (hx:x∈L):x.2.Good W:=uG (h.ins x hx).2.1 (h.ins x hx).1.2
def TqS.below (h:TqS w0 L B O W) (hb:B_ W.heap.size W A):TqS w0 L B O A:=
 ⟨fun x hx=>⟨(h.ins x hx).1.below hb,(h.ins x hx).2⟩,fun y hy=>(hb.block _ (J2.1 (h.box y hy)).1).trans (h.box y hy),fun y hy=>(h.row y hy).below hb,fun y hy=>(hb.block _ (J2.1 (h.ops y hy)).1).trans (h.ops y hy),h.low.trans (hb.mono h.low.size)⟩
def TqS.put (h:TqS w0 L B O W) (hb:B_ W.heap.size W A) (ho:ap A W.heap.size q) (hs:q.pure.Small):TqS w0 ((A.heap.size,q) :: L) B O ((A.alloc (c_ ar 31)).setRow A.heap.size q.cells):=by
 have hz:B_ A.heap.size A ((A.alloc (c_ ar 31)).setRow A.heap.size q.cells):=q_ ((Kp _ _).alloc (Ki _) _) (Ki _) _;have h2:=(h.below hb).below hz;exact ⟨fun x hx=>(Kt.1 hx).elim (fun e=>by rw [e]; exact ⟨⟨KU _ _ _ _ _ _ (Kj _ _),(ho.lower h.low.size).below hz⟩,hs,(h.below hb).low.size⟩) (h2.ins x),h2.box,h2.row,h2.ops,h2.low⟩
def TqS.op (h:TqS w0 L B O W) (hx:(X,o)∈O):W.cell? ⟨X,0,n_⟩=o_ (i_ j_ o.1)/\W.cell? ⟨X,1,n_⟩=o_ (i_ j_ o.2.1):=by
 have h1:=h.ops _ hx;simp only at h1;simp [World.cell?,h1]
end
section
variable {now n k:Int} {p q:aE}
def als.len {R:aD->aD->Prop} {l m:List aD} (h:als R l m):m.length=l.length:=by
 obtain ⟨f,rfl,-⟩:=h;simp
end
end
section
open Go.RowKit Go.Maps
attribute [local go_sem ↓] Kc Kd
def FL (r:Nat) (a:Option d_) (len cap:Nat) (id:Int) (w:w_) (hl:len<=1048576) (hid:cv id 1 6=true) (h:Rd r a len cap w):
  k_ J3 38 #[p_ (o_ ⟨r,0,n_⟩),i_ j_ id] w fun e w'=> ∃ q:af,e=r_ (a_ q.cells)/\ap w' w.heap.size q/\q.pure.Small/\q.next<=4/\gG r w w'/\Rd r a len cap w':=by
 have Mb:=tJ id (w.alloc (c_ ar 31));simp only [hid,if_true,mn] at Mb;have h5:=(Kp w.heap.size w).alloc (Ki _) (c_ ar 31);have S:Hid (Rd r a len cap w/\B_ w.heap.size w (w.alloc (c_ ar 31))/\(w.alloc (c_ ar 31)).heap[w.heap.size]? =o_ (c_ ar 31)/\w.heap.size < (w.alloc (c_ ar 31)).heap.size):=⟨h,h5,Kj _ _,by simp⟩
 clear h h5
 go_enter func38,ntmps38
 go_upto_region 1 with fail;generalize w.alloc (c_ ar 31)=A at *;go_wp2_with fail;refine Mb.mono ?_;clear Mb;rintro e A2 ⟨rfl,hb⟩;have hba:=(Kp A2.heap.size A2).alloc (Ki _) (c_ #[i_ j_ id,i_ j_ 1,s_ n_ 0 0,s_ n_ 0 0,s_ n_ 0 0,s_ n_ 0 0,s_ n_ 0 0,s_ n_ 0 0] 31);have HD:Hid (S4 1 r a len cap w A2.heap.size (⟨id,1,[],n_,0,[],n_,0,[],n_,0,[],n_,0,[],n_,0,[],n_,0⟩:af) (A2.alloc (c_ #[i_ j_ id,i_ j_ 1,s_ n_ 0 0,s_ n_ 0 0,s_ n_ 0 0,s_ n_ 0 0,s_ n_ 0 0,s_ n_ 0 0] 31))):=by
  have hs:=hb.size;have h6:=S.I.2.1.trans ((hb.trans (hba.mono hs)).mono S.I.2.1.size);exact ⟨S.I.1.below h6,S.I.1,gG.dI h6,(Ai (A2.alloc (c_ #[i_ j_ id,i_ j_ 1,s_ n_ 0 0,s_ n_ 0 0,s_ n_ 0 0,s_ n_ 0 0,s_ n_ 0 0,s_ n_ 0 0] 31)) _).S6 id 1,by simp [af.Mc,blk],EV hid,⟨by decide,(by decide:(1:Int)<=1)⟩,Kj _ _,((hb.trans (hba.mono hs)).block _ S.I.2.2.2).trans S.I.2.2.1,by have:=S.I.2.2.2; omega⟩
 clear hba hb S;go_upto_region 2 with fail;generalize A2.alloc (c_ #[i_ j_ id,i_ j_ 1,s_ n_ 0 0,s_ n_ 0 0,s_ n_ 0 0,s_ n_ 0 0,s_ n_ 0 0,s_ n_ 0 0] 31)=B at *;generalize A2.heap.size=X at *;generalize nu:(⟨id,1,[],n_,0,[],n_,0,[],n_,0,[],n_,0,[],n_,0,[],n_,0⟩:af)=q0 at *;clear nu hid;go_wp2_with fail
 go_loopw [7] (fun i wr=> ∃ (k:Int) (q:af),i=i_ j_ k/\1<=k/\k<=3/\Hid (S4 1 r a len cap w X q wr)) (fun i _=>(3 - Go.RowKit.intOf i).toNat)
 case atStart=>exact ⟨1,q0,rfl,zo,zo,HD⟩
 case round=>
  clear HD;obtain ⟨k,q,rfl,k0,k1,HD⟩:=hrel;have hwf:=pT (n:=k) zo zo;have hwf2:=pT (n:=k+2) zo zo;by_cases hk:k<=2
  .skip
   go_upto_region 5 with fail
   go_cut [] from 18 to 30 (fun wx=> ∃ q2:af,Hid (S4 1 r a len cap w X q2 wx))
   case first=>
    replace HD:=aA (HD.I.reads (Kp _ _).drew);refine Kr (S:=fun _=>True) ZcS trivial (fun _=> ?_);generalize World.drew _=V at *;refine tt 1 trivial ?_;refine tt 2 trivial ?_;refine tt 4 trivial ?_;refine KW (rs:= [0,3]) ZcS zw ?_;refine KX rfl (fun K hK=> ?_) (KX rfl (fun K hK=> ?_) KY)
    focus
     simp only [KZ,K0];rw [if_pos (by rfl)];refine LX 31 (.tmp 5) rfl X rfl 31 q.cells (0,0) _ HD.I.box underlying31 rfl ZcS ?_;refine hK.out _ _ trivial (fun _=> ?_);clear hK K
     try simp only [pt,sb,s0,s1]
     refine L7 3 (fun K hK=> ?_);go_wp2_with fail;refine (dh r a len cap 2 _ hl zo zo HD.I.rd).mono ?_;rintro e W1 ⟨u,ua,ub,rfl,hb1,hr1⟩;replace HD:=aA (HD.I.drawn hb1 hr1);clear hb1 hr1;refine hK.out _ _ trivial (fun _=> ?_);clear hK K
     try simp only [pt,sb,s0,s1]
     refine L7 5 (fun K hK=> ?_);go_wp2_with fail;refine (dh r a len cap 2 _ hl zo zo HD.I.rd).mono ?_;rintro e W2 ⟨v,va,vb,rfl,hb1,hr1⟩;replace HD:=aA (HD.I.drawn hb1 hr1);clear hb1 hr1;refine hK.out _ _ trivial (fun _=> ?_);clear hK K
     try simp only [pt,sb,s0,s1]
     refine tt 6 trivial ?_;refine tt 7 trivial ?_
    rotate_left
    focus
     simp only [KZ,K0,K1];rw [if_pos (by rfl)];go_wp2_with fail;refine (dh r a len cap 2 _ hl zo zo HD.I.rd).mono ?_;rintro e W1 ⟨u,ua,ub,rfl,hb1,hr1⟩;replace HD:=aA (HD.I.drawn hb1 hr1);clear hb1 hr1;refine hK.out _ _ trivial (fun _=> ?_);clear hK K
     try simp only [pt,sb,s0,s1]
     refine KW (rs:= [0,5]) ZcS zw ?_;refine KX rfl (fun K hK=> ?_) (KX rfl (fun K hK=> ?_) KY)
     focus
      simp only [KZ,K0];rw [if_pos (by rfl)];refine LX 31 (.tmp 5) rfl X rfl 31 q.cells (0,0) _ HD.I.box underlying31 rfl ZcS ?_;refine hK.out _ _ trivial (fun _=> ?_);clear hK K
      try simp only [pt,sb,s0,s1]
      refine L7 5 (fun K hK=> ?_);go_wp2_with fail;refine (dh r a len cap 2 _ hl zo zo HD.I.rd).mono ?_;rintro e W2 ⟨v,va,vb,rfl,hb1,hr1⟩;replace HD:=aA (HD.I.drawn hb1 hr1);clear hb1 hr1;refine hK.out _ _ trivial (fun _=> ?_);clear hK K
      try simp only [pt,sb,s0,s1]
      refine tt 6 trivial ?_;refine tt 7 trivial ?_
     rotate_left
     focus
      simp only [KZ,K0,K1];rw [if_pos (by rfl)];go_wp2_with fail;refine (dh r a len cap 2 _ hl zo zo HD.I.rd).mono ?_;rintro e W2 ⟨v,va,vb,rfl,hb1,hr1⟩;replace HD:=aA (HD.I.drawn hb1 hr1);clear hb1 hr1;refine hK.out _ _ trivial (fun _=> ?_);clear hK K
      try simp only [pt,sb,s0,s1]
      refine tt 6 trivial ?_;refine tt 7 trivial ?_;refine L7 0 (fun K hK=> ?_);refine LX 31 (.tmp 5) rfl X rfl 31 q.cells (0,0) _ HD.I.box underlying31 rfl (by kernel_rfl) ?_;refine hK.out _ _ trivial (fun _=> ?_);clear hK K
      try simp only [pt,sb,s0,s1]
    all_goals
     refine L7 8 (fun K hK=> ?_);go_wp2_with fail;refine (tF q ⟨k,u,_⟩ W2 (w.heap.size+1) hwf HD.I.small HD.I.own).mono ?_;rintro e el ⟨q2,rfl,ho,hp,hb⟩;have HB:=aA ((HD.I.reads hb).box);replace HD:=aA (HD.I.put hb ho Zdk (Qy hp HD.I.low));clear hb ho hp;refine hK.out _ _ trivial (fun _=> ?_);clear hK K;refine tt 9 trivial ?_;refine tt 10 trivial ?_;refine tt 11 trivial ?_;refine L7 12 (fun K hK=> ?_);refine LY 31 (.tmp 5) (.tmp 28) rfl X q2.cells rfl rfl _ _ HB.I ZcS rfl ZcS ?_;refine hK.out _ _ trivial (fun _=> ?_);clear hK K;refine K3 ZcS ?_ _;clear HB;go_wp2_with fail;go_meet;exact ⟨q2,HD⟩
   case rest=>
    clear HD;obtain ⟨ajQ,qP⟩: ∃ ajQ:af,ajQ=q:=⟨_,rfl⟩
    subst qP;obtain ⟨q,HD⟩:=hcut;have Mb:=rz q k _ (w.heap.size+1) hwf HD.I.small HD.I.own;go_wp2_with (refine eT 5 HD.I.box ?_);refine Mb.mono ?_;clear Mb;rintro e Wb1 ⟨q2,rfl,ho,hp,hb⟩;have HB:=aA ((HD.I.reads hb).box);replace HD:=aA (HD.I.put hb ho Zdk (Qy hp HD.I.low));clear hb ho hp;go_upto_region 7 with (refine ec 5 34 q2.cells HB.I ?_);generalize Wb1.setRow X q2.cells=Wc1 at *;clear HB;obtain ⟨ajQ,qP⟩: ∃ ajQ:af,ajQ=q:=⟨_,rfl⟩
    subst qP;obtain ⟨q,qP⟩: ∃ q:af,q=q2:=⟨_,rfl⟩
    subst qP;have Mb:=ra q k _ (w.heap.size+1) hwf HD.I.small HD.I.own;go_wp2_with (refine eT 5 HD.I.box ?_);refine Mb.mono ?_;clear Mb;rintro e Wb2 ⟨q2,rfl,ho,hp,hb⟩;have HB:=aA ((HD.I.reads hb).box);replace HD:=aA (HD.I.put hb ho Zdk (Qy hp HD.I.low));clear hb ho hp;go_upto_region 8 with (refine ec 5 40 q2.cells HB.I ?_);generalize Wb2.setRow X q2.cells=Wc2 at *;clear HB;obtain ⟨ajQ,qP⟩: ∃ ajQ:af,ajQ=q:=⟨_,rfl⟩
    subst qP;obtain ⟨q,qP⟩: ∃ q:af,q=q2:=⟨_,rfl⟩
    subst qP;go_upto_region 8 with fail;simp only [aaH]
    go_cut [] from 42 to 51 (fun wx=> ∃ q2:af,Hid (S4 1 r a len cap w X q2 wx))
    case first=>
     replace HD:=aA (HD.I.reads (Kp _ _).drew);refine Kr (S:=fun _=>True) ZcS trivial (fun _=> ?_);generalize World.drew _=V at *;refine tt 1 trivial ?_;refine tt 2 trivial ?_;refine KW (rs:= [0,3]) ZcS zw ?_;refine KX rfl (fun K hK=> ?_) (KX rfl (fun K hK=> ?_) KY)
     focus
      simp only [KZ,K0];rw [if_pos (by rfl)];refine LX 31 (.tmp 5) rfl X rfl 31 q.cells (0,0) _ HD.I.box underlying31 rfl ZcS ?_;refine hK.out _ _ trivial (fun _=> ?_);clear hK K
      try simp only [pt,sb,s0,s1]
      refine L7 3 (fun K hK=> ?_);go_wp2_with fail;refine (dh r a len cap 2 _ hl zo zo HD.I.rd).mono ?_;rintro e W2 ⟨u,ua,ub,rfl,hb1,hr1⟩;replace HD:=aA (HD.I.drawn hb1 hr1);clear hb1 hr1;refine hK.out _ _ trivial (fun _=> ?_);clear hK K
      try simp only [pt,sb,s0,s1]
      refine tt 4 trivial ?_
     rotate_left
     focus
      simp only [KZ,K0,K1];rw [if_pos (by rfl)];go_wp2_with fail;refine (dh r a len cap 2 _ hl zo zo HD.I.rd).mono ?_;rintro e W2 ⟨u,ua,ub,rfl,hb1,hr1⟩;replace HD:=aA (HD.I.drawn hb1 hr1);clear hb1 hr1;refine hK.out _ _ trivial (fun _=> ?_);clear hK K
      try simp only [pt,sb,s0,s1]
      refine tt 4 trivial ?_;refine L7 0 (fun K hK=> ?_);refine LX 31 (.tmp 5) rfl X rfl 31 q.cells (0,0) _ HD.I.box underlying31 rfl ZcS ?_;refine hK.out _ _ trivial (fun _=> ?_);clear hK K
      try simp only [pt,sb,s0,s1]
     all_goals
      refine L7 5 (fun K hK=> ?_);go_wp2_with fail;refine (qh q k _ W2 (w.heap.size+1) hwf HD.I.small HD.I.own).mono ?_;rintro e el ⟨q2,rfl,ho,hp,hb⟩;have HB:=aA ((HD.I.reads hb).box);replace HD:=aA (HD.I.put hb ho Zdk (Qy hp HD.I.low));clear hb ho hp;refine hK.out _ _ trivial (fun _=> ?_);clear hK K;refine tt 6 trivial ?_;refine tt 7 trivial ?_;refine tt 8 trivial ?_;refine L7 9 (fun K hK=> ?_);refine LY 31 (.tmp 5) (.tmp 49) rfl X q2.cells rfl rfl _ _ HB.I ZcS rfl ZcS ?_;refine hK.out _ _ trivial (fun _=> ?_);clear hK K;refine K3 ZcS ?_ _;clear HB;go_wp2_with fail;go_meet;exact ⟨q2,HD⟩
    case rest=>
     clear HD;obtain ⟨ajQ,qP⟩: ∃ ajQ:af,ajQ=q:=⟨_,rfl⟩
     subst qP;obtain ⟨q,HD⟩:=hcut;have Mb:=nd q ⟨⟨k,k == 1,true,2,[]⟩,n_,0⟩ _ (w.heap.size+1) hwf HD.I.small HD.I.own;go_wp2_with (refine eT 5 HD.I.box ?_);refine Mb.mono ?_;clear Mb;rintro e Wb3 ⟨q2,rfl,ho,hp,hb⟩;have HB:=aA ((HD.I.reads hb).box);replace HD:=aA (HD.I.put hb ho Zdk (Qy hp HD.I.low));clear hb ho hp;go_upto_region 10 with (refine ec 5 58 q2.cells HB.I ?_);generalize Wb3.setRow X q2.cells=Wc3 at *;clear HB;obtain ⟨ajQ,qP⟩: ∃ ajQ:af,ajQ=q:=⟨_,rfl⟩
     subst qP;obtain ⟨q,qP⟩: ∃ q:af,q=q2:=⟨_,rfl⟩
     subst qP;have e2:IntKind.wrap j_ (k+2)=k+2:=by rw [K8]; omega
     have Mb:=nd q ⟨⟨k+2,k == 1,false,1,[]⟩,n_,0⟩ _ (w.heap.size+1) hwf2 HD.I.small HD.I.own;go_wp2_with (refine eT 5 HD.I.box ?_);refine Mb.mono ?_;clear Mb;rintro e Wb4 ⟨q2,rfl,ho,hp,hb⟩;have HB:=aA ((HD.I.reads hb).box);replace HD:=aA (HD.I.put hb ho Zdk (Qy hp HD.I.low));clear hb ho hp;go_upto_region 4 with (refine ec 5 68 q2.cells HB.I ?_);generalize Wb4.setRow X q2.cells=Wc4 at *;clear HB;obtain ⟨ajQ,qP⟩: ∃ ajQ:af,ajQ=q:=⟨_,rfl⟩
     subst qP;obtain ⟨q,qP⟩: ∃ q:af,q=q2:=⟨_,rfl⟩
     subst qP;have e3:IntKind.wrap j_ (k+1)=k+1:=by rw [K8]; omega
     go_wp2_with fail;go_roundw
     case rel=>exact ⟨k+1,q,rfl,zo,zo,HD⟩
     case measure=>simp [Go.RowKit.intOf]; omega
  clear hwf hwf2;go_wp2_with fail;refine (dh r a len cap 3 _ hl zo zo HD.I.rd).mono ?_;rintro e W1 ⟨u,ua,ub,rfl,hb1,hr1⟩;replace HD:=aA (HD.I.drawn hb1 hr1);clear hb1 hr1;have e1:IntKind.wrap j_ (1+u)=1+u:=by rw [K8]; omega
  go_wp2_with fail
  go_loopw [8] (fun i wr=> ∃ (k:Int) (q:af),i=i_ j_ k/\0<=k/\k<=3/\Hid (S4 (4 - k) r a len cap w X q wr)) (fun i _=>(Go.RowKit.intOf i).toNat)
  case atStart=>exact ⟨1+u,q,rfl,zo,zo,aA (HD.I.up zo)⟩
  case round=>
   clear HD;obtain ⟨ajQ,qP⟩: ∃ ajQ:af,ajQ=q:=⟨_,rfl⟩
   subst qP;obtain ⟨u7,hko⟩: ∃ u7:Int,u7=k:=⟨_,rfl⟩
   subst hko;obtain ⟨k,q,rfl,u5,kt,HD⟩:=hrel;have hwf:=pT (n:=k) zo zo;by_cases hk2:0 < k
   .skip
    go_upto_region 14 with fail
    go_cut [] from 77 to 88 (fun wx=> ∃ q2:af,Hid (S4 (4 - k) r a len cap w X q2 wx))
    case first=>
     replace HD:=aA (HD.I.reads (Kp _ _).drew);refine Kr (S:=fun _=>True) ZcS trivial (fun _=> ?_);generalize World.drew _=V at *;refine tt 1 trivial ?_;refine tt 2 trivial ?_;refine tt 5 trivial ?_;refine KW (rs:= [0,3]) ZcS zw ?_;refine KX rfl (fun K hK=> ?_) (KX rfl (fun K hK=> ?_) KY)
     focus
      simp only [KZ,K0];rw [if_pos (by rfl)];refine LX 31 (.tmp 5) rfl X rfl 31 q.cells (0,0) _ HD.I.box underlying31 rfl ZcS ?_;refine hK.out _ _ trivial (fun _=> ?_);clear hK K
      try simp only [pt,sb,s0,s1]
      refine L7 3 (fun K hK=> ?_);go_wp2_with fail;refine (dh r a len cap 3 _ hl zo zo HD.I.rd).mono ?_;rintro e W3 ⟨v,va,vb,rfl,hb1,hr1⟩;replace HD:=aA (HD.I.drawn hb1 hr1);clear hb1 hr1;refine hK.out _ _ trivial (fun _=> ?_);clear hK K
      try simp only [pt,sb,s0,s1]
      refine tt 4 trivial ?_;refine L7 6 (fun K hK=> ?_);go_wp2_with fail;refine (uz r a len cap _ hl HD.I.rd).mono ?_;rintro e W2 ⟨g,c,os,rfl,hos,hpg⟩;have HPG:=aA (And.intro hos hpg);replace HD:=aA (HD.I.drawn hpg.but hpg.rd);clear hos hpg;refine hK.out _ _ trivial (fun _=> ?_);clear hK K
      try simp only [pt,sb,s0,s1]
     rotate_left
     focus
      simp only [KZ,K0,K1];rw [if_pos (by rfl)];go_wp2_with fail;refine (dh r a len cap 3 _ hl zo zo HD.I.rd).mono ?_;rintro e W3 ⟨v,va,vb,rfl,hb1,hr1⟩;replace HD:=aA (HD.I.drawn hb1 hr1);clear hb1 hr1;refine hK.out _ _ trivial (fun _=> ?_);clear hK K
      try simp only [pt,sb,s0,s1]
      refine tt 4 trivial ?_;refine KW (rs:= [0,6]) ZcS zw ?_;refine KX rfl (fun K hK=> ?_) (KX rfl (fun K hK=> ?_) KY)
      focus
       simp only [KZ,K0];rw [if_pos (by rfl)];refine LX 31 (.tmp 5) rfl X rfl 31 q.cells (0,0) _ HD.I.box underlying31 rfl ZcS ?_;refine hK.out _ _ trivial (fun _=> ?_);clear hK K
       try simp only [pt,sb,s0,s1]
       refine L7 6 (fun K hK=> ?_);go_wp2_with fail;refine (uz r a len cap _ hl HD.I.rd).mono ?_;rintro e W2 ⟨g,c,os,rfl,hos,hpg⟩;have HPG:=aA (And.intro hos hpg);replace HD:=aA (HD.I.drawn hpg.but hpg.rd);clear hos hpg;refine hK.out _ _ trivial (fun _=> ?_);clear hK K
       try simp only [pt,sb,s0,s1]
      rotate_left
      focus
       simp only [KZ,K0,K1];rw [if_pos (by rfl)];go_wp2_with fail;refine (uz r a len cap _ hl HD.I.rd).mono ?_;rintro e W2 ⟨g,c,os,rfl,hos,hpg⟩;have HPG:=aA (And.intro hos hpg);replace HD:=aA (HD.I.drawn hpg.but hpg.rd);clear hos hpg;refine hK.out _ _ trivial (fun _=> ?_);clear hK K
       try simp only [pt,sb,s0,s1]
       refine L7 0 (fun K hK=> ?_);refine LX 31 (.tmp 5) rfl X rfl 31 q.cells (0,0) _ HD.I.box underlying31 rfl (by kernel_rfl) ?_;refine hK.out _ _ trivial (fun _=> ?_);clear hK K
       try simp only [pt,sb,s0,s1]
     all_goals
      refine L7 7 (fun K hK=> ?_);go_wp2_with fail;refine (sB q k _ (o_ ⟨g,0,n_⟩) os c W2 (w.heap.size+1) hwf ⟨by have:=HPG.I.1; omega,fun o ho=>by have:=HPG.I.2.sz o ho; omega⟩ (by rw [<- vP]; exact nP HPG.I.2.own) HD.I.small HD.I.own).mono ?_;rintro e el ⟨q2,rfl,ho,hp,hb⟩;have HB:=aA ((HD.I.reads hb).box);replace HD:=aA (HD.I.put hb ho Zdk (Qy hp HD.I.low));clear hb ho hp;refine hK.out _ _ trivial (fun _=> ?_);clear hK K;refine tt 8 trivial ?_;refine tt 9 trivial ?_;refine tt 10 trivial ?_;refine L7 11 (fun K hK=> ?_);refine LY 31 (.tmp 5) (.tmp 86) rfl X q2.cells rfl rfl _ _ HB.I ZcS rfl ZcS ?_;refine hK.out _ _ trivial (fun _=> ?_);clear hK K;refine K3 ZcS ?_ _;clear HB;go_wp2_with fail;go_meet;exact ⟨q2,HD⟩
    case rest=>
     clear HD;obtain ⟨ajQ,qP⟩: ∃ ajQ:af,ajQ=q:=⟨_,rfl⟩
     subst qP;obtain ⟨q,HD⟩:=hcut;go_wp2_with fail;refine (jt r a len cap 3 _ hl zo zo HD.I.rd).mono ?_;rintro e W4 ⟨b,rfl,hb1,hr1⟩;replace HD:=aA (HD.I.drawn hb1 hr1);clear hb1 hr1;have e3:IntKind.wrap j_ (k - 1)=k - 1:=by rw [K8]; omega
     cases b
     .skip
      have Mb:=tK q k W4 (dV HD.I.small) (fun x hx=>(cY HD.I.small hx).1) HD.I.own.at;go_wp2_with (refine eT 5 HD.I.box ?_);refine Mb.mono ?_;clear Mb;rintro e Wb5 ⟨q2,rfl,ho,hp,hb⟩;have HB:=aA ((HD.I.reads hb).box);replace HD:=aA (HD.I.put hb ho (by rw [hp]; exact wZ HD.I.small) (Si hp HD.I.low));clear hb ho hp;go_upto_region 13 with (refine ec 5 95 q2.cells HB.I ?_);generalize Wb5.setRow X q2.cells=Wc5 at *;clear HB;obtain ⟨ajQ,qP⟩: ∃ ajQ:af,ajQ=q:=⟨_,rfl⟩
      subst qP;obtain ⟨q,qP⟩: ∃ q:af,q=q2:=⟨_,rfl⟩
      subst qP;go_wp2_with fail;exact Zbj
     .go_wp2_with fail
      exact Zbj
   go_wp2_with (first | (refine eT 5 HD.I.box ?_) | (refine ec 4 97 q.cells HD.I.mK ?_));refine gZ results38 HD.I.mK ?_;exact ⟨q,rfl,(HD.I.up zo).fin⟩
variable {w:w_} {base o d g H fn b:Nat} {E:d_ × d_ × d_} {S:aZ} {x:ao} {op:dN} {now m n:Int}
abbrev agn (fn d:Nat):v_:= .func (.func fn) #[p_ (o_ ⟨d,0,n_⟩)] #[]
abbrev ahD (H:Nat):Array v_:= #[p_ (o_ ⟨H,0,n_⟩),p_ (o_ ⟨H+1,0,n_⟩),p_ (o_ ⟨H+1+1,0,n_⟩)]
structure ag1 (w:w_) (H b:Nat) (n:Int) (v:v_):Prop where
 sh:w.cell? ⟨H,1,n_⟩=o_ (.map (o_ b))
 id:w.cell? ⟨H+1,0,n_⟩=o_ (i_ j_ n)
 fn:w.cell? ⟨H+1+1,0,n_⟩=o_ v
abbrev wbW (w:w_) (m n:Int) (b:Nat) (v:v_) (t1 t2 t3:T_):w_:=((w.alloc (c_ #[i_ j_ m,.map (o_ b)] t1)).alloc (c_ #[i_ j_ n] t2)).alloc (c_ #[v] t3)
def agm (w:w_) (m n:Int) (b:Nat) (v:v_) (t1 t2 t3:T_):ag1 (wbW w m n b v t1 t2 t3) w.heap.size b n v/\B_ w.heap.size w (wbW w m n b v t1 t2 t3):=by
 refine ⟨⟨?_,?_,?_⟩,(((Kp _ _).alloc (Ki _) _).alloc zw _).alloc ZcT _⟩
 .rw [World.cell?_alloc_lt _ _ _ ZcT,World.cell?_alloc_lt _ _ _ zw,World.cell?_alloc_at _ _ _ _ zw]
  rfl
 .rw [World.cell?_alloc_lt _ _ _ zw,World.cell?_alloc_at _ _ _ _ zw]
  rfl
 .rw [World.cell?_alloc_at _ _ _ _ zw]
  rfl
def ahV:k_ J3 146 #[a_ #[i_ j_ m,.map (o_ b)],i_ j_ n,agn fn d] w fun e w'=>e=r_ (.func (.func 183) #[] (ahD w.heap.size))/\w'=wbW w m n b (agn fn d) 72 2 215:=by
 go_enter func146,ntmps146
 go_wp2;go_ret;exact ⟨rfl,rfl⟩
def ahF {f:bD->aE × Int} (J:Job w base o d g E S x op now) (hB:ag1 w H S.q.bs op.2.1 (agn fn d)) (hk: ¬ op.1=17) (hF: ∀ args W,(callFunc fn args).run J3 W= .ok (.enter fn args) W) (hX: ∀ s c,(s,c)∈S.ls->s.id=op.2.1->k_ J3 fn #[p_ (o_ ⟨d,0,n_⟩),p_ (o_ ⟨c,0,n_⟩)] w fun e w'=>agf E o base g S (f s) w e w'):
  k_ J3 183 (ahD H) w fun e w'=>agf E o base g S (agh S.pure (cg (·.id) op.2.1 S.pure.aj) f) w e w':=by
 obtain ⟨c1,c2,c3⟩:=hB;have gn:=J.er.non;have hlk:=J.dg.at'.aj.map.look underlying70 ZcS (xX (bz.2 ((dv J.ok).2.1 hk))) true;have HJ:=aA J;rcases agQ (l:=S.ls) (num:=fun x:bD=>x.id) (f:=fun x:bD=>x) (nb:=fun y:bD=>y.id) (fun _=>rfl) op.2.1 with ⟨h1,h2⟩ | ⟨s,c,h3,h4,h1,h2⟩
 .have h2:cg (·.id) op.2.1 S.pure.aj=n_:=h2
  rw [h1] at hlk;rw [h2];clear h1 h2 hX J hF;simp only [agh]
  go_enter func183,ntmps183
  exact Zaa
 .have h2:cg (·.id) op.2.1 S.pure.aj=o_ s:=h2
  rw [h1] at hlk;rw [h2];simp only [qz,dt] at hlk;have HX:=aA (hX s c h3 h4);clear h1 h2 h3 h4 hX J gn;simp only [agh]
  go_enter func183,ntmps183
  exact ue
def ag3:k_ J3 149 #[a_ #[i_ j_ m,.map (o_ b)],i_ j_ n,agn fn d] w fun e w'=>e=r_ (.func (.func 185) #[] (ahD w.heap.size))/\w'=wbW w m n b (agn fn d) 75 2 217:=by
 go_enter func149,ntmps149
 go_wp2;go_ret;exact ⟨rfl,rfl⟩
def agY {f:aB->aE × Int} (J:Job w base o d g E S x op now) (hB:ag1 w H S.q.be op.2.1 (agn fn d)) (hk: ¬ op.1=17) (hF: ∀ args W,(callFunc fn args).run J3 W= .ok (.enter fn args) W) (hX: ∀ s c,(s,c)∈S.le->s.id=op.2.1->k_ J3 fn #[p_ (o_ ⟨d,0,n_⟩),p_ (o_ ⟨c,0,n_⟩)] w fun e w'=>agf E o base g S (f s) w e w'):
  k_ J3 185 (ahD H) w fun e w'=>agf E o base g S (agh S.pure (cg (·.id) op.2.1 S.pure.L9) f) w e w':=by
 obtain ⟨c1,c2,c3⟩:=hB;have gn:=J.er.non;have hlk:=J.dg.at'.L9.map.look underlying73 ZcS (xX (bz.2 ((dv J.ok).2.1 hk))) true;have HJ:=aA J;rcases agQ (l:=S.le) (num:=fun x:aB=>x.id) (f:=fun x:aB=>x) (nb:=fun y:aB=>y.id) (fun _=>rfl) op.2.1 with ⟨h1,h2⟩ | ⟨s,c,h3,h4,h1,h2⟩
 .have h2:cg (·.id) op.2.1 S.pure.L9=n_:=h2
  rw [h1] at hlk;rw [h2];clear h1 h2 hX J hF;simp only [agh]
  go_enter func185,ntmps185
  exact Zaa
 .have h2:cg (·.id) op.2.1 S.pure.L9=o_ s:=h2
  rw [h1] at hlk;rw [h2];simp only [qz,dt] at hlk;have HX:=aA (hX s c h3 h4);clear h1 h2 h3 h4 hX J gn;simp only [agh]
  go_enter func185,ntmps185
  exact ue
def ag2:k_ J3 156 #[a_ #[i_ j_ m,.map (o_ b)],i_ j_ n,agn fn d] w fun e w'=>e=r_ (.func (.func 191) #[] (ahD w.heap.size))/\w'=wbW w m n b (agn fn d) 78 2 221:=by
 go_enter func156,ntmps156
 go_wp2;go_ret;exact ⟨rfl,rfl⟩
def agX {f:az->aE × Int} (J:Job w base o d g E S x op now) (hB:ag1 w H S.q.bb op.2.1 (agn fn d)) (hk: ¬ op.1=17) (hF: ∀ args W,(callFunc fn args).run J3 W= .ok (.enter fn args) W) (hX: ∀ s c,(s,c)∈S.lb->s.id=op.2.1->k_ J3 fn #[p_ (o_ ⟨d,0,n_⟩),p_ (o_ ⟨c,0,n_⟩)] w fun e w'=>agf E o base g S (f s) w e w'):
  k_ J3 191 (ahD H) w fun e w'=>agf E o base g S (agh S.pure (cg (·.id) op.2.1 S.pure.ag) f) w e w':=by
 obtain ⟨c1,c2,c3⟩:=hB;have gn:=J.er.non;have hlk:=J.dg.at'.ag.map.look underlying76 ZcS (xX (bz.2 ((dv J.ok).2.1 hk))) true;have HJ:=aA J;rcases agQ (l:=S.lb) (num:=fun x:az=>x.id) (f:=fun x:az=>x) (nb:=fun y:az=>y.id) (fun _=>rfl) op.2.1 with ⟨h1,h2⟩ | ⟨s,c,h3,h4,h1,h2⟩
 .have h2:cg (·.id) op.2.1 S.pure.ag=n_:=h2
  rw [h1] at hlk;rw [h2];clear h1 h2 hX J hF;simp only [agh]
  go_enter func191,ntmps191
  exact Zaa
 .have h2:cg (·.id) op.2.1 S.pure.ag=o_ s:=h2
  rw [h1] at hlk;rw [h2];simp only [qz,dt] at hlk;have HX:=aA (hX s c h3 h4);clear h1 h2 h3 h4 hX J gn;simp only [agh]
  go_enter func191,ntmps191
  exact ue
def ahj:k_ J3 153 #[a_ #[i_ j_ m,.map (o_ b)],i_ j_ n,agn fn d] w fun e w'=>e=r_ (.func (.func 186) #[] (ahD w.heap.size))/\w'=wbW w m n b (agn fn d) 81 2 219:=by
 go_enter func153,ntmps153
 go_wp2;go_ret;exact ⟨rfl,rfl⟩
def ahb {f:ci->aE × Int} (J:Job w base o d g E S x op now) (hB:ag1 w H S.q.bf op.2.1 (agn fn d)) (hk: ¬ op.1=17) (hF: ∀ args W,(callFunc fn args).run J3 W= .ok (.enter fn args) W) (hX: ∀ s c,(s,c)∈S.lf->s.id=op.2.1->k_ J3 fn #[p_ (o_ ⟨d,0,n_⟩),p_ (o_ ⟨c,0,n_⟩)] w fun e w'=>agf E o base g S (f s.toci) w e w'):
  k_ J3 186 (ahD H) w fun e w'=>agf E o base g S (agh S.pure (cg (·.id) op.2.1 S.pure.ae) f) w e w':=by
 obtain ⟨c1,c2,c3⟩:=hB;have gn:=J.er.non;have hlk:=J.dg.at'.ae.map.look underlying79 ZcS (xX (bz.2 ((dv J.ok).2.1 hk))) true;have HJ:=aA J;rcases agQ (l:=S.lf) (num:=fun x:au=>x.id) (f:=fun x:au=>x.toci) (nb:=fun y:ci=>y.id) (fun _=>rfl) op.2.1 with ⟨h1,h2⟩ | ⟨s,c,h3,h4,h1,h2⟩
 .have h2:cg (·.id) op.2.1 S.pure.ae=n_:=h2
  rw [h1] at hlk;rw [h2];clear h1 h2 hX J hF;simp only [agh]
  go_enter func186,ntmps186
  exact Zaa
 .have h2:cg (·.id) op.2.1 S.pure.ae=o_ s.toci:=h2
  rw [h1] at hlk;rw [h2];simp only [qz,dt] at hlk;have HX:=aA (hX s c h3 h4);clear h1 h2 h3 h4 hX J gn;simp only [agh]
  go_enter func186,ntmps186
  exact ue
def ahy:k_ J3 160 #[a_ #[i_ j_ m,.map (o_ b)],i_ j_ n,agn fn d] w fun e w'=>e=r_ (.func (.func 192) #[] (ahD w.heap.size))/\w'=wbW w m n b (agn fn d) 84 2 223:=by
 go_enter func160,ntmps160
 go_wp2;go_ret;exact ⟨rfl,rfl⟩
def ahn {f:dS->aE × Int} (J:Job w base o d g E S x op now) (hB:ag1 w H S.q.bq op.2.1 (agn fn d)) (hk: ¬ op.1=17) (hF: ∀ args W,(callFunc fn args).run J3 W= .ok (.enter fn args) W) (hX: ∀ s c,(s,c)∈S.lq->s.id=op.2.1->k_ J3 fn #[p_ (o_ ⟨d,0,n_⟩),p_ (o_ ⟨c,0,n_⟩)] w fun e w'=>agf E o base g S (f s.todS) w e w'):
  k_ J3 192 (ahD H) w fun e w'=>agf E o base g S (agh S.pure (cg (·.id) op.2.1 S.pure.ai) f) w e w':=by
 obtain ⟨c1,c2,c3⟩:=hB;have gn:=J.er.non;have hlk:=J.dg.at'.ai.map.look underlying82 ZcS (xX (bz.2 ((dv J.ok).2.1 hk))) true;have HJ:=aA J;rcases agQ (l:=S.lq) (num:=fun x:aM=>x.id) (f:=fun x:aM=>x.todS) (nb:=fun y:dS=>y.id) (fun _=>rfl) op.2.1 with ⟨h1,h2⟩ | ⟨s,c,h3,h4,h1,h2⟩
 .have h2:cg (·.id) op.2.1 S.pure.ai=n_:=h2
  rw [h1] at hlk;rw [h2];clear h1 h2 hX J hF;simp only [agh]
  go_enter func192,ntmps192
  exact Zaa
 .have h2:cg (·.id) op.2.1 S.pure.ai=o_ s.todS:=h2
  rw [h1] at hlk;rw [h2];simp only [qz,dt] at hlk;have HX:=aA (hX s c h3 h4);clear h1 h2 h3 h4 hX J gn;simp only [agh]
  go_enter func192,ntmps192
  exact ue
def ahE:k_ J3 163 #[a_ #[i_ j_ m,.map (o_ b)],i_ j_ n,agn fn d] w fun e w'=>e=r_ (.func (.func 193) #[] (ahD w.heap.size))/\w'=wbW w m n b (agn fn d) 69 2 225:=by
 go_enter func163,ntmps163
 go_wp2;go_ret;exact ⟨rfl,rfl⟩
def ahm {f:aD->aE × Int} (J:Job w base o d g E S x op now) (hB:ag1 w H S.q.bp op.2.1 (agn fn d)) (hk: ¬ op.1=17) (hF: ∀ args W,(callFunc fn args).run J3 W= .ok (.enter fn args) W) (hX: ∀ s c,(s,c)∈S.lp->s.id=op.2.1->k_ J3 fn #[p_ (o_ ⟨d,0,n_⟩),p_ (o_ ⟨c,0,n_⟩)] w fun e w'=>agf E o base g S (f s.toaD) w e w'):
  k_ J3 193 (ahD H) w fun e w'=>agf E o base g S (agh S.pure (cg (·.id) op.2.1 S.pure.L8) f) w e w':=by
 obtain ⟨c1,c2,c3⟩:=hB;have gn:=J.er.non;have hlk:=J.dg.at'.L8.map.look underlying67 ZcS (xX (bz.2 ((dv J.ok).2.1 hk))) true;have HJ:=aA J;rcases agQ (l:=S.lp) (num:=fun x:ao=>x.id) (f:=fun x:ao=>x.toaD) (nb:=fun y:aD=>y.id) (fun _=>rfl) op.2.1 with ⟨h1,h2⟩ | ⟨s,c,h3,h4,h1,h2⟩
 .have h2:cg (·.id) op.2.1 S.pure.L8=n_:=h2
  rw [h1] at hlk;rw [h2];clear h1 h2 hX J hF;simp only [agh]
  go_enter func193,ntmps193
  exact Zaa
 .have h2:cg (·.id) op.2.1 S.pure.L8=o_ s.toaD:=h2
  rw [h1] at hlk;rw [h2];simp only [qz,dt] at hlk;have HX:=aA (hX s c h3 h4);clear h1 h2 h3 h4 hX J gn;simp only [agh]
  go_enter func193,ntmps193
  exact ue
variable {w:w_} {base o d g:Nat} {E:d_ × d_ × d_} {S:aZ} {x:ao} {op:dN} {now:Int}
def ahi (v:Int) (y:ao):ao:=⟨aiA v y.toaD,y.aY,y.bH⟩
def akl (J:Job w base o d g E S x op now) (hk:op.1=1):
  k_ J3 144 #[p_ (o_ ⟨d,0,n_⟩)] w fun e w'=>agf E o base g S (runT x.toaD op S.pure) w e w':=by
 obtain ⟨-,c1,-,c3,-,-,-⟩:=agb J.dg.box;have c5:=(bo J.box).2.2.2.2.2.1;have f5:w.frozen? ⟨g,5,n_⟩=false:=Ko _ _ _ _ _ J.box;have hn:=(dv J.ok).2.1 zo;obtain ⟨n0,n1⟩:=hn;have hr:=(aia (J.right.proc (Lr.2 ⟨_,J.hx,rfl⟩)).2.1 J.up).2.2;rw [<- J.op] at hr;have hr:=hr hk;have l0:0<=x.left:=hr.1;have l1:x.left < op.2.1:=hr.2;have gp:=J.er.past;have HJ:Hid (Job w base o d g E S x op now):=J;have H1:=fun v:v_=>cx (i:=5) (v:=v) J.box
 have HE: ∀ v:Int,∀ w1:w_,w1.heap[g]? =o_ (c_ (aX (ahi v x)) 41)->aI w w1 [g] ->Hid (o4 o base S w (S.ju g (ahi v) S.q.next) w1/\(S.ju g (ahi v) S.q.next).pure= { S.pure with L8:=ce x.id (aiA v) S.pure.L8 }):=fun v w1 h1 h2=>
  HJ.I.ju (f:=ahi v) (f':=aiA v) (nx:=S.q.next) (fun _=>rfl) (fun _=>⟨rfl,rfl⟩) h1 ((h2.same o (HJ.I.dg.at'.lt o zw) (by simpa using HJ.I.ae9)).trans HJ.I.dg.at'.opn) (h2.mono zw)
 clear hr;by_cases hl:x.left=0
 .have e0:(x.left == 0)=true:=by simp [hl]
  have c5b:(w.setCell ⟨g,5,n_⟩ (i_ j_ op.2.1)).cell? ⟨g,5,n_⟩=o_ (i_ j_ op.2.1):=(bo (x:=ahi op.2.1 x) (H1 (i_ j_ op.2.1))).2.2.2.2.2.1;have f5b:(w.setCell ⟨g,5,n_⟩ (i_ j_ op.2.1)).frozen? ⟨g,5,n_⟩=false:=Ko _ _ _ _ _ (H1 (i_ j_ op.2.1));have k2:((w.setCell ⟨g,5,n_⟩ (i_ j_ op.2.1)).setCell ⟨g,5,n_⟩ (i_ j_ (op.2.1 - 1))).heap[g]? =o_ (c_ (aX (ahi (op.2.1 - 1) x)) 41 (0,0)):=cx (i:=5) (v:=i_ j_ (op.2.1 - 1)) (H1 (i_ j_ op.2.1));have HF:=HE (op.2.1 - 1) _ k2 (aI.cell.trans aI.cell);have gpb:=(J.er.below (HF.I.1.cd J.dg.at' J.dg.low)).past;have hv:agO x.toaD op=op.2.1:=by unfold agO; rw [if_pos (show x.toaD.left=0 from hl)]
  have c5c:((w.setCell ⟨g,5,n_⟩ (i_ j_ op.2.1)).setCell ⟨g,5,n_⟩ (i_ j_ (op.2.1 - 1))).cell? ⟨g,5,n_⟩=o_ (i_ j_ (op.2.1 - 1)):=(bo k2).2.2.2.2.2.1;unfold runT;rw [hv];clear k2 hv HE H1 J gp;by_cases h1:op.2.1=1
  .rw [if_pos h1]
   have p1: ¬ 0 < op.2.1 - 1:=zo
   clear h1
   go_enter func144,ntmps144
   go_wp2;go_ret;exact ⟨S.ju g (ahi (op.2.1 - 1)) S.q.next,rfl,HF.I.1,HF.I.2,.inr (afU.ju fun _ _=>⟨rfl,rfl,rfl,rfl⟩)⟩
  .rw [if_neg h1]
   have p1:0 < op.2.1 - 1:=zo
   clear h1
   go_enter func144,ntmps144
   go_wp2;go_ret;exact ⟨S.ju g (ahi (op.2.1 - 1)) S.q.next,rfl,HF.I.1,HF.I.2,.inl ⟨rfl,agG HJ.I.hx⟩⟩
 .have e0:(x.left == 0)=false:=by simp [hl]
  have k2:(w.setCell ⟨g,5,n_⟩ (i_ j_ (x.left - 1))).heap[g]? =o_ (c_ (aX (ahi (x.left - 1) x)) 41 (0,0)):=H1 (i_ j_ (x.left - 1));have c5c:(w.setCell ⟨g,5,n_⟩ (i_ j_ (x.left - 1))).cell? ⟨g,5,n_⟩=o_ (i_ j_ (x.left - 1)):=(bo k2).2.2.2.2.2.1;have HF:=HE (x.left - 1) _ k2 aI.cell;have gpb:=(J.er.below (HF.I.1.cd J.dg.at' J.dg.low)).past;have hv:agO x.toaD op=x.left:=by unfold agO; rw [if_neg (show ¬ x.toaD.left=0 from hl)]
  unfold runT;rw [hv];clear k2 hv HE H1 J gp;by_cases h1:x.left=1
  .rw [if_pos h1]
   have p1: ¬ 0 < x.left - 1:=zo
   clear h1
   go_enter func144,ntmps144
   go_wp2;go_ret;exact ⟨S.ju g (ahi (x.left - 1)) S.q.next,rfl,HF.I.1,HF.I.2,.inr (afU.ju fun _ _=>⟨rfl,rfl,rfl,rfl⟩)⟩
  .rw [if_neg h1]
   have p1:0 < x.left - 1:=zo
   clear h1
   go_enter func144,ntmps144
   go_wp2;go_ret;exact ⟨S.ju g (ahi (x.left - 1)) S.q.next,rfl,HF.I.1,HF.I.2,.inl ⟨rfl,agG HJ.I.hx⟩⟩
def B5 {s:bD} {c:Nat} (J:Job w base o d g E S x op now) (hs:(s,c)∈S.ls) (hid:s.id=op.2.1):
  k_ J3 147 #[p_ (o_ ⟨d,0,n_⟩),p_ (o_ ⟨c,0,n_⟩)] w fun e w'=>agf E o base g S (aiw op.2.1 S.pure s) w e w':=by
 have hb:=J.dg.at'.aj.box _ hs;have c1:w.cell? ⟨c,1,n_⟩=o_ (i_ j_ s.n):=by simp [World.cell?,hb,eH]
 have f1:w.frozen? ⟨c,1,n_⟩=false:=Ko _ _ _ _ _ hb;have hsr:=(cK J.right.aj s (Lr.2 ⟨_,hs,rfl⟩)).2;simp only [gw,J7] at hsr;obtain ⟨m0,m1⟩:=bz.1 hsr.1;obtain ⟨n0,n1⟩:=bz.1 hsr.2;have HE:Hid (∃ S',o4 o base S w S' (w.setCell ⟨c,1,n_⟩ (i_ j_ (s.n - 1)))/\S'.pure= { S.pure with aj:=jP (·.id) s.id (fun y=> { y with n:=y.n+ -1 }) S.pure.aj } /\S'.lp=S.lp/\S'.q=S.q):=o4.sem (fun y=> { y with n:=y.n+ -1 }) J.dg.at' hs (x':= { s with n:=s.n+ -1 }) (cx (i:=1) (v:=i_ j_ (s.n - 1)) hb) rfl rfl aI.cell;have HM:=aA (o4.refl J.dg.at');rw [hid] at HE;unfold aiw;clear hb J hsr
 go_enter func147,ntmps147
 by_cases h0:s.n=0
 .have e0:(s.n == 0)=true:=by simp [h0]
  rw [if_pos h0];clear h0;go_wp2;go_ret;exact ⟨_,rfl,HM.I,rfl,.inr afU.refl⟩
 .have e0:(s.n == 0)=false:=by simp [h0]
  rw [if_neg h0];exact ZaN
variable {w:w_} {base o d g:Nat} {E:d_ × d_ × d_} {S:aZ} {x:ao} {op:dN} {now:Int}
def akx (y:ao):ao:=⟨{ y.toaD with pc:=0 },y.aY,y.bH⟩
def ajX (J:Job w base o d g E S x op now):
  k_ J3 166 #[p_ (o_ ⟨d,0,n_⟩)] w fun e w'=>agf E o base g S (aj6 x.toaD S.pure) w e w':=by
 obtain ⟨-,c1,-⟩:=agb J.dg.box;have c4:=(bo J.box).2.2.2.2.1;have f4:w.frozen? ⟨g,4,n_⟩=false:=Ko _ _ _ _ _ J.box;have HF:=aA (J.ju (f:=akx) (f':=fun y=> { y with pc:=0 }) (nx:=S.q.next) (w1:=w.setCell ⟨g,4,n_⟩ (i_ j_ 0)) (fun _=>rfl) (fun _=>⟨rfl,rfl⟩) (cx (i:=4) (v:=i_ j_ 0) J.box) ((aH J.ae9).trans J.dg.at'.opn) (aI.cell.mono zw));have gp:=(J.er.below (HF.I.1.cd J.dg.at' J.dg.low)).past;have HX:=aA J.hx;unfold aj6;clear J
 go_enter func166,ntmps166
 go_wp2;go_ret;exact ⟨S.ju g akx S.q.next,rfl,HF.I.1,HF.I.2,.inl ⟨rfl,agG HX.I⟩⟩
def ajp {e0:aB} {c:Nat} (J:Job w base o d g E S x op now) (hs:(e0,c)∈S.le) (hid:e0.id=op.2.1):
  k_ J3 151 #[p_ (o_ ⟨d,0,n_⟩),p_ (o_ ⟨c,0,n_⟩)] w fun e w'=>agf E o base g S (aiJ op.2.1 S.pure e0) w e w':=by
 have hb:=J.dg.at'.L9.box _ hs;have c1:=(kF hb).2;have f1:w.frozen? ⟨c,1,n_⟩=false:=Ko _ _ _ _ _ hb;have HE:=aA (o4.event (x':= { e0 with up:=false }) (fun y=> { y with up:=false }) J.dg.at' hs (cx (i:=1) (v:=b_ false) hb) rfl rfl aI.cell);rw [hid] at HE;unfold aiJ;clear hb J
 go_enter func151,ntmps151
 exact ZaN
def ajv {e0:aB} {c:Nat} (J:Job w base o d g E S x op now) (hs:(e0,c)∈S.le):
  k_ J3 152 #[p_ (o_ ⟨d,0,n_⟩),p_ (o_ ⟨c,0,n_⟩)] w fun e w'=>agf E o base g S (ahQ S.pure e0) w e w':=by
 have c1:=(kF (J.dg.at'.L9.box _ hs)).2;have HJ:=aA J;unfold ahQ;clear J hs
 revert c1
 cases e0.up with
 | true=>
  intro c1
  go_enter func152,ntmps152
  go_wp2;go_ret;exact agf.same (c:=0) HJ.I (Kp _ _)
 | false=>
  intro c1
  go_enter func152,ntmps152
  go_wp2;go_ret;exact agf.same (c:=14) HJ.I (Kp _ _)
def ai1 {s:bD} {c:Nat} (J:Job w base o d g E S x op now) (hs:(s,c)∈S.ls) (hid:s.id=op.2.1):
  k_ J3 148 #[p_ (o_ ⟨d,0,n_⟩),p_ (o_ ⟨c,0,n_⟩)] w fun e w'=>agf E o base g S (agx op.2.1 S.pure s) w e w':=by
 have HJ:Hid (Job w base o d g E S x op now/\(s,c)∈S.ls):=⟨J,hs⟩
 clear J hs
 go_enter func148,ntmps148
 go_wp2_with fail;refine (ahv o d g base S op now 3 w HJ.I.1.dg (HJ.I.1.wk 3)).mono ?_;rintro e w2 (⟨b1,rfl,hb2⟩ | ⟨y,S',b1,rfl,hm,hp,hkp⟩)
 .have HB:=aA hb2
  have hb:=(HJ.I.1.below hb2).dg.at'.aj.box _ HJ.I.2;have c1:w2.cell? ⟨c,1,n_⟩=o_ (i_ j_ s.n):=by simp [World.cell?,hb,eH]
  have c2:w2.cell? ⟨c,2,n_⟩=o_ (i_ j_ s.max):=by simp [World.cell?,hb,eH]
  have f1:w2.frozen? ⟨c,1,n_⟩=false:=Ko _ _ _ _ _ hb;have gn:=(HJ.I.1.below hb2).er.not;have hsr:=(cK HJ.I.1.right.aj s (Lr.2 ⟨_,HJ.I.2,rfl⟩)).2;simp only [gw,J7] at hsr;obtain ⟨m0,m1⟩:=bz.1 hsr.1;obtain ⟨n0,n1⟩:=bz.1 hsr.2;have HE:=aA (o4.sem (w1:=w2.drew.setCell ⟨c,1,n_⟩ (i_ j_ (s.n+1))) (x':= { s with n:=s.n+1 }) (fun y=> { y with n:=y.n+1 }) (HJ.I.1.below hb2).dg.at' HJ.I.2 (cx (i:=1) (v:=i_ j_ (s.n+1)) hb) rfl rfl ((aI.dI (Kp _ _).drew).trans aI.cell));rw [hid] at HE;have H1:=aA b1;clear hb hsr hb2 b1;by_cases h0:s.n=s.max
  .have e0:(s.n == s.max)=true:=by simp [h0]
   have H0:=aA h0;clear h0;go_wp2_with fail;refine aT (fun w'=>w'=w2.drew) ZcS rfl ?_
   iterate 9 (refine agj ?_)
   refine bk ZcS ?_ _;intro w1 cm;subst cm;go_wp2;go_ret;rw [show agx op.2.1 S.pure s=(S.pure,1) by unfold agx; rw [H1.I]; simp only [if_pos H0.I]];exact agf.same (c:=1) HJ.I.1 HB.I.drew
  .have e0:(s.n == s.max)=false:=by simp [h0]
   have H0:=aA h0;go_wp2_with fail;refine aT (fun w'=>w'=w2.drew) ZcS rfl ?_
   iterate 9 (refine agj ?_)
   refine bk ZcS ?_ _;intro w1 cm;subst cm;go_wp2;go_ret;rw [show agx op.2.1 S.pure s=(nZ op.2.1 1 S.pure,0) by unfold agx; rw [H1.I]; simp only [if_neg H0.I]];obtain ⟨S',h5,h6,h7,-⟩:=HE.I;exact ⟨S',rfl,(o4.below HJ.I.1.dg.at' HB.I).trans h5,h6,.inr (afU.of h7)⟩
 .have HB:Hid (o4 o base S w S' w2/\S'.pure=gF (fun y=>y) S.pure y/\afU g S S'):=⟨hm,hp,hkp⟩
  have H1:=aA b1;clear hm hp hkp b1;go_wp2;go_ret;rw [show agx op.2.1 S.pure s=(gF (fun y=>y) S.pure y,0) by unfold agx; rw [H1.I]];exact ⟨S',rfl,HB.I.1,HB.I.2.1,.inr HB.I.2.2⟩
def eqProc {a b:Nat} {w:w_} {x y:ao} (hx:w.heap[a]? =o_ (c_ (aX x) 41)) (hy:w.heap[b]? =o_ (c_ (aX y) 41)):Sem.run J3 (binOp BinOp.eql 64 (p_ (o_ ⟨a,0,n_⟩)) (p_ (o_ ⟨b,0,n_⟩))) w= .ok (b_ (decide (a=b))) w:=by
 simp only [binOp,go_sem];unfold Op.equal Op.maxDepth;unfold Op.equalIn;simp [go_sem];by_cases h:a=b
 .subst h
  rw [run_sameAddr_same];simp
 .rw [run_sameAddr_other w (a:=⟨a,0,n_⟩) (b:=⟨b,0,n_⟩) zw hx hy]
  simp [h]
def aix (y:ao):ao:=⟨j7 y.toaD,y.aY,y.bH⟩
def aj4 {y:ao} {c:Nat} (J:Job w base o d g E S x op now) (hs:(y,c)∈S.lp) (hid:y.id=op.2.1):
  k_ J3 165 #[p_ (o_ ⟨d,0,n_⟩),p_ (o_ ⟨c,0,n_⟩)] w fun e w'=>agf E o base g S (aiy op.2.1 x.id S.pure y.toaD) w e w':=by
 have hb:=J.dg.at'.L8.box _ hs;have c3:=(bo hb).2.2.2.1;have gn:=J.er.not;have HJ:Hid (Job w base o d g E S x op now/\(y,c)∈S.lp):=⟨J,hs⟩
 have Mb:=NI c y w hb;unfold aiy;by_cases h0:y.Md=0
 .have e0:(y.Md == 0)=true:=by simp [h0]
  rw [if_pos (show y.toaD.Md=0 from h0)];clear h0 J hs hb Mb
  go_enter func165,ntmps165
  go_wp2;go_ret;exact agf.same (c:=1) HJ.I.1 (Kp _ _)
 .have e0:(y.Md == 0)=false:=by simp [h0]
  rw [if_neg (show ¬ y.toaD.Md=0 from h0)];clear h0 J hs hb
  go_enter func165,ntmps165
  go_wp2_with fail;refine Mb.mono ?_;clear Mb c3 e0 gn;rintro e w2 ⟨rfl,hw⟩;have HF:Hid (o4 o base S w (S.ju c aix S.q.next) w2/\(S.ju c aix S.q.next).pure=ot op.2.1 S.pure):=by
   have ha:=HJ.I.1.dg.at'.apart (aZ.ago (LB _ (Lr.2 ⟨_,HJ.I.2,rfl⟩)));rw [hw];refine ⟨o4.ju HJ.I.1.dg.at' (fun _=>⟨rfl,rfl,rfl,rfl⟩) HJ.I.2 (KU _ _ _ _ _ _ (HJ.I.1.dg.at'.L8.box _ HJ.I.2)) ((KH _ _ _ _ ha.1).trans HJ.I.1.dg.at'.opn) (aI.row.mono zw),?_⟩;rw [<- hid];exact aZ.Sb (nx:=S.q.next) (f:=aix) (f':=j7) (agv HJ.I.1.right) (fun p hp hpg=>HJ.I.1.dg.at'.L8.one hp HJ.I.2 hpg) HJ.I.2 (fun _=>rfl)
  have c1:=(agb (HJ.I.1.dg.move HF.I.1).box).2.1;have gp:=(HJ.I.1.er.below (HF.I.1.cd HJ.I.1.dg.at' HJ.I.1.dg.low)).past;have hpc:=HF.I.1.at'.L8.box (aix y,c) (yy.2 ⟨(y,c),HJ.I.2,by simp⟩);obtain ⟨z,hz⟩: ∃ z:ao,w2.heap[g]? =o_ (c_ (aX z) 41):=by
   have h5:g∈(S.ju c aix S.q.next).lp.map (·.2):=by
    show g∈(sU c aix S.lp).map (·.2)
    rw [qb];exact Lr.2 ⟨_,HJ.I.1.hx,rfl⟩
   obtain ⟨r,hr,e5⟩:=Lr.1 h5;exact ⟨r.1,by rw [<- e5]; exact HF.I.1.at'.L8.box r hr⟩
  have e1:=eqProc hpc hz;clear hw hpc hz;by_cases hcg:c=g
  .rw [decide_eq_true hcg] at e1
   have hyx:op.2.1=x.id:=by rw [<- hid,show y=x from congrArg Prod.fst (HJ.I.1.dg.at'.L8.one HJ.I.2 HJ.I.1.hx hcg)]
   subst hcg;have HY:=aA hyx;clear hyx;go_wp2;go_ret;exact ⟨_,rfl,HF.I.1,(by rw [<- HY.I]; exact HF.I.2),.inl ⟨rfl,agG HJ.I.2⟩⟩
  .rw [decide_eq_false hcg] at e1
   have hyx: ¬ op.2.1=x.id:=fun e=>hcg (congrArg Prod.snd (HJ.I.1.dg.at'.L8.onk HJ.I.2 HJ.I.1.hx (by rw [hid,e])))
   have HN:=aA hcg;exact Zb2
def ajb {y:ao} {c:Nat} (J:Job w base o d g E S x op now) (hs:(y,c)∈S.lp) (hid:y.id=op.2.1):
  k_ J3 164 #[p_ (o_ ⟨d,0,n_⟩),p_ (o_ ⟨c,0,n_⟩)] w fun e w'=>agf E o base g S (ahH op.2.1 S.pure y.toaD) w e w':=by
 have hb:=J.dg.at'.L8.box _ hs;have c3:=(bo hb).2.2.2.1;have c0:=(agb J.dg.box).1;have gn:=J.er.not;have HJ:Hid (Job w base o d g E S x op now/\(y,c)∈S.lp):=⟨J,hs⟩
 have Mb:=ajh o c base S y w J.dg.at' hs J.nx.1 J.nx.2;unfold ahH;by_cases h0:y.Md=0
 .have e0:(y.Md != 0)=false:=by simp [h0]
  rw [if_pos (show y.toaD.Md=0 from h0)];have HN:Hid (¬ c=g):=fun e=>by
   have h5:=J.up;rw [<- show y=x from congrArg Prod.fst (J.dg.at'.L8.one hs J.hx e)] at h5;omega
  clear h0 J hs hb
  go_enter func164,ntmps164
  go_wp2_with fail;refine Mb.mono ?_;clear Mb c3 e0 gn c0;rintro e w2 ⟨rfl,hat,hkp⟩;have HF:Hid (o4 o base S w (S.ju c (F2 S.q.next) (S.q.next+1)) w2/\(S.ju c (F2 S.q.next) (S.q.next+1)).pure=py op.2.1 S.pure):=by
   refine ⟨⟨hat,hkp.mono fun b hb=> ?_,fun b hb _=> ?_⟩,?_⟩
   .simp only [Kt,List.not_mem_nil,or_false] at hb
    rcases hb with rfl | rfl
    .exact aZ.agr (aZ.ago (LB _ (Lr.2 ⟨_,HJ.I.2,rfl⟩)))
    .simp [aZ.al]
   .rw [ahk (f:=F2 S.q.next) fun _=>rfl] at hb
    exact hb
   .rw [<- hid]
    exact aZ.Sb (nx:=S.q.next+1) (f:=F2 S.q.next) (f':=fun y=> { y with Md:=1,RU:=S.q.next }) (agv HJ.I.1.right) (fun p hp hpg=>HJ.I.1.dg.at'.L8.one hp HJ.I.2 hpg) HJ.I.2 (fun _=>rfl)
  clear hat hkp;exact Zb2
 .have e0:(y.Md != 0)=true:=by simp [h0]
  rw [if_neg (show ¬ y.toaD.Md=0 from h0)];clear h0 J hs hb Mb
  go_enter func164,ntmps164
  go_wp2;go_ret;exact agf.same (c:=1) HJ.I.1 (Kp _ _)
structure aiC (f:aD->aD) (st on:Int) (tgt:aE) (o base g:Nat) (afH:aZ) (w:w_) (k:Nat) (S:aZ) (wr:w_):Prop where
 mv:o4 o base afH w S wr
 VO:afU g afH S
 right:aQ S.pure
 same:ff f st on S.pure=tgt
 cnt:(S.pure.L8.filter (ie st on)).length=k
 room:S.q.next+k<=999999997
section
variable {w w1 w2:w_} {base o d g k:Nat} {E:d_ × d_ × d_} {S S1 S2:aZ} {x:ao} {op:dN} {now st on:Int} {f:aD->aD} {tgt:aE} {y:aD}
def aiC.ok (h:aiC f st on tgt o base g S w k S1 w1) (hs: ¬ st=0/\ ¬ st=1) (J:Job w base o d g E S x op now):aij g S1 st:=
 ⟨h.right,by have:=h.room; omega,hs,fun y hy=>by
  obtain ⟨x',hx',-,-,-,h5⟩:=h.VO x J.hx;rw [show y=x' from congrArg Prod.fst (h.mv.at'.L8.one hy hx' rfl),h5];exact J.up⟩
def aiC.step (h:aiC f st on tgt o base g S w k S1 w1) (hs: ¬ st=0/\ ¬ st=1) (hf:f=(fun y=>y)\/ ∃ t,bw t=true/\f=lG t) (hb:jl st on S1.pure.L8=o_ y) (hm:o4 o base S1 w1 S2 w2) (hp:S2.pure=gF f S1.pure y) (hk:afU g S1 S2):aiC f st on tgt o base g S w (k - 1) S2 w2/\k - 1 < k:=by
 have h1:=zC (f:=f) h.right hs hb;have h2:=ft hb;have h3:=h.room;have h4:S1.pure.next=S1.q.next:=rfl;have h5:S2.pure.next=S2.q.next:=rfl;have h6:S2.pure.next=gf S1.q.next y:=by rw [hp]; rfl
 have h7:=mU S1.q.next y;have h8:=h.cnt;refine ⟨⟨h.mv.trans hm,h.VO.trans hk,?_,?_,?_,?_⟩,zo⟩
 .rw [hp]
  exact i9 h.right h2.1 (by rw [h2.2.1]; exact hs.1) hf zo
 .rw [hp,<- h1.1]
  exact h.same
 .rw [hp]
  omega
 .omega
end
variable {w:w_} {base o d g:Nat} {E:d_ × d_ × d_} {S:aZ} {x:ao} {op:dN} {now:Int}
def aiv {p:aE} {st on:Int} (h:aQ p):(p.L8.filter (ie st on)).length<=6:=LG (List.length_filter_le _ _) h.dl
def akk {e0:aB} {c:Nat} (J:Job w base o d g E S x op now) (hs:(e0,c)∈S.le) (hid:e0.id=op.2.1):
  k_ J3 150 #[p_ (o_ ⟨d,0,n_⟩),p_ (o_ ⟨c,0,n_⟩)] w fun e w'=>agf E o base g S (aks op.2.1 S.pure e0) w e w':=by
 have hb:=J.dg.at'.L9.box _ hs;have c1:=(kF hb).2;have f1:w.frozen? ⟨c,1,n_⟩=false:=Ko _ _ _ _ _ hb;obtain ⟨S',h5,h6,h7,h8⟩:=o4.event (x':= { e0 with up:=true }) (fun y=> { y with up:=true }) J.dg.at' hs (cx (i:=1) (v:=b_ true) hb) rfl rfl aI.cell;rw [hid] at h6;have hr:aQ S'.pure:=by rw [h6]; exact kw (b:=true) J.right
 obtain ⟨afL,hK0⟩: ∃ afL,afL=(S'.pure.L8.filter (ie 4 op.2.1)).length:=⟨_,rfl⟩
 have HK:Hid (aiC (fun y=>y) 4 op.2.1 (ff (fun y=>y) 4 op.2.1 (gL op.2.1 true S.pure)) o base g S w afL S' (w.setCell ⟨c,1,n_⟩ (b_ true))):=⟨h5,afU.of h7,hr,by rw [h6]; rfl,hK0.symm,by have:=J.room; have:=aiv (st:=4) (on:=op.2.1) hr; rw [h8]; omega⟩
 have HJ:=aA J;unfold aks;clear hb J h5 h6 h7 h8 hr hK0
 go_enter func150,ntmps150
 go_wp2_with fail;clear c1 f1
 go_loopg [] (afL:Nat) (fun k wr=> ∃ S1:aZ,Hid (aiC (fun y=>y) 4 op.2.1 (ff (fun y=>y) 4 op.2.1 (gL op.2.1 true S.pure)) o base g S w k S1 wr))
 case atStart=>exact ⟨_,HK.I⟩
 case round=>
  obtain ⟨S1,HO⟩:=hrel;go_wp2_with fail;refine (ahv o d g base S1 op now 4 wr (HJ.I.dg.move HO.I.mv) (HO.I.ok (by decide) HJ.I)).mono ?_;rintro e w2 (⟨b1,rfl,hb2⟩ | ⟨y,S2,b1,rfl,hm,hp,hkp⟩)
  .have HB:Hid (B_ wr.heap.size wr w2/\S1.pure=ff (fun y=>y) 4 op.2.1 (gL op.2.1 true S.pure)):=⟨hb2,by rw [<- HO.I.same]; exact (qO b1).symm⟩
   exact ZbC
  .have HB:=aA (HO.I.step (by decide) (.inl rfl) b1 hm hp hkp)
   exact ZbA
def aP {c:Nat} {b:az} (h:w.heap[c]? =o_ (c_ (cI b) 93)):w.cell? ⟨c,1,n_⟩=o_ (b_ b.shown)/\w.cell? ⟨c,2,n_⟩=o_ (t_ b.text):=by simp [World.cell?,h,cI]
def aj1 {b:az} {c:Nat} (J:Job w base o d g E S x op now) (hs:(b,c)∈S.lb) (hid:b.id=op.2.1):
  k_ J3 157 #[p_ (o_ ⟨d,0,n_⟩),p_ (o_ ⟨c,0,n_⟩)] w fun e w'=>agf E o base g S (ajf op.2.1 op.2.2.2 S.pure b) w e w':=by
 have hb:=J.dg.at'.ag.box _ hs;have c1:=(aP hb).1;have f1:w.frozen? ⟨c,1,n_⟩=false:=Ko _ _ _ _ _ hb;have hb2:(w.setCell ⟨c,1,n_⟩ (b_ true)).heap[c]? =o_ (c_ (cI { b with shown:=true }) 93):=cx (i:=1) (v:=b_ true) hb;have c2:=(aP hb2).2;have f2:(w.setCell ⟨c,1,n_⟩ (b_ true)).frozen? ⟨c,2,n_⟩=false:=Ko _ _ _ _ _ hb2;have c5:=(agb J.dg.box).2.2.2.2.2.1;obtain ⟨S',h5,h6,h7,h8⟩:=o4.ajl (x':= { b with shown:=true,text:=op.2.2.2 }) (fun y=> { y with shown:=true,text:=op.2.2.2 }) J.dg.at' hs (cx (i:=2) (v:=t_ op.2.2.2) hb2) rfl rfl (aI.cell.trans aI.cell);rw [hid] at h6;have hpl:=(dv J.ok).2.2.2.1;have hr:aQ S'.pure:=by rw [h6]; exact kA (b:=true) J.right hpl (.inl rfl)
 obtain ⟨afL,hK0⟩: ∃ afL,afL=(S'.pure.L8.filter (ie 7 op.2.1)).length:=⟨_,rfl⟩
 have HK:Hid (aiC (lG op.2.2.2) 7 op.2.1 (ff (lG op.2.2.2) 7 op.2.1 (ib op.2.1 true op.2.2.2 S.pure)) o base g S w afL S' ((w.setCell ⟨c,1,n_⟩ (b_ true)).setCell ⟨c,2,n_⟩ (t_ op.2.2.2))):=⟨h5,afU.of h7,hr,by rw [h6]; rfl,hK0.symm,by have:=J.room; have:=aiv (st:=7) (on:=op.2.1) hr; rw [h8]; omega⟩
 have HP:=aA hpl;have HJ:=aA J;unfold ajf;clear hb J h5 h6 h7 h8 hr hK0 hb2 hpl
 go_enter func157,ntmps157
 go_wp2_with fail;clear c1 f1 c2 f2 c5
 go_loopg [] (afL:Nat) (fun k wr=> ∃ S1:aZ,Hid (aiC (lG op.2.2.2) 7 op.2.1 (ff (lG op.2.2.2) 7 op.2.1 (ib op.2.1 true op.2.2.2 S.pure)) o base g S w k S1 wr))
 case atStart=>exact ⟨_,HK.I⟩
 case round=>
  obtain ⟨S1,HO⟩:=hrel;go_wp2_with fail;refine (ahA o d g base S1 op now 7 wr (HJ.I.dg.move HO.I.mv) (HO.I.ok (by decide) HJ.I)).mono ?_;rintro e w2 (⟨b1,rfl,hb2⟩ | ⟨y,S2,b1,rfl,hm,hp,hkp⟩)
  .have HB:Hid (B_ wr.heap.size wr w2/\S1.pure=ff (lG op.2.2.2) 7 op.2.1 (ib op.2.1 true op.2.2.2 S.pure)):=⟨hb2,by rw [<- HO.I.same]; exact (qO b1).symm⟩
   exact ZbC
  .have HB:=aA (HO.I.step (by decide) (.inr ⟨_,HP.I,rfl⟩) b1 hm hp hkp)
   exact ZbA
def ajB {b:az} {c:Nat} (J:Job w base o d g E S x op now) (hs:(b,c)∈S.lb) (hid:b.id=op.2.1):
  k_ J3 158 #[p_ (o_ ⟨d,0,n_⟩),p_ (o_ ⟨c,0,n_⟩)] w fun e w'=>agf E o base g S (aiG op.2.1 S.pure b) w e w':=by
 have hb:=J.dg.at'.ag.box _ hs;have c1:=(aP hb).1;have f1:w.frozen? ⟨c,1,n_⟩=false:=Ko _ _ _ _ _ hb;have hb2:(w.setCell ⟨c,1,n_⟩ (b_ false)).heap[c]? =o_ (c_ (cI { b with shown:=false }) 93):=cx (i:=1) (v:=b_ false) hb;have c2:=(aP hb2).2;have f2:(w.setCell ⟨c,1,n_⟩ (b_ false)).frozen? ⟨c,2,n_⟩=false:=Ko _ _ _ _ _ hb2;have HE:=aA (o4.ajl (x':= { b with shown:=false,text:=rM }) (fun y=> { y with shown:=false,text:=rM }) J.dg.at' hs (cx (i:=2) (v:=t_ rM) hb2) rfl rfl (aI.cell.trans aI.cell));rw [hid] at HE;unfold aiG;clear hb hb2 J
 go_enter func158,ntmps158
 exact ZaN
def ajG {b:az} {c:Nat} (J:Job w base o d g E S x op now) (hs:(b,c)∈S.lb):
  k_ J3 159 #[p_ (o_ ⟨d,0,n_⟩),p_ (o_ ⟨c,0,n_⟩)] w fun e w'=>agf E o base g S (ain x.id S.pure b) w e w':=by
 have hb:=J.dg.at'.ag.box _ hs;have c2:=(aP hb).2;have c1:=(agb J.dg.box).2.1;have YU:Hid (w.drew.cell? ⟨g,9,n_⟩=o_ (t_ x.got)/\w.drew.frozen? ⟨g,9,n_⟩=false):=⟨(bo J.box).2.2.2.2.2.2.2.2.2.1,Ko _ _ _ _ _ J.box⟩
 have HM:Hid (o4 o base S w (S.ju g (agF b.text) S.q.next) (w.drew.setCell ⟨g,9,n_⟩ (t_ b.text))/\(S.ju g (agF b.text) S.q.next).pure=ez b.text x.id S.pure):=by
  exact Zav
 have k1:=(aP (HM.I.1.at'.ag.box _ hs)).1;unfold ain;clear hb J hs
 revert k1
 cases b.shown with
 | true=>
  exact xz
 | false=>
  exact xz
variable {w:w_} {base o d g:Nat} {E:d_ × d_ × d_} {S:aZ} {x:ao} {op:dN} {now:Int}
def blockD (nx st on:Int) (held:ByteArray) (Mg:Int) (y:ao):ao:=⟨zb nx st on held Mg y.toaD,y.aY,y.bH⟩
def ai6 (nx Mg:Int) (y:ao):ao:=⟨ahr nx Mg y.toaD,y.aY,y.bH⟩
def ah4 {w1:w_} {y:ao} {f:ao->ao} (h:cJ w base o S) (hx:(x,g)∈S.lp) (hk:aI w w1 [g]) (hb:w1.heap[g]? =o_ (c_ (aX y) 41)) (hf: ∀ x,(f x).id=x.id/\(f x).prog=x.prog/\(f x).aY=x.aY/\(f x).bH=x.bH) (hy:f x= { y with RU:=S.q.next }):
  o4 o base S w (S.ju g f (S.q.next+1)) ((w1.setCell ⟨g,11,n_⟩ (i_ j_ S.q.next)).setCell ⟨o,1,n_⟩ (i_ j_ (S.q.next+1))):=by
 have ha:=(h.apart (aZ.ago (LB _ (Lr.2 ⟨_,hx,rfl⟩)))).1;have ho:w1.heap[o]? =_:=(hk.same o (h.lt o zw) (by simpa using ha)).trans h.opn;have DU:(w1.setCell ⟨g,11,n_⟩ (i_ j_ S.q.next)).heap[o]? =_:=(aH ha).trans ho;refine o4.ju h hf hx ?_ (cx (i:=1) (v:=i_ j_ (S.q.next+1)) DU) (((hk.trans aI.cell).mono zw).trans (aI.cell.mono zw));rw [hy];exact (aH fun e=>ha e.symm).trans (cx (i:=11) (v:=i_ j_ S.q.next) hb)
def ahI {w1:w_} {y:ao} (h:cJ w base o S) (hx:(x,g)∈S.lp) (hk:aI w w1 [g]) (hb:w1.heap[g]? =o_ (c_ (aX y) 41)):w1.cell? ⟨o,1,n_⟩=o_ (i_ j_ S.q.next)/\w1.frozen? ⟨o,1,n_⟩=false/\(∃ u,w1.cell? ⟨g,11,n_⟩=o_ u)/\w1.frozen? ⟨g,11,n_⟩=false/\ ¬ o=g:=by
 have ha:=(h.apart (aZ.ago (LB _ (Lr.2 ⟨_,hx,rfl⟩)))).1;have ho:fa w1 o S.q:=(hk.same o (h.lt o zw) (by simpa using ha)).trans h.opn;exact ⟨ho.cell 1,Ko _ _ _ _ _ ho,⟨_,(bo hb).2.2.2.2.2.2.2.2.2.2.2⟩,Ko _ _ _ _ _ hb,ha⟩
def ajs (st:Int) (h:afb w base o d g S op now) (hx:(x,g)∈S.lp) (n0:0<=S.q.next) (n1:S.q.next<=1000000000) (m0: -1<=op.2.2.1) (m1:op.2.2.1<=1000) (hm: ¬ op.2.2.1=0) (w0':0<=now) (w1':now<=1000000000):
  k_ J3 113 #[p_ (o_ ⟨d,0,n_⟩),i_ j_ st] w fun e w'=>e=r_ (u_ #[])/\o4 o base S w (S.ju g (blockD S.q.next st op.2.1 op.2.2.2 (kZ now op.2.2.1)) (S.q.next+1)) w':=by
 have hS:=h.box;have hX:=h.at'.L8.box _ hx;have HD:Hid (d≠g):=fun e=>h.I (e ▸ aZ.agr (aZ.ago (LB _ (Lr.2 ⟨_,hx,rfl⟩))))
 have H:Hid (cJ w base o S/\(x,g)∈S.lp):=⟨h.at',hx⟩
 obtain ⟨V,hV⟩: ∃ V,V=w.drew:=⟨_,rfl⟩
 have HV:Hid (aI w V [g]):=by show aI w V [g]; rw [hV]; exact aI.dI (Kp _ w).drew
 have c1:=(agb hS).2.1;have hS:w.drew.heap[d]? =o_ (c_ (dgV o g op now) 142):=hS;have hX:w.drew.heap[g]? =o_ (c_ (aX x) 41):=hX;clear h hx
 go_enter func113,ntmps113
 go_wp2_with fail;refine Kr (S:=fun W=>W.heap[d]? =o_ (c_ (dgV o g op now) 142)) ZcS hS (fun _=> ?_);rw [<- hV] at hS hX;rw [<- hV];clear hV c1
 .skip
  refine afJ 0 hS ?_;refine afJ 1 hS ?_;refine afJ 2 hS ?_;refine afJ 3 hS ?_;refine afJ 4 hS ?_;refine afJ 5 hS ?_;refine afJ 6 hS ?_;refine afJ 7 hS ?_;refine afJ 8 hS ?_;refine afJ 9 hS ?_;refine afJ 10 hS ?_;refine afJ 11 hS ?_;refine afJ 12 hS ?_;refine afJ 13 hS ?_;refine afJ 14 hS ?_;refine afJ 15 hS ?_;refine afJ 16 hS ?_;have c3:=(bo hX).2.2.2.1;have f3:V.frozen? ⟨g,3,n_⟩=false:=Ko _ _ _ _ _ hX;refine L7 17 (fun K hK=> ?_);go_wp2;replace hX:(V.setCell ⟨g,3,n_⟩ (i_ j_ st)).heap[g]? =o_ (c_ (aX ({ x with Md:=st } :ao)) 41):=cx (i:=3) (v:=i_ j_ st) hX;replace hS:(V.setCell ⟨g,3,n_⟩ (i_ j_ st)).heap[d]? =o_ (c_ (dgV o g op now) 142):=(aH HD.I).trans hS;refine hK.out _ _ hS (fun _=> ?_);clear hK K c3 f3
  try simp only [pt,sb,s0,s1]
  refine afJ 18 hS ?_;refine afJ 19 hS ?_;have c7:=(bo hX).2.2.2.2.2.2.2.1;have f7:(V.setCell ⟨g,3,n_⟩ (i_ j_ st)).frozen? ⟨g,7,n_⟩=false:=Ko _ _ _ _ _ hX;refine L7 20 (fun K hK=> ?_);go_wp2;replace hX:((V.setCell ⟨g,3,n_⟩ (i_ j_ st)).setCell ⟨g,7,n_⟩ (i_ j_ op.2.1)).heap[g]? =o_ (c_ (aX ({ x with Md:=st,on:=op.2.1 } :ao)) 41):=cx (i:=7) (v:=i_ j_ op.2.1) hX;replace hS:((V.setCell ⟨g,3,n_⟩ (i_ j_ st)).setCell ⟨g,7,n_⟩ (i_ j_ op.2.1)).heap[d]? =o_ (c_ (dgV o g op now) 142):=(aH HD.I).trans hS;refine hK.out _ _ hS (fun _=> ?_);clear hK K c7 f7
  try simp only [pt,sb,s0,s1]
  refine afJ 21 hS ?_;refine afJ 22 hS ?_;have c8:=(bo hX).2.2.2.2.2.2.2.2.1;have f8:((V.setCell ⟨g,3,n_⟩ (i_ j_ st)).setCell ⟨g,7,n_⟩ (i_ j_ op.2.1)).frozen? ⟨g,8,n_⟩=false:=Ko _ _ _ _ _ hX;refine L7 23 (fun K hK=> ?_);go_wp2;replace hX:(((V.setCell ⟨g,3,n_⟩ (i_ j_ st)).setCell ⟨g,7,n_⟩ (i_ j_ op.2.1)).setCell ⟨g,8,n_⟩ (t_ op.2.2.2)).heap[g]? =o_ (c_ (aX ({ x with Md:=st,on:=op.2.1,held:=op.2.2.2 } :ao)) 41):=cx (i:=8) (v:=t_ op.2.2.2) hX;replace hS:(((V.setCell ⟨g,3,n_⟩ (i_ j_ st)).setCell ⟨g,7,n_⟩ (i_ j_ op.2.1)).setCell ⟨g,8,n_⟩ (t_ op.2.2.2)).heap[d]? =o_ (c_ (dgV o g op now) 142):=(aH HD.I).trans hS;refine hK.out _ _ hS (fun _=> ?_);clear hK K c8 f8
  try simp only [pt,sb,s0,s1]
  refine afJ 24 hS ?_;refine afJ 25 hS ?_;have c6:=(bo hX).2.2.2.2.2.2.1;have f6:(((V.setCell ⟨g,3,n_⟩ (i_ j_ st)).setCell ⟨g,7,n_⟩ (i_ j_ op.2.1)).setCell ⟨g,8,n_⟩ (t_ op.2.2.2)).frozen? ⟨g,6,n_⟩=false:=Ko _ _ _ _ _ hX;refine L7 26 (fun K hK=> ?_);go_wp2;replace hX:((((V.setCell ⟨g,3,n_⟩ (i_ j_ st)).setCell ⟨g,7,n_⟩ (i_ j_ op.2.1)).setCell ⟨g,8,n_⟩ (t_ op.2.2.2)).setCell ⟨g,6,n_⟩ (i_ j_ (-1))).heap[g]? =o_ (c_ (aX ({ x with Md:=st,on:=op.2.1,held:=op.2.2.2,Mg:= -1 } :ao)) 41):=cx (i:=6) (v:=i_ j_ (-1)) hX;replace hS:((((V.setCell ⟨g,3,n_⟩ (i_ j_ st)).setCell ⟨g,7,n_⟩ (i_ j_ op.2.1)).setCell ⟨g,8,n_⟩ (t_ op.2.2.2)).setCell ⟨g,6,n_⟩ (i_ j_ (-1))).heap[d]? =o_ (c_ (dgV o g op now) 142):=(aH HD.I).trans hS;refine hK.out _ _ hS (fun _=> ?_);clear hK K c6 f6
  try simp only [pt,sb,s0,s1]
  refine K3 ZcS ?_ _;have HK:Hid (aI w ((((V.setCell ⟨g,3,n_⟩ (i_ j_ st)).setCell ⟨g,7,n_⟩ (i_ j_ op.2.1)).setCell ⟨g,8,n_⟩ (t_ op.2.2.2)).setCell ⟨g,6,n_⟩ (i_ j_ (-1))) [g]):=(((HV.I.trans aI.cell).trans aI.cell).trans aI.cell).trans aI.cell;clear HV
  revert hX hS HK
  generalize ((((V.setCell ⟨g,3,n_⟩ (i_ j_ st)).setCell ⟨g,7,n_⟩ (i_ j_ op.2.1)).setCell ⟨g,8,n_⟩ (t_ op.2.2.2)).setCell ⟨g,6,n_⟩ (i_ j_ (-1)))=U;intro hX hS HK;obtain ⟨q0,q1,q2,q3,q4,q5,q6⟩:=agb hS;by_cases hp:0 < op.2.2.1
  .have HW:Hid (kZ now op.2.2.1=now+op.2.2.1):=by show kZ now op.2.2.1=_; unfold kZ; rw [if_pos zo]
   have H6:Hid (U.drew.cell? ⟨g,6,n_⟩=o_ (i_ j_ (-1))/\U.drew.frozen? ⟨g,6,n_⟩=false):=⟨(bo hX).2.2.2.2.2.2.1,Ko _ _ _ _ _ hX⟩
   have HX:Hid ((U.drew.setCell ⟨g,6,n_⟩ (i_ j_ (now+op.2.2.1))).heap[g]? =o_ (c_ (aX ({ x with Md:=st,on:=op.2.1,held:=op.2.2.2,Mg:=now+op.2.2.1 } :ao)) 41)/\(U.drew.setCell ⟨g,6,n_⟩ (i_ j_ (now+op.2.2.1))).heap[d]? =o_ (c_ (dgV o g op now) 142)/\aI w (U.drew.setCell ⟨g,6,n_⟩ (i_ j_ (now+op.2.2.1))) [g]):=⟨cx (i:=6) (v:=i_ j_ (now+op.2.2.1)) hX,(aH HD.I).trans hS,(HK.I.trans (aI.dI (Kp _ U).drew)).trans aI.cell⟩
   clear hX hS HK;go_wp2_with fail;refine eD (fun w'=>w'=U.drew) 13 ZcS rfl ?_
   iterate 13 (refine ly 14 (v:= ?_) (o_ _) rfl rfl ZcS (fun _ _ _ h=>h) (bV ZcS ?_) ?_; rotate_left; (intro w0 hS0; subst hS0; go_simp; try with_reducible rfl); simp only [pt,sb,s0,s1])
   refine fL rfl ZcS ZcS ZcS ?_;intro w1 cm;subst cm;clear q0 q1 q2 q3 q4 q5 q6
   revert H6 HX
   generalize U.drew=T;intro H6 HX;obtain ⟨c6,f6⟩:=H6.I;have q0:=(agb HX.I.2.1).1;obtain ⟨l1,l2,l3,l4,l5⟩:=ahI H.I.1 H.I.2 HX.I.2.2 HX.I.1;have Mb:=wE o g S.q.next _ l1 l2 l3 l4 l5 n0 n1;clear l1 l2 l3 l4 l5;go_wp2_with fail;refine Mb.mono ?_;clear Mb c6 f6 q0;rintro e w2 ⟨rfl,rfl⟩;go_wp2
   go_end0
   exact ⟨rfl,ah4 H.I.1 H.I.2 HX.I.2.2 HX.I.1 (fun _=>⟨rfl,rfl,rfl,rfl⟩) (by rw [HW.I]; rfl)⟩
  .have HW:Hid (kZ now op.2.2.1= -1):=by show kZ now op.2.2.1=_; unfold kZ; rw [if_neg zo]
   have HX:Hid (U.heap[g]? =o_ (c_ (aX ({ x with Md:=st,on:=op.2.1,held:=op.2.2.2,Mg:= -1 } :ao)) 41)/\aI w U [g]):=⟨hX,HK.I⟩
   obtain ⟨l1,l2,l3,l4,l5⟩:=ahI H.I.1 H.I.2 HX.I.2 HX.I.1;have Mb:=wE o g S.q.next _ l1 l2 l3 l4 l5 n0 n1;clear l1 l2 l3 l4 l5 hX hS HK;go_wp2_with fail;refine Mb.mono ?_;clear Mb q0 q1 q2 q3 q4 q5 q6;rintro e w2 ⟨rfl,rfl⟩;go_wp2
   go_end0
   exact ⟨rfl,ah4 H.I.1 H.I.2 HX.I.2 HX.I.1 (fun _=>⟨rfl,rfl,rfl,rfl⟩) (by rw [HW.I]; rfl)⟩
def ajz (J:Job w base o d g E S x op now) (hk:op.1=2):
  k_ J3 145 #[p_ (o_ ⟨d,0,n_⟩)] w fun e w'=>agf E o base g S (aiX now x.toaD op S.pure) w e w':=by
 have hn:=(dv J.ok).2.1 zo;obtain ⟨m0,m1⟩:=hn;obtain ⟨w0',w1'⟩:=J.now;obtain ⟨n0,n1⟩:=J.nx;have HD:Hid (d≠g):=J.dg';have HJ:=aA J;obtain ⟨V,hV⟩: ∃ V,V=w.drew:=⟨_,rfl⟩
 have HV:Hid (aI w V [g]):=by show aI w V [g]; rw [hV]; exact aI.dI (Kp _ w).drew
 have hS:w.drew.heap[d]? =o_ (c_ (dgV o g op now) 142):=J.dg.box;have hX:w.drew.heap[g]? =o_ (c_ (aX x) 41):=J.box;unfold aiX;clear J
 go_enter func145,ntmps145
 go_wp2_with fail;refine Kr (S:=fun W=>W.heap[d]? =o_ (c_ (dgV o g op now) 142)) ZcS hS (fun _=> ?_);rw [<- hV] at hS hX;rw [<- hV];clear hV
 .skip
  refine afJ 0 hS ?_;refine afJ 1 hS ?_;refine afJ 2 hS ?_;refine afJ 3 hS ?_;refine afJ 4 hS ?_;refine afJ 5 hS ?_;refine afJ 6 hS ?_;refine afJ 7 hS ?_;refine afJ 8 hS ?_;refine afJ 9 hS ?_;refine afJ 10 hS ?_;refine afJ 11 hS ?_;refine afJ 12 hS ?_;refine afJ 13 hS ?_;refine afJ 14 hS ?_;refine afJ 15 hS ?_;refine afJ 16 hS ?_;refine afJ 17 hS ?_;refine afJ 18 hS ?_;refine afJ 19 hS ?_;have c3:=(bo hX).2.2.2.1;have f3:V.frozen? ⟨g,3,n_⟩=false:=Ko _ _ _ _ _ hX;refine L7 20 (fun K hK=> ?_);go_wp2;replace hX:(V.setCell ⟨g,3,n_⟩ (i_ j_ 2)).heap[g]? =o_ (c_ (aX ({ x with Md:=2 } :ao)) 41):=cx (i:=3) (v:=i_ j_ 2) hX;replace hS:(V.setCell ⟨g,3,n_⟩ (i_ j_ 2)).heap[d]? =o_ (c_ (dgV o g op now) 142):=(aH HD.I).trans hS;refine hK.out _ _ hS (fun _=> ?_);clear hK K c3 f3
  try simp only [pt,sb,s0,s1]
  refine afJ 21 hS ?_;refine afJ 22 hS ?_;have c6:=(bo hX).2.2.2.2.2.2.1;have f6:(V.setCell ⟨g,3,n_⟩ (i_ j_ 2)).frozen? ⟨g,6,n_⟩=false:=Ko _ _ _ _ _ hX;refine L7 23 (fun K hK=> ?_);go_wp2;replace hX:((V.setCell ⟨g,3,n_⟩ (i_ j_ 2)).setCell ⟨g,6,n_⟩ (i_ j_ (now+op.2.1))).heap[g]? =o_ (c_ (aX ({ x with Md:=2,Mg:=now+op.2.1 } :ao)) 41):=cx (i:=6) (v:=i_ j_ (now+op.2.1)) hX;replace hS:((V.setCell ⟨g,3,n_⟩ (i_ j_ 2)).setCell ⟨g,6,n_⟩ (i_ j_ (now+op.2.1))).heap[d]? =o_ (c_ (dgV o g op now) 142):=(aH HD.I).trans hS;refine hK.out _ _ hS (fun _=> ?_);clear hK K c6 f6
  try simp only [pt,sb,s0,s1]
  refine K3 ZcS ?_ _;have HK:Hid (aI w ((V.setCell ⟨g,3,n_⟩ (i_ j_ 2)).setCell ⟨g,6,n_⟩ (i_ j_ (now+op.2.1))) [g]):=(HV.I.trans aI.cell).trans aI.cell;clear HV
  revert hX hS HK
  generalize ((V.setCell ⟨g,3,n_⟩ (i_ j_ 2)).setCell ⟨g,6,n_⟩ (i_ j_ (now+op.2.1)))=U;intro hX hS HK;have HX:Hid (U.drew.heap[g]? =o_ (c_ (aX ({ x with Md:=2,Mg:=now+op.2.1 } :ao)) 41)/\aI w U.drew [g]):=⟨hX,HK.I.trans (aI.dI (Kp _ U).drew)⟩
  have hS:U.drew.heap[d]? =o_ (c_ (dgV o g op now) 142):=hS;clear hX HK;go_wp2_with fail;refine Kr (S:=fun W=>W.heap[d]? =o_ (c_ (dgV o g op now) 142)) ZcS hS (fun _=> ?_)
  revert HX hS
  generalize U.drew=T;intro HX hS;obtain ⟨l1,l2,l3,l4,l5⟩:=ahI HJ.I.dg.at' HJ.I.hx HX.I.2 HX.I.1;have Mb:=wE o g S.q.next _ l1 l2 l3 l4 l5 n0 n1;clear l1 l2 l3 l4 l5;refine afJ 0 hS ?_;refine afJ 1 hS ?_;refine afJ 2 hS ?_;refine afJ 3 hS ?_;refine afJ 4 hS ?_;refine afJ 5 hS ?_;refine afJ 6 hS ?_;refine afJ 7 hS ?_;refine L7 8 (fun K hK=> ?_);go_wp2_with fail;refine Mb.mono ?_;clear Mb;rintro e w2 ⟨rfl,rfl⟩;have HM:=aA (ah4 (f:=ai6 S.q.next (now+op.2.1)) HJ.I.dg.at' HJ.I.hx HX.I.2 HX.I.1 (fun _=>⟨rfl,rfl,rfl,rfl⟩) rfl);have gp:=(HJ.I.er.below (HM.I.cd HJ.I.dg.at' HJ.I.dg.low)).past;have hS2:=(HJ.I.dg.move HM.I).box;have HP:Hid ((S.ju g (ai6 S.q.next (now+op.2.1)) (S.q.next+1)).pure= { S.pure with next:=S.pure.next+1,L8:=ce x.toaD.id (ahr S.pure.next (now+op.2.1)) S.pure.L8 }):=aZ.Sb (nx:=S.q.next+1) (f:=ai6 S.q.next (now+op.2.1)) (f':=ahr S.q.next (now+op.2.1)) (agv HJ.I.right) (fun p hp hpg=>HJ.I.dg.at'.L8.one hp HJ.I.hx hpg) HJ.I.hx (fun _=>rfl)
  revert HM gp hS2
  generalize ((T.setCell ⟨g,11,n_⟩ (i_ j_ S.q.next)).setCell ⟨o,1,n_⟩ (i_ j_ (S.q.next+1)))=YC;intro HM gp hS2;go_wp2;refine hK.out _ _ hS2 (fun _=> ?_);clear hK K
  try simp only [pt,sb,s0,s1]
  refine K3 ZcS ?_ _;go_wp2;go_ret;exact ⟨_,rfl,HM.I,HP.I,.inl ⟨rfl,agG HJ.I.hx⟩⟩
def ajn {W:w_} {base c:Nat} {a:Option d_} {l:List ByteArray} (t:ByteArray) (ho:W.ownsRow base 9 1 (s_ a l.length c) l.length (bT.flat l)) (hl:l.length<=1000) (hb:base<=W.heap.size):
  ∃ a' c' w',(Builtin.append_ #[94,94] 94 #[s_ a l.length c,s_ (o_ ⟨W.heap.size,0,n_⟩) 1 1]).run J3 (W.alloc (c_ #[t_ t] 9))= .ok (s_ a' (l.length+1) c') w'/\w'.ownsRow base 9 1 (s_ a' (l ++ [t]).length c') (l ++ [t]).length (bT.flat (l ++ [t]))/\aI W w' (blk a)/\ ∀ g∈blk a',g∈blk a\/W.heap.size<=g:=by
 have hz:B_ W.heap.size W (W.alloc (c_ #[t_ t] 9)):=(Kp _ _).alloc (Ki _) _;obtain ⟨a',c',w',h1,h2,h3,h4⟩:=ou (W.alloc (c_ #[t_ t] 9)) base a c l (ho.alloc _) (o_ ⟨W.heap.size,0,n_⟩) [t] 1 (jO (Kj _ _)) (by simp only [List.length_cons,K4]; omega) (LG hb hz.size);have e:(l ++ [t]).length=l.length+1:=by simp
 rw [e];exact ⟨a',c',w',h1,h2,aI.grown hz h3,fun g hg=>(h4 g hg).imp_right fun h5=>by rw [h5]; exact hz.size⟩
def agR {w w1:w_} {base o c m:Nat} {S:aZ} {x:au} {l:List ByteArray} {a:Option d_} (h:cJ w base o S) (hx:(x,c)∈S.lf) (hk:aI w w1 (blk x.ak)) (ho:w1.ownsRow base 9 1 (s_ a l.length m) l.length (bT.flat l)) (hn: ∀ b∈blk a,b∈blk x.ak\/w.heap.size<=b):
  (∃ S',o4 o base S w S' (w1.setCell ⟨c,2,n_⟩ (s_ a l.length m))/\S'.pure=cV x.id l S.pure/\S'.lp=S.lp/\S'.q=S.q/\(({ x with Ma:=l,ak:=a,aq:=m } :au),c)∈S'.lf)/\w1.heap[c]? =o_ (c_ (bQ x) 96):=by
 have hc:=h.apart (aZ.F9 (LB _ (Lr.2 ⟨_,hx,rfl⟩)));have iH: ∀ b∈blk x.ak,b∈S.kids:=fun b hb=>by
  unfold aZ.kids;simp only [Kg];exact .inr (.inl (Lq.2 ⟨_,hx,fZ.1 hb⟩))
 have lW:=h.ae.box _ hx;have hlt:=(J2.1 lW).1;have hb1:w1.heap[c]? =o_ (c_ (bQ x) 96):=(hk.same c hlt fun hm=>hc.2 c (iH c hm) rfl).trans lW;refine ⟨o4.buffer (x':= { x with Ma:=l,ak:=a,aq:=m }) (fun y=> { y with Ma:=l }) h hx (cx (i:=2) (v:=s_ a l.length m) hb1) (aL ho fun b hb=>aH fun e=> ?_) rfl rfl ((hk.mono (by simp +contextual)).trans (aI.cell.mono zw)) hn,hb1⟩;subst e;rcases hn _ hb with h5 | h5
 .exact hc.2 _ (iH _ h5) rfl
 .omega
def ahu {w w1:w_} {base o c m:Nat} {S:aZ} {x:aM} {l:List ByteArray} {a:Option d_} (h:cJ w base o S) (hx:(x,c)∈S.lq) (hk:aI w w1 (blk x.ak)) (ho:w1.ownsRow base 9 1 (s_ a l.length m) l.length (bT.flat l)) (hn: ∀ b∈blk a,b∈blk x.ak\/w.heap.size<=b):
  (∃ S',o4 o base S w S' (w1.setCell ⟨c,4,n_⟩ (s_ a l.length m))/\S'.pure=gU x.id l S.pure/\S'.lp=S.lp/\S'.q=S.q/\(({ x with Ma:=l,ak:=a,aq:=m } :aM),c)∈S'.lq)/\w1.heap[c]? =o_ (c_ (cW x) 115):=by
 have hc:=h.apart (aZ.agV (LB _ (Lr.2 ⟨_,hx,rfl⟩)));have iH: ∀ b∈blk x.ak,b∈S.kids:=fun b hb=>by
  unfold aZ.kids;simp only [Kg];exact .inr (.inr (Lq.2 ⟨_,hx,fZ.1 hb⟩))
 have lW:=h.ai.box _ hx;have hlt:=(J2.1 lW).1;have hb1:w1.heap[c]? =o_ (c_ (cW x) 115):=(hk.same c hlt fun hm=>hc.2 c (iH c hm) rfl).trans lW;refine ⟨o4.port (x':= { x with Ma:=l,ak:=a,aq:=m }) (fun y=> { y with Ma:=l }) h hx (cx (i:=4) (v:=s_ a l.length m) hb1) (aL ho fun b hb=>aH fun e=> ?_) rfl rfl ((hk.mono (by simp +contextual)).trans (aI.cell.mono zw)) hn,hb1⟩;subst e;rcases hn _ hb with h5 | h5
 .exact hc.2 _ (iH _ h5) rfl
 .omega
def ah7 (a:Option d_) (n c:Nat) (m:Int) (w:w_):k_ J3 188 #[s_ a n c,i_ j_ m] w fun e w'=>e=r_ (b_ (decide (m<=(n:Int))))/\w'=w:=by
 go_enter func188,ntmps188
 go_wp2;go_ret;exact ⟨rfl,rfl⟩
end
section
open Go.RowKit Go.Extern.Stop Go.Stop Go.Extern
attribute [local go_sem ↓] Kc Kd
def ext (fn:Func):Array v_->Sem v_:=(Extern.find fn).getD fun _=>pure (u_ #[])
def ahh (v:v_) (w:w_):(ext Tryz.f167 #[.iface 287 v]).run J3 w= .ok (.iface 250 (a_ #[p_ (o_ ⟨4,287,n_⟩)])) w:=by kernel_rfl
def agN (w:w_):(ext Tryz.f276 #[a_ #[p_ (o_ ⟨4,287,n_⟩)]]).run J3 w= .ok (b_ true) w:=by kernel_rfl
def agp (v : v_) (w : w_) : (Go.method 433 250 v "Comparable").run J3 w = .ok (276, v) w := by kernel_rfl
def aiH:(Tryz.prog.info? 287).map (·.comparable)=o_ true:=by kernel_rfl
def aiF:(Tryz.prog.info? 321).map (·.size)=o_ 1:=by kernel_rfl
def akz (v:v_) (xT:T_) (w:w_):(Instr.typeAssert (.iface 287 v) xT 252 true).run J3 w= .ok (u_ #[.nilIface,b_ false]) w:=run_typeAssert_lacksB underlying252 ZcS ZcS v xT w
def ahK (v:v_) (xT:T_) (w:w_):(Instr.typeAssert (.iface 287 v) xT 255 true).run J3 w= .ok (u_ #[.nilIface,b_ false]) w:=run_typeAssert_lacksB underlying255 ZcS ZcS v xT w
def ahs (v:v_) (xT:T_) (w:w_):(Instr.typeAssert (.iface 287 v) xT 256 true).run J3 w= .ok (u_ #[.nilIface,b_ false]) w:=run_typeAssert_lacksB underlying256 ZcS ZcS v xT w
def noAsE (v:v_) (xT:T_) (w:w_):(Instr.typeAssert (.iface 287 v) xT 261 true).run J3 w= .ok (u_ #[.nilIface,b_ false]) w:=run_typeAssert_lacksB underlying261 ZcS ZcS v xT w
def akC (v:v_) (xT:T_) (w:w_):(Instr.typeAssert (.iface 192 v) xT 252 true).run J3 w= .ok (u_ #[.nilIface,b_ false]) w:=run_typeAssert_lacksB underlying252 ZcS ZcS v xT w
def aii (v:v_) (xT:T_) (w:w_):(Instr.typeAssert (.iface 192 v) xT 255 true).run J3 w= .ok (u_ #[.iface 192 v,b_ true]) w:=run_typeAssert_hasB underlying255 ZcS v xT w
def ahl (v : v_) (w : w_) : (Go.method 433 192 v "Unwrap").run J3 w = .ok (270, v) w := by kernel_rfl
def agE (args:Array v_) (w:w_):(callFunc 167 args).run J3 w=((ext Tryz.f167 args).run J3 w).andThen fun v w'=> .ok (.value v) w':=run_callFunc_extern func167 ZcS ZcS ZcS ZcS args w
def agy (args:Array v_) (w:w_):(callFunc 276 args).run J3 w=((ext Tryz.f276 args).run J3 w).andThen fun v w'=> .ok (.value v) w':=run_callFunc_extern func276 ZcS ZcS ZcS ZcS args w
def aiE (a:d_) (w:w_):k_ J3 111 #[agz a,agz a] w fun e w'=>e=r_ (b_ true)/\w'=w:=by
 obtain ⟨i,hi,hcmp⟩:=Kw.1 aiH;obtain ⟨j,hj,hjs⟩:=Kw.1 aiF;have h8:=agE;have h32:=agy;have afJ:=ahh;have afF:=agN;have afi:=agp;have heq:=run_eql_iface_ptr_same (P:=J3) w a underlying187 underlying287 hi hcmp hj;exact Zbt
def ai8 (b:d_) (w:w_):k_ J3 111 #[.nilIface,agz b] w fun e w'=>e=r_ (b_ false)/\w'=w:=by
 have hn:=run_eql_iface_nil_left (P:=J3) w 287 (p_ (o_ b)) underlying187;unfold agz
 go_enter func111,ntmps111
 go_wp2;go_ret;exact ⟨rfl,rfl⟩
def ag7 {a b:d_} {ca cb:Array v_} {ta tb:T_} {w:w_} (hne:a≠b) (ha:w.heap[a.block]? =o_ (c_ ca ta)) (hb:w.heap[b.block]? =o_ (c_ cb tb)):k_ J3 111 #[agz a,agz b] w fun e w'=>e=r_ (b_ false)/\w'=w:=by
 obtain ⟨i,hi,hcmp⟩:=Kw.1 aiH;obtain ⟨j,hj,hjs⟩:=Kw.1 aiF;have h8:=agE;have h32:=agy;have afJ:=ahh;have afF:=agN;have afi:=agp;have af0:=akz;have aft:=ahK;have af7:=ahs;have heq:=run_eql_iface_ptr_other (P:=J3) w (a:=a) (b:=b) underlying187 underlying287 hi hcmp hj (by rw [hjs]; decide) hne ha hb;exact Zbt
def aim {st:Int} {a:d_} {w:w_} (hg:w.cell? ⟨3,0,n_⟩=o_ (agz a)):k_ J3 111 #[.iface 192 (a_ #[i_ j_ st]),agz a] w fun e w'=>e=r_ (b_ true)/\B_ w.heap.size w w':=by
 obtain ⟨i,hi,hcmp⟩:=Kw.1 aiH;obtain ⟨j,hj,hjs⟩:=Kw.1 aiF;have h8:=agE;have h32:=agy;have afJ:=ahh;have afF:=agN;have afi:=agp;have afQ:=akC;have afD:=aii;have afZ:=ahl;have heq:=run_eql_iface_ptr_same (P:=J3) (w.alloc (c_ #[i_ j_ st] 192)) a underlying187 underlying287 hi hcmp hj;have hty:=run_eql_iface_types (P:=J3) 192 287 (a_ #[i_ j_ st]) (p_ (o_ a)) underlying187 (by decide) w;exact L_
def ahf {st:Int} {a b:d_} {ca cb:Array v_} {ta tb:T_} {w:w_} (hg:w.cell? ⟨3,0,n_⟩=o_ (agz a)) (hne:a≠b) (ha:w.heap[a.block]? =o_ (c_ ca ta)) (hb:w.heap[b.block]? =o_ (c_ cb tb)):k_ J3 111 #[.iface 192 (a_ #[i_ j_ st]),agz b] w fun e w'=>e=r_ (b_ false)/\B_ w.heap.size w w':=by
 obtain ⟨i,hi,hcmp⟩:=Kw.1 aiH;obtain ⟨j,hj,hjs⟩:=Kw.1 aiF;have h8:=agE;have h32:=agy;have afJ:=ahh;have afF:=agN;have afi:=agp;have af0:=akz;have aft:=ahK;have af7:=ahs;have afQ:=akC;have afD:=aii;have afZ:=ahl;have heq:=run_eql_iface_ptr_other (P:=J3) (w.alloc (c_ #[i_ j_ st] 192)) (a:=a) (b:=b) underlying187 underlying287 hi hcmp hj (by rw [hjs]; decide) hne ((PU (J2.1 ha).1).trans ha) ((PU (J2.1 hb).1).trans hb);have hty:=run_eql_iface_types (P:=J3) 192 287 (a_ #[i_ j_ st]) (p_ (o_ b)) underlying187 (by decide) w;exact L_
end
section
open Go.RowKit Go.Maps
attribute [local go_sem ↓] Kc Kd
def GN (r:Nat) (a:Option d_) (len cap:Nat) (w:w_) (hl:len<=1048576) (h:Rd r a len cap w):
  k_ J3 22 #[p_ (o_ ⟨r,0,n_⟩)] w fun e w'=> ∃ (q:af) (now:Int),e=r_ (u_ #[a_ q.cells,i_ j_ now])/\(0<=now/\now<=26)/\ap w' w.heap.size q/\q.pure.Small/\q.next<=1000/\gG r w w'/\Rd r a len cap w':=by
 have h5:=(Kp w.heap.size w).alloc (Ki _) (c_ ar 31);have S:Hid (Rd r a len cap w/\Rd r a len cap (w.alloc (c_ ar 31))/\gG r w (w.alloc (c_ ar 31))/\(w.alloc (c_ ar 31)).heap[w.heap.size]? =o_ (c_ ar 31)/\(w.alloc (c_ ar 31)).heap.size=w.heap.size+1):=⟨h,h.below h5,gG.dI h5,Kj _ _,by simp⟩
 clear h h5
 go_enter func22,ntmps22
 go_upto_region 1 with fail;generalize w.alloc (c_ ar 31)=A at *;go_wp2_with fail;refine (FL r a len cap 1 A hl rfl S.I.2.1).mono ?_;rintro e A2 ⟨q,rfl,ho,hs,hn,hb,hr⟩;have HD:Hid (S4 4 r a len cap w A2.heap.size q ((A2.alloc (c_ ar 31)).setRow A2.heap.size q.cells)):=by
  have hz:=S.I.2.2.2.2;have hrl:=S.I.1.lt;exact S4.first hr S.I.1 (S.I.2.2.1.trans hb) (ho.lower zo) hs ⟨by decide,hn⟩ ((hb.block _ zo zo).trans S.I.2.2.2.1)
 clear ho hs hn hb hr S;go_upto_region 2 with (refine ec 4 8 q.cells (Kj _ _) ?_);generalize (A2.alloc (c_ ar 31)).setRow A2.heap.size q.cells=B at *;generalize A2.heap.size=X at *;go_wp2_with fail;refine (dh r a len cap 14 _ hl zo zo HD.I.rd).mono ?_;rintro e B1 ⟨u,ua,ub,rfl,hb1,hr1⟩;replace HD:=aA (HD.I.drawn hb1 hr1);clear hb1 hr1;go_wp2_with fail
 go_loopw [5,6] (fun n i wr=> ∃ (k now:Int) (q:af),i=i_ j_ k/\n=i_ j_ now/\0<=k/\k<=13/\0<=now/\now+2 * k<=26/\Hid (S4 (4+13 * (13 - k)) r a len cap w X q wr)) (fun _ i _=>(Go.RowKit.intOf i).toNat)
 case atStart=>exact ⟨u,0,q,rfl,rfl,ua,zo,zo,zo,aA (HD.I.up zo)⟩
 case round=>
  clear HD;obtain ⟨ajQ,qP⟩: ∃ ajQ:af,ajQ=q:=⟨_,rfl⟩
  subst qP;obtain ⟨k,now,q,rfl,rfl,k0,k1,n0,n1,HD⟩:=hrel;by_cases hk:0 < k
  .have Mb:=vu q now _ (dV HD.I.small) (fun x hx=>(cY HD.I.small hx).1) HD.I.own.at
   go_wp2_with (refine eT 4 HD.I.box ?_);refine Mb.mono ?_;clear Mb;rintro e W1 ⟨q2,rfl,ho,hp,hb⟩;have HB:=aA ((HD.I.reads hb).box);replace HD:=aA (HD.I.put hb ho (by rw [hp]; exact za) (Sk hp HD.I.low));clear hb ho hp;go_upto_region 7 with (refine ec 4 19 q2.cells HB.I ?_);generalize W1.setRow X q2.cells=W2 at *;clear HB;have e3:IntKind.wrap j_ (k - 1)=k - 1:=by rw [K8]; omega
   go_wp2_with fail;refine (dh r a len cap 2 _ hl zo zo HD.I.rd).mono ?_;rintro e W3 ⟨v,va,vb,rfl,hb1,hr1⟩;replace HD:=aA (HD.I.drawn hb1 hr1);clear hb1 hr1;have e4:IntKind.wrap j_ (1+v)=1+v:=by rw [K8]; omega
   have e5:IntKind.wrap j_ (now+(1+v))=now+(1+v):=by rw [K8]; omega
   go_wp2_with fail;go_roundw
   case rel=>exact ⟨k - 1,now+(1+v),q2,rfl,rfl,zo,zo,zo,zo,aA (HD.I.up zo)⟩
   case measure=>simp [Go.RowKit.intOf]; omega
  go_wp2_with fail;refine (dh r a len cap 40 _ hl zo zo HD.I.rd).mono ?_;rintro e W3 ⟨v,va,vb,rfl,hb1,hr1⟩;replace HD:=aA (HD.I.drawn hb1 hr1);clear hb1 hr1;by_cases h38:v=38
  .have e1:(v == 38)=true:=by simp [h38]
   clear h38;rcases hps:q.L8 with _ | ⟨x,xs⟩
   .exact ZcF
   have hx:q.L8[0]? =o_ x:=by rw [hps]; rfl
   have il:0 < q.L8.length:=by rw [hps]; simp
   have il2:(0:Int) < (q.L8.length:Int):=zo
   have il3: ¬ q.L8.length=0:=zo
   have HX:Hid (q.L8[0]? =o_ x):=hx;clear hps hx;obtain ⟨gs,ha,-⟩:=cn HD.I.own.at.1 HX.I;have m2:=HD.I.box.cells.2.2.1;rw [ha] at m2;have HA:Hid (q.aN=o_ ⟨gs,0,n_⟩):=ha;clear ha;go_upto_region 11 with fail;clear m2;replace HD:=aA (HD.I.reads (Kp _ _).drew);refine Kr (S:=fun w'=>av w' X q) ZcS HD.I.box (fun hHeld=> ?_);generalize World.drew _=V at *;refine tt 0 hHeld ?_ (hy:=fun w0 hS0=>by have q0:=hS0.cells.2.2.1; rw [HA.I] at q0; go_simp; try with_reducible rfl);refine tt 1 hHeld ?_ (hy:=fun w0 hS0=>by have q0:=hS0.cells.2.2.1; rw [HA.I] at q0; go_simp; try with_reducible rfl);refine tt 2 hHeld ?_ (hy:=fun w0 hS0=>by have q0:=hS0.cells.2.2.1; rw [HA.I] at q0; go_simp; try with_reducible rfl);clear hHeld;refine L7 3 (fun K hK=> ?_);go_wp2_with fail;refine (Gk r a len cap 0 3 _ hl zo zo zo HD.I.rd).mono ?_;rintro e V2 ⟨z,rfl,hzw,hb1,hr1⟩;replace HD:=aA (HD.I.drawn hb1 hr1);have HZ:Hid ((Lit.int j_ z).wf=true):=hzw;clear hb1 hr1 hzw;refine hK.out _ _ HD.I.box (fun hHeld=> ?_);clear hK K
   try simp only [pt,sb,s0,s1]
   refine tt 4 hHeld ?_ (hy:=fun w0 hS0=>by have q0:=hS0.cells.2.2.1; rw [HA.I] at q0; go_simp; try with_reducible rfl);refine tt 5 hHeld ?_ (hy:=fun w0 hS0=>by have q0:=hS0.cells.2.2.1; rw [HA.I] at q0; go_simp; try with_reducible rfl);clear hHeld;obtain ⟨s1,⟨u9,c⟩,f⟩:=HD.I.cell (n:=0) (j:=11) (v:=i_ j_ z) (y:= { x with RU:=z }) HX.I HA.I ⟨rfl,rfl,rfl⟩ (by decide) rfl (Ao HD.I.small HX.I HZ.I);simp only [Nat.zero_mul,Li] at s1 c f;have HS:=aA s1;clear s1;refine L7 6 (fun K hK=> ?_);go_wp2_with fail;refine hK.out _ _ ZdI (fun hHeld=> ?_);clear hK K;refine K3 ZcS ?_ _;clear c f u9 HD hHeld;have HD:=HS;clear HS;obtain ⟨q9,hq9⟩: ∃ q9:af,q9= { q with L8:=q.L8.set 0 { x with RU:=z } } :=⟨_,rfl⟩
   rw [<- hq9] at HD;clear hq9;go_upto_region 15 with fail;generalize V2.setCell ⟨gs,11,n_⟩ (i_ j_ z)=V3 at *;exact ZaB
  have e1:(v == 38)=false:=by simp [h38]
  clear h38;by_cases h39:v=39
  .have e2:(v == 39)=true:=by simp [h39]
   clear h39;rcases hps:q.L8 with _ | ⟨x,xs⟩
   .exact ZcF
   have hx:q.L8[0]? =o_ x:=by rw [hps]; rfl
   have il:0 < q.L8.length:=by rw [hps]; simp
   have il2:(0:Int) < (q.L8.length:Int):=zo
   have il3: ¬ q.L8.length=0:=zo
   have HX:Hid (q.L8[0]? =o_ x):=hx;clear hps hx;obtain ⟨gs,ha,-⟩:=cn HD.I.own.at.1 HX.I;have m2:=HD.I.box.cells.2.2.1;rw [ha] at m2;have HA:Hid (q.aN=o_ ⟨gs,0,n_⟩):=ha;clear ha;go_upto_region 14 with fail;clear m2;replace HD:=aA (HD.I.reads (Kp _ _).drew);refine Kr (S:=fun w'=>av w' X q) ZcS HD.I.box (fun hHeld=> ?_);generalize World.drew _=V at *;refine tt 0 hHeld ?_ (hy:=fun w0 hS0=>by have q0:=hS0.cells.2.2.1; rw [HA.I] at q0; go_simp; try with_reducible rfl);refine tt 1 hHeld ?_ (hy:=fun w0 hS0=>by have q0:=hS0.cells.2.2.1; rw [HA.I] at q0; go_simp; try with_reducible rfl);refine tt 2 hHeld ?_ (hy:=fun w0 hS0=>by have q0:=hS0.cells.2.2.1; rw [HA.I] at q0; go_simp; try with_reducible rfl);clear hHeld;refine L7 3 (fun K hK=> ?_);go_wp2_with fail;refine (Gk r a len cap 0 7 _ hl zo zo zo HD.I.rd).mono ?_;rintro e V2 ⟨z,rfl,hzw,hb1,hr1⟩;replace HD:=aA (HD.I.drawn hb1 hr1);have HZ:Hid ((Lit.int j_ z).wf=true):=hzw;clear hb1 hr1 hzw;refine hK.out _ _ HD.I.box (fun hHeld=> ?_);clear hK K
   try simp only [pt,sb,s0,s1]
   refine tt 4 hHeld ?_ (hy:=fun w0 hS0=>by have q0:=hS0.cells.2.2.1; rw [HA.I] at q0; go_simp; try with_reducible rfl);refine tt 5 hHeld ?_ (hy:=fun w0 hS0=>by have q0:=hS0.cells.2.2.1; rw [HA.I] at q0; go_simp; try with_reducible rfl);clear hHeld;obtain ⟨s1,⟨u9,c⟩,f⟩:=HD.I.cell (n:=0) (j:=3) (v:=i_ j_ z) (y:= { x with Md:=z }) HX.I HA.I ⟨rfl,rfl,rfl⟩ (by decide) rfl (Ax HD.I.small HX.I);simp only [Nat.zero_mul,Li] at s1 c f;have HS:=aA s1;clear s1;refine L7 6 (fun K hK=> ?_);go_wp2_with fail;refine hK.out _ _ ZdI (fun hHeld=> ?_);clear hK K;refine K3 ZcS ?_ _;clear c f u9 HD hHeld;have HD:=HS;clear HS;obtain ⟨q9,hq9⟩: ∃ q9:af,q9= { q with L8:=q.L8.set 0 { x with Md:=z } } :=⟨_,rfl⟩
   rw [<- hq9] at HD;clear hq9;go_upto_region 15 with fail;generalize V2.setCell ⟨gs,3,n_⟩ (i_ j_ z)=V3 at *;exact ZaB
  have e2:(v == 39)=false:=by simp [h39]
  clear h39;exact K_
variable {w:w_} {base o d g:Nat} {E:d_ × d_ × d_} {S:aZ} {x:ao} {op:dN} {now:Int}
def aiK {b:au} {c:Nat} (h:aQ S.pure) (hb:(b,c)∈S.lf):(b.Ma.length:Int)<=b.max/\b.max<=5:=by
 have h1:=(cK h.ae b.toci (Lr.2 ⟨_,hb,rfl⟩)).2;simp only [ct,J7] at h1;exact ⟨(lv.1 h1.2).1,(bz.1 h1.1).2⟩
def aj3 {b:au} {c:Nat} (J:Job w base o d g E S x op now) (hs:(b,c)∈S.lf) (hid:b.id=op.2.1):
  k_ J3 154 #[p_ (o_ ⟨d,0,n_⟩),p_ (o_ ⟨c,0,n_⟩)] w fun e w'=>agf E o base g S (ag8 op.2.1 op.2.2.2 S.pure b.toci) w e w':=by
 have iJ:=aiK J.right hs;have HL:Hid (b.Ma.length<=1000):=by show _<=_; omega
 have HJ:=aA J;have HB:=aA hs;clear J hs
 go_enter func154,ntmps154
 go_wp2_with fail;refine (ahA o d g base S op now 6 w HJ.I.dg (HJ.I.wk 6)).mono ?_;rintro e w2 (⟨b1,rfl,hb2⟩ | ⟨y,S',b1,rfl,hm,hp,hkp⟩)
 .have H1:=aA b1
  .have HU:Hid (B_ w.heap.size w w2.drew):=hb2.drew
   have hS:w2.drew.heap[d]? =o_ (c_ (dgV o g op now) 142)/\w2.drew.heap[c]? =o_ (c_ (bQ b) 96):=⟨(HJ.I.below hb2).dg.box,(HJ.I.below hb2).dg.at'.ae.box _ HB.I⟩
   clear hb2 b1;go_wp2_with fail;refine Kr (S:=fun W=>W.heap[d]? =o_ (c_ (dgV o g op now) 142)/\W.heap[c]? =o_ (c_ (bQ b) 96)) ZcS hS (fun _=> ?_)
   revert hS HU
   generalize w2.drew=V;intro HU hS;refine afJ 0 hS ?_;refine afJ 1 hS ?_;refine afJ 2 hS ?_;refine afJ 3 hS ?_;refine afJ 4 hS ?_;refine afJ 5 hS ?_;refine afJ 6 hS ?_;refine afJ 7 hS ?_;refine L7 8 (fun K hK=> ?_);go_wp2_with fail;refine (ah7 b.ak b.Ma.length b.aq b.max V).mono ?_;rintro e w3 ⟨rfl,hw3⟩;rw [hw3];clear hw3;go_wp2_with fail;refine hK.out _ _ hS (fun _=> ?_);clear hK K
   try simp only [pt,sb,s0,s1]
   refine K3 ZcS ?_ _;by_cases hfu:b.max<=(b.Ma.length:Int)
   .rw [decide_eq_true hfu]
    have HF:Hid ((b.Ma.length:Int)=b.max):=by show _=_; omega
    clear hfu;go_wp2;go_ret;rw [show ag8 op.2.1 op.2.2.2 S.pure b.toci=(S.pure,15) by unfold ag8; rw [H1.I]; simp only [if_pos HF.I]];exact agf.same (c:=15) HJ.I HU.I
   rw [decide_eq_false hfu];have HF:Hid (¬ (b.Ma.length:Int)=b.max):=by show ¬ _; omega
   have HT:Hid (Job V.drew base o d g E S x op now/\B_ w.heap.size w V.drew):=⟨HJ.I.below HU.I.drew,HU.I.drew⟩
   have hS:V.drew.heap[d]? =o_ (c_ (dgV o g op now) 142)/\V.drew.heap[c]? =o_ (c_ (bQ b) 96):=hS;clear hfu HU;go_wp2_with fail;refine Kr (S:=fun W=>W.heap[d]? =o_ (c_ (dgV o g op now) 142)) ZcS hS.1 (fun _=> ?_)
   revert HT hS
   generalize V.drew=T;intro HT hS;have xD:=aA HT.I.2;replace HT:=aA HT.I.1;refine afJ 0 hS.1 ?_;refine afJ 1 hS.1 ?_;refine afJ 2 hS.1 ?_;refine afJ 3 hS.1 ?_;refine afJ 5 hS.1 ?_;refine afJ 6 hS.1 ?_;refine afJ 7 hS.1 ?_;refine afJ 8 hS.1 ?_;refine afJ 9 hS.1 ?_;have hz:B_ T.heap.size T (T.alloc (c_ #[t_ op.2.2.2] 9)):=(Kp _ _).alloc (Ki _) _;have hS2:(T.alloc (c_ #[t_ op.2.2.2] 9)).heap[d]? =o_ (c_ (dgV o g op now) 142)/\(T.alloc (c_ #[t_ op.2.2.2] 9)).heap[c]? =o_ (c_ (bQ b) 96):=⟨(hz.block _ (J2.1 hS.1).1).trans hS.1,(hz.block _ (J2.1 hS.2).1).trans hS.2⟩
   have af2:=(ia hS.2).2.2;have afy:=(ia hS2.2).2.2;refine KW (rs:= [4,10]) ZcS zw ?_;refine KX rfl (fun K hK=> ?_) (KX rfl (fun K hK=> ?_) KY)
   .simp only [KZ,K0,K1]
    rw [if_pos (by rfl)];go_wp2_with fail;refine hK.out _ _ hS.1 (fun _=> ?_);clear hK K
    try simp only [pt,sb,s0,s1]
    refine L7 10 (fun K hK=> ?_);exact f_
   .simp only [KZ,K0,K1]
    rw [if_pos (by rfl)];go_wp2_with fail;refine hK.out _ _ hS2.1 (fun _=> ?_);clear hK K
    try simp only [pt,sb,s0,s1]
    refine L7 4 (fun K hK=> ?_);exact f_
 .have HM:Hid (jl 6 op.2.1 S.pure.L8=o_ y/\o4 o base S w S' w2/\S'.pure=gF (lG op.2.2.2) S.pure y/\afU g S S'):=⟨b1,hm,hp,hkp⟩
  clear hm hp hkp b1;go_wp2;go_ret;rw [show ag8 op.2.1 op.2.2.2 S.pure b.toci=(gF (lG op.2.2.2) S.pure y,0) by unfold ag8; rw [HM.I.1]];exact ⟨S',rfl,HM.I.2.1,HM.I.2.2.1,.inr HM.I.2.2.2⟩
def aip {b:aM} {c:Nat} (h:aQ S.pure) (hb:(b,c)∈S.lq):(b.Ma.length:Int)<=b.max/\b.max<=5:=by
 have h1:=(cK h.ai b.todS (Lr.2 ⟨_,hb,rfl⟩)).2;simp only [dj,J7] at h1;exact ⟨(lv.1 h1.2).1,(bz.1 h1.1.1).2⟩
def ajE {b:aM} {c:Nat} (J:Job w base o d g E S x op now) (hs:(b,c)∈S.lq) (hid:b.id=op.2.1):
  k_ J3 161 #[p_ (o_ ⟨d,0,n_⟩),p_ (o_ ⟨c,0,n_⟩)] w fun e w'=>agf E o base g S (agw op.2.1 op.2.2.2 S.pure b.todS) w e w':=by
 have iJ:=aip J.right hs;have HL:Hid (b.Ma.length<=1000):=by show _<=_; omega
 obtain ⟨b0,b1,b2,b3,b4⟩:=gE (J.dg.at'.ai.box _ hs);have gn:=J.er.non;have gt:=J.er.not;have c5:=(agb J.dg.box).2.2.2.2.2.1;have HJ:=aA J;have HB:=aA hs;clear J hs;cases ho:b.I with
 | false=>
  rw [ho] at b1;rw [show agw op.2.1 op.2.2.2 S.pure b.todS=(S.pure,3) by unfold agw; rw [if_pos (show b.todS.I=false from ho)]]
  go_enter func161,ntmps161
  exact Zaa
 | true=>
 rw [ho] at b1;have HO:=aA ho;cases hq:b.Mf with
 | false=>
  rw [hq] at b2;rw [show agw op.2.1 op.2.2.2 S.pure b.todS=(gU op.2.1 [op.2.2.2] S.pure,0) by unfold agw; rw [if_neg (by rw [show b.todS.I=true from ho]; decide),if_pos (show b.todS.Mf=false from hq)]];have hz:B_ w.heap.size w (w.alloc (c_ #[t_ op.2.2.2] 9)):=(Kp _ _).alloc (Ki _) _;obtain ⟨hM,gh⟩:=ahu (l:= [op.2.2.2]) (a:=o_ ⟨w.heap.size,0,n_⟩) (m:=1) HJ.I.dg.at' HB.I (aI.dI hz) (cq (IN w op.2.2.2) HJ.I.dg.low) (fun b' hb'=> .inr (by have h5:=fZ.1 hb'; simp at h5; omega));have HM:=aA hM;have af2:=(gE gh).2.2.2.2;have afE:(w.alloc (c_ #[t_ op.2.2.2] 9)).frozen? ⟨c,4,n_⟩=false:=Ko _ _ _ _ _ gh;clear hM gh hz ho hq
  go_enter func161,ntmps161
  go_wp2;go_ret;obtain ⟨S',m1,m2,m3,-⟩:=HM.I;exact ⟨S',rfl,m1,by rw [<- hid]; exact m2,.inr (afU.of m3)⟩
 | true=>
 rw [hq] at b2;have HQ:=aA hq;clear ho hq
 go_enter func161,ntmps161
 .skip
  .have HU:Hid (B_ w.heap.size w w.drew):=(Kp _ _).drew
   have hS:w.drew.heap[d]? =o_ (c_ (dgV o g op now) 142)/\w.drew.heap[c]? =o_ (c_ (cW b) 115):=⟨HJ.I.dg.box,HJ.I.dg.at'.ai.box _ HB.I⟩
   have HG:Hid (w.drew.cell? ⟨3,0,n_⟩=o_ (agz E.2.2)):=gt;go_wp2_with fail;clear b0 b1 b2 b3 b4 gn gt c5;refine Kr (S:=fun W=>W.heap[d]? =o_ (c_ (dgV o g op now) 142)/\W.heap[c]? =o_ (c_ (cW b) 115)) ZcS hS (fun _=> ?_)
   revert hS HU HG
   generalize w.drew=V;intro HU hS HG;refine afJ 0 hS ?_;refine afJ 1 hS ?_;refine afJ 2 hS ?_;refine afJ 3 hS ?_;refine afJ 4 hS ?_;refine afJ 5 hS ?_;refine afJ 6 hS ?_;refine afJ 7 hS ?_;refine L7 8 (fun K hK=> ?_);go_wp2_with fail;refine (ah7 b.ak b.Ma.length b.aq b.max V).mono ?_;rintro e w3 ⟨rfl,hw3⟩;rw [hw3];clear hw3;go_wp2_with fail;refine hK.out _ _ hS (fun _=> ?_);clear hK K
   try simp only [pt,sb,s0,s1]
   refine tt 9 hS ?_;refine K3 ZcS ?_ _;by_cases hfu:b.max<=(b.Ma.length:Int)
   .rw [decide_eq_true hfu]
    have HF:Hid ((b.Ma.length:Int)=b.max):=by show _=_; omega
    have gt:=HG.I;clear hfu;go_wp2;go_ret;rw [show agw op.2.1 op.2.2.2 S.pure b.todS=(S.pure,1) by unfold agw; rw [if_neg (by rw [show b.todS.I=true from HO.I]; decide),if_neg (by rw [show b.todS.Mf=true from HQ.I]; decide),if_pos HF.I]];exact agf.same (c:=1) HJ.I HU.I
   rw [decide_eq_false hfu];have HF:Hid (¬ (b.Ma.length:Int)=b.max):=by show ¬ _; omega
   have HT:Hid (Job V.drew base o d g E S x op now/\B_ w.heap.size w V.drew):=⟨HJ.I.below HU.I.drew,HU.I.drew⟩
   have hS:V.drew.heap[d]? =o_ (c_ (dgV o g op now) 142)/\V.drew.heap[c]? =o_ (c_ (cW b) 115):=hS;clear hfu HU;go_wp2_with fail;refine Kr (S:=fun W=>W.heap[d]? =o_ (c_ (dgV o g op now) 142)) ZcS hS.1 (fun _=> ?_)
   revert HT hS
   generalize V.drew=T;intro HT hS;have xD:=aA HT.I.2;replace HT:=aA HT.I.1;refine afJ 0 hS.1 ?_;refine afJ 1 hS.1 ?_;refine afJ 2 hS.1 ?_;refine afJ 3 hS.1 ?_;refine afJ 5 hS.1 ?_;refine afJ 6 hS.1 ?_;refine afJ 7 hS.1 ?_;refine afJ 8 hS.1 ?_;refine afJ 9 hS.1 ?_;have hz:B_ T.heap.size T (T.alloc (c_ #[t_ op.2.2.2] 9)):=(Kp _ _).alloc (Ki _) _;have hS2:(T.alloc (c_ #[t_ op.2.2.2] 9)).heap[d]? =o_ (c_ (dgV o g op now) 142)/\(T.alloc (c_ #[t_ op.2.2.2] 9)).heap[c]? =o_ (c_ (cW b) 115):=⟨(hz.block _ (J2.1 hS.1).1).trans hS.1,(hz.block _ (J2.1 hS.2).1).trans hS.2⟩
   have af2:=(gE hS.2).2.2.2.2;have afy:=(gE hS2.2).2.2.2.2;refine KW (rs:= [4,10]) ZcS zw ?_;refine KX rfl (fun K hK=> ?_) (KX rfl (fun K hK=> ?_) KY)
   .simp only [KZ,K0,K1]
    rw [if_pos (by rfl)];go_wp2_with fail;refine hK.out _ _ hS.1 (fun _=> ?_);clear hK K
    try simp only [pt,sb,s0,s1]
    refine L7 10 (fun K hK=> ?_);exact fd
   .simp only [KZ,K0,K1]
    rw [if_pos (by rfl)];go_wp2_with fail;refine hK.out _ _ hS2.1 (fun _=> ?_);clear hK K
    try simp only [pt,sb,s0,s1]
    refine L7 4 (fun K hK=> ?_);exact fd
end
section
open Go.RowKit Go.Extern.Stop Go.Stop Go.Extern
attribute [local go_sem ↓] Kc Kd
abbrev hdV (t:Nat):v_:=p_ (o_ ⟨4,t,n_⟩)
abbrev rtV (t:Nat):v_:=a_ #[hdV t]
abbrev tgV (n:Nat):Array v_:= #[hdV 195,p_ (o_ ⟨n,0,n_⟩),i_ .u64 150]
def aiz (t:Nat) (w:w_):(ext Tryz.f169 #[.iface 195 (p_ (o_ ⟨t,0,n_⟩))]).run J3 w= .ok (a_ (tgV w.heap.size)) (w.alloc (c_ #[p_ (o_ ⟨t,0,n_⟩)] 195)):=by kernel_rfl
def ajM (n:Nat) (w:w_):(ext Tryz.f170 #[a_ (tgV n)]).run J3 w= .ok (.iface 250 (rtV 195)) w:=by kernel_rfl
def ahB (h : v_) (w : w_) : (Go.method 433 250 (a_ #[h]) "Kind").run J3 w = .ok (232, h) w := by kernel_rfl
def ahC (h : v_) (w : w_) : (Go.method 433 250 (a_ #[h]) "Elem").run J3 w = .ok (277,a_ #[h]) w := by kernel_rfl
def agU (h : v_) (w : w_) : (Go.method 433 250 (a_ #[h]) "Implements").run J3 w = .ok (278,a_ #[h]) w := by kernel_rfl
def agH (h : v_) (w : w_) : (Go.method 433 250 (a_ #[h]) "AssignableTo").run J3 w = .ok (275,a_ #[h]) w := by kernel_rfl
def ajm (w:w_):(ext Tryz.f232 #[hdV 195]).run J3 w= .ok (i_ .u8 22) w:=by kernel_rfl
def ajj (w:w_):(ext Tryz.f232 #[hdV 192]).run J3 w= .ok (i_ .u8 25) w:=by kernel_rfl
def ajO (w:w_):(ext Tryz.f277 #[rtV 195]).run J3 w= .ok (.iface 250 (rtV 192)) w:=by kernel_rfl
def ahw (w:w_):(ext Tryz.f278 #[rtV 192,.iface 250 (rtV 187)]).run J3 w= .ok (b_ true) w:=by kernel_rfl
def ajt (v:v_) (w:w_):(ext Tryz.f167 #[.iface 192 v]).run J3 w= .ok (.iface 250 (rtV 192)) w:=by kernel_rfl
def ajx (w:w_):(ext Tryz.f275 #[rtV 192,.iface 250 (rtV 192)]).run J3 w= .ok (b_ true) w:=by kernel_rfl
def ajD (w:w_):(ext Tryz.f275 #[rtV 287,.iface 250 (rtV 192)]).run J3 w= .ok (b_ false) w:=by kernel_rfl
def aja (st:Int) (w:w_):(ext Tryz.f169 #[.iface 192 (a_ #[i_ j_ st])]).run J3 w= .ok (a_ #[hdV 192,p_ (o_ ⟨w.heap.size,0,n_⟩),i_ .u64 153]) (w.alloc (c_ #[i_ j_ st] 192)):=by kernel_rfl
def aiR (n:Nat) (w:w_):(ReflectliteValue.parts (a_ (tgV n))).run J3 w= .ok (o_ (195,⟨n,0,n_⟩,150)) w:=by kernel_rfl
def ajN (n:Nat) (w:w_):(ReflectliteValue.parts (a_ #[hdV 192,p_ (o_ ⟨n,0,n_⟩),i_ .u64 153])).run J3 w= .ok (o_ (192,⟨n,0,n_⟩,153)) w:=by kernel_rfl
def ajS (n:Nat) (w:w_):(ReflectliteValue.parts (a_ #[hdV 192,p_ (o_ ⟨n,0,n_⟩),i_ .u64 409])).run J3 w= .ok (o_ (192,⟨n,0,n_⟩,409)) w:=by kernel_rfl
def ajY (w:w_):(Rtype.elem? 195).run J3 w= .ok (o_ 192) w:=by kernel_rfl
def asMk (n:Nat) (w:w_):(ReflectliteValue.mk 192 ⟨n,0,n_⟩ ReflectliteValue.flagAddr).run J3 w= .ok (a_ #[hdV 192,p_ (o_ ⟨n,0,n_⟩),i_ .u64 409]) w:=by kernel_rfl
def ajH (w:w_):(Rtype.directlyAssignable 192 192).run J3 w= .ok true w:=by kernel_rfl
def ajL (v : v_) : ext Tryz.f171 #[v] = (ReflectliteValue.parts v >>= fun r => match r with | none => ReflectliteValue.valueError "reflectlite.Value.IsNil" 0 | o_ (t, a, fl) => ReflectliteValue.isNil t a fl (fl % 32)) := by kernel_rfl
def akp (v : v_) : ext Tryz.f195 #[v] = (ReflectliteValue.parts v >>= fun r => match r with | none => ReflectliteValue.valueError "reflectlite.Value.Elem" 0 | o_ (t, a, fl) => ReflectliteValue.elem t a fl (fl % 32)) := by kernel_rfl
def extSet:ext Tryz.f196=ReflectliteValue.set:=by kernel_rfl
section
variable {n t:Nat} {W:w_}
def ajk (ha:W.cell? ⟨n,0,n_⟩=o_ (p_ (o_ ⟨t,0,n_⟩))):(ext Tryz.f171 #[a_ (tgV n)]).run J3 W= .ok (b_ false) W:=by
 rw [ajL];simp only [QR,aiR,Result.andThen];simp [ReflectliteValue.isNil,loadVar,isAgg,underlying,underlying195,ha,Result.andThen]
def akn (ha:W.cell? ⟨n,0,n_⟩=o_ (p_ (o_ ⟨t,0,n_⟩))):(ext Tryz.f195 #[a_ (tgV n)]).run J3 W= .ok (a_ #[hdV 192,p_ (o_ ⟨t,0,n_⟩),i_ .u64 409]) W:=by
 rw [akp];simp only [QR,aiR,Result.andThen];simp [ReflectliteValue.elem,loadVar,isAgg,underlying,underlying195,ha,Result.andThen,ajY,asMk]
def set_at {v x val:v_} {W':w_} {dst src:T_} {a b:d_} {k:Nat} (h1:(ReflectliteValue.parts v).run J3 W= .ok (o_ (dst,a,409)) W) (h2:(ReflectliteValue.parts x).run J3 W= .ok (o_ (src,b,k)) W) (h4:(loadVar src b).run J3 W= .ok val W) (h5:(Rtype.directlyAssignable dst src).run J3 W= .ok true W) (h6:(storeVar dst a val).run J3 W= .ok () W'):(ReflectliteValue.set #[v,x]).run J3 W= .ok (u_ #[]) W':=by
 delta ReflectliteValue.set
 delta ReflectliteValue.set.match_3
 dsimp only
 rw [dif_pos (by rfl)];have h1':(ReflectliteValue.parts (#[v,x].getLit 0 rfl zw)).run J3 W= .ok (o_ (dst,a,409)) W:=h1;have h2':(ReflectliteValue.parts (#[v,x].getLit 1 rfl zw)).run J3 W= .ok (o_ (src,b,k)) W:=h2;simp [h1',h2',h4,h5,h6,Result.andThen,ReflectliteValue.flagAddr]
def asSet {st:Int} {old:v_} (hb:W.cell? ⟨n,0,n_⟩=o_ (i_ j_ st)) (ht:W.cell? ⟨t,0,n_⟩=o_ old) (hf:W.frozen? ⟨t,0,n_⟩=false):(ext Tryz.f196 #[a_ #[hdV 192,p_ (o_ ⟨t,0,n_⟩),i_ .u64 409],a_ #[hdV 192,p_ (o_ ⟨n,0,n_⟩),i_ .u64 153]]).run J3 W= .ok (u_ #[]) (W.setCell ⟨t,0,n_⟩ (i_ j_ st)):=by
 rw [extSet];refine set_at (ajS t W) (ajN n W) (val:=a_ #[i_ j_ st]) ?_ (ajH W) ?_
 .simp [loadVar,isAgg,underlying,underlying192,loadCells,loadCellsFrom,hb,Result.andThen,Addr.add]
 .simp [storeVar,Value.cells,storeCells,Addr.add,Result.andThen]
  rw [run_store J3 W ⟨t,0,n_⟩ _ _ (by rfl)];simp [ht,hf]
end
def ahU (args:Array v_) (w:w_):(callFunc 169 args).run J3 w=((ext Tryz.f169 args).run J3 w).andThen fun v w'=> .ok (.value v) w':=run_callFunc_extern func169 ZcS ZcS ZcS ZcS args w
def aiL (args:Array v_) (w:w_):(callFunc 170 args).run J3 w=((ext Tryz.f170 args).run J3 w).andThen fun v w'=> .ok (.value v) w':=run_callFunc_extern func170 ZcS ZcS ZcS ZcS args w
def aiu (args:Array v_) (w:w_):(callFunc 171 args).run J3 w=((ext Tryz.f171 args).run J3 w).andThen fun v w'=> .ok (.value v) w':=run_callFunc_extern func171 ZcS ZcS ZcS ZcS args w
def aiW (args:Array v_) (w:w_):(callFunc 232 args).run J3 w=((ext Tryz.f232 args).run J3 w).andThen fun v w'=> .ok (.value v) w':=run_callFunc_extern func232 ZcS ZcS ZcS ZcS args w
def aiP (args:Array v_) (w:w_):(callFunc 277 args).run J3 w=((ext Tryz.f277 args).run J3 w).andThen fun v w'=> .ok (.value v) w':=run_callFunc_extern func277 ZcS ZcS ZcS ZcS args w
def ahd (args:Array v_) (w:w_):(callFunc 278 args).run J3 w=((ext Tryz.f278 args).run J3 w).andThen fun v w'=> .ok (.value v) w':=run_callFunc_extern func278 ZcS ZcS ZcS ZcS args w
def ahe (args:Array v_) (w:w_):(callFunc 275 args).run J3 w=((ext Tryz.f275 args).run J3 w).andThen fun v w'=> .ok (.value v) w':=run_callFunc_extern func275 ZcS ZcS ZcS ZcS args w
def ajC (args:Array v_) (w:w_):(callFunc 195 args).run J3 w=((ext Tryz.f195 args).run J3 w).andThen fun v w'=> .ok (.value v) w':=run_callFunc_extern func195 ZcS ZcS ZcS ZcS args w
def akt (args:Array v_) (w:w_):(callFunc 196 args).run J3 w=((ext Tryz.f196 args).run J3 w).andThen fun v w'=> .ok (.value v) w':=run_callFunc_extern func196 ZcS ZcS ZcS ZcS args w
def as_nil (t:v_) (w:w_):k_ J3 112 #[.nilIface,t] w fun e w'=>e=r_ (b_ false)/\w'=w:=by
 go_enter func112,ntmps112
 go_wp2;go_ret;exact ⟨rfl,rfl⟩
abbrev asW1 (t:Nat) (w:w_):w_:=w.alloc (c_ #[p_ (o_ ⟨t,0,n_⟩)] 195)
abbrev akh (t:Nat) (w:w_):w_:=(asW1 t w).alloc (c_ (tgV w.heap.size) 233)
abbrev aiN (t:Nat) (w:w_):w_:=(akh t w).alloc (c_ (tgV w.heap.size) 233)
def asB3 (t:Nat) (w:w_):B_ w.heap.size w (aiN t w):=(((Kp _ _).alloc (Ki _) _).alloc zw _).alloc ZcT _
def asG2 {t:Nat} {w:w_} (hg:w.cell? ⟨1,0,n_⟩=o_ (.iface 250 (rtV 187))):(akh t w).cell? ⟨1,0,n_⟩=o_ (.iface 250 (rtV 187)):=by
 have hl:=Le hg;rw [World.cell?_alloc_lt _ _ _ ZcT,World.cell?_alloc_lt _ _ _ hl];exact hg
def ai0 {a:d_} {t:Nat} {w:w_} (hg:w.cell? ⟨1,0,n_⟩=o_ (.iface 250 (rtV 187))):k_ J3 112 #[agz a,.iface 195 (p_ (o_ ⟨t,0,n_⟩))] w fun e w'=>e=r_ (b_ false)/\B_ w.heap.size w w':=by
 have q1:=ahU;have q2:=aiL;have q3:=aiu;have q4:=aiW;have q5:=aiP;have q6:=ahd;have q7:=ahe;have q8:=agE;have e1:=aiz t w;have e2:=ajM;have e3:=ajk (n:=w.heap.size) (t:=t) (W:=akh t w) zw;have e4:=ajm;have e5:=ajj;have e6:=ajO;have e7:=ahw;have e8:=ahh;have e9:=ajD;have m1:=ahB;have m2:=ahC;have m3:=agU;have m4:=agH;have g2:=asG2 (t:=t) hg;have aft:=ahK;have af7:=ahs;have afm:=noAsE;have HB:=aA (asB3 t w);unfold agz;clear hg
 go_enter func112,ntmps112
 go_wp2;refine wp_loop_rounds 1 ?_;rw [rounds_succ];go_wp2;go_ret;exact ⟨rfl,HB.I⟩
def as_hit {st:Int} {t:Nat} {old:v_} {w:w_} (hg:w.cell? ⟨1,0,n_⟩=o_ (.iface 250 (rtV 187))) (ht:w.heap[t]? =o_ (c_ #[old] 192)):k_ J3 112 #[.iface 192 (a_ #[i_ j_ st]),.iface 195 (p_ (o_ ⟨t,0,n_⟩))] w fun e w'=>e=r_ (b_ true)/\w'.heap[t]? =o_ (c_ #[i_ j_ st] 192)/\aI w w' [t] :=by
 have q1:=ahU;have q2:=aiL;have q3:=aiu;have q4:=aiW;have q5:=aiP;have q6:=ahd;have q7:=ahe;have q8:=agE;have q9:=ajC;have q0:=akt;have e1:=aiz t w;have e2:=ajM;have e3:=ajk (n:=w.heap.size) (t:=t) (W:=akh t w) zw;have e4:=ajm;have e5:=ajj;have e6:=ajO;have e7:=ahw;have e8:=ajt;have e9:=ajx;have m1:=ahB;have m2:=ahC;have m3:=agU;have m4:=agH;have g2:=asG2 (t:=t) hg;have l3:=akn (n:=w.heap.size) (t:=t) (W:=aiN t w) (by rw [World.cell?_alloc_lt _ _ ⟨w.heap.size,0,n_⟩ ZcT]; simp);have l4:=aja st (aiN t w);have hB:B_ w.heap.size w ((aiN t w).alloc (c_ #[i_ j_ st] 192)):=(asB3 t w).alloc (asB3 t w).size _;have hlt:=(J2.1 ht).1;have hT:((aiN t w).alloc (c_ #[i_ j_ st] 192)).heap[t]? =o_ (c_ #[old] 192):=(hB.block t hlt).trans ht;have l5:=asSet (n:=w.heap.size+1+1+1) (t:=t) (W:=(aiN t w).alloc (c_ #[i_ j_ st] 192)) (st:=st) (old:=old) (by rw [World.cell?_alloc_at _ _ _ _ zw]; rfl) (by simp [World.cell?,hT]) (Ko _ _ _ _ _ hT);have HE:Hid ((((aiN t w).alloc (c_ #[i_ j_ st] 192)).setCell ⟨t,0,n_⟩ (i_ j_ st)).heap[t]? =o_ (c_ #[i_ j_ st] 192)/\aI w (((aiN t w).alloc (c_ #[i_ j_ st] 192)).setCell ⟨t,0,n_⟩ (i_ j_ st)) [t]):=⟨cx (i:=0) (v:=i_ j_ st) hT,(aI.dI hB).trans aI.cell⟩
 clear hg hB hT ht hlt
 go_enter func112,ntmps112
 go_wp2;refine wp_loop_rounds 1 ?_;rw [rounds_succ];go_wp2;go_ret;exact ⟨rfl,HE.I.1,HE.I.2⟩
end
end Go.Proofs.YtfncpmaefninjaaGreatDoor
