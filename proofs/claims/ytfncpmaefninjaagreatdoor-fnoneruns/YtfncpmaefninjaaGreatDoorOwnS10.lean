/- What the proof leans on, part 10. -/
import Derived.Test.YtfncpmaefninjaaGreatDoorOwnS9
set_option linter.defProp false
set_option linter.unusedVariables false
set_option maxRecDepth 100000
set_option maxHeartbeats 8000000
open Go.Proofs.Tryz
open Go renaming World->w_,Value->v_,Calls->k_,Addr->d_
open Go.IntKind renaming i64->j_
open Go.Obj renaming cells->c_
open Go.RowKit renaming Below->B_
open Go.Value renaming int->i_,slice->s_,bool->b_,string->t_,agg->a_
open Option renaming some->o_,none->n_
open Array renaming getElem?_eq_some_iff->J2
open Bool renaming and_eq_true->J7
open Go renaming heap_alloc_new->Kj,setRow_other->KH,wpAnyH_ready->KW,wpList_load_row->LS,wp_at_succ->Kd,wp_at_zero->Kc
open Go.AllReadyH renaming cons->KX,nil->KY
open Go.IntKind renaming wrap_i64->K8
open Go.Proofs.Tryz renaming prog->J3
open Go.RowKit.Below renaming refl->Kp
open List renaming append_assoc->Lm,filter_cons->LN,getElem?_eq_getElem->Kz,getElem?_eq_some_iff->Lj,getElem?_map->Kk,getElem?_set_self->LU,getElem_cons_succ->K1,getElem_cons_zero->K0,getElem_toArray->KZ,length_cons->Lg,length_nil->K4,map_cons->Lt,map_set->PN,mem_append->Kg,mem_append_left->Lz,mem_append_right->Ly,mem_cons->Kt,mem_iff_getElem->LK,mem_map->Lr,mem_of_getElem?->KA,mem_of_mem_drop->RL,mem_of_mem_take->RK,nodup_append->Kf,not_mem_nil->Ku,pairwise_cons->LM,pairwise_iff_getElem->P8,set_set->PV,take_length->LQ
open Nat renaming add_zero->PT,le_refl->Ki,lt_trichotomy->P9,zero_add->Li
open Option renaming map_eq_some_iff->Kw
open Option.some renaming inj->KC

namespace Go.Proofs.YtfncpmaefninjaaGreatDoor
def anN (o:dN) (x y:aD):Prop:=(o.1=15\/o.1=16)/\o.2.1=x.id/\ ¬ y.Md=x.Md
def am9 (x y:aD):Prop:=3<=x.Md/\y.Md<=1/\y.code=0
def amT (x y:aD):Prop:= ¬ y.Md=1\/ ¬ y.pc=x.pc
abbrev am2 (x y:aD):Prop:=y.id=x.id/\y.prog=x.prog/\y.RX=x.RX
def alw (id:Int) (x y:aD):Prop:=am2 x y/\(x.id=id->y.Md=x.Md/\y.pc=x.pc)/\(¬ x.id=id->y=x\/am9 x y)
def amj (id:Int) (x y:aD):Prop:=am2 x y/\(x.id=id->x.Md=1->amT x y)/\(¬ x.id=id->y=x)
def alU (id:Int) (o:dN) (x y:aD):Prop:=am2 x y/\(x.id=id->x.Md=1->amT x y)/\(¬ x.id=id->y=x\/anN o x y\/am9 x y)
def als (R:aD->aD->Prop) (l m:List aD):Prop:= ∃ f:aD->aD,m=l.map f/\ ∀ x∈l,R x (f x)
section
variable {id:Int} {o:dN} {l m n:List aD} {x y z:aD}
def alw.refl (x:aD):alw id x x:=⟨⟨rfl,rfl,rfl⟩,fun _=>⟨rfl,rfl⟩,fun _=> .inl rfl⟩
def alw.trans (h1:alw id x y) (h2:alw id y z):alw id x z:=by
 refine ⟨⟨h2.1.1.trans h1.1.1,h2.1.2.1.trans h1.1.2.1,h2.1.2.2.trans h1.1.2.2⟩,fun e=> ?_,fun e=> ?_⟩
 .have a:=h1.2.1 e
  have b:=h2.2.1 (h1.1.1.trans e);exact ⟨b.1.trans a.1,b.2.trans a.2⟩
 .rcases h1.2.2 e with rfl | h1
  .exact h2.2.2 e
  .rcases h2.2.2 (by rw [‹alw id x y›.1.1]; exact e) with rfl | h2
   .exact .inr h1
   .exact absurd h2.1 (by have:=h1.2.1; omega)
def alw.fin (h1:alw id x y) (h2:amj id y z):alU id o x z:=by
 refine ⟨⟨h2.1.1.trans h1.1.1,h2.1.2.1.trans h1.1.2.1,h2.1.2.2.trans h1.1.2.2⟩,fun e hs=> ?_,fun e=> ?_⟩
 .have a:=h1.2.1 e
  have b:=h2.2.1 (h1.1.1.trans e) (a.1.trans hs);unfold amT at b ⊢;rw [a.2] at b;exact b
 .rw [h2.2.2 (by rw [h1.1.1]; exact e)]
  exact (h1.2.2 e).imp_right .inr
def als.refl:als (alw id) l l:=⟨fun x=>x,(List.map_id l).symm,fun x _=>alw.refl x⟩
def als.trans (h1:als (alw id) l m) (h2:als (alw id) m n):als (alw id) l n:=by
 obtain ⟨f,rfl,hf⟩:=h1;obtain ⟨g,rfl,hg⟩:=h2;exact ⟨fun x=>g (f x),by simp,fun x hx=>(hf x hx).trans (hg _ (Lr.2 ⟨x,hx,rfl⟩))⟩
def als.fin (h1:als (alw id) l m) (h2:als (amj id) m n):als (alU id o) l n:=by
 obtain ⟨f,rfl,hf⟩:=h1;obtain ⟨g,rfl,hg⟩:=h2;exact ⟨fun x=>g (f x),by simp,fun x hx=>(hf x hx).fin (hg _ (Lr.2 ⟨x,hx,rfl⟩))⟩
def als.past (h:als (amj id) l m):als (alU id o) l m:=als.refl.fin h
def als.ju {R:aD->aD->Prop} {k:Int} {f:aD->aD} (h0: ∀ x∈l,¬ x.id=k->R x x) (h1: ∀ x∈l,x.id=k->R x (f x)):als R l (ce k f l):=
 ⟨fun x=>if x.id=k then f x else x,rfl,fun x hx=>by
  show R x (if x.id=k then f x else x)
  by_cases h:x.id=k
  .rw [if_pos h]; exact h1 x hx h
  .rw [if_neg h]; exact h0 x hx h⟩
def alS {t:ByteArray} :als (alw id) l (ce id (lG t) l):=
 .ju (fun x _ _=>alw.refl x) fun _ _ h=>⟨⟨rfl,rfl,rfl⟩,fun _=>⟨rfl,rfl⟩,fun e=>absurd h e⟩
def amD (nx code:Int) (x:aD):(iY nx code x).id=x.id/\(iY nx code x).prog=x.prog/\(iY nx code x).RX=x.RX/\(iY nx code x).Md<=1/\(iY nx code x).code=code:=by
 unfold iY
 split <;> simp [j7,jM]
abbrev alY (l:List aD):Prop:=l.Pairwise (fun x y=>x.id < y.id)
def alP (h:alY l) (hx:x∈l) (hy:y∈l) (e:y.id=x.id):y=x:=by
 induction l with
 | nil=>cases hx
 | cons a r ih=>
  rw [alY,LM] at h;rcases Kt.1 hx with e1 | h1 <;> rcases Kt.1 hy with e2 | h2
  .exact e2.trans e1.symm
  .have:=h.1 y h2; rw [e1] at e; omega
  .have:=h.1 x h1; rw [e2] at e; omega
  .exact ih h.2 h1 h2
abbrev Rd1 (id:Int) (l:List aD):Prop:= ∀ y∈l,y.id=id->y.Md=1
def amF {f:aD->aD} {nx:Int} (hr:alY l) (hu:Rd1 id l) (hx:x∈l) (hs:3<=x.Md) (hf: ∀ y,(f y).id=y.id/\(f y).prog=y.prog/\(f y).RX=y.RX):als (alw id) l (ce x.id (fun y=>iY nx 0 (f y)) l):=by
 refine .ju (fun y _ _=>alw.refl y) fun y hy h=> ?_
 obtain rfl:=alP hr hx hy h;obtain ⟨h1,h2,h3,h4,h5⟩:=amD nx 0 (f y);have hff:=hf y;exact ⟨⟨h1.trans hff.1,h2.trans hff.2.1,h3.trans hff.2.2⟩,fun e=>by have:=hu y hy e; omega,fun _=> .inr ⟨hs,h4,h5⟩⟩
def als.kW {R:aD->aD->Prop} (hR: ∀ x y,R x y->y.id=x.id) (h:als R l m) (hr:alY l):alY m:=by
 obtain ⟨f,rfl,hf⟩:=h;rw [alY,List.pairwise_map];refine List.Pairwise.imp_of_mem (fun {a b} ha hb hab=> ?_) hr;rw [hR _ _ (hf a ha),hR _ _ (hf b hb)];exact hab
def als.up (h:als (alw id) l m) (hu:Rd1 id l):Rd1 id m:=by
 obtain ⟨f,rfl,hf⟩:=h;intro y hy e;obtain ⟨x,hx,rfl⟩:=Lr.1 hy;have h1:=hf x hx;have h2:=h1.1.1.symm.trans e;exact (h1.2.1 h2).1.trans (hu x hx h2)
def al0 {f:aD->aD} {st on:Int} (hst:3<=st) (hf: ∀ y,(f y).id=y.id/\(f y).prog=y.prog/\(f y).RX=y.RX): ∀ (k:Nat) (p:aE),alY p.L8->Rd1 id p.L8->als (alw id) p.L8 (gW f st on k p).L8
 | 0,_,_,_=>als.refl
 | k+1,p,hr,hu=>by
  unfold gW;cases hb:jl st on p.L8 with
  | none=>exact als.refl
  | some x=>
   obtain ⟨h1,h2,-⟩:=ft hb;have h3:als (alw id) p.L8 (gF f p x).L8:=amF hr hu h1 zo hf;exact h3.trans (al0 hst hf k (gF f p x) (h3.kW (fun _ _ h=>h.1.1) hr) (h3.up hu))
def alq {code:Int} :als (amj id) l (ce id (jT code) l):=by
 refine .ju (fun _ _ h=>⟨⟨rfl,rfl,rfl⟩,fun e=>absurd e h,fun _=>rfl⟩) fun x _ h=> ?_
 refine ⟨by unfold jT; split <;> exact ⟨rfl,rfl,rfl⟩,fun _ _=> ?_,fun e=>absurd h e⟩;unfold jT amT
 split
 .exact .inl (by simp [j7])
 .exact .inr (by show ¬ x.pc+1=x.pc; omega)
def amC {nx st on Mg:Int} {held:ByteArray} (hst: ¬ st=1):als (amj id) l (ce id (zb nx st on held Mg) l):=
 .ju (fun _ _ h=>⟨⟨rfl,rfl,rfl⟩,fun e=>absurd e h,fun _=>rfl⟩) fun _ _ h=>⟨⟨rfl,rfl,rfl⟩,fun _ _=> .inl hst,fun e=>absurd h e⟩
def anr:als (amj id) l (ce id j7 l):=
 .ju (fun _ _ h=>⟨⟨rfl,rfl,rfl⟩,fun e=>absurd e h,fun _=>rfl⟩) fun _ _ h=>⟨⟨rfl,rfl,rfl⟩,fun _ _=> .inl (by simp [j7]),fun e=>absurd h e⟩
def am0 {k:Int} {f g:aD->aD} (hr:alY l) (hk: ¬ k=id) (ho:(o.1=15\/o.1=16)/\o.2.1=k) (hf: ∀ y,am2 y (f y)) (hx:x∈l) (hi:x.id=k) (hs: ¬ (f x).Md=x.Md) (hg:als (amj id) (ce k f l) (ce id g (ce k f l))):als (alU id o) l (ce id g (ce k f l)):=by
 obtain ⟨g',e,hg'⟩:=hg;rw [e];refine ⟨fun y=>g' (if y.id=k then f y else y),by simp [ce],fun y hy=> ?_⟩;have h2:=hg' (if y.id=k then f y else y) (Lr.2 ⟨y,hy,rfl⟩)
 show alU id o y (g' (if y.id=k then f y else y))
 by_cases hyk:y.id=k
 .rw [if_pos hyk] at h2 ⊢
  have hb:=hf y;have hy2:=alP hr hx hy (hyk.trans hi.symm);refine ⟨⟨h2.1.1.trans hb.1,h2.1.2.1.trans hb.2.1,h2.1.2.2.trans hb.2.2⟩,fun e=>absurd (hyk.symm.trans e) hk,fun e=> ?_⟩;rw [h2.2.2 (by rw [hb.1]; exact e)];exact .inr (.inl ⟨ho.1,ho.2.trans hyk.symm,by rw [hy2]; exact hs⟩)
 .rw [if_neg hyk] at h2 ⊢
  exact ⟨h2.1,h2.2.1,fun e=> .inl (h2.2.2 e)⟩
def amo {p:aE} {st now:Int} {o':dN} (hst: ¬ st=1):als (amj id) p.L8 (mX st o' now id p).L8:=by
 unfold mX
 split
 .exact alq
 .exact amC hst
def ant {p:aE} {x:aD} {now:Int} (hr:alY p.L8) (hu:Rd1 x.id p.L8) (h1: ¬ o.1=1) (h17:1<=o.1/\o.1<=16):als (alU x.id o) p.L8 (lX now x o p).L8:=by
 have idf: ∀ y:aD,y.id=y.id/\y.prog=y.prog/\y.RX=y.RX:=fun y=>⟨rfl,rfl,rfl⟩
 have gtf: ∀ (t:ByteArray) (y:aD),(lG t y).id=y.id/\(lG t y).prog=y.prog/\(lG t y).RX=y.RX:=fun t y=>⟨rfl,rfl,rfl⟩
 have all: ∀ {f:aD->aD} {st on:Int} (q:aE),3<=st->(∀ y,(f y).id=y.id/\(f y).prog=y.prog/\(f y).RX=y.RX)->q.L8=p.L8->als (alU x.id o) p.L8 (bu 0 x.id (ff f st on q)).L8:=fun {f st on} q hst hf hq=>by
  have h3:als (alw x.id) q.L8 (ff f st on q).L8:=al0 hst hf _ q (by rw [hq]; exact hr) (by rw [hq]; exact hu);rw [hq] at h3;exact h3.fin (alq)
 have one: ∀ {f:aD->aD} {q:aE} {y:aD},als (alw x.id) p.L8 q.L8->y∈q.L8->3<=y.Md->(∀ y,(f y).id=y.id/\(f y).prog=y.prog/\(f y).RX=y.RX)->als (alU x.id o) p.L8 (bu 0 x.id (gF f q y)).L8:=fun {f q y} hk hy hs hf=>by
  have h3:als (alw x.id) q.L8 (gF f q y).L8:=amF (hk.kW (fun _ _ h=>h.1.1) hr) (hk.up hu) hy hs hf;exact (hk.trans h3).fin (alq)
 unfold lX;rw [if_neg h1];refine fK (P:=fun q:aE=>als (alU x.id o) p.L8 q.L8) (fun k1=> ?_) (fun n1=> ?_)
 .exact (amC (by decide)).past
 refine fK (P:=fun q:aE=>als (alU x.id o) p.L8 q.L8) (fun k2=> ?_) (fun n2=> ?_)
 .unfold mh; split
  .exact alq.past
  .split
   .exact (amo (by decide)).past
   .exact alq.past
 refine fK (P:=fun q:aE=>als (alU x.id o) p.L8 q.L8) (fun k3=> ?_) (fun n3=> ?_)
 .unfold gJ; split
  .exact alq.past
  .split
   .rename_i y hy
    obtain ⟨b1,b2,-⟩:=ft hy;exact one .refl b1 zo idf
   .split <;> exact alq.past
 refine fK (P:=fun q:aE=>als (alU x.id o) p.L8 q.L8) (fun k4=> ?_) (fun n4=> ?_)
 .unfold dE; split
  .exact alq.past
  .split
   .exact all _ (by decide) idf rfl
   .split
    .exact alq.past
    .split
     .exact alq.past
     .exact (amo (by decide)).past
 refine fK (P:=fun q:aE=>als (alU x.id o) p.L8 q.L8) (fun k5=> ?_) (fun n5=> ?_)
 .unfold lc; split
  .exact alq.past
  .split
   .rename_i y hy
    obtain ⟨b1,b2,-⟩:=ft hy;exact one .refl b1 zo (gtf _)
   .split
    .exact (amo (by decide)).past
    .exact alq.past
 refine fK (P:=fun q:aE=>als (alU x.id o) p.L8 q.L8) (fun k6=> ?_) (fun n6=> ?_)
 .unfold ka; split
  .exact alq.past
  .split
   .exact alS.fin (amo (p:=ez rM x.id p) (by decide))
   .split
    .exact alS.fin (alq)
    .rename_i y hy
     obtain ⟨b1,b2,-⟩:=ft hy;exact one (q:=cV _ _ (ez _ x.id p)) alS b1 zo idf
 refine fK (P:=fun q:aE=>als (alU x.id o) p.L8 q.L8) (fun k7=> ?_) (fun n7=> ?_)
 .unfold dC; split
  .exact alq.past
  .split
   .exact all _ (by decide) (gtf _) rfl
   .split
    .exact alq.past
    .split
     .exact alS.fin (alq)
     .exact alS.fin (amo (p:=ez _ x.id p) (by decide))
 refine fK (P:=fun q:aE=>als (alU x.id o) p.L8 q.L8) (fun k8=> ?_) (fun n8=> ?_)
 .unfold ig; repeat' split
  all_goals exact alq.past
 refine fK (P:=fun q:aE=>als (alU x.id o) p.L8 q.L8) (fun k9=> ?_) (fun n9=> ?_)
 .unfold gC; repeat' split
  all_goals first | exact alq.past | exact alS.fin (alq)
 refine fK (P:=fun q:aE=>als (alU x.id o) p.L8 q.L8) (fun k10=> ?_) (fun n10=> ?_)
 .have h15:=k10
  unfold jU; split
  .exact alq.past
  .rename_i y hy
   split
   .rename_i h0
    have hm:=ks hy;have hne: ¬ o.2.1=x.id:=fun e=>by have:=hu y hm.1 (hm.2.trans e); omega
    exact am0 (f:=fun z=> { z with Md:=1,RU:=p.next }) hr hne ⟨.inl h15,rfl⟩ (fun _=>⟨rfl,rfl,rfl⟩) hm.1 hm.2 (by rw [h0]; exact (by decide: ¬ (1:Int)=0)) alq
   .exact alq.past
 refine fK (P:=fun q:aE=>als (alU x.id o) p.L8 q.L8) (fun k11=> ?_) (fun n11=> ?_)
 .have h16:=k11
  unfold lg; split
  .exact alq.past
  .rename_i y hy
   split
   .exact alq.past
   .rename_i h0
    split
    .exact anr.past
    .rename_i hne
     have hm:=ks hy;exact am0 (f:=j7) hr hne ⟨.inr h16,rfl⟩ (fun _=>⟨rfl,rfl,rfl⟩) hm.1 hm.2 (fun e=>h0 e.symm) alq
 .exfalso; omega
end
section
open Go.RowKit
def j9 (o:dN):Array v_:= #[i_ j_ o.1,i_ j_ o.2.1,i_ j_ o.2.2.1,t_ o.2.2.2]
def oo (W:w_) (X:Nat) (o:dN):Prop:=W.heap[X]? =o_ (c_ (j9 o) 45)
def oo.cells {W:w_} {X:Nat} {o:dN} (h:oo W X o):W.cell? ⟨X,0,n_⟩=o_ (i_ j_ o.1)/\W.cell? ⟨X,1,n_⟩=o_ (i_ j_ o.2.1)/\W.cell? ⟨X,2,n_⟩=o_ (i_ j_ o.2.2.1)/\W.cell? ⟨X,3,n_⟩=o_ (t_ o.2.2.2):=by
 unfold oo at h;simp [World.cell?,h,j9]
structure Xf (w:w_) (base:Nat) (q0 z q:af) (o:dN) (W:w_):Prop where
 fr:Fr w (w.heap.size+3) base q0 z q W
 op:oo W (w.heap.size+1) o
 an:W.heap[w.heap.size+2]? =o_ (c_ ar 31)
section
variable {w W W2:w_} {base:Nat} {q0 z q q2:af} {o:dN}
def Xf.start (h:ap w base q) (hb:base<=w.heap.size):Xf w base q q q o (((w.alloc (c_ q.cells 31)).alloc (c_ (j9 o) 45)).alloc (c_ ar 31)):=by
 have h3:=dR w (c_ q.cells 31) (c_ (j9 o) 45) (c_ ar 31);exact ⟨Fr.start h hb h3.1 (fg _ _ _ _) ⟨zo,by rw [h3.2.2.2]; omega⟩,h3.2.1,h3.2.2.1⟩
def Xf.call (h:Xf w base q0 z q o W) (ht:yr W base q q2 W2):Xf w base q0 z q2 o W2:=by
 have h5:=h.fr.call ht;exact ⟨h5.1,(h5.2 _ zo zo).trans h.op,(h5.2 _ zo zo).trans h.an⟩
def Xf.reads (h:Xf w base q0 z q o W) (hb:B_ W.heap.size W W2):Xf w base q0 z q o W2:=by
 have h5:=h.fr.reads hb;exact ⟨h5.1,(h5.2 _ zo).trans h.op,(h5.2 _ zo).trans h.an⟩
def Xf.put (h:Xf w base q0 z q o W):Xf w base q0 q q o (W.setRow w.heap.size q.cells):=⟨h.fr.put,(KH _ _ _ _ zo).trans h.op,(KH _ _ _ _ zo).trans h.an⟩
def Xf.done (h:Xf w base q0 z q o W) (cs:Array v_):yr w base q0 q (W.setRow (w.heap.size+2) cs):=h.fr.mK zo zo cs
def Xf.again {n gs j:Nat} {x y:ao} {v:v_} (h:Xf w base q0 z { q with L8:=q.L8.set n x } o W) (hn:n < q.L8.length) (ha:q.aN=o_ ⟨gs,0,n_⟩) (hy:y.prog=x.prog/\y.aY=x.aY/\y.bH=x.bH) (hj:j < 12) (hv:bg.vals y=(bg.vals x).set j v):
  Xf w base q0 z ({ q with L8:=q.L8.set n y } :af) o (W.setCell ⟨gs,n * 12+j,n_⟩ v)/\(∃ u,W.cell? ⟨gs,n * 12+j,n_⟩=o_ u)/\W.frozen? ⟨gs,n * 12+j,n_⟩=false:=by
 have h5:=h.fr.again hn ha hy hj hv;exact ⟨⟨h5.1,(h5.2.1 _ zo zo).trans h.op,(h5.2.1 _ zo zo).trans h.an⟩,h5.2.2⟩
def Xf.low (h:Xf w base q0 z q o W):base<=W.heap.size:=by have:=h.fr.sz; omega
def Xf.m2 {gs:Nat} (h:Xf w base q0 z q o W) (ha:z.aN=o_ ⟨gs,0,n_⟩):W.cell? ⟨w.heap.size,2,n_⟩=o_ (s_ (o_ ⟨gs,0,n_⟩) z.L8.length z.aW):=by rw [<- ha]; exact h.fr.box.cells.2.2.1
end
end
section
open Go.RowKit Go.Maps
attribute [local go_sem ↓] Kc Kd
def sT (q:af) (n base:Nat) (x:ao) (st on wait now:Int) (held:ByteArray) (w:w_) (h:ap w base q) (hb:base<=w.heap.size) (hr:aQ q.pure) (hx:q.L8[n]? =o_ x) (hn:q.next<=1000000000) (eu:0<=now/\now<=1000000000) (hw: -1<=wait/\wait<=1000):
  k_ J3 88 #[a_ q.cells,i_ j_ n,i_ j_ st,i_ j_ on,t_ held,i_ j_ wait,i_ j_ now] w (jH w base q (kC st on held (kZ now wait) x.id q.pure)):=by
 obtain ⟨gs,ha,-⟩:=cn h.at.1 hx;have hnl:n < q.L8.length:=(Lj.1 hx).1;have b1:=dT w (c_ q.cells 31) (c_ ar 31);have h2:=cZ w (c_ q.cells 31) (c_ ar 31);have S:Hid (Fr w (w.heap.size+2) base q q ({ q with L8:=q.L8.set n x } :af) ((w.alloc (c_ q.cells 31)).alloc (c_ ar 31))/\((w.alloc (c_ q.cells 31)).alloc (c_ ar 31)).heap[w.heap.size+1]? =o_ (c_ ar 31)):=⟨by rw [Hi hx]; exact Fr.start h hb h2.1 b1 ⟨zo,by have:=(J2.1 h2.2).1; omega⟩,h2.2⟩
 have j0:(0:Int)<=(n:Int):=zo
 have j1:(n:Int) < (q.L8.length:Int):=zo
 have HR:Hid (aQ q.pure/\(0<=q.next/\q.next<=1000000000)/\q.L8[n]? =o_ x/\n < q.L8.length/\q.aN=o_ ⟨gs,0,n_⟩):=⟨hr,⟨by have h5:=bz.1 hr.next; have:q.pure.next=q.next:=rfl; omega,hn⟩,hx,hnl,ha⟩
 obtain ⟨n0,n1⟩:=eu;obtain ⟨w0,w1⟩:=hw;clear h hb hr hx hn b1 h2 ha hnl
 go_enter func88,ntmps88
 go_upto_region 1 with fail;generalize (w.alloc (c_ q.cells 31)).alloc (c_ ar 31)=A at *;have m:=S.I.1.box.cells.2.2.1;rw [HR.I.2.2.2.2] at m;obtain ⟨s,k,⟨u,c⟩,f⟩:=S.I.1.again (y:= { x with Md:=st }) (j:=3) (v:=i_ j_ st) HR.I.2.2.2.1 HR.I.2.2.2.2 ⟨rfl,rfl,rfl⟩ (by decide) rfl;replace S:=aA (And.intro s ((k _ zo zo).trans S.I.2));clear s k;go_upto_region 2 with fail;generalize A.setCell ⟨gs,n * 12+3,n_⟩ (i_ j_ st)=A at *;clear m c f u;have m:=S.I.1.box.cells.2.2.1;rw [HR.I.2.2.2.2] at m;obtain ⟨s,k,⟨u,c⟩,f⟩:=S.I.1.again (y:= { x with Md:=st,on:=on }) (j:=7) (v:=i_ j_ on) HR.I.2.2.2.1 HR.I.2.2.2.2 ⟨rfl,rfl,rfl⟩ (by decide) rfl;replace S:=aA (And.intro s ((k _ zo zo).trans S.I.2));clear s k;go_upto_region 3 with fail;generalize A.setCell ⟨gs,n * 12+7,n_⟩ (i_ j_ on)=A at *;clear m c f u;have m:=S.I.1.box.cells.2.2.1;rw [HR.I.2.2.2.2] at m;obtain ⟨s,k,⟨u,c⟩,f⟩:=S.I.1.again (y:= { x with Md:=st,on:=on,held:=held }) (j:=8) (v:=t_ held) HR.I.2.2.2.1 HR.I.2.2.2.2 ⟨rfl,rfl,rfl⟩ (by decide) rfl;replace S:=aA (And.intro s ((k _ zo zo).trans S.I.2));clear s k;go_upto_region 4 with fail;generalize A.setCell ⟨gs,n * 12+8,n_⟩ (t_ held)=A at *;clear m c f u;have m:=S.I.1.box.cells.2.2.1;rw [HR.I.2.2.2.2] at m;obtain ⟨s,k,⟨u,c⟩,f⟩:=S.I.1.again (y:= { x with Md:=st,on:=on,held:=held,Mg:= -1 }) (j:=6) (v:=i_ j_ (-1)) HR.I.2.2.2.1 HR.I.2.2.2.2 ⟨rfl,rfl,rfl⟩ (by decide) rfl;replace S:=aA (And.intro s ((k _ zo zo).trans S.I.2));clear s k;go_upto_region 5 with fail;generalize A.setCell ⟨gs,n * 12+6,n_⟩ (i_ j_ (-1))=A at *;clear m c f u;by_cases FN:0<=wait
 .have af6:decide (wait>=0)=true:=decide_eq_true FN
  have m:=S.I.1.box.cells.2.2.1;rw [HR.I.2.2.2.2] at m;obtain ⟨s,k,⟨u,c⟩,f⟩:=S.I.1.again (y:= { x with Md:=st,on:=on,held:=held,Mg:=now+wait }) (j:=6) (v:=i_ j_ (now+wait)) HR.I.2.2.2.1 HR.I.2.2.2.2 ⟨rfl,rfl,rfl⟩ (by decide) rfl;replace S:=aA (And.intro s ((k _ zo zo).trans S.I.2));clear s k;go_upto_region 7 with fail;generalize A.setCell ⟨gs,n * 12+6,n_⟩ (i_ j_ (now+wait))=A at *;clear m c f u;have hp:({ q with L8:=q.L8.set n { x with Md:=st,on:=on,held:=held,Mg:=now+wait } } :af).pure=_:=g7 (nx:=q.next) (f:=fun y=> { y with Md:=st,on:=on,held:=held,Mg:=now+wait }) HR.I.1.kW HR.I.2.2.1 rfl;have Mb:=oT (n:=n) (x:= { x with Md:=st,on:=on,held:=held,Mg:=now+wait }) S.I.1.own ZcY (us HR.I.1.kW HR.I.2.2.1 rfl) Zd2 HR.I.2.1;rw [jd (nx:=q.next),hp] at Mb;have HE:Hid ({ q.pure with next:=q.next+1,L8:=ce x.id (fun y=> { y with RU:=q.next }) (ce x.id (fun y=> { y with Md:=st,on:=on,held:=held,Mg:=now+wait }) q.pure.L8) } =kC st on held (kZ now wait) x.id q.pure):=by show _=kC st on held (kZ now wait) x.id q.pure; rw [pm (by intro _; rfl)]; unfold kZ; rw [if_pos FN]; rfl
  exact G_
 .have af6:decide (wait>=0)=false:=decide_eq_false FN
  go_upto_region 7 with fail;have hp:({ q with L8:=q.L8.set n { x with Md:=st,on:=on,held:=held,Mg:= -1 } } :af).pure=_:=g7 (nx:=q.next) (f:=fun y=> { y with Md:=st,on:=on,held:=held,Mg:= -1 }) HR.I.1.kW HR.I.2.2.1 rfl;have Mb:=oT (n:=n) (x:= { x with Md:=st,on:=on,held:=held,Mg:= -1 }) S.I.1.own ZcY (us HR.I.1.kW HR.I.2.2.1 rfl) Zd2 HR.I.2.1;rw [jd (nx:=q.next),hp] at Mb;have HE:Hid ({ q.pure with next:=q.next+1,L8:=ce x.id (fun y=> { y with RU:=q.next }) (ce x.id (fun y=> { y with Md:=st,on:=on,held:=held,Mg:= -1 }) q.pure.L8) } =kC st on held (kZ now wait) x.id q.pure):=by show _=kC st on held (kZ now wait) x.id q.pure; rw [pm (by intro _; rfl)]; unfold kZ; rw [if_neg FN]; rfl
  exact G_
end
section
open Go.RowKit
def lJ {α β:Type} {num:β->Int} {je:α->Int} {g:α->β} (hg: ∀ x,num (g x)=je x) {id:Int} : ∀ (l:List α),cg num id (l.map g)=(cg je id l).map g
 | [] =>rfl
 | x :: r=>by
  have h:=lJ hg (id:=id) r;unfold cg at h ⊢;simp only [Lt,List.find?_cons,hg]
  split
  .rfl
  .exact h
section
variable {W:w_} {base n j gs:Nat} {q:af} {v:v_}
def gD {q:af} {g:Nat} (h:g∈blk q.aN\/g∈blk q.bc\/g∈blk q.ay\/g∈blk q.ax\/g∈blk q.am\/g∈blk q.aK):g∈q.Mc:=by
 simp only [af.Mc,Kg];rcases h with h | h | h | h | h | h <;> simp [h]
def uR {x y:bD} (h:ap W base q) (hx:q.aj[n]? =o_ x) (ha:q.bc=o_ ⟨gs,0,n_⟩) (hj:j < 3) (hv:dm.vals y=(dm.vals x).set j v):
  yr W base q ({ q with aj:=q.aj.set n y } :af) (W.setCell ⟨gs,n * 3+j,n_⟩ v)/\(∃ u,W.cell? ⟨gs,n * 3+j,n_⟩=o_ u)/\W.frozen? ⟨gs,n * 3+j,n_⟩=false:=by
 obtain ⟨h1,h2,h3⟩:=rn (K:=dm) h.aj hx ha hj hv;obtain ⟨h4,h5⟩:=h.DT h1 zw h2;exact ⟨⟨h4,h2.mono fun g hg=>gD (.inr (.inl hg)),fun g hg=> .inl (h5 ▸ hg)⟩,h3⟩
def rv {x y:aB} (h:ap W base q) (hx:q.L9[n]? =o_ x) (ha:q.ay=o_ ⟨gs,0,n_⟩) (hj:j < 2) (hv:bJ.vals y=(bJ.vals x).set j v):
  yr W base q ({ q with L9:=q.L9.set n y } :af) (W.setCell ⟨gs,n * 2+j,n_⟩ v)/\(∃ u,W.cell? ⟨gs,n * 2+j,n_⟩=o_ u)/\W.frozen? ⟨gs,n * 2+j,n_⟩=false:=by
 obtain ⟨h1,h2,h3⟩:=rn (K:=bJ) h.L9 hx ha hj hv;obtain ⟨h4,h5⟩:=h.xA h1 zw h2;exact ⟨⟨h4,h2.mono fun g hg=>gD (.inr (.inr (.inl hg))),fun g hg=> .inl (h5 ▸ hg)⟩,h3⟩
def ll {x y:az} (h:ap W base q) (hx:q.ag[n]? =o_ x) (ha:q.ax=o_ ⟨gs,0,n_⟩) (hj:j < 3) (hv:bG.vals y=(bG.vals x).set j v):
  yr W base q ({ q with ag:=q.ag.set n y } :af) (W.setCell ⟨gs,n * 3+j,n_⟩ v)/\(∃ u,W.cell? ⟨gs,n * 3+j,n_⟩=o_ u)/\W.frozen? ⟨gs,n * 3+j,n_⟩=false:=by
 obtain ⟨h1,h2,h3⟩:=rn (K:=bG) h.ag hx ha hj hv;obtain ⟨h4,h5⟩:=h.xM h1 zw h2;exact ⟨⟨h4,h2.mono fun g hg=>gD (.inr (.inr (.inr (.inl hg)))),fun g hg=> .inl (h5 ▸ hg)⟩,h3⟩
def pp {st on i:Int} (h:dO (fun x:aD=>decide (x.Md=st) && decide (x.on=on)) q.pure.L8 q.L8.length i):(i < 0/\jl st on q.pure.L8=n_)\/ ∃ (m:Nat) (y:ao),i=m/\q.L8[m]? =o_ y/\jl st on q.pure.L8=o_ y.toaD:=by
 have hl:q.L8.length=q.pure.L8.length:=by simp [af.pure]
 by_cases hi:i < 0
 .refine .inl ⟨hi,?_⟩
  unfold dO at h;rw [hl,LQ] at h;unfold jl
  split at h
  .assumption
  .obtain ⟨k,hk,-⟩:=h
   omega
 .obtain ⟨k,y,h1,h2,h3,h4⟩:=h.got hi
  rw [hl,LQ] at h4;have h5:(q.L8.map (·.toaD))[k]? =o_ y:=h3;rw [Kk,Kw] at h5;obtain ⟨z,hz,rfl⟩:=h5;exact .inr ⟨k,z,h1,hz,h4⟩
def eY {x y:ao} (h:ap W base q) (hx:q.L8[n]? =o_ x) (ha:q.aN=o_ ⟨gs,0,n_⟩) (hy:y.prog=x.prog/\y.aY=x.aY/\y.bH=x.bH) (hj:j < 12) (hv:bg.vals y=(bg.vals x).set j v):
  yr W base q ({ q with L8:=q.L8.set n y } :af) (W.setCell ⟨gs,n * 12+j,n_⟩ v)/\(∃ u,W.cell? ⟨gs,n * 12+j,n_⟩=o_ u)/\W.frozen? ⟨gs,n * 12+j,n_⟩=false:=by
 have h3:=h.kB (n:=n) (j:=j) (x:=x) (y:=y) (vs:= [v]) hx ha hy ZcT (fun r hr=>by simp at hr; subst hr; rw [PT,hv,LU ZdF]; rfl) (fun r hr hn=>by rw [hv,List.getElem?_set_ne (by simp at hn; omega)]);refine ⟨⟨h3.1,h3.2.1.mono fun g hg=> ?_,fun g hg=> .inl (h3.2.2 ▸ hg)⟩,?_⟩
 .simp only [Kt,Ku,or_false] at hg
  rw [hg];exact tN ha
 .obtain ⟨g,hg,hrow⟩:=bl.fX (K:=bg) h.L8 Zd1
  exact Zbs
def sy (x:ao):Array v_:= #[i_ j_ x.id,i_ j_ x.RX,s_ x.aY x.prog.length x.bH,i_ j_ 0,i_ j_ 0,i_ j_ 0,i_ j_ 0,i_ j_ 0,t_ ⟨#[]⟩,t_ x.got,i_ j_ x.code,i_ j_ 0]
def GC {x:ao} (h:ap W base q) (hx:q.L8[n]? =o_ x) (ha:q.aN=o_ ⟨gs,0,n_⟩):W.there gs (n * 12) 12/\yr W base q ({ q with L8:=q.L8.set n (sW x) } :af) (W.setCells gs (n * 12) (sy x).toList):=by
 constructor
 .obtain ⟨g,hg,hrow⟩:=bl.fX (K:=bg) h.L8 Zd1
  rw [ha] at hg;cases hg;exact fun j hj=>⟨by have h7:=(hrow.cell hx (r:=j) hj).1; rw [show bg.n=12 from rfl] at h7; rw [h7,Kz ZdF]; rfl,(hrow.cell hx (r:=j) hj).2⟩
 .have hv:(sy x).toList=bg.vals (sW x):=rfl
  have h3:=h.kB (n:=n) (j:=0) (x:=x) (y:=sW x) (vs:=(sy x).toList) hx ha ⟨rfl,rfl,rfl⟩ (by show 0+12<=12; omega) (fun r _=>by rw [Li,hv]) (fun r hr hn=>absurd ⟨Nat.zero_le _,by show r < 0+12; omega⟩ hn);rw [PT,<- iL] at h3;refine ⟨h3.1,h3.2.1.mono fun g hg=> ?_,fun g hg=> .inl (h3.2.2 ▸ hg)⟩;simp only [Kt,Ku,or_false] at hg;rw [hg];exact tN ha
def kg {x:ao} {t:ByteArray} (hr:aQ q.pure) (hx:q.L8[n]? =o_ x) (ht:bw t=true):
  ∃ q1:af,q1= { q with L8:=q.L8.set n { x with got:=t } } /\q1.pure=ez t x.id q.pure/\q1.cells=q.cells/\aQ q1.pure/\q1.L8[n]? =o_ { x with got:=t } :=
 ⟨_,rfl,g7 (nx:=q.next) hr.kW hx rfl,jd (nx:=q.next),by rw [show ({ q with L8:=q.L8.set n { x with got:=t } } :af).pure=ez t x.id q.pure from g7 (nx:=q.next) hr.kW hx rfl]; exact iQ hr ht,by show (q.L8.set n _)[n]? =_; rw [LU (Lj.1 hx).1]⟩
def Bz {p:aE} {v:aD} {t:ByteArray} :gF (fun y=>y) (ez t v.id p) (lG t v)=gF (lG t) p v:=by
 unfold gF ez
 show ({ p with next:=gf p.next v,L8:=ce v.id (fun y=>iY p.next 0 y) (ce v.id (lG t) p.L8) } :aE)=_
 rw [pm (f:=lG t) (fun _=>rfl)]
def Xf.sync {w:w_} {q0 z q1:af} {o:dN} (h:Xf w base q0 z q o W) (hc:q1.cells=z.cells):Xf w base q0 q1 q o W:=⟨⟨by have h5:=h.fr.box; unfold av at h5 ⊢; exact h5.trans (congrArg (fun c=>o_ (Obj.cells c 31 (0,0))) hc.symm),h.fr.own,h.fr.kept,h.fr.far,h.fr.lo,h.fr.sz⟩,h.op,h.an⟩
def tQ {y:aD} (h:q.pure.L8[n]? =o_ y): ∃ x,q.L8[n]? =o_ x/\x.toaD=y:=by
 have h5:(q.L8.map (·.toaD))[n]? =o_ y:=h;rw [Kk,Kw] at h5;exact h5
def Gc {p:aE} {x y:aD} (h:aQ p) (hx:x∈p.L8) (hy:y∈p.L8) (e:y.id=x.id):y=x:=by
 exact Zat
def ym {l:List aD} {k:Int} {f:aD->aD} {x:aD} (h:l[n]? =o_ x) (hne: ¬ x.id=k):(ce k f l)[n]? =o_ x:=by
 unfold ce;rw [Kk,h];simp [hne]
def qp {q2:af} {m:Nat} {x v:ao} {f:aD->aD} (hr:aQ q.pure) (hx:q.L8[n]? =o_ x) (hs:x.Md=1) (hv:q.L8[m]? =o_ v) (h1: ¬ v.Md=1) (h0: ¬ v.Md=0) (hf:f=(fun y=>y)\/ ∃ t,bw t=true/\f=lG t) (hn:q.next+1<=1000000000) (hp:q2.pure=gF f q.pure v.toaD):
  aQ q2.pure/\ ∃ x2,q2.L8[n]? =o_ x2/\x2.toaD=x.toaD:=by
 refine ⟨by rw [hp]; exact i9 hr (iu hv) h0 hf hn,tQ ?_⟩;rw [hp];refine ym (mj hx) fun e=>h1 ?_
 have:=Gc hr (iu hv) (iu hx) e
 have h2:x.toaD.Md=1:=hs;rw [this] at h2;exact h2
end
end
section
open Go.RowKit Go.Maps
attribute [local go_sem ↓] Kc Kd
def oR (q:af) (n base:Nat) (x:ao) (st now:Int) (o:dN) (w:w_) (h:ap w base q) (hb:base<=w.heap.size) (hr:aQ q.pure) (hx:q.L8[n]? =o_ x) (h0: ¬ x.Md=0) (hn:q.next<=1000000000) (eu:0<=now/\now<=1000000000) (hw: -1<=o.2.2.1/\o.2.2.1<=1000):
  k_ J3 125 #[a_ q.cells,i_ j_ n,i_ j_ st,a_ (j9 o),i_ j_ now] w (jH w base q (mX st o now x.id q.pure)):=by
 have S:=aA (Xf.start (o:=o) h hb);clear h hb
 go_enter func125,ntmps125
 go_upto_region 1 with fail;generalize ((w.alloc (c_ q.cells 31)).alloc (c_ (j9 o) 45)).alloc (c_ ar 31)=A at *;obtain ⟨-,o1,o2,o3⟩:=S.I.op.cells;by_cases hz:o.2.2.1=0
 .have HE:Hid (mX st o now x.id q.pure=bu 1 x.id q.pure):=if_pos hz
  have e2:(o.2.2.1 == 0)=true:=by simp [hz]
  have Mb:=bB (n:=n) 1 S.I.fr.own S.I.low hr hx h0;clear hz hr hx h0 hn eu hw;go_wp2_with (refine eT 5 S.I.fr.box ?_);refine Mb.mono ?_;clear Mb;rintro e A2 ⟨q2,rfl,hp,ht⟩;replace S:=aA (S.I.call ht);have HP:Hid (q2.pure=_):=hp;clear hp ht;go_wp2_with (refine ec 10 16 q2.cells S.I.an ?_);refine gZ results125 S.I.an ?_;exact l_
 .have HE:Hid (mX st o now x.id q.pure=kC st o.2.1 o.2.2.2 (kZ now o.2.2.1) x.id q.pure):=if_neg hz
  have e2:(o.2.2.1 == 0)=false:=by simp [hz]
  have Mb:=sT q n base x st o.2.1 o.2.2.1 now o.2.2.2 A S.I.fr.own S.I.low hr hx hn eu hw;clear hz hr hx h0 hn eu hw;go_wp2_with (refine eT 5 S.I.fr.box ?_);refine Mb.mono ?_;clear Mb;rintro e A2 ⟨q2,rfl,hp,ht⟩;replace S:=aA (S.I.call ht);have HP:Hid (q2.pure=_):=hp;clear hp ht;go_wp2_with (refine ec 10 27 q2.cells S.I.an ?_);refine gZ results125 S.I.an ?_;exact l_
end
section
open Go.RowKit
def DL {g:aD->Bool} {f:aD->aD} {x:aD} (hf:g (f x)=false) (hx:g x=true): ∀ {l:List aD},l.Pairwise (fun x y=>x.id < y.id)->x∈l->((ce x.id f l).filter g).length+1=(l.filter g).length
 | [],_,h=>by cases h
 | y :: r,hr,h=>by
  rw [LM] at hr;by_cases e:y=x
  .subst e
   have h2:ce y.id f (y :: r)=f y :: r:=by
    exact ZbE
   rw [h2];simp [hf,hx]
  .have hm:x∈r:=by
    rcases Kt.1 h with h1 | h1
    .exact absurd h1.symm e
    .exact h1
   have h4:=DL hf hx hr.2 hm;have h5: ¬ y.id=x.id:=by have:=hr.1 x hm; omega
   have h6:ce x.id f (y :: r)=y :: ce x.id f r:=by simp [ce,h5]
   rw [h6];by_cases hy:g y=true
   .simp only [LN,hy,if_true,Lg]; omega
   .simp only [LN,hy,Bool.false_eq_true,if_false]; exact h4
section
variable {p:aE} {f:aD->aD} {st on:Int} {v:aD}
def qO (h:jl st on p.L8=n_):ff f st on p=p:=by
 unfold ff;rw [Dt h];rfl
def zC (hr:aQ p) (hst: ¬ st=0/\ ¬ st=1) (h:jl st on p.L8=o_ v):ff f st on p=ff f st on (gF f p v)/\((gF f p v).L8.filter (ie st on)).length+1=(p.L8.filter (ie st on)).length:=by
 obtain ⟨m1,m2,m3⟩:=ft h;have h1:((gF f p v).L8.filter (ie st on)).length+1=(p.L8.filter (ie st on)).length:=by
  refine DL (f:=fun y=>iY p.next 0 (f y)) ?_ ?_ hr.kW m1
  .unfold ie iY
   split
   .show (decide ((0:Int)=st) && _)=false
    rw [decide_eq_false zo]; rfl
   .show (decide ((1:Int)=st) && _)=false
    rw [decide_eq_false zo]; rfl
  .unfold ie; simp [m2,m3]
 refine ⟨?_,h1⟩;unfold ff;rw [<- h1];simp only [gW,h]
end
structure If (f:aD->aD) (st on:Int) (tgt:aE) (n:Nat) (x:aD) (k:Nat) (q:af) (z:Int):Prop where
 r:aQ q.pure
 pos:q.pure.L8[n]? =o_ x
 nx:q.next+k<=1000000000
 cnt:(q.pure.L8.filter (ie st on)).length=k
 same:ff f st on q.pure=tgt
 best:dO (fun x:aD=>decide (x.Md=st) && decide (x.on=on)) q.pure.L8 q.L8.length z
section
variable {f:aD->aD} {st on z z2:Int} {tgt:aE} {n k i:Nat} {x:aD} {v:ao} {q q2:af}
def If.start (hr:aQ q.pure) (hp:q.pure.L8[n]? =o_ x) (hn:q.next<=999999990) (hb:dO (fun x:aD=>decide (x.Md=st) && decide (x.on=on)) q.pure.L8 q.L8.length z):If f st on (ff f st on q.pure) n x (q.pure.L8.filter (ie st on)).length q z:=by
 have h1:(q.pure.L8.filter (ie st on)).length<=q.pure.L8.length:=List.length_filter_le _ _;have h2:=hr.dl;exact ⟨hr,hp,zo,rfl,rfl,hb⟩
def If.step (h:If f st on tgt n x k q z) (hx:x.Md=1) (hst: ¬ st=0/\ ¬ st=1) (hf:f=(fun y=>y)\/ ∃ t,bw t=true/\f=lG t) (hw:jl st on q.pure.L8=o_ v.toaD) (hp:q2.pure=gF f q.pure v.toaD):
  1<=k/\q.next+1<=1000000000/\aQ q2.pure/\ ∀ z2,dO (fun x:aD=>decide (x.Md=st) && decide (x.on=on)) q2.pure.L8 q2.L8.length z2->If f st on tgt n x (k - 1) q2 z2:=by
 obtain ⟨m1,m2,m3⟩:=ft hw;obtain ⟨h1,h2⟩:=zC (f:=f) h.r hst hw;have h3:=h.cnt;have h4:=h.nx;have h5:=mU q.next v.toaD;have h6:q2.next=gf q.next v.toaD:=congrArg aE.next hp;have hr2:aQ q2.pure:=by rw [hp]; exact i9 h.r m1 (by rw [m2]; exact hst.1) hf (by have:q.pure.next=q.next:=rfl; omega)
 refine ⟨zo,zo,hr2,fun z2 hb=>⟨hr2,?_,zo,by rw [hp]; omega,by rw [hp,<- h1]; exact h.same,hb⟩⟩;rw [hp];refine ym h.pos fun e=>hst.2 ?_
 have:=Gc h.r m1 (KA h.pos) e
 rw [this,m2] at hx;exact hx
end
end
section
open Go.RowKit Go.Maps
attribute [local go_sem ↓] Kc Kd
def dW {q:af} (h:aQ q.pure):q.L8.length<=6/\q.aj.length<=5/\q.L9.length<=5/\q.ag.length<=5/\q.ae.length<=5/\q.ai.length<=5:=by
 have h1:=h.dl;have h2:=h.cb;have h3:=h.dH;simp only [af.pure,List.length_map] at h1 h2 h3;exact ⟨h1,h.fx,h.cD,h.cC,h2,h3⟩
def DP {p:aE} {y:bD} (h:aQ p) (hy:y∈p.aj):y.max<=1000:=by
 have h1:=(cK h.aj y hy).2;unfold gw at h1;simp only [J7] at h1;exact (bz.1 h1.1).2
def CR (q:af) (n base:Nat) (x:ao) (now:Int) (o:dN) (w:w_) (h:ap w base q) (hb:base<=w.heap.size) (hr:aQ q.pure) (hx:q.L8[n]? =o_ x) (hs:x.Md=1) (hn:q.next<=999999990) (eu:0<=now/\now<=1000000000) (ho:kc o=true) (hk:o.1=3):
  k_ J3 89 #[a_ q.cells,i_ j_ n,a_ (j9 o),i_ j_ now] w (jH w base q (mh o now x.id q.pure)):=by
 obtain ⟨-,f1,f2,f3,f4⟩:=dv ho;have hM:=bz.1 f2;obtain ⟨k,N,M,s⟩:=o;simp only at hk hM f1 f3 f4;subst hk;have HR:=aA (SD hr hx hs hn eu hM);have HF:=aA (dW hr);clear f2 hr hx hs hn eu hM ho;have S:=aA (Xf.start (o:=(3,N,M,s)) h hb);clear h hb
 go_enter func89,ntmps89
 go_upto_region 1 with fail;generalize ((w.alloc (c_ q.cells 31)).alloc (c_ (j9 (3,N,M,s)) 45)).alloc (c_ ar 31)=A at *;obtain ⟨-,o1,-,-⟩:=S.I.op.cells;simp only at o1;have hpf:=ef (num:=fun x:bD=>x.id) N q.aj 0;have Mb:=lw q N A ZcZ S.I.fr.own.at;generalize place (q.aj.map (fun x=>x.id)) N 0=z at *;go_wp2_with (refine eT 4 S.I.fr.box ?_);refine Mb.mono ?_;clear Mb;rintro e A2 ⟨rfl,hb2⟩;replace S:=aA (S.I.reads hb2);clear hb2;clear o1;obtain ⟨o0,-,-,-⟩:=S.I.op.cells;simp only at o0;rcases hpf with ⟨hz,hf⟩ | ⟨m,y,hz,hm,hid,hf⟩
 .subst hz
  have HE:Hid (mh (3,N,M,s) now x.id q.pure=bu 3 x.id q.pure):=by show mh (3,N,M,s) now x.id q.pure=_; unfold mh; rw [show cg (fun x:bD=>x.id) N q.pure.aj=n_ from hf]
  exact gc
 rw [Li] at hz;subst hz;have afO:decide ((m:Int) < 0)=false:=decide_eq_false zo;have HM:Hid (q.aj[m]? =o_ y/\y.id=N/\cg (fun x:bD=>x.id) N q.aj=o_ y):=⟨hm,hid,hf⟩
 have hml:=(Lj.1 hm).1;have j0:(0:Int)<=(m:Int):=zo
 have j1:(m:Int) < (q.aj.length:Int):=zo
 obtain ⟨Y5,iE,hat⟩:=lQ S.I.fr.own.at.2.1 hm;have m3:=S.I.fr.box.cells.2.2.2.1;rw [iE] at m3;have d1:=hat.2.1;have HG:Hid (q.bc=o_ ⟨Y5,0,n_⟩):=iE;clear hm hid hf hml hat iE;by_cases hn0:y.n=0
 .have HE:Hid (mh (3,N,M,s) now x.id q.pure=mX 3 (3,N,M,s) now x.id q.pure):=by show mh (3,N,M,s) now x.id q.pure=_; unfold mh; rw [show cg (fun x:bD=>x.id) N q.pure.aj=o_ y from HM.I.2.2]; exact if_pos hn0
  have e1:(y.n == 0)=true:=by simp [hn0]
  have Mb:=oR q n base x 3 now (3,N,M,s) A2 S.I.fr.own S.I.low HR.I.1 HR.I.2.1 Zc1 Zdl HR.I.2.2.2.2.1 HR.I.2.2.2.2.2;clear hn0;go_wp2_with (first | (refine eT 4 S.I.fr.box ?_) | (refine LS rfl 45 (.tmp 6) rfl (w.heap.size+1) (by rfl) 45 (j9 (3,N,M,s)) (0,0) _ S.I.op underlying45 rfl ZcS ?_));refine Mb.mono ?_;clear Mb;rintro e A2 ⟨q2,rfl,hp,ht⟩;replace S:=aA (S.I.call ht);have HP:Hid (q2.pure=_):=hp;clear hp ht;go_wp2_with (refine ec 8 48 q2.cells S.I.an ?_);refine gZ results89 S.I.an ?_;exact l_
 have HE:Hid (mh (3,N,M,s) now x.id q.pure=bu 0 x.id (nZ N (-1) q.pure)):=by show mh (3,N,M,s) now x.id q.pure=_; unfold mh; rw [show cg (fun x:bD=>x.id) N q.pure.aj=o_ y from HM.I.2.2]; exact if_neg hn0
 have e1:(y.n == 0)=false:=by simp [hn0]
 have HN:Hid (¬ y.n=0):=hn0;clear hn0;go_upto_region 10 with fail;replace S:=aA (S.I.reads (Kp _ _).drew);refine eD (fun w1=>w1=A2.drew) 12 ZcS rfl ?_;generalize A2.drew=B at *;clear m3 d1;have m3:=S.I.fr.box.cells.2.2.2.1;rw [HG.I] at m3;obtain ⟨ga2,iE,hat⟩:=lQ S.I.fr.own.at.2.1 HM.I.1;rw [HG.I] at iE;cases iE;have d1:=hat.2.1;clear hat;obtain ⟨s1,⟨u,c⟩,f⟩:=uR (n:=m) (j:=1) (v:=i_ j_ (y.n - 1)) (y:= { y with n:=y.n - 1 }) S.I.fr.own HM.I.1 HG.I (by decide) rfl;have hk:=pw (o:=(3,N,M,s)) HR.I.1 HM.I.2.2;have n0:=hk.2.1;have n1:=hk.2.2;have n2:y.max<=1000:=DP HR.I.1 (KA HM.I.1);clear hk;have hw:IntKind.wrap j_ (y.n - 1)=y.n - 1:=by rw [K8]; have:=HN.I; omega
 replace S:=aA (S.I.call s1);clear s1
 iterate 12 (refine ly 13 (v:= ?_) (o_ _) rfl rfl ZcS (fun _ _ _ h=>h) (bV ZcS ?_) ?_; rotate_left; (intro w0 hS0; subst hS0; go_simp; try with_reducible rfl); simp only [pt,sb,s0,s1])
 refine fL rfl ZcS ZcS ZcS ?_;intro w1 cm;rw [cm];clear cm w1
 go_simp
 generalize B.setCell ⟨Y5,m * 3+1,n_⟩ (i_ j_ (y.n - 1))=C at *;clear m3 d1 c f u;have hq:({ q with aj:=q.aj.set m { y with n:=y.n - 1 } } :af).pure=nZ N (-1) q.pure:=by show ({ q.pure with aj:=q.aj.set m { y with n:=y.n - 1 } } :aE)=_; unfold nZ; rw [jF (num:=fun x:bD=>x.id) (db HR.I.1.aj).2 HM.I.1 HM.I.2.1]; rfl
 have hr2:aQ (nZ N (-1) q.pure):=mx HR.I.1 fun z hz hk=>by rw [only HR.I.1.aj HM.I.2.2 hz hk]; have:=HN.I; omega
 rw [<- hq] at hr2;have Mb:=bB (n:=n) 0 S.I.fr.own S.I.low hr2 HR.I.2.1 Zc1;rw [hq,show af.cells ({ q with aj:=q.aj.set m { y with n:=y.n - 1 } } :af)=q.cells by unfold af.cells; simp] at Mb;clear hq hr2 n0 n1 n2 hw;exact Zce
def zE (q:af) (n base:Nat) (x:ao) (now:Int) (o:dN) (w:w_) (h:ap w base q) (hb:base<=w.heap.size) (hr:aQ q.pure) (hx:q.L8[n]? =o_ x) (hs:x.Md=1) (hn:q.next<=999999990) (eu:0<=now/\now<=1000000000) (ho:kc o=true) (hk:o.1=4):
  k_ J3 89 #[a_ q.cells,i_ j_ n,a_ (j9 o),i_ j_ now] w (jH w base q (gJ o x.id q.pure)):=by
 obtain ⟨-,f1,f2,f3,f4⟩:=dv ho;have hM:=bz.1 f2;obtain ⟨k,N,M,s⟩:=o;simp only at hk hM f1 f3 f4;subst hk;have HR:=aA (SD hr hx hs hn eu hM);have HF:=aA (dW hr);clear f2 hr hx hs hn eu hM ho;have S:=aA (Xf.start (o:=(4,N,M,s)) h hb);clear h hb
 go_enter func89,ntmps89
 go_upto_region 1 with fail;generalize ((w.alloc (c_ q.cells 31)).alloc (c_ (j9 (4,N,M,s)) 45)).alloc (c_ ar 31)=A at *;obtain ⟨-,o1,-,-⟩:=S.I.op.cells;simp only at o1;have hpf:=ef (num:=fun x:bD=>x.id) N q.aj 0;have Mb:=lw q N A ZcZ S.I.fr.own.at;generalize place (q.aj.map (fun x=>x.id)) N 0=z at *;go_wp2_with (refine eT 4 S.I.fr.box ?_);refine Mb.mono ?_;clear Mb;rintro e A2 ⟨rfl,hb2⟩;replace S:=aA (S.I.reads hb2);clear hb2;clear o1;obtain ⟨o0,o1,-,-⟩:=S.I.op.cells;simp only at o0 o1;rcases hpf with ⟨hz,hf⟩ | ⟨m,y,hz,hm,hid,hf⟩
 .subst hz
  have HE:Hid (gJ (4,N,M,s) x.id q.pure=bu 3 x.id q.pure):=by show gJ (4,N,M,s) x.id q.pure=_; unfold gJ; rw [show cg (fun x:bD=>x.id) N q.pure.aj=n_ from hf]
  exact gc
 rw [Li] at hz;subst hz;have afO:decide ((m:Int) < 0)=false:=decide_eq_false zo;have HM:Hid (q.aj[m]? =o_ y/\y.id=N/\cg (fun x:bD=>x.id) N q.aj=o_ y):=⟨hm,hid,hf⟩
 have hml:=(Lj.1 hm).1;have j0:(0:Int)<=(m:Int):=zo
 have j1:(m:Int) < (q.aj.length:Int):=zo
 clear hm hid hf hml;have Mb:=ij q 3 N A2 ZcZ S.I.fr.own.at;go_wp2_with (refine eT 4 S.I.fr.box ?_);refine Mb.mono ?_;clear Mb o0 o1 afO;rintro e A3 ⟨⟨z,rfl,gV⟩,hb2⟩;replace S:=aA (S.I.reads hb2);clear hb2;rcases pp gV with ⟨hz,hw⟩ | ⟨i,v,hz,hi,hw⟩
 .have HW:Hid (jl 3 N q.pure.L8=n_):=hw
  have afO:decide (z>=0)=false:=decide_eq_false zo;clear gV hz hw;obtain ⟨Y5,iE,hat⟩:=lQ S.I.fr.own.at.2.1 HM.I.1;have m3:=S.I.fr.box.cells.2.2.2.1;rw [iE] at m3;have d1:=hat.2.1;have d2:=hat.2.2;have HG:Hid (q.bc=o_ ⟨Y5,0,n_⟩):=iE;clear hat iE;go_upto_region 15 with fail;clear afO;replace S:=aA (S.I.reads (Kp _ _).drew);refine aT (fun w1=>w1=A3.drew) ZcS rfl ?_;generalize A3.drew=B at *;clear m3 d1 d2;have m3:=S.I.fr.box.cells.2.2.2.1;rw [HG.I] at m3;obtain ⟨ga2,iE,hat⟩:=lQ S.I.fr.own.at.2.1 HM.I.1;rw [HG.I] at iE;cases iE;have d1:=hat.2.1;have d2:=hat.2.2;clear hat
  iterate 13 (refine agj ?_)
  refine bk ZcS ?_ _;intro w1 cm;rw [cm];clear cm w1;have HU:Hid (gJ (4,N,M,s) x.id q.pure=if y.n=y.max then bu 1 x.id q.pure else bu 0 x.id (nZ N 1 q.pure)):=by show gJ (4,N,M,s) x.id q.pure=_; unfold gJ; rw [show cg (fun x:bD=>x.id) N q.pure.aj=o_ y from HM.I.2.2]; dsimp only; rw [HW.I]
  by_cases hx0:y.n=y.max
  .have HE:Hid (gJ (4,N,M,s) x.id q.pure=bu 1 x.id q.pure):=HU.I.trans (if_pos hx0)
   have e1:(y.n == y.max)=true:=by simp [hx0]
   have Mb:=bB (n:=n) 1 S.I.fr.own S.I.low HR.I.1 HR.I.2.1 Zc1;clear hx0 m3 d1 d2;go_wp2_with (refine eT 4 S.I.fr.box ?_);refine Mb.mono ?_;clear Mb;rintro e A2 ⟨q2,rfl,hp,ht⟩;replace S:=aA (S.I.call ht);have HP:Hid (q2.pure=_):=hp;clear hp ht;go_wp2_with (refine ec 8 89 q2.cells S.I.an ?_);refine gZ results89 S.I.an ?_;exact l_
  have HE:Hid (gJ (4,N,M,s) x.id q.pure=bu 0 x.id (nZ N 1 q.pure)):=HU.I.trans (if_neg hx0);have e1:(y.n == y.max)=false:=by simp [hx0]
  have HN:Hid (¬ y.n=y.max):=hx0;clear hx0 d2;go_upto_region 17 with fail;clear e1;replace S:=aA (S.I.reads (Kp _ _).drew);refine eD (fun w1=>w1=B.drew) 12 ZcS rfl ?_;generalize B.drew=B2 at *;clear m3 d1;have m3:=S.I.fr.box.cells.2.2.2.1;rw [HG.I] at m3;obtain ⟨ga2,iE,hat⟩:=lQ S.I.fr.own.at.2.1 HM.I.1;rw [HG.I] at iE;cases iE;have d1:=hat.2.1;clear hat;obtain ⟨s1,⟨u,c⟩,f⟩:=uR (n:=m) (j:=1) (v:=i_ j_ (y.n+1)) (y:= { y with n:=y.n+1 }) S.I.fr.own HM.I.1 HG.I (by decide) rfl;have hk:=pw (o:=(4,N,M,s)) HR.I.1 HM.I.2.2;have n0:=hk.2.1;have n1:=hk.2.2;have n2:y.max<=1000:=DP HR.I.1 (KA HM.I.1);clear hk;have hw:IntKind.wrap j_ (y.n+1)=y.n+1:=by rw [K8]; have:=HN.I; omega
  replace S:=aA (S.I.call s1);clear s1
  iterate 12 (refine ly 13 (v:= ?_) (o_ _) rfl rfl ZcS (fun _ _ _ h=>h) (bV ZcS ?_) ?_; rotate_left; (intro w0 hS0; subst hS0; go_simp; try with_reducible rfl); simp only [pt,sb,s0,s1])
  refine fL rfl ZcS ZcS ZcS ?_;intro w1 cm;rw [cm];clear cm w1
  go_simp
  generalize B2.setCell ⟨Y5,m * 3+1,n_⟩ (i_ j_ (y.n+1))=C at *;clear m3 d1 c f u;have hq:({ q with aj:=q.aj.set m { y with n:=y.n+1 } } :af).pure=nZ N (1) q.pure:=by show ({ q.pure with aj:=q.aj.set m { y with n:=y.n+1 } } :aE)=_; unfold nZ; rw [jF (num:=fun x:bD=>x.id) (db HR.I.1.aj).2 HM.I.1 HM.I.2.1]; rfl
  have hr2:aQ (nZ N (1) q.pure):=mx HR.I.1 fun z hz hk=>by rw [only HR.I.1.aj HM.I.2.2 hz hk]; have:=HN.I; omega
  rw [<- hq] at hr2;have Mb:=bB (n:=n) 0 S.I.fr.own S.I.low hr2 HR.I.2.1 Zc1;rw [hq,show af.cells ({ q with aj:=q.aj.set m { y with n:=y.n+1 } } :af)=q.cells by unfold af.cells; simp] at Mb;clear hq hr2 n0 n1 n2 hw;exact Zce
 have HW:Hid (jl 3 N q.pure.L8=o_ v.toaD/\q.L8[i]? =o_ v/\v.Md=3):=⟨hw,hi,(ft hw).2.1⟩
 subst hz;have afO:decide ((i:Int)>=0)=true:=decide_eq_true zo;have hnx:=HR.I.2.2.2.1;clear gV hw hi;have HE:Hid (gJ (4,N,M,s) x.id q.pure=bu 0 x.id (gF (fun y=>y) q.pure v.toaD)):=by show gJ (4,N,M,s) x.id q.pure=_; unfold gJ; rw [show cg (fun x:bD=>x.id) N q.pure.aj=o_ y from HM.I.2.2]; dsimp only; rw [HW.I.1]
 have Mb:=lP (n:=i) S.I.fr.own S.I.low HR.I.1 HW.I.2.1 Zda zo;go_wp2_with (refine eT 4 S.I.fr.box ?_);refine Mb.mono ?_;clear Mb;rintro e afT ⟨q2,rfl,hp,ht⟩;replace S:=aA (S.I.call ht);obtain ⟨hr2,x2,hx2,sw⟩:=qp HR.I.1 HR.I.2.1 HR.I.2.2.1 HW.I.2.1 Zda Zda (.inl rfl) zo hp;have Mb:=bB (n:=n) 0 S.I.fr.own S.I.low hr2 hx2 Zc0;rw [show x2.id=x.id from congrArg aD.id sw,hp,<- HE.I] at Mb;clear hp ht hr2 hx2 sw afO hnx;go_wp2_with fail;refine Mb.mono ?_;clear Mb;rintro e A42 ⟨q3,rfl,hp,ht⟩;replace S:=aA (S.I.call ht);have HP:Hid (q3.pure=_):=hp;clear hp ht;go_wp2_with (refine ec 8 73 q3.cells S.I.an ?_);refine gZ results89 S.I.an ?_;exact ⟨q3,rfl,HP.I,S.I.done _⟩
end
section
open Go.RowKit Go.Maps
section
variable {w W:w_} {base n gs:Nat} {q:af}
def mB {x:au} {l:List ByteArray} {a:Option d_} {c:Nat} (h:ap w base q) (hb:aI w W (blk x.ak)) (hx:q.ae[n]? =o_ x) (ha:q.am=o_ ⟨gs,0,n_⟩) (ho:W.ownsRow base 9 1 (s_ a l.length c) l.length (bT.flat l)) (hf: ∀ g∈blk a,g∈blk x.ak\/w.heap.size<=g):
  yr w base q ({ q with ae:=q.ae.set n { x with Ma:=l,ak:=a,aq:=c } } :af) (W.setCell ⟨gs,n * 3+2,n_⟩ (s_ a l.length c))/\(∃ u,W.cell? ⟨gs,n * 3+2,n_⟩=o_ u)/\W.frozen? ⟨gs,n * 3+2,n_⟩=false:=by
 have hn:n < q.ae.length:=(Lj.1 hx).1;have hset:q.ae.set n { x with Ma:=l,ak:=a,aq:=c } =q.ae.take n ++ { x with Ma:=l,ak:=a,aq:=c } :: q.ae.drop (n+1):=by rw [List.set_eq_take_append_cons_drop,if_pos hn]
 have hk: ∀ (z:au) (A B:List au),(A ++ z :: B).filterMap aC.bt=A.filterMap aC.bt ++ ((aC.bt z).toList ++ B.filterMap aC.bt):=fun z A B=>by
  rw [List.filterMap_append,List.filterMap_cons];cases aC.bt z <;> simp
 have h6:q.ae.filterMap aC.bt=(q.ae.take n).filterMap aC.bt ++ ((aC.bt x).toList ++ (q.ae.drop (n+1)).filterMap aC.bt):=(congrArg (List.filterMap aC.bt) (kL hx)).trans (hk _ _ _);obtain ⟨P1,uZ⟩: ∃ P1,P1=blk q.aN ++ (q.L8.filterMap aR.bt ++ (blk q.bc ++ (blk q.ay ++ (blk q.ax ++ blk q.am)))) ++ (q.ae.take n).filterMap aC.bt:=⟨_,rfl⟩
 obtain ⟨P2,IQ⟩: ∃ P2,P2=(q.ae.drop (n+1)).filterMap aC.bt ++ (blk q.aK ++ q.ai.filterMap aU.bt):=⟨_,rfl⟩
 have e1:q.Mc=P1 ++ ((aC.bt x).toList ++ P2):=by rw [uZ,IQ]; simp only [af.Mc,h6,Lm]
 have e2:({ q with ae:=q.ae.set n { x with Ma:=l,ak:=a,aq:=c } } :af).Mc=P1 ++ ((a.map (·.block)).toList ++ P2):=by
  rw [uZ,IQ];simp only [af.Mc,hset,hk,Lm];rfl
 have hkx: ∀ g,g∈blk x.ak↔g∈(aC.bt x).toList:=fun g=>Iff.rfl
 have Dl:=h.nodup;rw [e1] at Dl;have hP: ∀ g,g∈P1\/g∈P2->g∉blk x.ak:=fun g hg hm=>by
  exact ZaQ
 have hin: ∀ g,g∈P1\/g∈P2->g∈q.Mc:=fun g hg=>by
  rw [e1];rcases hg with hg | hg
  .exact Lz _ hg
  .exact Ly _ (Ly _ hg)
 have hgl:gs∈blk q.am:=by rw [ha]; simp [blk]
 have hgP:gs∈P1:=by rw [uZ]; simp [hgl]
 have hsW: ∀ g,g∈P1\/g∈P2->W.heap[g]? =w.heap[g]? :=fun g hg=>hb.same g (h.lt g (hin g hg)).2 (hP g hg)
 have hrow:=aL h.ae fun g hg=>hsW g (.inl Zc9)
 obtain ⟨h1,h2,h3⟩:=rn (K:=bm) (y:= { x with Ma:=l,ak:=a,aq:=c }) (v:=s_ a l.length c) hrow hx ha (show 2 < 3 by decide) rfl;refine ⟨?_,h3⟩;have hnd:({ q with ae:=q.ae.set n { x with Ma:=l,ak:=a,aq:=c } } :af).Mc.Nodup:=by
  exact Zaj
 have hs: ∀ g,g≠gs->(W.setCell ⟨gs,n * 3+2,n_⟩ (s_ a l.length c)).heap[g]? =W.heap[g]? :=fun g hg=>aH hg
 have hsp:q.Mc=(blk q.aN ++ (q.L8.filterMap aR.bt ++ (blk q.bc ++ (blk q.ay ++ blk q.ax)))) ++ (blk q.am ++ (q.ae.filterMap aC.bt ++ (blk q.aK ++ q.ai.filterMap aU.bt))):=by simp [af.Mc,Lm]
 have nw: ∀ g,(g∈(blk q.aN ++ (q.L8.filterMap aR.bt ++ (blk q.bc ++ (blk q.ay ++ blk q.ax))))\/g∈(q.ae.filterMap aC.bt ++ (blk q.aK ++ q.ai.filterMap aU.bt)))->g≠gs:=fun g hg he=>by
  exact ZaI
 have hall: ∀ g,g∈P1\/g∈P2->g≠gs->(W.setCell ⟨gs,n * 3+2,n_⟩ (s_ a l.length c)).heap[g]? =w.heap[g]? :=fun g hg hne=>(hs g hne).trans (hsW g hg)
 refine ⟨⟨aL h.L8 fun g hg=>hall g (.inl Zc9) (nw g (.inl Zdm)),aL h.aj fun g hg=>hall g (.inl Zc9) (nw g (.inl Zdm)),aL h.L9 fun g hg=>hall g (.inl Zc9) (nw g (.inl Zdm)),aL h.ag fun g hg=>hall g (.inl Zc9) (nw g (.inl Zdm)),(by show (W.setCell _ _).ownsRow _ _ _ (s_ _ (List.set _ _ _).length _) (List.set _ _ _).length _; rw [List.length_set]; exact h1),aL h.ai fun g hg=>hall g (.inr (by rw [IQ]; simp [hg])) (nw g (.inr Zdm)),fun z hz=>(h.eI z hz).same fun g hg=>hall g (.inl ZdD) (nw g (.inl ZdV)),?_,?_,hnd⟩,⟨hb.os,hb.tape,hb.output,by rw [ja]; exact hb.size,fun g hg hm=>(hs g fun e=>hm (e ▸ hin gs (.inl hgP))).trans (hb.same g hg fun hx=>hm ZdQ)⟩,fun g hg=> ?_⟩
 .intro z hz
  rw [hset] at hz;rcases Kg.1 hz with hz | hz
  .exact (h.eE z (RK hz)).same fun g hg=>hall g (.inl (by rw [uZ]; exact Ly _ (dP.2 ⟨z,hz,hg⟩))) (nw g (.inr (by simp only [Kg]; exact .inl (dP.2 ⟨z,RK hz,hg⟩))))
  .rcases Kt.1 hz with rfl | hz
   .exact Zaq
   .exact (h.eE z (RL hz)).same fun g hg=>hall g (.inr (by rw [IQ]; exact Lz _ (dP.2 ⟨z,hz,hg⟩))) (nw g (.inr (by simp only [Kg]; exact .inl (dP.2 ⟨z,RL hz,hg⟩))))
 .intro z hz
  exact (h.eR z hz).same fun g hg=>hall g (.inr (by rw [IQ]; simp only [Kg]; exact .inr (.inr (dP.2 ⟨z,hz,hg⟩)))) (nw g (.inr (by simp only [Kg]; exact .inr (.inr (dP.2 ⟨z,hz,hg⟩)))))
 .exact Zap
def IY {m Y5 gp g:Nat} {y:au} (h:ap W base q) (hy:q.ae[m]? =o_ y) (iE:q.am=o_ ⟨Y5,0,n_⟩) (l9:q.aN=o_ ⟨gp,0,n_⟩) (hg:g∈blk y.ak):g∈q.Mc/\g≠Y5/\g≠gp/\Y5≠gp:=by
 have hk:g∈q.ae.filterMap aC.bt:=dP.2 ⟨y,KA hy,fZ.1 hg⟩;have h1:=h.nodup;have e:q.Mc=blk q.aN ++ ((q.L8.filterMap aR.bt ++ (blk q.bc ++ (blk q.ay ++ blk q.ax))) ++ (blk q.am ++ (q.ae.filterMap aC.bt ++ (blk q.aK ++ q.ai.filterMap aU.bt)))):=by simp [af.Mc,Lm]
 rw [e] at h1;obtain ⟨-,h2,h3⟩:=Kf.1 h1;obtain ⟨-,h4,-⟩:=Kf.1 h2;obtain ⟨-,-,h5⟩:=Kf.1 h4;have ma:Y5∈blk q.am:=by rw [iE]; simp [blk]
 have mp:gp∈blk q.aN:=by rw [l9]; simp [blk]
 exact ⟨by rw [e]; simp only [Kg]; exact .inr (.inr (.inr (.inl hk))),fun e=>h5 Y5 ma g (Lz _ hk) e.symm,fun e=>h3 gp mp g (by simp only [Kg]; exact .inr (.inr (.inl hk))) e.symm,fun e=>h3 gp mp Y5 (by simp only [Kg]; exact .inr (.inl ma)) e.symm⟩
def oN {x:au} {l:List ByteArray} {a:Option d_} {c:Nat} {N:Int} {ok:ci->Bool} {last:Int} (hr:aw (·.id) ok last q.pure.ae=true) (hx:q.ae[n]? =o_ x) (hN:x.id=N):({ q with ae:=q.ae.set n { x with Ma:=l,ak:=a,aq:=c } } :af).pure=cV N l q.pure:=by
 have hx':q.pure.ae[n]? =o_ x.toci:=by show (q.ae.map (·.toci))[n]? =_; rw [Kk,hx]; rfl
 unfold cV;rw [jF (num:=fun x:ci=>x.id) (db hr).2 hx' hN]
 show ({ q.pure with ae:=(q.ae.set n { x with Ma:=l,ak:=a,aq:=c }).map (·.toci) } :aE)=_
 rw [PN];rfl
def sq {x:aM} {l:List ByteArray} {a:Option d_} {c:Nat} {N:Int} {ok:dS->Bool} {last:Int} (hr:aw (·.id) ok last q.pure.ai=true) (hx:q.ai[n]? =o_ x) (hN:x.id=N):({ q with ai:=q.ai.set n { x with Ma:=l,ak:=a,aq:=c } } :af).pure=gU N l q.pure:=by
 have hx':q.pure.ai[n]? =o_ x.todS:=by show (q.ai.map (·.todS))[n]? =_; rw [Kk,hx]; rfl
 unfold gU;rw [jF (num:=fun x:dS=>x.id) (db hr).2 hx' hN]
 show ({ q.pure with ai:=(q.ai.set n { x with Ma:=l,ak:=a,aq:=c }).map (·.todS) } :aE)=_
 rw [PN];rfl
end
end
section
open Go.RowKit Go.Maps
attribute [local go_sem ↓] Kc Kd
def BE (q:af) (n base:Nat) (x:ao) (now:Int) (o:dN) (w:w_) (h:ap w base q) (hb:base<=w.heap.size) (hr:aQ q.pure) (hx:q.L8[n]? =o_ x) (hs:x.Md=1) (hn:q.next<=999999990) (eu:0<=now/\now<=1000000000) (ho:kc o=true) (hk:o.1=7):
  k_ J3 89 #[a_ q.cells,i_ j_ n,a_ (j9 o),i_ j_ now] w (jH w base q (dE o now x.id q.pure)):=by
 obtain ⟨-,f1,f2,f3,f4⟩:=dv ho;have hM:=bz.1 f2;obtain ⟨k,N,M,s⟩:=o;simp only at hk hM f1 f3 f4;subst hk;have HR:=aA (SD hr hx hs hn eu hM);have HF:=aA (dW hr);clear f2 hr hx hs hn eu hM ho;have S:=aA (Xf.start (o:=(7,N,M,s)) h hb);clear h hb
 go_enter func89,ntmps89
 go_upto_region 1 with fail;generalize ((w.alloc (c_ q.cells 31)).alloc (c_ (j9 (7,N,M,s)) 45)).alloc (c_ ar 31)=A at *;obtain ⟨-,o1,-,-⟩:=S.I.op.cells;simp only at o1;have Mb:=lw q N A ZcZ S.I.fr.own.at;go_wp2_with (refine eT 4 S.I.fr.box ?_);refine Mb.mono ?_;clear Mb;rintro e A2 ⟨rfl,hb2⟩;replace S:=aA (S.I.reads hb2);clear hb2 o1;generalize place (q.aj.map (fun x=>x.id)) N 0=z0 at *;obtain ⟨o0,o1,-,-⟩:=S.I.op.cells;simp only at o0 o1;have hpf:=ef (num:=fun x:aB=>x.id) N q.L9 0;have Mb:=ml q N A2 ZcZ S.I.fr.own.at;generalize place (q.L9.map (fun x=>x.id)) N 0=z at *;go_wp2_with (refine eT 4 S.I.fr.box ?_);refine Mb.mono ?_;clear Mb;rintro e A3 ⟨rfl,hb2⟩;replace S:=aA (S.I.reads hb2);clear hb2 o0 o1;obtain ⟨o0,-,-,-⟩:=S.I.op.cells;simp only at o0;rcases hpf with ⟨hz,hf⟩ | ⟨m,y,hz,hm,hid,hf⟩
 .subst hz
  have HE:Hid (dE (7,N,M,s) now x.id q.pure=bu 3 x.id q.pure):=by show dE (7,N,M,s) now x.id q.pure=_; unfold dE; rw [show cg (fun x:aB=>x.id) N q.pure.L9=n_ from hf]
  exact gc
 rw [Li] at hz;subst hz;have afO:decide ((m:Int) < 0)=false:=decide_eq_false zo;have HM:Hid (q.L9[m]? =o_ y/\y.id=N/\cg (fun x:aB=>x.id) N q.L9=o_ y):=⟨hm,hid,hf⟩
 have hml:=(Lj.1 hm).1;have j0:(0:Int)<=(m:Int):=zo
 have j1:(m:Int) < (q.L9.length:Int):=zo
 obtain ⟨Y5,iE,hat⟩:=j4 S.I.fr.own.at.2.2.1 hm;have m4:=S.I.fr.box.cells.2.2.2.2.1;rw [iE] at m4;have HG:Hid (q.ay=o_ ⟨Y5,0,n_⟩):=iE;have d1:=hat.2;clear hm hid hf hml hat iE;cases hu:y.up
 .rw [hu] at d1
  have HE:Hid (dE (7,N,M,s) now x.id q.pure=mX 4 (7,N,M,s) now x.id q.pure):=by show dE (7,N,M,s) now x.id q.pure=_; unfold dE; rw [show cg (fun x:aB=>x.id) N q.pure.L9=o_ y from HM.I.2.2]; simp [hu]
  clear hu;have Mb:=oR q n base x 4 now (7,N,M,s) A3 S.I.fr.own S.I.low HR.I.1 HR.I.2.1 Zc1 Zdl HR.I.2.2.2.2.1 HR.I.2.2.2.2.2;go_wp2_with (first | (refine eT 4 S.I.fr.box ?_) | (refine LS rfl 45 (.tmp 6) rfl (w.heap.size+1) (by rfl) 45 (j9 (7,N,M,s)) (0,0) _ S.I.op underlying45 rfl ZcS ?_));refine Mb.mono ?_;clear Mb;rintro e A2 ⟨q2,rfl,hp,ht⟩;replace S:=aA (S.I.call ht);have HP:Hid (q2.pure=_):=hp;clear hp ht;go_wp2_with (refine ec 8 142 q2.cells S.I.an ?_);refine gZ results89 S.I.an ?_;exact l_
 .rw [hu] at d1
  have HE:Hid (dE (7,N,M,s) now x.id q.pure=bu 0 x.id q.pure):=by show dE (7,N,M,s) now x.id q.pure=_; unfold dE; rw [show cg (fun x:aB=>x.id) N q.pure.L9=o_ y from HM.I.2.2]; simp [hu]
  clear hu;have Mb:=bB (n:=n) 0 S.I.fr.own S.I.low HR.I.1 HR.I.2.1 Zc1;exact Zce
def Ab (q:af) (n base:Nat) (x:ao) (now:Int) (o:dN) (w:w_) (h:ap w base q) (hb:base<=w.heap.size) (hr:aQ q.pure) (hx:q.L8[n]? =o_ x) (hs:x.Md=1) (hn:q.next<=999999990) (eu:0<=now/\now<=1000000000) (ho:kc o=true) (hk:o.1=6):
  k_ J3 89 #[a_ q.cells,i_ j_ n,a_ (j9 o),i_ j_ now] w (jH w base q (dE o now x.id q.pure)):=by
 obtain ⟨-,f1,f2,f3,f4⟩:=dv ho;have hM:=bz.1 f2;obtain ⟨k,N,M,s⟩:=o;simp only at hk hM f1 f3 f4;subst hk;have HR:=aA (SD hr hx hs hn eu hM);have HF:=aA (dW hr);clear f2 hr hx hs hn eu hM ho;have S:=aA (Xf.start (o:=(6,N,M,s)) h hb);clear h hb
 go_enter func89,ntmps89
 go_upto_region 1 with fail;generalize ((w.alloc (c_ q.cells 31)).alloc (c_ (j9 (6,N,M,s)) 45)).alloc (c_ ar 31)=A at *;obtain ⟨-,o1,-,-⟩:=S.I.op.cells;simp only at o1;have Mb:=lw q N A ZcZ S.I.fr.own.at;go_wp2_with (refine eT 4 S.I.fr.box ?_);refine Mb.mono ?_;clear Mb;rintro e A2 ⟨rfl,hb2⟩;replace S:=aA (S.I.reads hb2);clear hb2 o1;generalize place (q.aj.map (fun x=>x.id)) N 0=z0 at *;obtain ⟨o0,o1,-,-⟩:=S.I.op.cells;simp only at o0 o1;have hpf:=ef (num:=fun x:aB=>x.id) N q.L9 0;have Mb:=ml q N A2 ZcZ S.I.fr.own.at;generalize place (q.L9.map (fun x=>x.id)) N 0=z at *;go_wp2_with (refine eT 4 S.I.fr.box ?_);refine Mb.mono ?_;clear Mb;rintro e A3 ⟨rfl,hb2⟩;replace S:=aA (S.I.reads hb2);clear hb2 o0 o1;obtain ⟨o0,-,-,-⟩:=S.I.op.cells;simp only at o0;rcases hpf with ⟨hz,hf⟩ | ⟨m,y,hz,hm,hid,hf⟩
 .subst hz
  have HE:Hid (dE (6,N,M,s) now x.id q.pure=bu 3 x.id q.pure):=by show dE (6,N,M,s) now x.id q.pure=_; unfold dE; rw [show cg (fun x:aB=>x.id) N q.pure.L9=n_ from hf]
  exact gc
 rw [Li] at hz;subst hz;have afO:decide ((m:Int) < 0)=false:=decide_eq_false zo;have HM:Hid (q.L9[m]? =o_ y/\y.id=N/\cg (fun x:aB=>x.id) N q.L9=o_ y):=⟨hm,hid,hf⟩
 have hml:=(Lj.1 hm).1;have j0:(0:Int)<=(m:Int):=zo
 have j1:(m:Int) < (q.L9.length:Int):=zo
 obtain ⟨Y5,iE,hat⟩:=j4 S.I.fr.own.at.2.2.1 hm;have m4:=S.I.fr.box.cells.2.2.2.2.1;rw [iE] at m4;have HG:Hid (q.ay=o_ ⟨Y5,0,n_⟩):=iE;have HE:Hid (dE (6,N,M,s) now x.id q.pure=bu 0 x.id (gL N false q.pure)):=by show dE (6,N,M,s) now x.id q.pure=_; unfold dE; rw [show cg (fun x:aB=>x.id) N q.pure.L9=o_ y from HM.I.2.2]; rfl
 clear hm hid hf hml hat iE;obtain ⟨s1,⟨u,c⟩,f⟩:=rv (n:=m) (j:=1) (v:=b_ false) (y:= { y with up:=false }) S.I.fr.own HM.I.1 HG.I (by decide) rfl;replace S:=aA (S.I.call s1);clear s1;go_upto_region 29 with fail;generalize A3.setCell ⟨Y5,m * 2+1,n_⟩ (b_ false)=C at *;clear m4 c f u afO j0 j1 o0;have hq:({ q with L9:=q.L9.set m { y with up:=false } } :af).pure=gL N false q.pure:=by show ({ q.pure with L9:=q.L9.set m { y with up:=false } } :aE)=_; unfold gL; rw [jF (num:=fun x:aB=>x.id) (db HR.I.1.L9).2 HM.I.1 HM.I.2.1]; rfl
 have Hv:af.cells ({ q with L9:=q.L9.set m { y with up:=false } } :af)=q.cells:=by unfold af.cells; simp
 have hr2:aQ (gL N false q.pure):=kw HR.I.1;rw [<- hq] at hr2;have Mb:=bB (n:=n) 0 S.I.fr.own S.I.low hr2 HR.I.2.1 Zc1;rw [hq,Hv] at Mb;clear hq Hv hr2;exact Zce
def Ey (q:af) (n base:Nat) (x:ao) (now:Int) (o:dN) (w:w_) (h:ap w base q) (hb:base<=w.heap.size) (hr:aQ q.pure) (hx:q.L8[n]? =o_ x) (hs:x.Md=1) (hn:q.next<=999999990) (eu:0<=now/\now<=1000000000) (ho:kc o=true) (hk:o.1=5):
  k_ J3 89 #[a_ q.cells,i_ j_ n,a_ (j9 o),i_ j_ now] w (jH w base q (dE o now x.id q.pure)):=by
 obtain ⟨-,f1,f2,f3,f4⟩:=dv ho;have hM:=bz.1 f2;obtain ⟨k,N,M,s⟩:=o;simp only at hk hM f1 f3 f4;subst hk;have HR:=aA (SD hr hx hs hn eu hM);have HF:=aA (dW hr);clear f2 hr hx hs hn eu hM ho;have S:=aA (Xf.start (o:=(5,N,M,s)) h hb);clear h hb
 go_enter func89,ntmps89
 go_upto_region 1 with fail;generalize ((w.alloc (c_ q.cells 31)).alloc (c_ (j9 (5,N,M,s)) 45)).alloc (c_ ar 31)=A at *;obtain ⟨-,o1,-,-⟩:=S.I.op.cells;simp only at o1;have Mb:=lw q N A ZcZ S.I.fr.own.at;go_wp2_with (refine eT 4 S.I.fr.box ?_);refine Mb.mono ?_;clear Mb;rintro e A2 ⟨rfl,hb2⟩;replace S:=aA (S.I.reads hb2);clear hb2 o1;generalize place (q.aj.map (fun x=>x.id)) N 0=z0 at *;obtain ⟨o0,o1,-,-⟩:=S.I.op.cells;simp only at o0 o1;have hpf:=ef (num:=fun x:aB=>x.id) N q.L9 0;have Mb:=ml q N A2 ZcZ S.I.fr.own.at;generalize place (q.L9.map (fun x=>x.id)) N 0=z at *;go_wp2_with (refine eT 4 S.I.fr.box ?_);refine Mb.mono ?_;clear Mb;rintro e A3 ⟨rfl,hb2⟩;replace S:=aA (S.I.reads hb2);clear hb2 o0 o1;obtain ⟨o0,o1,-,-⟩:=S.I.op.cells;simp only at o0 o1;rcases hpf with ⟨hz,hf⟩ | ⟨m,y,hz,hm,hid,hf⟩
 .subst hz
  have HE:Hid (dE (5,N,M,s) now x.id q.pure=bu 3 x.id q.pure):=by show dE (5,N,M,s) now x.id q.pure=_; unfold dE; rw [show cg (fun x:aB=>x.id) N q.pure.L9=n_ from hf]
  exact gc
 rw [Li] at hz;subst hz;have afO:decide ((m:Int) < 0)=false:=decide_eq_false zo;have HM:Hid (q.L9[m]? =o_ y/\y.id=N/\cg (fun x:aB=>x.id) N q.L9=o_ y):=⟨hm,hid,hf⟩
 have hml:=(Lj.1 hm).1;have j0:(0:Int)<=(m:Int):=zo
 have j1:(m:Int) < (q.L9.length:Int):=zo
 obtain ⟨Y5,iE,hat⟩:=j4 S.I.fr.own.at.2.2.1 hm;have m4:=S.I.fr.box.cells.2.2.2.2.1;rw [iE] at m4;have HG:Hid (q.ay=o_ ⟨Y5,0,n_⟩):=iE;have HE:Hid (dE (5,N,M,s) now x.id q.pure=bu 0 x.id (ff (fun y=>y) 4 N (gL N true q.pure))):=by show dE (5,N,M,s) now x.id q.pure=_; unfold dE; rw [show cg (fun x:aB=>x.id) N q.pure.L9=o_ y from HM.I.2.2]; rfl
 clear o1;clear hm hid hf hml hat iE;obtain ⟨s1,⟨u,c⟩,f⟩:=rv (n:=m) (j:=1) (v:=b_ true) (y:= { y with up:=true }) S.I.fr.own HM.I.1 HG.I (by decide) rfl;replace S:=aA (S.I.call s1);clear s1;go_upto_region 20 with fail;generalize A3.setCell ⟨Y5,m * 2+1,n_⟩ (b_ true)=C at *;clear m4 c f u afO j0 j1 o0;have hq:({ q with L9:=q.L9.set m { y with up:=true } } :af).pure=gL N true q.pure:=by show ({ q.pure with L9:=q.L9.set m { y with up:=true } } :aE)=_; unfold gL; rw [jF (num:=fun x:aB=>x.id) (db HR.I.1.L9).2 HM.I.1 HM.I.2.1]; rfl
 have Hv:af.cells ({ q with L9:=q.L9.set m { y with up:=true } } :af)=q.cells:=by unfold af.cells; simp
 have hr2:aQ (gL N true q.pure):=kw HR.I.1;obtain ⟨q1,hq1⟩: ∃ q1:af,q1= { q with L9:=q.L9.set m { y with up:=true } } :=⟨_,rfl⟩
 rw [<- hq1] at hq Hv S;rw [<- hq] at hr2;have HQ:Hid (q1.pure=gL N true q.pure/\q1.cells=q.cells/\aQ q1.pure/\q1.L8[n]? =o_ x/\q1.next<=999999990):=⟨hq,Hv,hr2,by rw [hq1]; exact HR.I.2.1,by rw [hq1]; exact HR.I.2.2.2.1⟩
 have Mb:=ij q1 4 N C (by have:=(dW HQ.I.2.2.1).1; omega) S.I.fr.own.at;rw [Hv] at Mb;clear hq Hv hr2 hq1;obtain ⟨-,o1,-,-⟩:=S.I.op.cells;simp only at o1;go_wp2_with (refine eT 4 S.I.fr.box ?_);refine Mb.mono ?_;clear Mb o1;rintro e afl ⟨⟨z,rfl,gV⟩,hb2⟩;replace S:=aA (S.I.reads hb2);clear hb2;have afW:Hid (Xf w base q q1 q1 (5,N,M,s) afl):=⟨⟨by have h5:=S.I.fr.box; unfold av at h5 ⊢; exact h5.trans (congrArg (fun c=>o_ (Obj.cells c 31 (0,0))) HQ.I.2.1.symm),S.I.fr.own,S.I.fr.kept,S.I.fr.far,S.I.fr.lo,S.I.fr.sz⟩,S.I.op,S.I.an⟩
 have HI:=aA (If.start (f:=fun y=>y) (n:=n) (x:=x.toaD) HQ.I.2.2.1 (mj HQ.I.2.2.2.1) HQ.I.2.2.2.2 gV);rw [HQ.I.1] at HI;clear gV S;go_wp2_with fail
 go_loopg [11] ((gL N true q.pure).L8.filter (ie 4 N)).length (fun k b wr=> ∃ (qk:af) (z:Int),b=i_ j_ z/\Hid (If (fun y=>y) 4 N (ff (fun y=>y) 4 N (gL N true q.pure)) n x.toaD k qk z/\Xf w base q qk qk (5,N,M,s) wr))
 case atStart=>exact ⟨q1,z,rfl,HI.I,afW.I⟩
 case round=>
  obtain ⟨qk,z,rfl,HK⟩:=hrel;have S:=aA HK.I.2;rcases pp HK.I.1.best with ⟨hz,hw⟩ | ⟨i,v,hz,hi,hw⟩
  .have afO:decide (z>=0)=false:=decide_eq_false zo
   obtain ⟨x2,hx2,sw⟩:=tQ HK.I.1.pos;have HT:Hid (bu 0 x2.id qk.pure=dE (5,N,M,s) now x.id q.pure):=by show bu 0 x2.id qk.pure=_; rw [HE.I,<- HK.I.1.same,qO hw,show x2.id=x.id from congrArg aD.id sw]
   have Mb:=bB (n:=n) 0 S.I.fr.own S.I.low HK.I.1.r hx2 Zc0;clear hz hw hx2 sw;go_wp2_with (refine eT 4 S.I.fr.box ?_);refine Mb.mono ?_;clear Mb;rintro e A2 ⟨q2,rfl,hp,ht⟩;replace S:=aA (S.I.call ht);have HP:Hid (q2.pure=_):=hp;clear hp ht;go_wp2_with (refine ec 8 145 q2.cells S.I.an ?_);refine gZ results89 S.I.an ?_;exact ⟨q2,rfl,HP.I.trans HT.I,S.I.done _⟩
  subst hz;have afO:decide ((i:Int)>=0)=true:=decide_eq_true zo;have HW:Hid (jl 4 N qk.pure.L8=o_ v.toaD/\qk.L8[i]? =o_ v/\v.Md=4):=⟨hw,hi,(ft hw).2.1⟩
  clear hw hi;have Mb:=lP (n:=i) S.I.fr.own S.I.low HK.I.1.r HW.I.2.1 Zda (by have:=HK.I.1.nx; omega);go_wp2_with (refine eT 4 S.I.fr.box ?_);refine Mb.mono ?_;clear Mb afO;rintro e D ⟨q2,rfl,hp,ht⟩;replace S:=aA (S.I.call ht);have HJ:=aA (HK.I.1.step (q2:=q2) HR.I.2.2.1 ⟨by decide,by decide⟩ (.inl rfl) HW.I.1 hp);clear hp ht;have S2:=aA S.I.put;go_upto_region 22 with (refine ec 4 121 q2.cells S.I.fr.box ?_);generalize D.setRow w.heap.size q2.cells=af3 at *;clear S;have S:=S2;clear S2;obtain ⟨-,o1,-,-⟩:=S.I.op.cells;simp only at o1;have Mb:=ij q2 4 N af3 (by have:=(dW HJ.I.2.2.1).1; omega) S.I.fr.own.at;go_wp2_with (refine eT 4 S.I.fr.box ?_);refine Mb.mono ?_;clear Mb o1;rintro e afY ⟨⟨z2,rfl,gV⟩,hb2⟩;exact ZaE
def Cl (q:af) (n base:Nat) (x:ao) (now:Int) (o:dN) (w:w_) (h:ap w base q) (hb:base<=w.heap.size) (hr:aQ q.pure) (hx:q.L8[n]? =o_ x) (hs:x.Md=1) (hn:q.next<=999999990) (eu:0<=now/\now<=1000000000) (ho:kc o=true) (hk:o.1=12):
  k_ J3 91 #[a_ q.cells,i_ j_ n,a_ (j9 o),i_ j_ now] w (jH w base q (dC o now x.id q.pure)):=by
 obtain ⟨-,f1,f2,f3,f4⟩:=dv ho;have hM:=bz.1 f2;obtain ⟨k,N,M,s⟩:=o;simp only at hk hM f1 f3 f4;subst hk;have HR:=aA (SD hr hx hs hn eu hM);have HF:=aA (dW hr);clear f2 hr hx hs hn eu hM ho;have S:=aA (Xf.start (o:=(12,N,M,s)) h hb);clear h hb
 go_enter func91,ntmps91
 go_upto_region 1 with fail;generalize ((w.alloc (c_ q.cells 31)).alloc (c_ (j9 (12,N,M,s)) 45)).alloc (c_ ar 31)=A at *;obtain ⟨-,o1,-,-⟩:=S.I.op.cells;simp only at o1;have hpf:=ef (num:=fun x:az=>x.id) N q.ag 0;have Mb:=mg q N A ZcZ S.I.fr.own.at;generalize place (q.ag.map (fun x=>x.id)) N 0=z at *;go_wp2_with (refine eT 4 S.I.fr.box ?_);refine Mb.mono ?_;clear Mb;rintro e A2 ⟨rfl,hb2⟩;replace S:=aA (S.I.reads hb2);clear hb2 o1;rcases hpf with ⟨hz,hf⟩ | ⟨m,y,hz,hm,hid,hf⟩
 .subst hz
  have HE:Hid (dC (12,N,M,s) now x.id q.pure=bu 3 x.id q.pure):=by show dC (12,N,M,s) now x.id q.pure=_; unfold dC; rw [show cg (fun x:az=>x.id) N q.pure.ag=n_ from hf]
  exact Zcf
 rw [Li] at hz;subst hz;have afO:decide ((m:Int) < 0)=false:=decide_eq_false zo;have HM:Hid (q.ag[m]? =o_ y/\y.id=N/\cg (fun x:az=>x.id) N q.pure.ag=o_ y):=⟨hm,hid,hf⟩
 have hml:=(Lj.1 hm).1;have j0:(0:Int)<=(m:Int):=zo
 have j1:(m:Int) < (q.ag.length:Int):=zo
 clear hm hid hf hml;obtain ⟨o0,-,-,-⟩:=S.I.op.cells;simp only at o0;have ht:=(sX (o:=(12,N,M,s)) HR.I.1 HM.I.2.2).2;have HG1:=aA (kg HR.I.1 HR.I.2.1 ht);clear ht;go_upto_region 17 with fail;clear afO o0;replace S:=aA (S.I.reads (Kp _ _).drew);refine eD (fun w1=>w1=A2.drew) 11 ZcS rfl ?_;generalize A2.drew=B at *;obtain ⟨Y5,iE,hat⟩:=jr S.I.fr.own.at.2.2.2.1 HM.I.1;have m5:=S.I.fr.box.cells.2.2.2.2.2.1;rw [iE] at m5;have d1:=hat.2.1;have d2:=hat.2.2;have HG:Hid (q.ax=o_ ⟨Y5,0,n_⟩):=iE;clear hat iE;obtain ⟨gp,l9,-⟩:=cn S.I.fr.own.at.1 HR.I.2.1;have m2:=S.I.fr.box.cells.2.2.1;have k1:(n:Int) < (q.L8.length:Int):=by have:=(Lj.1 HR.I.2.1).1; omega
 have k0:(0:Int)<=(n:Int):=zo
 rw [l9] at m2;obtain ⟨s1,⟨u,c⟩,f⟩:=eY (n:=n) (j:=9) (v:=t_ y.text) (y:= { x with got:=y.text }) S.I.fr.own HR.I.2.1 l9 ⟨rfl,rfl,rfl⟩ (by decide) rfl;replace S:=aA (S.I.call s1);clear s1 l9
 iterate 11 (refine ly 12 (v:= ?_) (o_ _) rfl rfl ZcS (fun _ _ _ h=>h) (bV ZcS ?_) ?_; rotate_left; (intro w0 hS0; subst hS0; go_simp; try with_reducible rfl); simp only [pt,sb,s0,s1])
 refine fL rfl ZcS ZcS ZcS ?_;intro w1 cm;rw [cm];clear cm w1
 go_simp
 generalize B.setCell ⟨gp,n * 12+9,n_⟩ (t_ y.text)=C at *;clear m2 m5 d1 d2 c f u k0 k1;obtain ⟨q1,hq1,hq⟩:=HG1.I;have HB:Hid (q1.ag[m]? =o_ y/\q1.next=q.next/\q1.ax=q.ax):=by rw [hq1]; exact ⟨HM.I.1,rfl,rfl⟩
 rw [<- hq1] at S;have HQ:=aA hq;clear hq1 hq HG1;obtain ⟨ga2,iE,hat⟩:=jr S.I.fr.own.at.2.2.2.1 HB.I.1;rw [HB.I.2.2,HG.I] at iE;cases iE;have d1:=hat.2.1;clear hat;have m5:=S.I.fr.box.cells.2.2.2.2.2.1;rw [HG.I] at m5;cases hu:y.shown
 .rw [hu] at d1
  have HE:Hid (dC (12,N,M,s) now x.id q.pure=mX 7 (12,N,M,s) now x.id (ez y.text x.id q.pure)):=by show dC (12,N,M,s) now x.id q.pure=_; unfold dC; rw [show cg (fun x:az=>x.id) N q.pure.ag=o_ y from HM.I.2.2]; simp [hu]
  clear hu;have Mb:=oR q1 n base { x with got:=y.text } 7 now (12,N,M,s) C S.I.fr.own S.I.low HQ.I.2.2.1 HQ.I.2.2.2 Zc6 (by have:=HR.I.2.2.2.1; rw [HB.I.2.1]; omega) HR.I.2.2.2.2.1 HR.I.2.2.2.2.2;rw [HQ.I.1,HQ.I.2.1] at Mb;go_wp2_with (first | (refine eT 4 S.I.fr.box ?_) | (refine LS rfl 45 (.tmp 6) rfl (w.heap.size+1) (by rfl) 45 (j9 (12,N,M,s)) (0,0) _ S.I.op underlying45 rfl ZcS ?_));refine Mb.mono ?_;clear Mb;rintro e A2 ⟨q2,rfl,hp,ht⟩;replace S:=aA (S.I.call ht);have HP:Hid (q2.pure=_):=hp;clear hp ht;go_wp2_with (refine ec 8 92 q2.cells S.I.an ?_);refine gZ results91 S.I.an ?_;exact l_
 .rw [hu] at d1
  have HE:Hid (dC (12,N,M,s) now x.id q.pure=bu 0 x.id (ez y.text x.id q.pure)):=by show dC (12,N,M,s) now x.id q.pure=_; unfold dC; rw [show cg (fun x:az=>x.id) N q.pure.ag=o_ y from HM.I.2.2]; simp [hu]
  clear hu;have Mb:=bB (n:=n) 0 S.I.fr.own S.I.low HQ.I.2.2.1 HQ.I.2.2.2 Zc6;exact Zcr
def AS (q:af) (n base:Nat) (x:ao) (now:Int) (o:dN) (w:w_) (h:ap w base q) (hb:base<=w.heap.size) (hr:aQ q.pure) (hx:q.L8[n]? =o_ x) (hs:x.Md=1) (hn:q.next<=999999990) (eu:0<=now/\now<=1000000000) (ho:kc o=true) (hk:o.1=11):
  k_ J3 91 #[a_ q.cells,i_ j_ n,a_ (j9 o),i_ j_ now] w (jH w base q (dC o now x.id q.pure)):=by
 obtain ⟨-,f1,f2,f3,f4⟩:=dv ho;have hM:=bz.1 f2;obtain ⟨k,N,M,s⟩:=o;simp only at hk hM f1 f3 f4;subst hk;have HR:=aA (SD hr hx hs hn eu hM);have HF:=aA (dW hr);clear f2 hr hx hs hn eu hM ho;have S:=aA (Xf.start (o:=(11,N,M,s)) h hb);clear h hb
 go_enter func91,ntmps91
 go_upto_region 1 with fail;generalize ((w.alloc (c_ q.cells 31)).alloc (c_ (j9 (11,N,M,s)) 45)).alloc (c_ ar 31)=A at *;obtain ⟨-,o1,-,-⟩:=S.I.op.cells;simp only at o1;have hpf:=ef (num:=fun x:az=>x.id) N q.ag 0;have Mb:=mg q N A ZcZ S.I.fr.own.at;generalize place (q.ag.map (fun x=>x.id)) N 0=z at *;go_wp2_with (refine eT 4 S.I.fr.box ?_);refine Mb.mono ?_;clear Mb;rintro e A2 ⟨rfl,hb2⟩;replace S:=aA (S.I.reads hb2);clear hb2 o1;rcases hpf with ⟨hz,hf⟩ | ⟨m,y,hz,hm,hid,hf⟩
 .subst hz
  have HE:Hid (dC (11,N,M,s) now x.id q.pure=bu 3 x.id q.pure):=by show dC (11,N,M,s) now x.id q.pure=_; unfold dC; rw [show cg (fun x:az=>x.id) N q.pure.ag=n_ from hf]
  exact Zcf
 rw [Li] at hz;subst hz;have afO:decide ((m:Int) < 0)=false:=decide_eq_false zo;have HM:Hid (q.ag[m]? =o_ y/\y.id=N/\cg (fun x:az=>x.id) N q.pure.ag=o_ y):=⟨hm,hid,hf⟩
 have hml:=(Lj.1 hm).1;have j0:(0:Int)<=(m:Int):=zo
 have j1:(m:Int) < (q.ag.length:Int):=zo
 clear hm hid hf hml;obtain ⟨o0,-,-,-⟩:=S.I.op.cells;simp only at o0;have HE:Hid (dC (11,N,M,s) now x.id q.pure=bu 0 x.id (ib N false rM q.pure)):=by show dC (11,N,M,s) now x.id q.pure=_; unfold dC; rw [show cg (fun x:az=>x.id) N q.pure.ag=o_ y from HM.I.2.2]; rfl
 obtain ⟨Y5,iE,hat⟩:=jr S.I.fr.own.at.2.2.2.1 HM.I.1;have m5:=S.I.fr.box.cells.2.2.2.2.2.1;rw [iE] at m5;have HG:Hid (q.ax=o_ ⟨Y5,0,n_⟩):=iE;clear hat iE;obtain ⟨s1,⟨u,c⟩,f⟩:=ll (n:=m) (j:=1) (v:=b_ false) (y:= { y with shown:=false }) S.I.fr.own HM.I.1 HG.I (by decide) rfl;replace S:=aA (S.I.call s1);clear s1;go_upto_region 15 with fail;generalize A2.setCell ⟨Y5,m * 3+1,n_⟩ (b_ false)=C at *;clear m5 c f u;have m5:=S.I.fr.box.cells.2.2.2.2.2.1;rw [HG.I] at m5;obtain ⟨s1,⟨u,c⟩,f⟩:=ll (n:=m) (j:=2) (v:=t_ ⟨#[]⟩) (x:= { y with shown:=false }) (y:= { y with shown:=false,text:=rM }) S.I.fr.own ZdY HG.I (by decide) rfl;replace S:=aA (S.I.call s1);clear s1;simp only [PV] at S;go_upto_region 20 with fail;generalize C.setCell ⟨Y5,m * 3+2,n_⟩ (t_ ⟨#[]⟩)=D at *;clear m5 c f u afO j0 j1;have CK:Hid (∃ q1:af,q1= { q with ag:=q.ag.set m { y with shown:=false,text:=rM } } /\q1.pure=ib N false rM q.pure/\q1.cells=q.cells/\aQ q1.pure/\q1.L8[n]? =o_ x/\q1.next=q.next):=by
  have hq:({ q with ag:=q.ag.set m { y with shown:=false,text:=rM } } :af).pure=ib N false rM q.pure:=by show ({ q.pure with ag:=q.ag.set m { y with shown:=false,text:=rM } } :aE)=_; unfold ib; rw [jF (num:=fun x:az=>x.id) (db HR.I.1.ag).2 HM.I.1 HM.I.2.1]; rfl
  exact ⟨_,rfl,hq,by unfold af.cells; simp,by rw [hq]; exact kA HR.I.1 jX (.inr oB),HR.I.2.1,rfl⟩
 obtain ⟨q1,hq1,hq⟩:=CK.I;rw [<- hq1] at S;have HQ:=aA hq;clear hq1 hq CK;have Mb:=bB (n:=n) 0 S.I.fr.own S.I.low HQ.I.2.2.1 HQ.I.2.2.2.1 Zc1;exact Zcr
def CA (q:af) (n base:Nat) (x:ao) (now:Int) (o:dN) (w:w_) (h:ap w base q) (hb:base<=w.heap.size) (hr:aQ q.pure) (hx:q.L8[n]? =o_ x) (hs:x.Md=1) (hn:q.next<=999999990) (eu:0<=now/\now<=1000000000) (ho:kc o=true) (hk:o.1=10):
  k_ J3 91 #[a_ q.cells,i_ j_ n,a_ (j9 o),i_ j_ now] w (jH w base q (dC o now x.id q.pure)):=by
 obtain ⟨-,f1,f2,f3,f4⟩:=dv ho;have hM:=bz.1 f2;obtain ⟨k,N,M,s⟩:=o;simp only at hk hM f1 f3 f4;subst hk;have HR:=aA (SD hr hx hs hn eu hM);have HF:=aA (dW hr);clear f2 hr hx hs hn eu hM ho;have S:=aA (Xf.start (o:=(10,N,M,s)) h hb);clear h hb
 go_enter func91,ntmps91
 go_upto_region 1 with fail;generalize ((w.alloc (c_ q.cells 31)).alloc (c_ (j9 (10,N,M,s)) 45)).alloc (c_ ar 31)=A at *;obtain ⟨-,o1,-,-⟩:=S.I.op.cells;simp only at o1;have hpf:=ef (num:=fun x:az=>x.id) N q.ag 0;have Mb:=mg q N A ZcZ S.I.fr.own.at;generalize place (q.ag.map (fun x=>x.id)) N 0=z at *;go_wp2_with (refine eT 4 S.I.fr.box ?_);refine Mb.mono ?_;clear Mb;rintro e A2 ⟨rfl,hb2⟩;replace S:=aA (S.I.reads hb2);clear hb2 o1;rcases hpf with ⟨hz,hf⟩ | ⟨m,y,hz,hm,hid,hf⟩
 .subst hz
  have HE:Hid (dC (10,N,M,s) now x.id q.pure=bu 3 x.id q.pure):=by show dC (10,N,M,s) now x.id q.pure=_; unfold dC; rw [show cg (fun x:az=>x.id) N q.pure.ag=n_ from hf]
  exact Zcf
 rw [Li] at hz;subst hz;have afO:decide ((m:Int) < 0)=false:=decide_eq_false zo;have HM:Hid (q.ag[m]? =o_ y/\y.id=N/\cg (fun x:az=>x.id) N q.pure.ag=o_ y):=⟨hm,hid,hf⟩
 have hml:=(Lj.1 hm).1;have j0:(0:Int)<=(m:Int):=zo
 have j1:(m:Int) < (q.ag.length:Int):=zo
 clear hm hid hf hml;obtain ⟨o0,-,-,-⟩:=S.I.op.cells;simp only at o0;have HE:Hid (dC (10,N,M,s) now x.id q.pure=bu 0 x.id (ff (lG s) 7 N (ib N true s q.pure))):=by show dC (10,N,M,s) now x.id q.pure=_; unfold dC; rw [show cg (fun x:az=>x.id) N q.pure.ag=o_ y from HM.I.2.2]; rfl
 obtain ⟨Y5,iE,hat⟩:=jr S.I.fr.own.at.2.2.2.1 HM.I.1;have m5:=S.I.fr.box.cells.2.2.2.2.2.1;rw [iE] at m5;have HG:Hid (q.ax=o_ ⟨Y5,0,n_⟩):=iE;clear hat iE;obtain ⟨s1,⟨u,c⟩,f⟩:=ll (n:=m) (j:=1) (v:=b_ true) (y:= { y with shown:=true }) S.I.fr.own HM.I.1 HG.I (by decide) rfl;replace S:=aA (S.I.call s1);clear s1;go_upto_region 7 with fail;generalize A2.setCell ⟨Y5,m * 3+1,n_⟩ (b_ true)=C at *;clear m5 c f u;obtain ⟨-,-,-,o3⟩:=S.I.op.cells;simp only at o3;have m5:=S.I.fr.box.cells.2.2.2.2.2.1;rw [HG.I] at m5;obtain ⟨s1,⟨u,c⟩,f⟩:=ll (n:=m) (j:=2) (v:=t_ s) (x:= { y with shown:=true }) (y:= { y with shown:=true,text:=s }) S.I.fr.own ZdY HG.I (by decide) rfl;replace S:=aA (S.I.call s1);clear s1;simp only [PV] at S;go_upto_region 8 with fail;generalize C.setCell ⟨Y5,m * 3+2,n_⟩ (t_ s)=D at *;clear m5 c f u afO j0 j1 o3;have CK:Hid (∃ q1:af,q1= { q with ag:=q.ag.set m { y with shown:=true,text:=s } } /\q1.pure=ib N true s q.pure/\q1.cells=q.cells/\aQ q1.pure/\q1.L8[n]? =o_ x/\q1.next=q.next):=by
  have hq:({ q with ag:=q.ag.set m { y with shown:=true,text:=s } } :af).pure=ib N true s q.pure:=by show ({ q.pure with ag:=q.ag.set m { y with shown:=true,text:=s } } :aE)=_; unfold ib; rw [jF (num:=fun x:az=>x.id) (db HR.I.1.ag).2 HM.I.1 HM.I.2.1]; rfl
  exact ⟨_,rfl,hq,by unfold af.cells; simp,by rw [hq]; exact kA HR.I.1 f3 (.inl rfl),HR.I.2.1,rfl⟩
 obtain ⟨q1,hq1,hq⟩:=CK.I;rw [<- hq1] at S;have HQ:=aA hq;clear hq1 hq CK;have Mb:=ij q1 7 N D (by have:=(dW HQ.I.2.2.1).1; omega) S.I.fr.own.at;rw [HQ.I.2.1] at Mb;obtain ⟨-,o1,-,-⟩:=S.I.op.cells;simp only at o1;go_wp2_with (refine eT 4 S.I.fr.box ?_);refine Mb.mono ?_;clear Mb o1;rintro e af3 ⟨⟨z,rfl,gV⟩,hb2⟩;replace S:=aA (S.I.reads hb2);clear hb2;have afW:=aA (S.I.sync HQ.I.2.1);have IB:Hid (bw s=true):=f3;have HI:=aA (If.start (f:=lG s) (n:=n) (x:=x.toaD) HQ.I.2.2.1 (mj HQ.I.2.2.2.1) (by have:=HR.I.2.2.2.1; rw [HQ.I.2.2.2.2]; exact this) gV);rw [HQ.I.1] at HI;clear gV S f1 f3 f4;go_wp2_with fail
 go_loopg [10] ((ib N true s q.pure).L8.filter (ie 7 N)).length (fun k b wr=> ∃ (qk:af) (z:Int),b=i_ j_ z/\Hid (If (lG s) 7 N (ff (lG s) 7 N (ib N true s q.pure)) n x.toaD k qk z/\Xf w base q qk qk (10,N,M,s) wr))
 case atStart=>exact ⟨q1,z,rfl,HI.I,afW.I⟩
 case round=>
  obtain ⟨qk,z,rfl,HK⟩:=hrel;have S:=aA HK.I.2;rcases pp HK.I.1.best with ⟨hz,hw⟩ | ⟨i,v,hz,hi,hw⟩
  .have afO:decide (z>=0)=false:=decide_eq_false zo
   obtain ⟨x2,hx2,sw⟩:=tQ HK.I.1.pos;have HT:Hid (bu 0 x2.id qk.pure=dC (10,N,M,s) now x.id q.pure):=by show bu 0 x2.id qk.pure=_; rw [HE.I,<- HK.I.1.same,qO hw,show x2.id=x.id from congrArg aD.id sw]
   have Mb:=bB (n:=n) 0 S.I.fr.own S.I.low HK.I.1.r hx2 Zc0;clear hz hw hx2 sw;go_wp2_with (refine eT 4 S.I.fr.box ?_);refine Mb.mono ?_;clear Mb;rintro e A2 ⟨q2,rfl,hp,ht⟩;replace S:=aA (S.I.call ht);have HP:Hid (q2.pure=_):=hp;clear hp ht;go_wp2_with (refine ec 8 95 q2.cells S.I.an ?_);refine gZ results91 S.I.an ?_;exact ⟨q2,rfl,HP.I.trans HT.I,S.I.done _⟩
  subst hz;have afO:decide ((i:Int)>=0)=true:=decide_eq_true zo;have HW:Hid (jl 7 N qk.pure.L8=o_ v.toaD/\qk.L8[i]? =o_ v/\v.Md=7):=⟨hw,hi,(ft hw).2.1⟩
  clear hw hi;obtain ⟨-,-,-,o3⟩:=S.I.op.cells;simp only at o3;obtain ⟨gp,l9,-⟩:=cn S.I.fr.own.at.1 HW.I.2.1;have m2:=S.I.fr.box.cells.2.2.1;have k1:(i:Int) < (qk.L8.length:Int):=by have:=(Lj.1 HW.I.2.1).1; omega
  have k0:(0:Int)<=(i:Int):=zo
  rw [l9] at m2;obtain ⟨s1,⟨u,c⟩,f⟩:=eY (n:=i) (j:=9) (v:=t_ s) (y:= { v with got:=s }) S.I.fr.own HW.I.2.1 l9 ⟨rfl,rfl,rfl⟩ (by decide) rfl;replace S:=aA (S.I.call s1);clear s1 l9;go_upto_region 12 with fail;generalize wr.setCell ⟨gp,i * 12+9,n_⟩ (t_ s)=E at *;clear m2 c f u k0 k1 afO o3;obtain ⟨afn,hqg,g1,g2,g3,g4⟩:=kg HK.I.1.r HW.I.2.1 IB.I;rw [<- hqg] at S;have Mb:=lP (n:=i) S.I.fr.own S.I.low g3 g4 (by show ¬ v.Md=0; rw [HW.I.2.2]; decide) (by rw [hqg]; have:=HK.I.1.nx; show qk.next<=_; omega);rw [g1,g2,show ({ v with got:=s } :ao).toaD=lG s v.toaD from rfl,Bz] at Mb;clear hqg g1 g2 g3 g4;go_wp2_with (refine eT 4 S.I.fr.box ?_);refine Mb.mono ?_;clear Mb;rintro e afP ⟨q2,rfl,hp,ht⟩;replace S:=aA (S.I.call ht);have HJ:=aA (HK.I.1.step (q2:=q2) HR.I.2.2.1 ⟨by decide,by decide⟩ (.inr ⟨_,IB.I,rfl⟩) HW.I.1 hp);clear hp ht;have S2:=aA S.I.put;go_upto_region 10 with (refine ec 4 55 q2.cells S.I.fr.box ?_);generalize afP.setRow w.heap.size q2.cells=afv at *;clear S;have S:=S2;clear S2;obtain ⟨-,o1,-,-⟩:=S.I.op.cells;simp only at o1;have Mb:=ij q2 7 N afv (by have:=(dW HJ.I.2.2.1).1; omega) S.I.fr.own.at;go_wp2_with (refine eT 4 S.I.fr.box ?_);refine Mb.mono ?_;clear Mb o1;rintro e R1 ⟨⟨z2,rfl,gV⟩,hb2⟩;exact ZaE
def Aa {p:aE} {y:aD} {N:Int} (h:aQ p) (hf:cg (fun x:aD=>x.id) N p.L8=o_ y) (h0:y.Md=0) (hn:p.next<=999999990):aQ (py N p):=by
 have hnx:=bz.1 h.next;refine h.ju (nx:=p.next+1) (f:=fun y=> { y with Md:=1,RU:=p.next }) (fun _=>rfl) ⟨zo,zo⟩ fun z hz hi=> ?_
 have e:=only h.L8 hf hz hi;subst e;obtain ⟨-,q1,q2,q3⟩:=h.proc hz;have q4:=iF q1;rw [fG,J7] at q1;have q5:=q1.2;unfold bO at q5;rw [if_pos h0] at q5;simp only [J7,decide_eq_true_eq] at q5;obtain ⟨⟨⟨⟨⟨a1,a2⟩,a3⟩,a4⟩,a5⟩,a6⟩:=q5;have q6:jm z.prog=true:=by
  unfold jY at q4;simp only [J7] at q4;exact q4.1.1.1.2
 refine ⟨?_,?_,rfl,.inr (.inr rfl)⟩
 .exact Zbo
 .unfold fF
  rw [Bool.or_eq_true];exact ZaX
def sP {q q2:af} {n:Nat} {k nx:Int} {x:ao} {f:aD->aD} (hx:q.L8[n]? =o_ x) (hk: ¬ x.id=k) (hp:q2.pure= { q.pure with next:=nx,L8:=ce k f q.pure.L8 }): ∃ x2,q2.L8[n]? =o_ x2/\x2.toaD=x.toaD:=
 tQ (by rw [hp]; exact ym (mj hx) hk)
def A0 {q q2:af} {n:Nat} {N:Int} {x:ao} {y:aD} (hr:aQ q.pure) (hx:q.L8[n]? =o_ x) (hs:x.Md=1) (hf:cg (fun x:aD=>x.id) N q.pure.L8=o_ y) (h0:y.Md=0) (hn:q.next<=999999990) (hp:q2.pure=py N q.pure):
  aQ q2.pure/\ ∃ x2,q2.L8[n]? =o_ x2/\x2.toaD=x.toaD:=by
 refine ⟨by rw [hp]; exact Aa hr hf h0 hn,sP hx (fun e=> ?_) hp⟩
 have:=only hr.L8 hf (iu hx) e
 rw [<- this] at h0;have h2:x.toaD.Md=1:=hs;omega
def BU (q:af) (n base:Nat) (x:ao) (o:dN) (w:w_) (h:ap w base q) (hb:base<=w.heap.size) (hr:aQ q.pure) (hx:q.L8[n]? =o_ x) (hs:x.Md=1) (hn:q.next<=999999990) (ho:kc o=true) (hk:o.1=15):
  k_ J3 93 #[a_ q.cells,i_ j_ n,a_ (j9 o)] w (jH w base q (jU o x.id q.pure)):=by
 obtain ⟨-,f1,f2,f3,f4⟩:=dv ho;have hM:=bz.1 f2;obtain ⟨k,N,M,s⟩:=o;simp only at hk hM f1 f3 f4;subst hk;have HR:Hid (aQ q.pure/\q.L8[n]? =o_ x/\x.Md=1/\q.next<=999999990/\(-1<=M/\M<=1000)):=⟨hr,hx,hs,hn,hM⟩
 have HF:=aA (dW hr);clear f2 hr hx hs hn hM ho;have S:=aA (Xf.start (o:=(15,N,M,s)) h hb);clear h hb
 go_enter func93,ntmps93
 go_upto_region 1 with fail;generalize ((w.alloc (c_ q.cells 31)).alloc (c_ (j9 (15,N,M,s)) 45)).alloc (c_ ar 31)=A at *;obtain ⟨-,o1,-,-⟩:=S.I.op.cells;simp only at o1;have hpf:=ef (num:=fun x:ao=>x.id) N q.L8 0;have Mb:=lS q N A ZcZ S.I.fr.own.at;generalize place (q.L8.map (fun x=>x.id)) N 0=z at *;go_wp2_with (refine eT 3 S.I.fr.box ?_);refine Mb.mono ?_;clear Mb;rintro e A2 ⟨rfl,hb2⟩;replace S:=aA (S.I.reads hb2);clear hb2 o1;have hfm:=lJ (num:=fun x:aD=>x.id) (je:=fun x:ao=>x.id) (g:=fun x:ao=>x.toaD) (fun _=>rfl) (id:=N) q.L8;rcases hpf with ⟨hz,hf⟩ | ⟨m,y,hz,hm,hid,hf⟩
 .subst hz
  rw [hf] at hfm;have HE:Hid (jU (15,N,M,s) x.id q.pure=bu 3 x.id q.pure):=by show jU (15,N,M,s) x.id q.pure=_; unfold jU; rw [show cg (fun x:aD=>x.id) N q.pure.L8=n_ from hfm]
  exact Zcn
 rw [hf] at hfm;rw [Li] at hz;subst hz;have afO:decide ((m:Int) < 0)=false:=decide_eq_false zo;have HM:Hid (q.L8[m]? =o_ y/\y.id=N/\cg (fun x:aD=>x.id) N q.pure.L8=o_ y.toaD):=⟨hm,hid,hfm⟩
 have hml:=(Lj.1 hm).1;have j0:(0:Int)<=(m:Int):=zo
 have j1:(m:Int) < (q.L8.length:Int):=zo
 obtain ⟨gp,l9,hat⟩:=cn S.I.fr.own.at.1 hm;have HG:Hid (q.aN=o_ ⟨gp,0,n_⟩):=l9;obtain ⟨o0,-,-,-⟩:=S.I.op.cells;simp only at o0;have m2:=S.I.fr.box.cells.2.2.1;rw [l9] at m2;have d3:=hat.2.2.2.1;clear hm hid hf hfm hml hat l9;by_cases h0:y.Md=0;rotate_left
 .have e1:(y.Md == 0)=false:=by simp [h0]
  have HE:Hid (jU (15,N,M,s) x.id q.pure=bu 1 x.id q.pure):=by show jU (15,N,M,s) x.id q.pure=_; unfold jU; rw [show cg (fun x:aD=>x.id) N q.pure.L8=o_ y.toaD from HM.I.2.2]; exact if_neg h0
  exact Zcp
 have e1:(y.Md == 0)=true:=by simp [h0]
 have HE:Hid (jU (15,N,M,s) x.id q.pure=bu 0 x.id (py N q.pure)):=by show jU (15,N,M,s) x.id q.pure=_; unfold jU; rw [show cg (fun x:aD=>x.id) N q.pure.L8=o_ y.toaD from HM.I.2.2]; exact if_pos h0
 have HN:Hid (y.Md=0):=h0;clear h0;obtain ⟨s1,⟨u,c⟩,f⟩:=eY (n:=m) (j:=3) (v:=i_ j_ 1) (y:= { y with Md:=1 }) S.I.fr.own HM.I.1 HG.I ⟨rfl,rfl,rfl⟩ (by decide) rfl;replace S:=aA (S.I.call s1);clear s1;go_upto_region 9 with fail;generalize A2.setCell ⟨gp,m * 12+3,n_⟩ (i_ j_ 1)=C at *;clear m2 d3 c f u afO e1 o0 j0 j1;have hq:({ q with L8:=q.L8.set m { y with Md:=1 } } :af).pure= { q.pure with next:=q.next,L8:=ce y.id (fun z=> { z with Md:=1 }) q.pure.L8 } :=g7 (nx:=q.next) HR.I.1.kW HM.I.1 rfl;have Mb:=oT (n:=m) (x:= { y with Md:=1 }) S.I.fr.own S.I.low (us HR.I.1.kW HM.I.1 rfl) (by show (q.L8.set m _)[m]? =_; rw [LU (Lj.1 HM.I.1).1]) ⟨by have h5:=bz.1 HR.I.1.next; have:q.pure.next=q.next:=rfl; show 0<=q.next; omega,by have:=HR.I.2.2.2.1; show q.next<=_; omega⟩;rw [jd (nx:=q.next),hq] at Mb;have HS:Hid ({ q.pure with next:=q.next+1,L8:=ce y.id (fun z=> { z with RU:=q.next }) (ce y.id (fun z=> { z with Md:=1 }) q.pure.L8) } =py N q.pure):=by show _=py N q.pure; rw [pm (by intro _; rfl),HM.I.2.1]; rfl
 clear hq;go_wp2_with (refine eT 3 S.I.fr.box ?_);refine Mb.mono ?_;clear Mb;rintro e afl ⟨q2,rfl,hp,ht⟩;replace S:=aA (S.I.call ht);replace hp:=hp.trans HS.I;obtain ⟨hr2,x2,hx2,sw⟩:=A0 HR.I.1 HR.I.2.1 HR.I.2.2.1 HM.I.2.2 HN.I HR.I.2.2.2.1 hp;have Mb:=bB (n:=n) 0 S.I.fr.own S.I.low hr2 hx2 Zc0;rw [show x2.id=x.id from congrArg aD.id sw,hp,<- HE.I] at Mb;clear hp ht hr2 hx2 sw;go_wp2_with fail;refine Mb.mono ?_;clear Mb;rintro e C22 ⟨q3,rfl,hp,ht⟩;replace S:=aA (S.I.call ht);have HP:Hid (q3.pure=_):=hp;clear hp ht;go_wp2_with (refine ec 6 43 q3.cells S.I.an ?_);refine gZ results93 S.I.an ?_;exact ⟨q3,rfl,HP.I,S.I.done _⟩
def C9 (q:af) (n base:Nat) (x:ao) (o:dN) (w:w_) (h:ap w base q) (hb:base<=w.heap.size) (hr:aQ q.pure) (hx:q.L8[n]? =o_ x) (hs:x.Md=1) (hn:q.next<=999999990) (ho:kc o=true) (hk:o.1=16):
  k_ J3 93 #[a_ q.cells,i_ j_ n,a_ (j9 o)] w (jH w base q (lg o x.id q.pure)):=by
 obtain ⟨-,f1,f2,f3,f4⟩:=dv ho;have hM:=bz.1 f2;obtain ⟨k,N,M,s⟩:=o;simp only at hk hM f1 f3 f4;subst hk;have HR:Hid (aQ q.pure/\q.L8[n]? =o_ x/\x.Md=1/\q.next<=999999990/\(-1<=M/\M<=1000)):=⟨hr,hx,hs,hn,hM⟩
 have HF:=aA (dW hr);clear f2 hr hx hs hn hM ho;have S:=aA (Xf.start (o:=(16,N,M,s)) h hb);clear h hb
 go_enter func93,ntmps93
 go_upto_region 1 with fail;generalize ((w.alloc (c_ q.cells 31)).alloc (c_ (j9 (16,N,M,s)) 45)).alloc (c_ ar 31)=A at *;obtain ⟨-,o1,-,-⟩:=S.I.op.cells;simp only at o1;have hpf:=ef (num:=fun x:ao=>x.id) N q.L8 0;have Mb:=lS q N A ZcZ S.I.fr.own.at;generalize place (q.L8.map (fun x=>x.id)) N 0=z at *;go_wp2_with (refine eT 3 S.I.fr.box ?_);refine Mb.mono ?_;clear Mb;rintro e A2 ⟨rfl,hb2⟩;replace S:=aA (S.I.reads hb2);clear hb2 o1;have hfm:=lJ (num:=fun x:aD=>x.id) (je:=fun x:ao=>x.id) (g:=fun x:ao=>x.toaD) (fun _=>rfl) (id:=N) q.L8;rcases hpf with ⟨hz,hf⟩ | ⟨m,y,hz,hm,hid,hf⟩
 .subst hz
  rw [hf] at hfm;have HE:Hid (lg (16,N,M,s) x.id q.pure=bu 3 x.id q.pure):=by show lg (16,N,M,s) x.id q.pure=_; unfold lg; rw [show cg (fun x:aD=>x.id) N q.pure.L8=n_ from hfm]
  exact Zcn
 rw [hf] at hfm;rw [Li] at hz;subst hz;have afO:decide ((m:Int) < 0)=false:=decide_eq_false zo;have HM:Hid (q.L8[m]? =o_ y/\y.id=N/\cg (fun x:aD=>x.id) N q.pure.L8=o_ y.toaD):=⟨hm,hid,hfm⟩
 have hml:=(Lj.1 hm).1;have j0:(0:Int)<=(m:Int):=zo
 have j1:(m:Int) < (q.L8.length:Int):=zo
 obtain ⟨gp,l9,hat⟩:=cn S.I.fr.own.at.1 hm;have HG:Hid (q.aN=o_ ⟨gp,0,n_⟩):=l9;obtain ⟨o0,-,-,-⟩:=S.I.op.cells;simp only at o0;have m2:=S.I.fr.box.cells.2.2.1;rw [l9] at m2;have d3:=hat.2.2.2.1;clear hm hid hf hfm hml hat l9;by_cases h0:y.Md=0
 .have e1:(y.Md == 0)=true:=by simp [h0]
  have HE:Hid (lg (16,N,M,s) x.id q.pure=bu 1 x.id q.pure):=by show lg (16,N,M,s) x.id q.pure=_; unfold lg; rw [show cg (fun x:aD=>x.id) N q.pure.L8=o_ y.toaD from HM.I.2.2]; exact if_pos h0
  exact Zcp
 have e1:(y.Md == 0)=false:=by simp [h0]
 have HE:Hid (lg (16,N,M,s) x.id q.pure=if N=x.id then ot x.id q.pure else bu 0 x.id (ot N q.pure)):=by show lg (16,N,M,s) x.id q.pure=_; unfold lg; rw [show cg (fun x:aD=>x.id) N q.pure.L8=o_ y.toaD from HM.I.2.2]; exact if_neg h0
 clear h0;go_upto_region 10 with fail;clear m2 d3 afO e1 o0;replace S:=aA (S.I.reads (Kp _ _).drew);have HT:Hid (∀ w1,Xf w base q q q (16,N,M,s) w1->Ba w.heap.size gp m q y w1):=fun w1 h1=>by
  obtain ⟨g,hg,hat⟩:=cn h1.fr.own.at.1 HM.I.1;rw [HG.I] at hg;cases hg;exact ⟨h1.m2 HG.I,hat⟩
 refine eD (fun w1=>Ba w.heap.size gp m q y w1/\Hid (Xf w base q q q (16,N,M,s) w1)) 10 ZcS ⟨HT.I _ S.I,S⟩ ?_;clear S
 iterate 8 (refine ly 11 (v:= ?_) (o_ _) rfl rfl ZcS (fun _ _ _ h=>h) (bV ZcS ?_) ?_; rotate_left; (intro w0 hS0; obtain ⟨⟨o2,d0,d1,d2,d3,d4,d5,d6,d7,d8,d9,tH,tS⟩,hH⟩:=hS0; go_simp; try with_reducible rfl); simp only [pt,sb,s0,s1])
 refine ly 11 (v:=a_ (sy y)) (o_ _) rfl rfl ZcS (fun _ _ _ h=>h) (iZ (f:=124) (args:= #[a_ y.row]) ZcS ?_ ?_) ?_
 .intro w0 hS0
  obtain ⟨⟨o2,d0,d1,d2,d3,d4,d5,d6,d7,d8,d9,tH,tS⟩,hH⟩:=hS0
  exact Fd
 .intro w0 hS0
  refine (mN y w0).mono ?_;rintro e w2 ⟨rfl,hb2⟩;have h6:=aA (hS0.2.I.reads hb2);exact ⟨rfl,HT.I _ h6.I,h6⟩
 simp only [pt,sb,s0,s1]
 (refine ly 11 (v:= ?_) (o_ _) rfl rfl ZcS (fun _ _ _ h=>h) (bV ZcS ?_) ?_; rotate_left; (intro w0 hS0; obtain ⟨⟨o2,d0,d1,d2,d3,d4,d5,d6,d7,d8,d9,tH,tS⟩,hH⟩:=hS0; go_simp; try with_reducible rfl); simp only [pt,sb,s0,s1])
 refine fL rfl ZcS ZcS ZcS ?_;intro B cm;have S:=cm.2;obtain ⟨oC,hto⟩:=GC S.I.fr.own HM.I.1 HG.I;clear cm HT;replace S:=aA (S.I.call hto);clear hto;refine wp_store_mid 41 _ _ rfl gp (m * 12) (sy y) rfl rfl oC ZcS ZcS ?_;generalize B.setCells gp (m * 12) (sy y).toList=C at *;clear oC;obtain ⟨q1,hq1⟩: ∃ q1:af,q1= { q with L8:=q.L8.set m (sW y) } :=⟨_,rfl⟩
 have HQ:Hid (q1.pure=ot N q.pure/\q1.cells=q.cells/\aQ q1.pure):=by
  have hq:q1.pure=ot N q.pure:=by rw [hq1,<- HM.I.2.1]; exact g7 (nx:=q.next) HR.I.1.kW HM.I.1 rfl
  exact ⟨hq,by rw [hq1]; exact jd (nx:=q.next),by rw [hq]; exact nG HR.I.1⟩
 rw [<- hq1] at S;clear hq1;have k1:=(Lj.1 HR.I.2.1).1;by_cases hmn:m=n
 .have e2:((m:Int) == (n:Int))=true:=by simp [hmn]
  have HT:Hid (q1.pure=lg (16,N,M,s) x.id q.pure):=by
   have e:y=x:=by have h5:=HM.I.1; rw [hmn,HR.I.2.1] at h5; exact (KC h5).symm
   have hN:N=x.id:=by rw [<- HM.I.2.1,e]
   show q1.pure=_
   rw [HE.I,if_pos hN,HQ.I.1,hN]
  clear hmn k1;go_wp2_with (first | (refine eT 3 S.I.fr.box ?_) | (refine ec 6 57 q.cells S.I.an ?_));refine gZ results93 S.I.an ?_;exact ⟨q1,by rw [HQ.I.2.1],HT.I,S.I.done _⟩
 have e2:((m:Int) == (n:Int))=false:=by simp; omega
 have hne: ¬ x.id=N:=fun e=>by
  have h5:=only HR.I.1.L8 HM.I.2.2 (iu HR.I.2.1) e;have h6:=HR.I.1.kW;rw [P8] at h6;obtain ⟨i1,i2⟩:=Lj.1 (mj HR.I.2.1);obtain ⟨i3,i4⟩:=Lj.1 (mj HM.I.1);rcases P9 m n with hlt | heq | hgt
  .have:=h6 m n i3 i1 hlt; rw [i2,i4,h5] at this; omega
  .exact hmn heq
  .have:=h6 n m i1 i3 hgt; rw [i2,i4,h5] at this; omega
 have HT:Hid (lg (16,N,M,s) x.id q.pure=bu 0 x.id (ot N q.pure)):=HE.I.trans (if_neg fun e=>hne e.symm);obtain ⟨x2,hx2,sw⟩:=sP (nx:=q.pure.next) (f:=j7) HR.I.2.1 hne HQ.I.1;have Mb:=bB (n:=n) 0 S.I.fr.own S.I.low HQ.I.2.2 hx2 Zc0;rw [show x2.id=x.id from congrArg aD.id sw,HQ.I.1,HQ.I.2.1,<- HT.I] at Mb;clear hmn hne hx2 sw k1;go_wp2_with (refine eT 3 S.I.fr.box ?_);refine Mb.mono ?_;clear Mb;rintro e A2 ⟨q2,rfl,hp,ht⟩;replace S:=aA (S.I.call ht);have HP:Hid (q2.pure=_):=hp;clear hp ht;go_wp2_with (refine ec 6 60 q2.cells S.I.an ?_);refine gZ results93 S.I.an ?_;exact ⟨q2,rfl,HP.I,S.I.done _⟩
def uJ {p:aE} {y:ci} (h:aQ p) (hy:y∈p.ae):y.max<=5:=by
 have h1:=(cK h.ae y hy).2;unfold ct at h1;simp only [J7] at h1;exact (bz.1 h1.1).2
def CD (q:af) (n base:Nat) (x:ao) (now:Int) (o:dN) (w:w_) (h:ap w base q) (hb:base<=w.heap.size) (hr:aQ q.pure) (hx:q.L8[n]? =o_ x) (hs:x.Md=1) (hn:q.next<=999999990) (eu:0<=now/\now<=1000000000) (ho:kc o=true) (hk:o.1=8):
  k_ J3 90 #[a_ q.cells,i_ j_ n,a_ (j9 o),i_ j_ now] w (jH w base q (lc o now x.id q.pure)):=by
 obtain ⟨-,f1,f2,f3,f4⟩:=dv ho;have hM:=bz.1 f2;obtain ⟨k,N,M,s⟩:=o;simp only at hk hM f1 f3 f4;subst hk;have HR:=aA (SD hr hx hs hn eu hM);have HF:=aA (dW hr);clear f2 hr hx hs hn eu hM ho;have S:=aA (Xf.start (o:=(8,N,M,s)) h hb);clear h hb
 go_enter func90,ntmps90
 go_upto_region 1 with fail;generalize ((w.alloc (c_ q.cells 31)).alloc (c_ (j9 (8,N,M,s)) 45)).alloc (c_ ar 31)=A at *;obtain ⟨-,o1,-,-⟩:=S.I.op.cells;simp only at o1;have hpf:=ef (num:=fun x:au=>x.id) N q.ae 0;have Mb:=lr q N A ZcZ S.I.fr.own.at;generalize place (q.ae.map (fun x=>x.id)) N 0=z at *;go_wp2_with (refine eT 4 S.I.fr.box ?_);refine Mb.mono ?_;clear Mb;rintro e A2 ⟨rfl,hb2⟩;replace S:=aA (S.I.reads hb2);clear hb2 o1;have hfm:=lJ (num:=fun x:ci=>x.id) (je:=fun x:au=>x.id) (g:=fun x:au=>x.toci) (fun _=>rfl) (id:=N) q.ae;rcases hpf with ⟨hz,hf⟩ | ⟨m,y,hz,hm,hid,hf⟩
 .subst hz
  rw [hf] at hfm;have HE:Hid (lc (8,N,M,s) now x.id q.pure=bu 3 x.id q.pure):=by show lc (8,N,M,s) now x.id q.pure=_; unfold lc; rw [show cg (fun x:ci=>x.id) N q.pure.ae=n_ from hfm]
  exact Zco
 rw [hf] at hfm;rw [Li] at hz;subst hz;have afO:decide ((m:Int) < 0)=false:=decide_eq_false zo;have HM:Hid (q.ae[m]? =o_ y/\y.id=N/\cg (fun x:ci=>x.id) N q.pure.ae=o_ y.toci):=⟨hm,hid,hfm⟩
 have hml:=(Lj.1 hm).1;have j0:(0:Int)<=(m:Int):=zo
 have j1:(m:Int) < (q.ae.length:Int):=zo
 clear hm hid hf hfm hml;obtain ⟨Y5,iE,hat⟩:=iA S.I.fr.own.at.2.2.2.2.1 HM.I.1;have m6:=S.I.fr.box.cells.2.2.2.2.2.2.1;rw [iE] at m6;have d0:=hat.1;have d1:=hat.2.1;have d2:=hat.2.2;have HG:Hid (q.am=o_ ⟨Y5,0,n_⟩):=iE;clear hat iE;have h5:=(Kp A2.heap.size A2).alloc (Ki _) (c_ #[i_ j_ y.id,i_ j_ y.max,s_ y.ak y.Ma.length y.aq] 96);have afa:Hid ((A2.alloc (c_ #[i_ j_ y.id,i_ j_ y.max,s_ y.ak y.Ma.length y.aq] 96)).heap[A2.heap.size]? =o_ (c_ #[i_ j_ y.id,i_ j_ y.max,s_ y.ak y.Ma.length y.aq] 96)/\w.heap.size+3<=A2.heap.size):=⟨Kj _ _,S.I.fr.sz.2.1⟩
 replace S:=aA (S.I.reads h5);clear h5;go_upto_region 5 with fail;generalize A2.alloc (c_ #[i_ j_ y.id,i_ j_ y.max,s_ y.ak y.Ma.length y.aq] 96)=B at *;generalize A2.heap.size=X at *;clear m6 d0 d1 d2 afO;obtain ⟨o0,o1,-,-⟩:=S.I.op.cells;simp only at o0 o1;have Mb:=ij q 6 N B ZcZ S.I.fr.own.at;go_wp2_with (refine eT 4 S.I.fr.box ?_);refine Mb.mono ?_;clear Mb o0 o1;rintro e A3 ⟨⟨z,rfl,gV⟩,hb2⟩;replace afa:=aA (And.intro ((hb2.block X (J2.1 afa.I.1).1).trans afa.I.1) afa.I.2);replace S:=aA (S.I.reads hb2);clear hb2;have IB:Hid (bw s=true):=f3;clear f1 f3 f4;rcases pp gV with ⟨hz,hw⟩ | ⟨i,v,hz,hi,hw⟩
 .have HW:Hid (jl 6 N q.pure.L8=n_):=hw
  have afO:decide (z>=0)=false:=decide_eq_false zo;clear gV hz hw;have HU:Hid (lc (8,N,M,s) now x.id q.pure=if (y.Ma.length:Int)=y.max then mX 5 (8,N,M,s) now x.id q.pure else bu 0 x.id (cV N (y.Ma ++ [s]) q.pure)):=by show lc (8,N,M,s) now x.id q.pure=_; unfold lc; rw [show cg (fun x:ci=>x.id) N q.pure.ae=o_ y.toci from HM.I.2.2]; dsimp only; rw [HW.I]
  have x1:A3.cell? ⟨X,1,n_⟩=o_ (i_ j_ y.max):=by simp [World.cell?,afa.I.1]
  have x2:A3.cell? ⟨X,2,n_⟩=o_ (s_ y.ak y.Ma.length y.aq):=by simp [World.cell?,afa.I.1]
  by_cases hfl:(y.Ma.length:Int)=y.max
  .have HE:Hid (lc (8,N,M,s) now x.id q.pure=mX 5 (8,N,M,s) now x.id q.pure):=HU.I.trans (if_pos hfl)
   have e1:((y.Ma.length:Int) == y.max)=true:=by simp [hfl]
   clear hfl;have Mb:=oR q n base x 5 now (8,N,M,s) A3 S.I.fr.own S.I.low HR.I.1 HR.I.2.1 Zc1 Zdl HR.I.2.2.2.2.1 HR.I.2.2.2.2.2;go_wp2_with (first | (refine eT 4 S.I.fr.box ?_) | (refine LS rfl 45 (.tmp 6) rfl (w.heap.size+1) (by rfl) 45 (j9 (8,N,M,s)) (0,0) _ S.I.op underlying45 rfl ZcS ?_));refine Mb.mono ?_;clear Mb;rintro e A2 ⟨q2,rfl,hp,ht⟩;replace S:=aA (S.I.call ht);have HP:Hid (q2.pure=_):=hp;clear hp ht;go_wp2_with (refine ec 8 71 q2.cells S.I.an ?_);refine gZ results90 S.I.an ?_;exact l_
  have HE:Hid (lc (8,N,M,s) now x.id q.pure=bu 0 x.id (cV N (y.Ma ++ [s]) q.pure)):=HU.I.trans (if_neg hfl);have e1:((y.Ma.length:Int) == y.max)=false:=by simp [hfl]
  have HN:Hid (¬ (y.Ma.length:Int)=y.max):=hfl;clear hfl HU;go_upto_region 7 with fail;clear e1 afO x1 x2;replace S:=aA (S.I.reads (Kp _ _).drew);replace afa:Hid (A3.drew.heap[X]? =o_ (c_ #[i_ j_ y.id,i_ j_ y.max,s_ y.ak y.Ma.length y.aq] 96)/\w.heap.size+3<=X):=afa.I;refine wp_region_held_drew (S:=fun w'=>av w' w.heap.size q/\oo w' (w.heap.size+1) (8,N,M,s)/\w'.heap[X]? =o_ (c_ #[i_ j_ y.id,i_ j_ y.max,s_ y.ak y.Ma.length y.aq] 96)) ZcS ⟨S.I.fr.box,S.I.op,afa.I.1⟩ (fun hHeld=> ?_);generalize A3.drew=V2 at *;refine agi 0 hHeld ?_;refine agi 1 hHeld ?_;refine agi 2 hHeld ?_;refine agi 4 hHeld ?_;refine agi 5 hHeld ?_;refine agi 7 hHeld ?_;refine agi 8 hHeld ?_;clear hHeld;have hbz:w.heap.size+3<=V2.heap.size:=S.I.fr.sz.2.1;have lW:=(J2.1 afa.I.1).1;have hS: ∀ W,B_ V2.heap.size V2 W->av W w.heap.size q/\oo W (w.heap.size+1) (8,N,M,s)/\W.heap[X]? =o_ (c_ #[i_ j_ y.id,i_ j_ y.max,s_ y.ak y.Ma.length y.aq] 96):=fun W hb=>⟨S.I.fr.box.below hb,(hb.block _ zo).trans S.I.op,(hb.block _ lW).trans afa.I.1⟩
  have hil:y.Ma.length<=5:=by have h5:=(ji (o:=(8,N,M,s)) HR.I.1 HM.I.2.2).2.2.1; have h6:=uJ HR.I.1 (Lr.2 ⟨y,KA HM.I.1,rfl⟩); have h7:y.toci.Ma=y.Ma:=rfl; have h8:y.toci.max=y.max:=rfl; omega
  have wg:Hid (∀ (W:w_) (g:Nat),B_ V2.heap.size V2 W->W.heap[g]? =o_ (c_ #[] 9)->V2.heap.size<=g-> ∃ a5 c5 w5,(Builtin.append_ #[94,94] 94 #[s_ (o_ ⟨g,0,n_⟩) 0 0,s_ y.ak y.Ma.length y.aq]).run J3 W= .ok (s_ a5 y.Ma.length c5) w5/\w5.ownsRow V2.heap.size 9 1 (s_ a5 y.Ma.length c5) y.Ma.length (bT.flat y.Ma)/\B_ V2.heap.size V2 w5/\ ∀ h,V2.heap.size<=h->h≠g->h < W.heap.size->w5.heap[h]? =W.heap[h]?):=fun W g hb hg hge=>by
   obtain ⟨a5,c5,w5,hap,oe,A7,-⟩:=tO W V2.heap.size g hg hge y.ak y.Ma y.aq (lj (S.I.fr.own.below hb).at.2.2.2.2.1 HM.I.1) zo hb.size;exact Zbb
  have afR: ∀ (W:w_) (c:Obj),B_ V2.heap.size V2 W->B_ V2.heap.size V2 (W.alloc c):=fun W c hb=>hb.alloc hb.size _
  refine KW (rs:= [3,9]) ZcS zw ?_;refine KX rfl (fun K hK=> ?_) (KX rfl (fun K hK=> ?_) KY)
  focus
   have b1:B_ V2.heap.size V2 (V2.alloc (c_ #[] 9)):=afR _ _ (Kp _ _);simp only [KZ,K0,K1];rw [if_pos (by rfl)];go_wp2_with fail;refine hK.out _ _ (hS _ b1) (fun hHeld=> ?_);clear hK K hHeld
   try simp only [pt,sb,s0,s1]
   have b7:B_ V2.heap.size V2 ((V2.alloc (c_ #[] 9)).alloc (c_ #[t_ s] 9)):=afR _ _ b1;refine KW (rs:= [6,9]) ZcS zw ?_;refine KX rfl (fun K hK=> ?_) (KX rfl (fun K hK=> ?_) KY)
   focus
    clear b7;obtain ⟨a5,c5,w5,hap,oe,iJ,-⟩:=wg.I _ _ b1 (Kj _ _) (Ki _);simp only [KZ,K0,K1];rw [if_pos (by rfl)];refine cM _ _ _ rfl _ _ _ w5 rfl rfl hap ?_;refine hK.out _ _ (hS _ iJ) (fun hHeld=> ?_);clear hK K hHeld
    try simp only [pt,sb,s0,s1]
    refine L7 9 (fun K hK=> ?_);go_wp2_with fail;refine hK.out _ _ (hS _ (afR _ _ iJ)) (fun hHeld=> ?_);clear hK K hHeld
    try simp only [pt,sb,s0,s1]
    have qJ:Hid ((w5.alloc (c_ #[t_ s] 9)).ownsRow V2.heap.size 9 1 (s_ a5 y.Ma.length c5) y.Ma.length (bT.flat y.Ma)/\(w5.alloc (c_ #[t_ s] 9)).heap[w5.heap.size]? =o_ (c_ #[t_ s] 9)/\B_ V2.heap.size V2 (w5.alloc (c_ #[t_ s] 9))):=⟨cR oe ((Kp _ _).alloc (Ki _) _),Kj _ _,afR _ _ iJ⟩
    clear hap oe iJ b1 afR hS;generalize w5.alloc (c_ #[t_ s] 9)=w6 at *;generalize w5.heap.size=gx at *
   rotate_left
   focus
    obtain ⟨a5,c5,w6,om,qH,jQ,zU⟩:=wg.I _ _ b7 ((PU zw).trans (Kj _ _)) (Ki _);simp only [KZ,K0,K1];rw [if_pos (by rfl)];go_wp2_with fail;refine hK.out _ _ (hS _ b7) (fun hHeld=> ?_);clear hK K hHeld
    try simp only [pt,sb,s0,s1]
    refine L7 6 (fun K hK=> ?_);refine cM _ _ _ rfl _ _ _ w6 rfl rfl om ?_;refine hK.out _ _ (hS _ jQ) (fun hHeld=> ?_);clear hK K hHeld
    try simp only [pt,sb,s0,s1]
    have qJ:Hid (w6.ownsRow V2.heap.size 9 1 (s_ a5 y.Ma.length c5) y.Ma.length (bT.flat y.Ma)/\w6.heap[(V2.heap.size+1)]? =o_ (c_ #[t_ s] 9)/\B_ V2.heap.size V2 w6):=⟨qH,(zU _ zo zo (by simp <;> omega)).trans (by have h5:=Kj (V2.alloc (c_ #[] 9)) (c_ #[t_ s] 9); simpa using h5),jQ⟩
    clear om qH jQ zU b1 b7 afR hS
  rotate_left 2
  focus
   have b7:B_ V2.heap.size V2 (V2.alloc (c_ #[t_ s] 9)):=afR _ _ (Kp _ _);simp only [KZ,K0,K1];rw [if_pos (by rfl)];go_wp2_with fail;refine hK.out _ _ (hS _ b7) (fun hHeld=> ?_);clear hK K hHeld
   try simp only [pt,sb,s0,s1]
   have b1:B_ V2.heap.size V2 ((V2.alloc (c_ #[t_ s] 9)).alloc (c_ #[] 9)):=afR _ _ b7;refine L7 3 (fun K hK=> ?_);go_wp2_with fail;refine hK.out _ _ (hS _ b1) (fun hHeld=> ?_);clear hK K hHeld
   try simp only [pt,sb,s0,s1]
   obtain ⟨a5,c5,w6,om,qH,jQ,zU⟩:=wg.I ((V2.alloc (c_ #[t_ s] 9)).alloc (c_ #[] 9)) (V2.heap.size+1) b1 (heap_alloc2_new _ _ _) zo;refine L7 6 (fun K hK=> ?_);refine cM _ _ _ rfl _ _ _ w6 rfl rfl om ?_;refine hK.out _ _ (hS _ jQ) (fun hHeld=> ?_);clear hK K hHeld
   try simp only [pt,sb,s0,s1]
   have qJ:Hid (w6.ownsRow V2.heap.size 9 1 (s_ a5 y.Ma.length c5) y.Ma.length (bT.flat y.Ma)/\w6.heap[V2.heap.size]? =o_ (c_ #[t_ s] 9)/\B_ V2.heap.size V2 w6):=⟨qH,(zU _ zo zo (by simp <;> omega)).trans ((PU zw).trans (Kj _ _)),jQ⟩
   clear om qH jQ zU b1 b7 afR hS
  all_goals
   obtain ⟨a7,c7,w7,gT,mP,xI,-⟩:=ou w6 V2.heap.size a5 c5 y.Ma qJ.I.1 _ [s] 1 (jO qJ.I.2.1) (by simp only [Lg,K4]; omega) qJ.I.2.2.size;have mI:(y.Ma ++ [s]).length=y.Ma.length+1:=by rw [List.length_append]; rfl
   simp only [Lg,K4,Li] at gT mP;have gh:B_ V2.heap.size V2 w7:=qJ.I.2.2.grown xI qJ.I.2.2.size fun c e=>(cf qJ.I.1 (di e)).1
   rw [<- mI] at gT mP;obtain ⟨s1,⟨u,c⟩,f⟩:=mB (n:=m) S.I.fr.own (aI.dI gh) HM.I.1 HG.I (cq mP S.I.low) (fun g hg=> .inr (cf mP hg).1);rw [mI] at gT s1;refine L7 10 (fun K hK=> ?_);refine cM _ _ _ rfl _ _ _ w7 rfl rfl gT ?_;refine hK.out _ _ ⟨S.I.fr.box.below gh,(gh.block _ zo).trans S.I.op,(gh.block _ lW).trans afa.I.1⟩ (fun hHeld=> ?_);clear hK K hHeld
   try simp only [pt,sb]
   have wj:av w7 w.heap.size q/\oo w7 (w.heap.size+1) (8,N,M,s)/\w7.heap[X]? =o_ (c_ #[i_ j_ y.id,i_ j_ y.max,s_ y.ak y.Ma.length y.aq] 96):=⟨S.I.fr.box.below gh,(gh.block _ zo).trans S.I.op,(gh.block _ lW).trans afa.I.1⟩
   replace S:=aA (S.I.call s1);clear gT mP xI gh qJ wg s1;refine agi 11 wj ?_;refine agi 12 wj ?_;refine KW (rs:= [13]) ZcS zw ?_;refine KX rfl (fun K hK=> ?_) KY;have uQ:(w7.setCell ⟨Y5,m * 3+2,n_⟩ (s_ a7 (y.Ma.length+1) c7)).heap[X]? =o_ (c_ #[i_ j_ y.id,i_ j_ y.max,s_ y.ak y.Ma.length y.aq] 96):=(aH (fun e=> ?_)).trans wj.2.2;rotate_left
   .have h5:=(S.I.fr.lo Y5 (gD (.inr <| .inr <| .inr <| .inr <| .inl <| (by rw [HG.I]; simp [blk])))).2; have:=afa.I.2; omega
   simp only [KZ,K0,K1];rw [if_pos (by rfl)];go_wp2_with fail;refine hK.out _ _ ⟨S.I.fr.box,S.I.op,uQ⟩ (fun hHeld=> ?_);clear hK K hHeld;refine wpAnyH_done ZcS ?_ _;clear c f u wj uQ lW hbz;go_upto_region 13 with fail;generalize w7.setCell ⟨Y5,m * 3+2,n_⟩ (s_ a7 (y.Ma.length+1) c7)=C at *;have CK:Hid (∃ q1:af,q1= { q with ae:=q.ae.set m { y with Ma:=(y.Ma ++ [s]),ak:=a7,aq:=c7 } } /\q1.pure=cV N (y.Ma ++ [s]) q.pure/\q1.cells=q.cells/\aQ q1.pure/\q1.L8[n]? =o_ x):=by
    have hq:({ q with ae:=q.ae.set m { y with Ma:=(y.Ma ++ [s]),ak:=a7,aq:=c7 } } :af).pure=cV N (y.Ma ++ [s]) q.pure:=oN HR.I.1.ae HM.I.1 HM.I.2.1;have hr2:aQ (cV N (y.Ma ++ [s]) q.pure):=by
     refine gN HR.I.1 (fun z hz hk=> ?_) (fun t0 ht=> ?_)
     .have:=HN.I; have h5:=(ji (o:=(8,N,M,s)) HR.I.1 HM.I.2.2).2.2.1; have h7:y.toci.Ma=y.Ma:=rfl; have h8:y.toci.max=y.max:=rfl; rw [only HR.I.1.ae HM.I.2.2 hz hk,mI]; rw [h7] at h5; push_cast; omega
     .exact (Kg.1 ht).elim (fun ht=>(ji (o:=(8,N,M,s)) HR.I.1 HM.I.2.2).2.2.2 t0 ht) (fun ht=>by simp only [Kt,Ku,or_false] at ht; rw [ht]; exact IB.I)
    exact Za4
   obtain ⟨q1,hq1,hq⟩:=CK.I;rw [<- hq1] at S;have HQ:=aA hq;clear hq1 hq CK;have Mb:=bB (n:=n) 0 S.I.fr.own S.I.low HQ.I.2.2.1 HQ.I.2.2.2 Zc1;rw [HQ.I.1,HQ.I.2.1] at Mb;go_wp2_with (refine eT 4 S.I.fr.box ?_);refine Mb.mono ?_;clear Mb;rintro e A2 ⟨q2,rfl,hp,ht⟩;replace S:=aA (S.I.call ht);have HP:Hid (q2.pure=_):=hp;clear hp ht;go_wp2_with (refine ec 8 74 q2.cells S.I.an ?_);refine gZ results90 S.I.an ?_;exact ⟨q2,rfl,HP.I.trans HE.I.symm,S.I.done _⟩
 have HW:Hid (jl 6 N q.pure.L8=o_ v.toaD/\q.L8[i]? =o_ v/\v.Md=6):=⟨hw,hi,(ft hw).2.1⟩
 subst hz;have afO:decide ((i:Int)>=0)=true:=decide_eq_true zo;clear gV hw hi afa;have HE:Hid (lc (8,N,M,s) now x.id q.pure=bu 0 x.id (gF (lG s) q.pure v.toaD)):=by show lc (8,N,M,s) now x.id q.pure=_; unfold lc; rw [show cg (fun x:ci=>x.id) N q.pure.ae=o_ y.toci from HM.I.2.2]; dsimp only; rw [HW.I.1]
 obtain ⟨-,-,-,o3⟩:=S.I.op.cells;simp only at o3;obtain ⟨gp,l9,-⟩:=cn S.I.fr.own.at.1 HW.I.2.1;have m2:=S.I.fr.box.cells.2.2.1;have k1:(i:Int) < (q.L8.length:Int):=by have:=(Lj.1 HW.I.2.1).1; omega
 have k0:(0:Int)<=(i:Int):=zo
 rw [l9] at m2;obtain ⟨s1,⟨u,c⟩,f⟩:=eY (n:=i) (j:=9) (v:=t_ s) (y:= { v with got:=s }) S.I.fr.own HW.I.2.1 l9 ⟨rfl,rfl,rfl⟩ (by decide) rfl;replace S:=aA (S.I.call s1);clear s1 l9;go_upto_region 10 with fail;generalize A3.setCell ⟨gp,i * 12+9,n_⟩ (t_ s)=E at *;clear m2 c f u k0 k1 afO o3;obtain ⟨afn,hqg,g1,g2,g3,g4⟩:=kg HR.I.1 HW.I.2.1 IB.I;rw [<- hqg] at S;have Mb:=lP (n:=i) S.I.fr.own S.I.low g3 g4 (by show ¬ v.Md=0; rw [HW.I.2.2]; decide) (by rw [hqg]; have:=HR.I.2.2.2.1; show q.next<=_; omega);rw [g1,g2,show ({ v with got:=s } :ao).toaD=lG s v.toaD from rfl,Bz] at Mb;clear hqg g1 g2 g3 g4;go_wp2_with (refine eT 4 S.I.fr.box ?_);refine Mb.mono ?_;clear Mb;rintro e afP ⟨q2,rfl,hp,ht⟩;replace S:=aA (S.I.call ht);obtain ⟨hr2,x2,hx2,sw⟩:=qp HR.I.1 HR.I.2.1 HR.I.2.2.1 HW.I.2.1 Zda Zda (.inr ⟨_,IB.I,rfl⟩) Zdl hp;have S2:=aA S.I.put;go_upto_region 13 with (refine ec 4 59 q2.cells S.I.fr.box ?_);generalize afP.setRow w.heap.size q2.cells=afv at *;clear S;have S:=S2;clear S2;have Mb:=bB (n:=n) 0 S.I.fr.own S.I.low hr2 hx2 Zc0;rw [show x2.id=x.id from congrArg aD.id sw,hp,<- HE.I] at Mb;clear hp ht hr2 hx2 sw;go_wp2_with (refine eT 4 S.I.fr.box ?_);refine Mb.mono ?_;clear Mb;rintro e E32 ⟨q3,rfl,hp,ht⟩;replace S:=aA (S.I.call ht);have HP:Hid (q3.pure=_):=hp;clear hp ht;go_wp2_with (refine ec 8 74 q3.cells S.I.an ?_);refine gZ results90 S.I.an ?_;exact ⟨q3,rfl,HP.I,S.I.done _⟩
end
def aic (now id:Int) (o:dN) (r:aE × Int):aE:=if r.2= -1 then r.1 else if 10<=r.2 then mX (r.2 - 10) o now id r.1 else bu r.2 id r.1
def agh {α:Type} (p:aE) (x:Option α) (f:α->aE × Int):aE × Int:=match x with
 | none=>(p,3)
 | some x=>f x
def aiw (n:Int) (p:aE) (s:bD):aE × Int:=if s.n=0 then (p,13) else (nZ n (-1) p,0)
def agx (n:Int) (p:aE) (s:bD):aE × Int:=match jl 3 n p.L8 with
 | some y=>(gF (fun y=>y) p y,0)
 | none=>if s.n=s.max then (p,1) else (nZ n 1 p,0)
def aks (n:Int) (p:aE) (_:aB):aE × Int:=(ff (fun y=>y) 4 n (gL n true p),0)
def aiJ (n:Int) (p:aE) (_:aB):aE × Int:=(gL n false p,0)
def ahQ (p:aE) (e:aB):aE × Int:=(p,if e.up then 0 else 14)
def ag8 (n:Int) (t:ByteArray) (p:aE) (b:ci):aE × Int:=match jl 6 n p.L8 with
 | some y=>(gF (lG t) p y,0)
 | none=>if (b.Ma.length:Int)=b.max then (p,15) else (cV n (b.Ma ++ [t]) p,0)
def ag5 (n id:Int) (p:aE) (b:ci):aE × Int:=match b.Ma with
 | [] =>(ez rM id p,16)
 | t :: r=>match jl 5 n (ez t id p).L8 with
  | none=>(cV n r (ez t id p),0)
  | some y=>(gF (fun y=>y) (cV n (r ++ [y.held]) (ez t id p)) y,0)
def ajf (n:Int) (t:ByteArray) (p:aE) (_:az):aE × Int:=(ff (lG t) 7 n (ib n true t p),0)
def aiG (n:Int) (p:aE) (_:az):aE × Int:=(ib n false rM p,0)
def ain (id:Int) (p:aE) (b:az):aE × Int:=(ez b.text id p,if b.shown then 0 else 17)
def agw (n:Int) (t:ByteArray) (p:aE) (q:dS):aE × Int:=if q.I=false then (p,3) else if q.Mf=false then (gU n [t] p,0) else if (q.Ma.length:Int)=q.max then (p,1) else (gU n (q.Ma ++ [t]) p,0)
def agB (n id:Int) (p:aE) (q:dS):aE × Int:=if q.I then (p,3) else match q.Ma with
 | [] =>(ez rM id p,1)
 | t :: r=>(if q.Mf then gU n r (ez t id p) else ez t id p,0)
def ahH (n:Int) (p:aE) (y:aD):aE × Int:=if y.Md=0 then (py n p,0) else (p,1)
def aiy (n id:Int) (p:aE) (y:aD):aE × Int:=if y.Md=0 then (p,1) else (ot n p,if n=id then -1 else 0)
def aiA (v:Int) (y:aD):aD:= { y with left:=v }
def agO (x:aD) (o:dN):Int:=if x.left=0 then o.2.1 else x.left
def runT (x:aD) (o:dN) (p:aE):aE × Int:=({ p with L8:=ce x.id (aiA (agO x o - 1)) p.L8 },if agO x o=1 then 0 else -1)
def ahr (nx Mg:Int) (y:aD):aD:= { y with Md:=2,Mg:=Mg,RU:=nx }
def aiX (now:Int) (x:aD) (o:dN) (p:aE):aE × Int:=({ p with next:=p.next+1,L8:=ce x.id (ahr p.next (now+o.2.1)) p.L8 },-1)
def aj6 (x:aD) (p:aE):aE × Int:=({ p with L8:=ce x.id (fun y=> { y with pc:=0 }) p.L8 },-1)
def agq (now:Int) (x:aD) (o:dN) (p:aE):aE × Int:=
 if o.1=1 then runT x o p
 else if o.1=2 then aiX now x o p
 else if o.1=3 then agh p (cg (·.id) o.2.1 p.aj) (aiw o.2.1 p)
 else if o.1=4 then agh p (cg (·.id) o.2.1 p.aj) (agx o.2.1 p)
 else if o.1=5 then agh p (cg (·.id) o.2.1 p.L9) (aks o.2.1 p)
 else if o.1=6 then agh p (cg (·.id) o.2.1 p.L9) (aiJ o.2.1 p)
 else if o.1=7 then agh p (cg (·.id) o.2.1 p.L9) (ahQ p)
 else if o.1=8 then agh p (cg (·.id) o.2.1 p.ae) (ag8 o.2.1 o.2.2.2 p)
 else if o.1=9 then agh p (cg (·.id) o.2.1 p.ae) (ag5 o.2.1 x.id p)
 else if o.1=10 then agh p (cg (·.id) o.2.1 p.ag) (ajf o.2.1 o.2.2.2 p)
 else if o.1=11 then agh p (cg (·.id) o.2.1 p.ag) (aiG o.2.1 p)
 else if o.1=12 then agh p (cg (·.id) o.2.1 p.ag) (ain x.id p)
 else if o.1=13 then agh p (cg (·.id) o.2.1 p.ai) (agw o.2.1 o.2.2.2 p)
 else if o.1=14 then agh p (cg (·.id) o.2.1 p.ai) (agB o.2.1 x.id p)
 else if o.1=15 then agh p (cg (·.id) o.2.1 p.L8) (ahH o.2.1 p)
 else if o.1=16 then agh p (cg (·.id) o.2.1 p.L8) (aiy o.2.1 x.id p)
 else aj6 x p
section
variable {now id:Int} {o:dN} {p:aE}
def agd (c:Int) (h:c≠ -1:=by decide) (h2: ¬ 10<=c:=by decide):aic now id o (p,c)=bu c id p:=by unfold aic; rw [if_neg h,if_neg h2]
def aif (c:Int) (h2:10<=c:=by decide):aic now id o (p,c)=mX (c - 10) o now id p:=by
 unfold aic;rw [if_neg (show ¬ c= -1 by omega),if_pos h2]
def ajy {f g:aD->aD} {l:List aD} (h: ∀ y∈l,y.id=id->f y=g y):ce id f l=ce id g l:=by
 unfold ce;refine List.map_congr_left fun y hy=> ?_
 by_cases e:y.id=id
 .rw [if_pos e,if_pos e,h y hy e]
 .rw [if_neg e,if_neg e]
def aj2 {l:List aD} {x y:aD} (h:l.Pairwise (fun x y=>x.id < y.id)) (hx:x∈l) (hy:y∈l) (e:x.id=y.id):x=y:=by
 obtain ⟨i,hi⟩:=List.mem_iff_getElem?.1 hx;obtain ⟨j,hj⟩:=List.mem_iff_getElem?.1 hy;obtain ⟨hi1,rfl⟩:=Lj.1 hi;obtain ⟨DS,rfl⟩:=Lj.1 hj;rw [P8] at h;rcases P9 i j with hlt | heq | hgt
 .have h7:=h i j hi1 DS hlt
  omega
 .subst heq; rfl
 .have h7:=h j i DS hi1 hgt
  omega
end
def aia {x:aD} (h:cH x=true) (hs:x.Md=1):x.on=0/\x.held=rM/\((opAt x).1=1->0<=x.left/\x.left < (opAt x).2.1):=by
 rw [fG,J7] at h;have h2:=h.2;unfold bO at h2;rw [if_neg zo,if_pos hs] at h2;simp only [J7,decide_eq_true_eq] at h2;refine ⟨h2.1.2,empty_eq h2.2,fun e=> ?_⟩;have h3:=h2.1.1.1.2;unfold jJ at h3;rw [if_pos e] at h3;simpa using h3
def op_fin {now:Int} {x:aD} {p:aE} (h:aQ p) (hx:x∈p.L8) (hs:x.Md=1):lX now x (opAt x) p=aic now x.id (opAt x) (agq now x (opAt x) p):=by
 have hr:=aia (h.proc hx).2.1 hs;have one: ∀ y∈p.L8,y.id=x.id->y=x:=fun y hy e=>aj2 h.kW hy hx e
 obtain ⟨o,ho⟩: ∃ o,o=opAt x:=⟨_,rfl⟩
 rw [<- ho] at hr ⊢;unfold lX agq;by_cases k1:o.1=1
 .rw [if_pos k1,if_pos k1]
  have hl:=hr.2.2 k1;unfold GY runT;by_cases e:agO x o=1
  .have e':(if x.left=0 then o.2.1 else x.left)=1:=e
   rw [if_pos e',if_pos e,agd 0]
   show ({ p with L8:=ce x.id (jT 0) p.L8 } :aE)= { p with L8:=ce x.id (jT 0) (ce x.id (aiA (agO x o - 1)) p.L8) }
   rw [pm (f:=aiA (agO x o - 1)) fun _=>rfl];rfl
  .have e': ¬ (if x.left=0 then o.2.1 else x.left)=1:=e
   rw [if_neg e',if_neg e];rfl
 rw [if_neg k1,if_neg k1];by_cases k2:o.1=2
 .rw [if_pos k2,if_pos k2]
  unfold kC
  show _=({ p with next:=p.next+1,L8:=ce x.id (ahr p.next (now+o.2.1)) p.L8 } :aE)
  rw [ajy (f:=zb p.next 2 0 rM (now+o.2.1)) (g:=ahr p.next (now+o.2.1)) fun y hy e=> ?_];rw [one y hy e];unfold zb ahr;rw [<- hr.1,<- hr.2.1]
 rw [if_neg k2,if_neg k2];by_cases k3:o.1=3
 .rw [if_pos k3,if_pos k3]
  unfold mh agh aiw;cases cg (·.id) o.2.1 p.aj with
  | none=>exact (agd 3).symm
  | some s=>
   simp only
   split
   .exact (aif 13).symm
   .exact (agd 0).symm
 rw [if_neg k3,if_neg k3];by_cases k4:o.1=4
 .rw [if_pos k4,if_pos k4]
  unfold gJ agh agx;cases cg (·.id) o.2.1 p.aj with
  | none=>exact (agd 3).symm
  | some s=>
   simp only;cases jl 3 o.2.1 p.L8 with
   | some y=>exact (agd 0).symm
   | none=>
    simp only
    split
    .exact (agd 1).symm
    .exact (agd 0).symm
 rw [if_neg k4,if_neg k4];by_cases k5:o.1=5\/o.1=6\/o.1=7
 .rw [if_pos k5]
  unfold dE;cases hf:cg (·.id) o.2.1 p.L9 with
  | none=>rcases k5 with k | k | k <;> simp only [k,agh] <;> exact (agd 3).symm
  | some e=>
   rcases k5 with k | k | k
   .exact ZbR
   .exact ZbR
   .simp only [k,agh,ahQ]
    cases e.up
    .exact (aif 14).symm
    .exact (agd 0).symm
 rw [if_neg k5,if_neg (fun e=>k5 (.inl e)),if_neg (fun e=>k5 (.inr (.inl e))),if_neg (fun e=>k5 (.inr (.inr e)))];by_cases k8:o.1=8
 .rw [if_pos k8,if_pos k8]
  unfold lc agh ag8;cases cg (·.id) o.2.1 p.ae with
  | none=>exact (agd 3).symm
  | some b=>
   simp only;cases jl 6 o.2.1 p.L8 with
   | some y=>exact (agd 0).symm
   | none=>
    simp only
    split
    .exact (aif 15).symm
    .exact (agd 0).symm
 rw [if_neg k8,if_neg k8];by_cases k9:o.1=9
 .rw [if_pos k9,if_pos k9]
  unfold ka agh ag5;cases cg (·.id) o.2.1 p.ae with
  | none=>exact (agd 3).symm
  | some b=>
   simp only;cases b.Ma with
   | nil=>exact (aif 16).symm
   | cons t r=>
    simp only;cases jl 5 o.2.1 (ez t x.id p).L8 with
    | none=>exact (agd 0).symm
    | some y=>exact (agd 0).symm
 rw [if_neg k9,if_neg k9];by_cases k10:o.1=10\/o.1=11\/o.1=12
 .rw [if_pos k10]
  unfold dC;cases hf:cg (·.id) o.2.1 p.ag with
  | none=>rcases k10 with k | k | k <;> simp only [k,agh] <;> exact (agd 3).symm
  | some e=>
   rcases k10 with k | k | k
   .exact ZbR
   .exact ZbR
   .simp only [k,agh,ain]
    cases e.shown
    .exact (aif 17).symm
    .exact (agd 0).symm
 rw [if_neg k10,if_neg (fun e=>k10 (.inl e)),if_neg (fun e=>k10 (.inr (.inl e))),if_neg (fun e=>k10 (.inr (.inr e)))];by_cases k13:o.1=13
 .rw [if_pos k13,if_pos k13]
  unfold ig agh agw;cases cg (·.id) o.2.1 p.ai with
  | none=>exact (agd 3).symm
  | some q=>
   simp only
   split
   .exact (agd 3).symm
   split
   .exact (agd 0).symm
   split
   .exact (agd 1).symm
   .exact (agd 0).symm
 rw [if_neg k13,if_neg k13];by_cases k14:o.1=14
 .rw [if_pos k14,if_pos k14]
  unfold gC agh agB;cases cg (·.id) o.2.1 p.ai with
  | none=>exact (agd 3).symm
  | some q=>
   simp only
   split
   .exact (agd 3).symm
   cases q.Ma with
   | nil=>exact (agd 1).symm
   | cons t r=>exact (agd 0).symm
 rw [if_neg k14,if_neg k14];by_cases k15:o.1=15
 .rw [if_pos k15,if_pos k15]
  unfold jU agh ahH;cases cg (·.id) o.2.1 p.L8 with
  | none=>exact (agd 3).symm
  | some y=>
   simp only
   split
   .exact (agd 0).symm
   .exact (agd 1).symm
 rw [if_neg k15,if_neg k15];by_cases k16:o.1=16
 .rw [if_pos k16,if_pos k16]
  unfold lg agh aiy;cases cg (·.id) o.2.1 p.L8 with
  | none=>exact (agd 3).symm
  | some y=>
   simp only
   split
   .exact (agd 1).symm
   by_cases e:o.2.1=x.id
   .rw [if_pos e,if_pos e,e]
    rfl
   .rw [if_neg e,if_neg e]
    exact (agd 0).symm
 rw [if_neg k16,if_neg k16];rfl
end Go.Proofs.YtfncpmaefninjaaGreatDoor
