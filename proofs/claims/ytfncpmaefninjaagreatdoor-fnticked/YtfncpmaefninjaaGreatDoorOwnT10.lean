/- What the proof leans on, part 10. -/
import Derived.Test.YtfncpmaefninjaaGreatDoorOwnT5
import Derived.Test.YtfncpmaefninjaaGreatDoorOwnT9
set_option linter.all false
set_option maxRecDepth 100000
set_option maxHeartbeats 8000000
open Go.Proofs.Tryz
open Go renaming World->w_,Value->v_,Calls->k_,Addr->d_,TypeId->T_,below_setRow->q_
open Go.Ending renaming returned->r_
open Go.IntKind renaming i64->j_
open Go.Obj renaming cells->c_
open Go.RowKit renaming Below->B_,Hid->bE
open Go.Value renaming int->i_,slice->s_,bool->b_,string->t_,agg->a_,pointer->p_,tuple->u_
open Option renaming some->o_,none->n_
open Go renaming wp_at_succ->Kd,wp_at_zero->Kc
open Go.Proofs.Tryz renaming prog->J3
open List renaming find?_cons->LL,getElem?_cons_succ->QC,getElem?_cons_zero->QI,set_cons_succ->Lo,set_cons_zero->Ln

open Go.RowKit
namespace Go.Proofs.YtfncpmaefninjaaGreatDoor
section
abbrev afh (q:af):List Nat:=blk q.bc ++ (blk q.ay ++ (blk q.ax ++ (blk q.am ++ (q.ae.filterMap aC.bt ++ (blk q.aK ++ q.ai.filterMap aU.bt)))))
abbrev afg (q:af):List Nat:=blk q.aN ++ q.L8.filterMap aR.bt ++ blk q.bc ++ blk q.ay ++ blk q.ax ++ blk q.am ++ q.ae.filterMap aC.bt
abbrev afk (q:af):List Nat:=blk q.aN ++ q.L8.filterMap aR.bt ++ blk q.bc ++ blk q.ay ++ blk q.ax
def qC {Z A A' K k R:List Nat} (h:(Z ++ (A ++ (K ++ R))).Nodup) (hA:A'.Nodup) (hk:k.Nodup) (h1: ∀ g∈A',g∉Z/\g∉K/\g∉k/\g∉R) (h2: ∀ g∈k,g∉Z/\g∉K/\g∉R):(Z ++ (A' ++ ((K ++ k) ++ R))).Nodup:=by
 simp only [Kf,Kg] at h ⊢;obtain ⟨hz,⟨-,⟨hK,hR,hKR⟩,-⟩,hzz⟩:=h;refine ⟨hz,⟨hA,⟨⟨hK,hk,fun a ha b hb e=>(h2 b hb).2.1 (e ▸ ha)⟩,hR,fun a ha b hb e=> ?_⟩,fun a ha b hb e=> ?_⟩,fun a ha b hb e=> ?_⟩
 .rcases ha with ha | ha
  .exact hKR a ha b hb e
  .exact (h2 a ha).2.2 (e ▸ hb)
 .subst e
  rcases hb with (hb | hb) | hb
  .exact (h1 a ha).2.1 hb
  .exact (h1 a ha).2.2.1 hb
  .exact (h1 a ha).2.2.2 hb
 .subst e
  rcases hb with hb | (hb | hb) | hb
  .exact (h1 a hb).1 ha
  .exact hzz a ha a (.inr (.inl hb)) rfl
  .exact (h2 a hb).1 ha
  .exact hzz a ha a (.inr (.inr hb)) rfl
def fN (a:Option d_):(blk a).Nodup:=by cases a <;> simp [blk]
def qj {α:Type} (N:gd α) (x:α):([x].filterMap N.bt).Nodup:=by
 cases h:N.bt x <;> simp [h]
def dd {α:Type} {N:gd α} {l:List α} {y:α} {g:Nat} (hy:y∈l) (hk:N.bt y=o_ g):(∃ a,a∈l/\N.bt a=o_ g)=True:=by simp only [eq_iff_iff,iff_true]; exact ⟨y,hy,hk⟩
def j5 {α:Type} {N:gd α} {x:α} {g:Nat} :g∈ [x].filterMap N.bt↔N.bt x=o_ g:=by simp
def ap.yg {w w':w_} {bj:Nat} {q:af} {x:ao} {a:Option d_} {c:Nat} (h:ap w bj q) (hm:aR.cO w bj x) (hx: ∀ g,aR.bt x=o_ g->g∉q.Mc)
  (ho:w'.ownsRow bj 41 12 (s_ a (q.L8.length+1) c) (q.L8.length+1) (bg.flat (q.L8 ++ [x]))) (hg: ∀ g,g < w.heap.size->g∉blk q.aN->w'.heap[g]? =w.heap[g]?) (hb: ∀ g∈blk a,g∈blk q.aN\/g=w.heap.size):
  ap w' bj ({ q with L8:=q.L8 ++ [x],aN:=a,aW:=c } :af)/\ ∀ g∈({ q with L8:=q.L8 ++ [x],aN:=a,aW:=c } :af).Mc,g∈q.Mc\/aR.bt x=o_ g\/g=w.heap.size:=by
 have hbs:q.Mc= [] ++ (blk q.aN ++ (q.L8.filterMap aR.bt ++ (afh q))):=by simp [af.Mc]
 have rN:({ q with L8:=q.L8 ++ [x],aN:=a,aW:=c } :af).Mc= [] ++ (blk a ++ ((q.L8.filterMap aR.bt ++ [x].filterMap aR.bt) ++ (afh q))):=by simp only [af.Mc,Lm,LW,List.nil_append]
 have hnd:=h.nodup;rw [hbs] at hnd;have hlt: ∀ g∈q.Mc,g < w.heap.size:=fun g hg=>(h.lt g hg).2
 have uW: ∀ g∈q.Mc,g∉blk q.aN->w'.heap[g]? =w.heap[g]? :=fun g bR hn=>hg g (hlt g bR) hn
 have nc: ∀ g,(g∈ [] \/g∈q.L8.filterMap aR.bt\/g∈(afh q))->g∉blk q.aN:=fun g bR hA=>by
  exact N_
 have hmem: ∀ g,(g∈ [] \/g∈q.L8.filterMap aR.bt\/g∈(afh q))->g∈q.Mc:=fun g bR=>by
  exact Zab
 have hs: ∀ g,(g∈ [] \/g∈q.L8.filterMap aR.bt\/g∈(afh q))->w'.heap[g]? =w.heap[g]? :=fun g bR=>uW g (hmem g bR) (nc g bR)
 have hxs: ∀ g,aR.bt x=o_ g->w'.heap[g]? =w.heap[g]? :=fun g hk=>hg g (hm.lt hk).2 fun hA=>hx g hk Zdc
 refine ⟨⟨(by simpa using ho),aL h.aj fun g bR=>hs g (.inr <| .inr ZcJ),aL h.L9 fun g bR=>hs g (.inr <| .inr ZcJ),aL h.ag fun g bR=>hs g (.inr <| .inr ZcJ),aL h.ae fun g bR=>hs g (.inr <| .inr ZcJ),aL h.ai fun g bR=>hs g (.inr <| .inr ZcJ),fun y hy=>by
  rcases Kg.1 hy with hy | hy
  .exact (h.eI y hy).same fun g hk=>hs g (.inr (.inl (Lq.2 ⟨y,hy,hk⟩)))
  .simp only [Kt,Ku,or_false] at hy
   subst hy;exact hm.same hxs,fun y hy=>(h.eE y hy).same fun g hk=>hs g (.inr <| .inr ZcG),fun y hy=>(h.eR y hy).same fun g hk=>hs g (.inr <| .inr ZcG),?_⟩,?_⟩
 .rw [rN]
  refine qC hnd (fN a) (qj _ x) (fun g iE=> ?_) (fun g EI=> ?_)
  .have key: ∀ g',(g'∈ [] \/g'∈q.L8.filterMap aR.bt\/g'∈(afh q))->g'≠g:=fun g' hg' e=>by
    exact ZaI
   exact x_
  .exact Zac
 .exact rt
def ap.sD {w w':w_} {bj:Nat} {q:af} {x:au} {a:Option d_} {c:Nat} (h:ap w bj q) (hm:aC.cO w bj x) (hx: ∀ g,aC.bt x=o_ g->g∉q.Mc)
  (ho:w'.ownsRow bj 96 3 (s_ a (q.ae.length+1) c) (q.ae.length+1) (bm.flat (q.ae ++ [x]))) (hg: ∀ g,g < w.heap.size->g∉blk q.am->w'.heap[g]? =w.heap[g]?) (hb: ∀ g∈blk a,g∈blk q.am\/g=w.heap.size):
  ap w' bj ({ q with ae:=q.ae ++ [x],am:=a,aG:=c } :af)/\ ∀ g∈({ q with ae:=q.ae ++ [x],am:=a,aG:=c } :af).Mc,g∈q.Mc\/aC.bt x=o_ g\/g=w.heap.size:=by
 have hbs:q.Mc=(afk q) ++ (blk q.am ++ (q.ae.filterMap aC.bt ++ (blk q.aK ++ q.ai.filterMap aU.bt))):=by simp [af.Mc,Lm]
 have rN:({ q with ae:=q.ae ++ [x],am:=a,aG:=c } :af).Mc=(afk q) ++ (blk a ++ ((q.ae.filterMap aC.bt ++ [x].filterMap aC.bt) ++ (blk q.aK ++ q.ai.filterMap aU.bt))):=by simp only [af.Mc,Lm,LW]
 have hnd:=h.nodup;rw [hbs] at hnd;have hlt: ∀ g∈q.Mc,g < w.heap.size:=fun g hg=>(h.lt g hg).2
 have uW: ∀ g∈q.Mc,g∉blk q.am->w'.heap[g]? =w.heap[g]? :=fun g bR hn=>hg g (hlt g bR) hn
 have nc: ∀ g,(g∈(afk q)\/g∈q.ae.filterMap aC.bt\/g∈(blk q.aK ++ q.ai.filterMap aU.bt))->g∉blk q.am:=fun g bR hA=>by
  exact N_
 have hmem: ∀ g,(g∈(afk q)\/g∈q.ae.filterMap aC.bt\/g∈(blk q.aK ++ q.ai.filterMap aU.bt))->g∈q.Mc:=fun g bR=>by
  exact Zab
 have hs: ∀ g,(g∈(afk q)\/g∈q.ae.filterMap aC.bt\/g∈(blk q.aK ++ q.ai.filterMap aU.bt))->w'.heap[g]? =w.heap[g]? :=fun g bR=>uW g (hmem g bR) (nc g bR)
 have hxs: ∀ g,aC.bt x=o_ g->w'.heap[g]? =w.heap[g]? :=fun g hk=>hg g (hm.lt hk).2 fun hA=>hx g hk Zdc
 refine ⟨⟨aL h.L8 fun g bR=>hs g (.inl ZcJ),aL h.aj fun g bR=>hs g (.inl ZcJ),aL h.L9 fun g bR=>hs g (.inl ZcJ),aL h.ag fun g bR=>hs g (.inl ZcJ),(by simpa using ho),aL h.ai fun g bR=>hs g (.inr <| .inr ZcJ),fun y hy=>(h.eI y hy).same fun g hk=>hs g (.inl ZcG),fun y hy=>by
  rcases Kg.1 hy with hy | hy
  .exact (h.eE y hy).same fun g hk=>hs g (.inr (.inl (Lq.2 ⟨y,hy,hk⟩)))
  .simp only [Kt,Ku,or_false] at hy
   subst hy;exact hm.same hxs,fun y hy=>(h.eR y hy).same fun g hk=>hs g (.inr <| .inr ZcG),?_⟩,?_⟩
 .rw [rN]
  refine qC hnd (fN a) (qj _ x) (fun g iE=> ?_) (fun g EI=> ?_)
  .have key: ∀ g',(g'∈(afk q)\/g'∈q.ae.filterMap aC.bt\/g'∈(blk q.aK ++ q.ai.filterMap aU.bt))->g'≠g:=fun g' hg' e=>by
    exact ZaI
   exact x_
  .exact Zac
 .exact rt
def ap.yf {w w':w_} {bj:Nat} {q:af} {x:aM} {a:Option d_} {c:Nat} (h:ap w bj q) (hm:aU.cO w bj x) (hx: ∀ g,aU.bt x=o_ g->g∉q.Mc)
  (ho:w'.ownsRow bj 115 5 (s_ a (q.ai.length+1) c) (q.ai.length+1) (bX.flat (q.ai ++ [x]))) (hg: ∀ g,g < w.heap.size->g∉blk q.aK->w'.heap[g]? =w.heap[g]?) (hb: ∀ g∈blk a,g∈blk q.aK\/g=w.heap.size):
  ap w' bj ({ q with ai:=q.ai ++ [x],aK:=a,aV:=c } :af)/\ ∀ g∈({ q with ai:=q.ai ++ [x],aK:=a,aV:=c } :af).Mc,g∈q.Mc\/aU.bt x=o_ g\/g=w.heap.size:=by
 have hbs:q.Mc=(afg q) ++ (blk q.aK ++ (q.ai.filterMap aU.bt ++ [])):=by simp [af.Mc,Lm]
 have rN:({ q with ai:=q.ai ++ [x],aK:=a,aV:=c } :af).Mc=(afg q) ++ (blk a ++ ((q.ai.filterMap aU.bt ++ [x].filterMap aU.bt) ++ [])):=by simp only [af.Mc,Lm,LW,QO]
 have hnd:=h.nodup;rw [hbs] at hnd;have hlt: ∀ g∈q.Mc,g < w.heap.size:=fun g hg=>(h.lt g hg).2
 have uW: ∀ g∈q.Mc,g∉blk q.aK->w'.heap[g]? =w.heap[g]? :=fun g bR hn=>hg g (hlt g bR) hn
 have nc: ∀ g,(g∈(afg q)\/g∈q.ai.filterMap aU.bt\/g∈ [])->g∉blk q.aK:=fun g bR hA=>by
  exact N_
 have hmem: ∀ g,(g∈(afg q)\/g∈q.ai.filterMap aU.bt\/g∈ [])->g∈q.Mc:=fun g bR=>by
  exact Zab
 have hs: ∀ g,(g∈(afg q)\/g∈q.ai.filterMap aU.bt\/g∈ [])->w'.heap[g]? =w.heap[g]? :=fun g bR=>uW g (hmem g bR) (nc g bR)
 have hxs: ∀ g,aU.bt x=o_ g->w'.heap[g]? =w.heap[g]? :=fun g hk=>hg g (hm.lt hk).2 fun hA=>hx g hk Zdc
 refine ⟨⟨aL h.L8 fun g bR=>hs g (.inl ZcJ),aL h.aj fun g bR=>hs g (.inl ZcJ),aL h.L9 fun g bR=>hs g (.inl ZcJ),aL h.ag fun g bR=>hs g (.inl ZcJ),aL h.ae fun g bR=>hs g (.inl ZcJ),(by simpa using ho),fun y hy=>(h.eI y hy).same fun g hk=>hs g (.inl ZcG),fun y hy=>(h.eE y hy).same fun g hk=>hs g (.inl ZcG),fun y hy=>by
  rcases Kg.1 hy with hy | hy
  .exact (h.eR y hy).same fun g hk=>hs g (.inr (.inl (Lq.2 ⟨y,hy,hk⟩)))
  .simp only [Kt,Ku,or_false] at hy
   subst hy;exact hm.same hxs,?_⟩,?_⟩
 .rw [rN]
  refine qC hnd (fN a) (qj _ x) (fun g iE=> ?_) (fun g EI=> ?_)
  .have key: ∀ g',(g'∈(afg q)\/g'∈q.ai.filterMap aU.bt\/g'∈ [])->g'≠g:=fun g' hg' e=>by
    exact ZaI
   exact x_
  .exact Zac
 .exact rt
end
section
attribute [local go_sem ↓] Kc Kd
def CY (p:af) (B:Nat) (b0 d0 b1 d1 b2 d2 b3 e:Bool) (g0 g1 g2 o:Nat) (a0 a1 a2:Option d_) (c0 c1 c2:Nat):Act:=⟨#[a_ #[i_ j_ p.id,i_ j_ p.next,s_ p.aN p.L8.length p.aW,s_ p.bc p.aj.length p.bF,s_ p.ay p.L9.length p.aO,s_ p.ax p.ag.length p.aP,s_ p.am p.ae.length p.aG,s_ p.aK p.ai.length p.aV],p_ (o_ ⟨B,0,n_⟩),p_ (o_ ⟨(B+1),0,n_⟩),bif b3 then p_ (o_ ⟨o,0,n_⟩) else undef,undef,undef,undef,undef,undef,undef,p_ (o_ ⟨B,0,n_⟩),i_ j_ p.id,p_ (o_ ⟨B,1,n_⟩),i_ j_ p.next,bif b0 then s_ (o_ ⟨g0,0,n_⟩) 0 0 else undef,p_ (o_ ⟨B,3,n_⟩),s_ p.bc p.aj.length p.bF,bif d0 then s_ a0 p.aj.length c0 else undef,bif b1 then s_ (o_ ⟨g1,0,n_⟩) 0 0 else undef,p_ (o_ ⟨B,4,n_⟩),s_ p.ay p.L9.length p.aO,bif d1 then s_ a1 p.L9.length c1 else undef,bif b2 then s_ (o_ ⟨g2,0,n_⟩) 0 0 else undef,p_ (o_ ⟨B,5,n_⟩),s_ p.ax p.ag.length p.aP,bif d2 then s_ a2 p.ag.length c2 else undef,bif e then a_ #[i_ j_ p.id,i_ j_ p.next,s_ n_ 0 0,s_ a0 p.aj.length c0,s_ a1 p.L9.length c1,s_ a2 p.ag.length c2,s_ n_ 0 0,s_ n_ 0 0] else undef,undef,undef,undef,undef,undef,undef,undef,undef,undef,undef,undef,undef,undef,undef,undef,undef,undef,undef,undef,undef,undef,undef,undef,undef,undef,undef,undef,undef,undef,undef,undef,undef,undef,undef,undef,undef,undef,undef,undef,undef,undef,undef,undef,undef,undef,undef,undef,undef,undef,undef,undef,undef,undef,undef,undef,undef,undef,undef,undef,undef,undef,undef,undef,undef,undef,undef,undef,undef,undef,undef],[]⟩
def IP (p:af) (We:w_) (l:Array Bool) (a:Act) (w:w_):Prop:= ∃ (b0 d0 b1 d1 b2 d2 b3 d3 e:Bool) (g0 g1 g2 o:Nat) (a0 a1 a2:Option d_) (c0 c1 c2:Nat),l= #[true,true,true,true,b0,true,true,d0,b1,true,true,d1,b2,true,true,d2,e,b3,d3] /\a=CY p We.heap.size b0 d0 b1 d1 b2 d2 b3 e g0 g1 g2 o a0 a1 a2 c0 c1 c2/\fI p We w b0 d0 b1 d1 b2 d2 b3 d3 e g0 g1 g2 o a0 a1 a2 c0 c1 c2
abbrev pcA (x:ao) (a2:Option d_) (c2:Nat):Array v_:= #[i_ j_ x.id,i_ j_ x.RX,s_ a2 x.prog.length c2,i_ j_ x.Md,i_ j_ x.pc,i_ j_ x.left,i_ j_ x.Mg,i_ j_ x.on,t_ x.held,t_ x.got,i_ j_ x.code,i_ j_ x.RU]
abbrev pcB (x:aM) (a2:Option d_) (c2:Nat):Array v_:= #[i_ j_ x.id,b_ x.I,b_ x.Mf,i_ j_ x.max,s_ a2 x.Ma.length c2]
structure cL (p:af) (We w:w_) (o:Nat) (q:af):Prop where
 cd:B_ We.heap.size We w
 part:av w We.heap.size p
 ret:w.heap[We.heap.size+1]? =o_ (c_ ar 31)
 I:av w o q
 own:ap w (We.heap.size+2) q
 low:We.heap.size+2<=o
 free:o∉q.Mc
def cL.below {p:af} {We w w':w_} {o:Nat} {q:af} (h:cL p We w o q) (hb:B_ w.heap.size w w'):cL p We w' o q:=
 ⟨h.cd.trans (hb.mono h.cd.size),h.part.below hb,(hb.block _ (J2.1 h.ret).1).trans h.ret,h.I.below hb,h.own.below hb,h.low,h.free⟩
def cL.start {p:af} {We w:w_} {g0 g1 g2 o:Nat} {a0 a1 a2:Option d_} {c0 c1 c2:Nat} (h:fI p We w true true true true true true true true true g0 g1 g2 o a0 a1 a2 c0 c1 c2):
  cL p We w o ⟨p.id,p.next,[],n_,0,p.aj,a0,c0,p.L9,a1,c1,p.ag,a2,c2,[],n_,0,[],n_,0⟩:=by
 have hap:=h.pR.apart;refine ⟨h.cd,h.part,h.ret,h.I rfl,⟨Ke _ _ _ _,h.s0.done rfl,h.s1.done rfl,h.s2.done rfl,Ke _ _ _ _,Ke _ _ _ _,(fun x hx=>by cases hx),(fun x hx=>by cases hx),(fun x hx=>by cases hx),?_⟩,(h.pR.xy 3 o ZdR).1,?_⟩
 .have e:af.Mc ⟨p.id,p.next,[],n_,0,p.aj,a0,c0,p.L9,a1,c1,p.ag,a2,c2,[],n_,0,[],n_,0⟩=blk a0 ++ (blk a1 ++ blk a2):=by simp [af.Mc,blk]
  rw [e];simp only [Kf,Kg];refine ⟨fN _,⟨fN _,fN _,fun a ha b hb e=> ?_⟩,fun a ha b hb e=> ?_⟩
  .subst e
   exact hap 1 2 (by decide) a ZdQ Zc4
  .subst e
   rcases hb with hb | hb
   .exact hap 0 1 (by decide) a ZdQ Zc4
   .exact hap 0 2 (by decide) a ZdQ Zc4
 .have e:af.Mc ⟨p.id,p.next,[],n_,0,p.aj,a0,c0,p.L9,a1,c1,p.ag,a2,c2,[],n_,0,[],n_,0⟩=blk a0 ++ (blk a1 ++ blk a2):=by simp [af.Mc,blk]
  rw [e];simp only [Kg];rintro (hb | hb | hb)
  .exact hap 3 0 (by decide) o ZdR Zc4
  .exact hap 3 1 (by decide) o ZdR Zc4
  .exact hap 3 2 (by decide) o ZdR Zc4
def di {a:Option d_} {n c g:Nat} (h:(Value.slice a n c).ownBlock=o_ g):g∈blk a:=by
 cases a with
 | none=>simp [Value.ownBlock] at h
 | some ad=>simp [Value.ownBlock] at h; simp [blk,h]
def aH {w:w_} {o i g:Nat} {v:v_} (h:g≠o):(w.setCell ⟨o,i,n_⟩ v).heap[g]? =w.heap[g]? :=de [v] h
def cx {w:w_} {o i:Nat} {v:v_} {cs:Array v_} {t:T_} (h:w.heap[o]? =o_ (c_ cs t)):(w.setCell ⟨o,i,n_⟩ v).heap[o]? =o_ (c_ (cs.setIfInBounds i v) t):=jc [v] h
def bP {B o i:Nat} {w0 w:w_} {v:v_} (h:B_ B w0 w) (hb:B<=o):B_ B w0 (w.setCell ⟨o,i,n_⟩ v):=
 ⟨h.os,h.tape,h.output,by have:=h.size; rw [show (w.setCell ⟨o,i,n_⟩ v).heap.size=w.heap.size from fH [v]]; exact this,fun k hk=>(aH zo).trans (h.block k hk)⟩
def IV {p q:af} {k:Nat} (h:q.pure= { p.pure with L8:=p.pure.L8.take k,ae:= [],ai:= [] }) (hk:k<=p.L8.length):q.L8.length=k:=by
 have h5:=congrArg (fun z=>(aE.L8 z).length) h;simp [af.pure] at h5;omega
def Fs {p q:af} {k:Nat} (h:q.pure= { p.pure with ae:=p.pure.ae.take k,ai:= [] }) (hk:k<=p.ae.length):q.ae.length=k:=by
 have h5:=congrArg (fun z=>(aE.ae z).length) h;simp [af.pure] at h5;omega
def I0 {p q:af} {k:Nat} (h:q.pure= { p.pure with ai:=p.pure.ai.take k }) (hk:k<=p.ai.length):q.ai.length=k:=by
 have h5:=congrArg (fun z=>(aE.ai z).length) h;simp [af.pure] at h5;omega
def cL.yg {p:af} {We w w':w_} {o:Nat} {q:af} {x:ao} {a:Option d_} {c:Nat} (h:cL p We w o q) (hm:aR.cO w (We.heap.size+2) x) (hx: ∀ g,aR.bt x=o_ g->g∉q.Mc/\g≠o)
  (ho:w'.ownsRow (We.heap.size+2) 41 12 (s_ a (q.L8.length+1) c) (q.L8.length+1) (bg.flat (q.L8 ++ [x]))) (hg:w.grownBy w' ((Value.slice q.aN q.L8.length q.aW).ownBlock)) (hb: ∀ g∈blk a,g∈blk q.aN\/g=w.heap.size):
  cL p We (w'.setCell ⟨o,2,n_⟩ (s_ a (q.L8.length+1) c)) o ({ q with L8:=q.L8 ++ [x],aN:=a,aW:=c } :af):=by
 have p7:o < w.heap.size:=(J2.1 h.I).1;have hrow: ∀ g,g < w.heap.size->g∉blk q.aN->w'.heap[g]? =w.heap[g]? :=fun g hgl hn=>hg.block g hgl fun e=>hn (di e.symm)
 obtain ⟨hown,hbl⟩:=h.own.yg hm (fun g hk=>(hx g hk).1) ho hrow hb;have hoA:o∉blk q.aN:=fun hm'=>h.free (by simp [af.Mc,hm'])
 have hlow: ∀ g,g∈blk q.aN->We.heap.size+2<=g:=fun g hg'=>(cf h.own.L8 hg').1
 have hfree:o∉({ q with L8:=q.L8 ++ [x],aN:=a,aW:=c } :af).Mc:=fun hm'=>by
  exact ZaU
 have hsc: ∀ g,g≠o->(w'.setCell ⟨o,2,n_⟩ (s_ a (q.L8.length+1) c)).heap[g]? =w'.heap[g]? :=fun g hne=>aH hne
 have lY:B_ We.heap.size We w':=h.cd.grown hg (by have:=h.low; omega) (fun k hk=>by have:=hlow k (di hk); omega);have hout:w'.heap[o]? =w.heap[o]? :=hrow o p7 hoA;have hlo:=h.low;refine ⟨bP lY zo,(hsc _ zo).trans ((hrow _ zo fun hm'=>by have:=hlow _ hm'; omega).trans h.part),(hsc _ zo).trans ((hrow _ zo fun hm'=>by have:=hlow _ hm'; omega).trans h.ret),?_,hown.same fun g hg'=>hsc g fun e=>hfree (e ▸ hg'),h.low,hfree⟩;have h5:=cx (i:=2) (v:=s_ a (q.L8.length+1) c) (hout.trans h.I);have e:(q.L8 ++ [x]).length=q.L8.length+1:=by simp
 unfold av;simp only [e];exact h5
def vt (wr w7:w_) (x:ao) (a2:Option d_) (c2:Nat):Prop:=w7.heap[wr.heap.size]? =o_ (c_ #[i_ j_ x.id,i_ j_ x.RX,s_ x.aY x.prog.length x.bH,i_ j_ x.Md,i_ j_ x.pc,i_ j_ x.left,i_ j_ x.Mg,i_ j_ x.on,t_ x.held,t_ x.got,i_ j_ x.code,i_ j_ x.RU] 41)/\B_ wr.heap.size wr w7/\w7.ownsRow wr.heap.size 45 4 (s_ a2 x.prog.length c2) x.prog.length (fk.flat x.prog)/\ ∀ g∈blk a2,g=wr.heap.size+1\/g=wr.heap.size+2
section
variable {p q:af} {We wr w7 pH W8 W9:w_} {o c2 c k:Nat} {x:ao} {a2 a:Option d_}
def cL.ago (h:cL p We wr o q) (h7:vt wr w7 x a2 c2) (e8:W8=w7.setCell ⟨wr.heap.size,2,n_⟩ (s_ a2 x.prog.length c2)):W8.cell? ⟨o,2,n_⟩=o_ (s_ q.aN q.L8.length q.aW)/\W8.cell? ⟨wr.heap.size,0,n_⟩=o_ (i_ j_ x.id)/\W8.cell? ⟨wr.heap.size,1,n_⟩=o_ (i_ j_ x.RX)/\W8.cell? ⟨wr.heap.size,2,n_⟩=o_ (s_ a2 x.prog.length c2)/\W8.cell? ⟨wr.heap.size,3,n_⟩=o_ (i_ j_ x.Md)/\W8.cell? ⟨wr.heap.size,4,n_⟩=o_ (i_ j_ x.pc)/\W8.cell? ⟨wr.heap.size,5,n_⟩=o_ (i_ j_ x.left)/\W8.cell? ⟨wr.heap.size,6,n_⟩=o_ (i_ j_ x.Mg)/\W8.cell? ⟨wr.heap.size,7,n_⟩=o_ (i_ j_ x.on)/\W8.cell? ⟨wr.heap.size,8,n_⟩=o_ (t_ x.held)/\W8.cell? ⟨wr.heap.size,9,n_⟩=o_ (t_ x.got)/\W8.cell? ⟨wr.heap.size,10,n_⟩=o_ (i_ j_ x.code)/\W8.cell? ⟨wr.heap.size,11,n_⟩=o_ (i_ j_ x.RU):=by
 subst e8;have p7:o < wr.heap.size:=(J2.1 h.I).1;have h1:=(aH (i:=2) (v:=s_ a2 x.prog.length c2) (by omega:o≠wr.heap.size)).trans (h7.2.1.block o p7);have h2:=cx (i:=2) (v:=s_ a2 x.prog.length c2) h7.1;exact ZaV
def cL.Hm (h7:vt wr w7 x a2 c2) (e8:W8=w7.setCell ⟨wr.heap.size,2,n_⟩ (s_ a2 x.prog.length c2)) (e9:W9=W8.alloc (c_ (pcA x a2 c2) 41)):B_ wr.heap.size wr W9/\W8.heap.size=w7.heap.size:=by
 exact Za0
def cL.IH (h:cL p We wr o q) (h7:vt wr w7 x a2 c2) (e8:W8=w7.setCell ⟨wr.heap.size,2,n_⟩ (s_ a2 x.prog.length c2)) (e9:W9=W8.alloc (c_ (pcA x a2 c2) 41)):W9.ownsRow (We.heap.size+2) 41 12 (s_ q.aN q.L8.length q.aW) q.L8.length (bg.flat q.L8)/\W9.heap[w7.heap.size]? =o_ (c_ (pcA x a2 c2) 41):=by
 have kN:=cL.Hm h7 e8 e9;refine ⟨(h.below kN.1).own.L8,?_⟩;subst e9;have h5:=Kj W8 (c_ (pcA x a2 c2) 41)
 rwa [kN.2] at h5
def cL.upProc (h:q.pure= { p.pure with L8:=p.pure.L8.take k,ae:= [],ai:= [] }) (hx:p.L8[k]? =o_ x):({ q with L8:=q.L8 ++ [({ x with aY:=a2,bH:=c2 } :ao)],aN:=a,aW:=c } :af).pure= { p.pure with L8:=p.pure.L8.take (k+1),ae:= [],ai:= [] } :=by
 have e:p.pure.L8.take (k+1)=p.pure.L8.take k ++ [x.toaD] :=by
  rw [cj (x:=x.toaD)]
  show (p.L8.map (·.toaD))[k]? =_
  rw [Kk,hx];rfl
 rw [e];have h5:=congrArg aE.L8 h;have h6:(q.L8 ++ [({ x with aY:=a2,bH:=c2 } :ao)]).map (·.toaD)=p.pure.L8.take k ++ [x.toaD] :=by
  rw [Kl];exact congrArg (· ++ [x.toaD]) h5
 show ({ q.pure with L8:=(q.L8 ++ [({ x with aY:=a2,bH:=c2 } :ao)]).map (·.toaD) } :aE)=_
 rw [h6,h]
def cL.G5 (h:cL p We wr o q) (h7:vt wr w7 x a2 c2) (e8:W8=w7.setCell ⟨wr.heap.size,2,n_⟩ (s_ a2 x.prog.length c2)) (e9:W9=W8.alloc (c_ (pcA x a2 c2) 41))
  (ho:pH.ownsRow (We.heap.size+2) 41 12 (s_ a (q.L8.length+1) c) (q.L8.length+1) (bg.flat q.L8 ++ bg.vals ({ x with aY:=a2,bH:=c2 } :ao))) (hg:W9.grownBy pH ((Value.slice q.aN q.L8.length q.aW).ownBlock))
  (hb:(Value.slice a (q.L8.length+1) c).ownBlock=(Value.slice q.aN q.L8.length q.aW).ownBlock\/(Value.slice a (q.L8.length+1) c).ownBlock=o_ W9.heap.size):
  cL p We (pH.setCell ⟨o,2,n_⟩ (s_ a (q.L8.length+1) c)) o ({ q with L8:=q.L8 ++ [({ x with aY:=a2,bH:=c2 } :ao)],aN:=a,aW:=c } :af)/\pH.cell? ⟨o,2,n_⟩=o_ (s_ q.aN q.L8.length q.aW)/\pH.frozen? ⟨o,2,n_⟩=false:=by
 have p7:o < wr.heap.size:=(J2.1 h.I).1;obtain ⟨kN,hs8⟩:=cL.Hm h7 e8 e9;have h9:=h.below kN;have hlow:=h.low;have hm:aR.cO W9 (We.heap.size+2) ({ x with aY:=a2,bH:=c2 } :ao):=by
  exact FS
 have hx: ∀ g,aR.bt ({ x with aY:=a2,bH:=c2 } :ao)=o_ g->g∉q.Mc/\g≠o:=fun g hk=>by
  exact ZaE
 have hn: ∀ g∈blk a,g∈blk q.aN\/g=W9.heap.size:=fun g hg'=>by
  exact PM
 have hL:=h9.yg hm hx (by rw [bg.dc]; exact ho) hg hn;exact F_
end
def cL.sD {p:af} {We w w':w_} {o:Nat} {q:af} {x:au} {a:Option d_} {c:Nat} (h:cL p We w o q) (hm:aC.cO w (We.heap.size+2) x) (hx: ∀ g,aC.bt x=o_ g->g∉q.Mc/\g≠o)
  (ho:w'.ownsRow (We.heap.size+2) 96 3 (s_ a (q.ae.length+1) c) (q.ae.length+1) (bm.flat (q.ae ++ [x]))) (hg:w.grownBy w' ((Value.slice q.am q.ae.length q.aG).ownBlock)) (hb: ∀ g∈blk a,g∈blk q.am\/g=w.heap.size):
  cL p We (w'.setCell ⟨o,6,n_⟩ (s_ a (q.ae.length+1) c)) o ({ q with ae:=q.ae ++ [x],am:=a,aG:=c } :af):=by
 have p7:o < w.heap.size:=(J2.1 h.I).1;have hrow: ∀ g,g < w.heap.size->g∉blk q.am->w'.heap[g]? =w.heap[g]? :=fun g hgl hn=>hg.block g hgl fun e=>hn (di e.symm)
 obtain ⟨hown,hbl⟩:=h.own.sD hm (fun g hk=>(hx g hk).1) ho hrow hb;have hoA:o∉blk q.am:=fun hm'=>h.free (by simp [af.Mc,hm'])
 have hlow: ∀ g,g∈blk q.am->We.heap.size+2<=g:=fun g hg'=>(cf h.own.ae hg').1
 have hfree:o∉({ q with ae:=q.ae ++ [x],am:=a,aG:=c } :af).Mc:=fun hm'=>by
  exact ZaU
 have hsc: ∀ g,g≠o->(w'.setCell ⟨o,6,n_⟩ (s_ a (q.ae.length+1) c)).heap[g]? =w'.heap[g]? :=fun g hne=>aH hne
 have lY:B_ We.heap.size We w':=h.cd.grown hg (by have:=h.low; omega) (fun k hk=>by have:=hlow k (di hk); omega);have hout:w'.heap[o]? =w.heap[o]? :=hrow o p7 hoA;have hlo:=h.low;refine ⟨bP lY zo,(hsc _ zo).trans ((hrow _ zo fun hm'=>by have:=hlow _ hm'; omega).trans h.part),(hsc _ zo).trans ((hrow _ zo fun hm'=>by have:=hlow _ hm'; omega).trans h.ret),?_,hown.same fun g hg'=>hsc g fun e=>hfree (e ▸ hg'),h.low,hfree⟩;have h5:=cx (i:=6) (v:=s_ a (q.ae.length+1) c) (hout.trans h.I);have e:(q.ae ++ [x]).length=q.ae.length+1:=by simp
 unfold av;simp only [e];exact h5
def o9 (wr w7:w_) (x:au) (a2:Option d_) (c2:Nat):Prop:=w7.heap[wr.heap.size]? =o_ (c_ #[i_ j_ x.id,i_ j_ x.max,s_ x.ak x.Ma.length x.aq] 96)/\B_ wr.heap.size wr w7/\w7.ownsRow wr.heap.size 9 1 (s_ a2 x.Ma.length c2) x.Ma.length (bT.flat x.Ma)/\ ∀ g∈blk a2,g=wr.heap.size+1\/g=wr.heap.size+2
section
variable {p q:af} {We wr w7 pH W8 W9:w_} {o c2 c k:Nat} {x:au} {a2 a:Option d_}
def cL.F9 (h:cL p We wr o q) (h7:o9 wr w7 x a2 c2) (e8:W8=w7.setCell ⟨wr.heap.size,2,n_⟩ (s_ a2 x.Ma.length c2)):W8.cell? ⟨o,6,n_⟩=o_ (s_ q.am q.ae.length q.aG)/\W8.cell? ⟨wr.heap.size,0,n_⟩=o_ (i_ j_ x.id)/\W8.cell? ⟨wr.heap.size,1,n_⟩=o_ (i_ j_ x.max)/\W8.cell? ⟨wr.heap.size,2,n_⟩=o_ (s_ a2 x.Ma.length c2):=by
 subst e8;have p7:o < wr.heap.size:=(J2.1 h.I).1;have h1:=(aH (i:=2) (v:=s_ a2 x.Ma.length c2) (by omega:o≠wr.heap.size)).trans (h7.2.1.block o p7);have h2:=cx (i:=2) (v:=s_ a2 x.Ma.length c2) h7.1;exact ZaV
def cL.zQ (h7:o9 wr w7 x a2 c2) (e8:W8=w7.setCell ⟨wr.heap.size,2,n_⟩ (s_ a2 x.Ma.length c2)) (e9:W9=W8.alloc (c_ #[i_ j_ x.id,i_ j_ x.max,s_ a2 x.Ma.length c2] 96)):B_ wr.heap.size wr W9/\W8.heap.size=w7.heap.size:=by
 exact Za0
def cL.Fl (h:cL p We wr o q) (h7:o9 wr w7 x a2 c2) (e8:W8=w7.setCell ⟨wr.heap.size,2,n_⟩ (s_ a2 x.Ma.length c2)) (e9:W9=W8.alloc (c_ #[i_ j_ x.id,i_ j_ x.max,s_ a2 x.Ma.length c2] 96)):W9.ownsRow (We.heap.size+2) 96 3 (s_ q.am q.ae.length q.aG) q.ae.length (bm.flat q.ae)/\W9.heap[w7.heap.size]? =o_ (c_ #[i_ j_ x.id,i_ j_ x.max,s_ a2 x.Ma.length c2] 96):=by
 have kN:=cL.zQ h7 e8 e9;refine ⟨(h.below kN.1).own.ae,?_⟩;subst e9;have h5:=Kj W8 (c_ #[i_ j_ x.id,i_ j_ x.max,s_ a2 x.Ma.length c2] 96)
 rwa [kN.2] at h5
def cL.FY (h:q.pure= { p.pure with ae:=p.pure.ae.take k,ai:= [] }) (hx:p.ae[k]? =o_ x):({ q with ae:=q.ae ++ [({ x with ak:=a2,aq:=c2 } :au)],am:=a,aG:=c } :af).pure= { p.pure with ae:=p.pure.ae.take (k+1),ai:= [] } :=by
 have e:p.pure.ae.take (k+1)=p.pure.ae.take k ++ [x.toci] :=by
  rw [cj (x:=x.toci)]
  show (p.ae.map (·.toci))[k]? =_
  rw [Kk,hx];rfl
 rw [e];have h5:=congrArg aE.ae h;have h6:(q.ae ++ [({ x with ak:=a2,aq:=c2 } :au)]).map (·.toci)=p.pure.ae.take k ++ [x.toci] :=by
  rw [Kl];exact congrArg (· ++ [x.toci]) h5
 show ({ q.pure with ae:=(q.ae ++ [({ x with ak:=a2,aq:=c2 } :au)]).map (·.toci) } :aE)=_
 rw [h6,h]
def cL.Do (h:cL p We wr o q) (h7:o9 wr w7 x a2 c2) (e8:W8=w7.setCell ⟨wr.heap.size,2,n_⟩ (s_ a2 x.Ma.length c2)) (e9:W9=W8.alloc (c_ #[i_ j_ x.id,i_ j_ x.max,s_ a2 x.Ma.length c2] 96))
  (ho:pH.ownsRow (We.heap.size+2) 96 3 (s_ a (q.ae.length+1) c) (q.ae.length+1) (bm.flat q.ae ++ bm.vals ({ x with ak:=a2,aq:=c2 } :au))) (hg:W9.grownBy pH ((Value.slice q.am q.ae.length q.aG).ownBlock))
  (hb:(Value.slice a (q.ae.length+1) c).ownBlock=(Value.slice q.am q.ae.length q.aG).ownBlock\/(Value.slice a (q.ae.length+1) c).ownBlock=o_ W9.heap.size):
  cL p We (pH.setCell ⟨o,6,n_⟩ (s_ a (q.ae.length+1) c)) o ({ q with ae:=q.ae ++ [({ x with ak:=a2,aq:=c2 } :au)],am:=a,aG:=c } :af)/\pH.cell? ⟨o,6,n_⟩=o_ (s_ q.am q.ae.length q.aG)/\pH.frozen? ⟨o,6,n_⟩=false:=by
 have p7:o < wr.heap.size:=(J2.1 h.I).1;obtain ⟨kN,hs8⟩:=cL.zQ h7 e8 e9;have h9:=h.below kN;have hlow:=h.low;have hm:aC.cO W9 (We.heap.size+2) ({ x with ak:=a2,aq:=c2 } :au):=by
  exact FS
 have hx: ∀ g,aC.bt ({ x with ak:=a2,aq:=c2 } :au)=o_ g->g∉q.Mc/\g≠o:=fun g hk=>by
  exact ZaE
 have hn: ∀ g∈blk a,g∈blk q.am\/g=W9.heap.size:=fun g hg'=>by
  exact PM
 have hL:=h9.sD hm hx (by rw [bm.dc]; exact ho) hg hn;exact F_
end
def cL.yf {p:af} {We w w':w_} {o:Nat} {q:af} {x:aM} {a:Option d_} {c:Nat} (h:cL p We w o q) (hm:aU.cO w (We.heap.size+2) x) (hx: ∀ g,aU.bt x=o_ g->g∉q.Mc/\g≠o)
  (ho:w'.ownsRow (We.heap.size+2) 115 5 (s_ a (q.ai.length+1) c) (q.ai.length+1) (bX.flat (q.ai ++ [x]))) (hg:w.grownBy w' ((Value.slice q.aK q.ai.length q.aV).ownBlock)) (hb: ∀ g∈blk a,g∈blk q.aK\/g=w.heap.size):
  cL p We (w'.setCell ⟨o,7,n_⟩ (s_ a (q.ai.length+1) c)) o ({ q with ai:=q.ai ++ [x],aK:=a,aV:=c } :af):=by
 have p7:o < w.heap.size:=(J2.1 h.I).1;have hrow: ∀ g,g < w.heap.size->g∉blk q.aK->w'.heap[g]? =w.heap[g]? :=fun g hgl hn=>hg.block g hgl fun e=>hn (di e.symm)
 obtain ⟨hown,hbl⟩:=h.own.yf hm (fun g hk=>(hx g hk).1) ho hrow hb;have hoA:o∉blk q.aK:=fun hm'=>h.free (by simp [af.Mc,hm'])
 have hlow: ∀ g,g∈blk q.aK->We.heap.size+2<=g:=fun g hg'=>(cf h.own.ai hg').1
 have hfree:o∉({ q with ai:=q.ai ++ [x],aK:=a,aV:=c } :af).Mc:=fun hm'=>by
  exact ZaU
 have hsc: ∀ g,g≠o->(w'.setCell ⟨o,7,n_⟩ (s_ a (q.ai.length+1) c)).heap[g]? =w'.heap[g]? :=fun g hne=>aH hne
 have lY:B_ We.heap.size We w':=h.cd.grown hg (by have:=h.low; omega) (fun k hk=>by have:=hlow k (di hk); omega);have hout:w'.heap[o]? =w.heap[o]? :=hrow o p7 hoA;have hlo:=h.low;refine ⟨bP lY zo,(hsc _ zo).trans ((hrow _ zo fun hm'=>by have:=hlow _ hm'; omega).trans h.part),(hsc _ zo).trans ((hrow _ zo fun hm'=>by have:=hlow _ hm'; omega).trans h.ret),?_,hown.same fun g hg'=>hsc g fun e=>hfree (e ▸ hg'),h.low,hfree⟩;have h5:=cx (i:=7) (v:=s_ a (q.ai.length+1) c) (hout.trans h.I);have e:(q.ai ++ [x]).length=q.ai.length+1:=by simp
 unfold av;simp only [e];exact h5
def uT (wr w7:w_) (x:aM) (a2:Option d_) (c2:Nat):Prop:=w7.heap[wr.heap.size]? =o_ (c_ #[i_ j_ x.id,b_ x.I,b_ x.Mf,i_ j_ x.max,s_ x.ak x.Ma.length x.aq] 115)/\B_ wr.heap.size wr w7/\w7.ownsRow wr.heap.size 9 1 (s_ a2 x.Ma.length c2) x.Ma.length (bT.flat x.Ma)/\ ∀ g∈blk a2,g=wr.heap.size+1\/g=wr.heap.size+2
section
variable {p q:af} {We wr w7 pH W8 W9:w_} {o c2 c k:Nat} {x:aM} {a2 a:Option d_}
def cL.agV (h:cL p We wr o q) (h7:uT wr w7 x a2 c2) (e8:W8=w7.setCell ⟨wr.heap.size,4,n_⟩ (s_ a2 x.Ma.length c2)):W8.cell? ⟨o,7,n_⟩=o_ (s_ q.aK q.ai.length q.aV)/\W8.cell? ⟨wr.heap.size,0,n_⟩=o_ (i_ j_ x.id)/\W8.cell? ⟨wr.heap.size,1,n_⟩=o_ (b_ x.I)/\W8.cell? ⟨wr.heap.size,2,n_⟩=o_ (b_ x.Mf)/\W8.cell? ⟨wr.heap.size,3,n_⟩=o_ (i_ j_ x.max)/\W8.cell? ⟨wr.heap.size,4,n_⟩=o_ (s_ a2 x.Ma.length c2):=by
 subst e8;have p7:o < wr.heap.size:=(J2.1 h.I).1;have h1:=(aH (i:=4) (v:=s_ a2 x.Ma.length c2) (by omega:o≠wr.heap.size)).trans (h7.2.1.block o p7);have h2:=cx (i:=4) (v:=s_ a2 x.Ma.length c2) h7.1;exact ZaV
def cL.F4 (h7:uT wr w7 x a2 c2) (e8:W8=w7.setCell ⟨wr.heap.size,4,n_⟩ (s_ a2 x.Ma.length c2)) (e9:W9=W8.alloc (c_ (pcB x a2 c2) 115)):B_ wr.heap.size wr W9/\W8.heap.size=w7.heap.size:=by
 exact Za0
def cL.I4 (h:cL p We wr o q) (h7:uT wr w7 x a2 c2) (e8:W8=w7.setCell ⟨wr.heap.size,4,n_⟩ (s_ a2 x.Ma.length c2)) (e9:W9=W8.alloc (c_ (pcB x a2 c2) 115)):W9.ownsRow (We.heap.size+2) 115 5 (s_ q.aK q.ai.length q.aV) q.ai.length (bX.flat q.ai)/\W9.heap[w7.heap.size]? =o_ (c_ (pcB x a2 c2) 115):=by
 have kN:=cL.F4 h7 e8 e9;refine ⟨(h.below kN.1).own.ai,?_⟩;subst e9;have h5:=Kj W8 (c_ (pcB x a2 c2) 115)
 rwa [kN.2] at h5
def cL.upPort (h:q.pure= { p.pure with ai:=p.pure.ai.take k }) (hx:p.ai[k]? =o_ x):({ q with ai:=q.ai ++ [({ x with ak:=a2,aq:=c2 } :aM)],aK:=a,aV:=c } :af).pure= { p.pure with ai:=p.pure.ai.take (k+1) } :=by
 have e:p.pure.ai.take (k+1)=p.pure.ai.take k ++ [x.todS] :=by
  rw [cj (x:=x.todS)]
  show (p.ai.map (·.todS))[k]? =_
  rw [Kk,hx];rfl
 rw [e];have h5:=congrArg aE.ai h;have h6:(q.ai ++ [({ x with ak:=a2,aq:=c2 } :aM)]).map (·.todS)=p.pure.ai.take k ++ [x.todS] :=by
  rw [Kl];exact congrArg (· ++ [x.todS]) h5
 show ({ q.pure with ai:=(q.ai ++ [({ x with ak:=a2,aq:=c2 } :aM)]).map (·.todS) } :aE)=_
 rw [h6,h]
def cL.Gi (h:cL p We wr o q) (h7:uT wr w7 x a2 c2) (e8:W8=w7.setCell ⟨wr.heap.size,4,n_⟩ (s_ a2 x.Ma.length c2)) (e9:W9=W8.alloc (c_ (pcB x a2 c2) 115))
  (ho:pH.ownsRow (We.heap.size+2) 115 5 (s_ a (q.ai.length+1) c) (q.ai.length+1) (bX.flat q.ai ++ bX.vals ({ x with ak:=a2,aq:=c2 } :aM))) (hg:W9.grownBy pH ((Value.slice q.aK q.ai.length q.aV).ownBlock))
  (hb:(Value.slice a (q.ai.length+1) c).ownBlock=(Value.slice q.aK q.ai.length q.aV).ownBlock\/(Value.slice a (q.ai.length+1) c).ownBlock=o_ W9.heap.size):
  cL p We (pH.setCell ⟨o,7,n_⟩ (s_ a (q.ai.length+1) c)) o ({ q with ai:=q.ai ++ [({ x with ak:=a2,aq:=c2 } :aM)],aK:=a,aV:=c } :af)/\pH.cell? ⟨o,7,n_⟩=o_ (s_ q.aK q.ai.length q.aV)/\pH.frozen? ⟨o,7,n_⟩=false:=by
 have p7:o < wr.heap.size:=(J2.1 h.I).1;obtain ⟨kN,hs8⟩:=cL.F4 h7 e8 e9;have h9:=h.below kN;have hlow:=h.low;have hm:aU.cO W9 (We.heap.size+2) ({ x with ak:=a2,aq:=c2 } :aM):=by
  exact FS
 have hx: ∀ g,aU.bt ({ x with ak:=a2,aq:=c2 } :aM)=o_ g->g∉q.Mc/\g≠o:=fun g hk=>by
  exact ZaE
 have hn: ∀ g∈blk a,g∈blk q.aK\/g=W9.heap.size:=fun g hg'=>by
  exact PM
 have hL:=h9.yf hm hx (by rw [bX.dc]; exact ho) hg hn;exact F_
end
abbrev Jn (p:af) (w w':w_):Prop:=w'.cell? ⟨w.heap.size,0,n_⟩=o_ (i_ j_ p.id)/\w'.cell? ⟨w.heap.size,1,n_⟩=o_ (i_ j_ p.next)/\w'.cell? ⟨w.heap.size,3,n_⟩=o_ (s_ p.bc p.aj.length p.bF)/\w'.cell? ⟨w.heap.size,4,n_⟩=o_ (s_ p.ay p.L9.length p.aO)/\w'.cell? ⟨w.heap.size,5,n_⟩=o_ (s_ p.ax p.ag.length p.aP)
def fR (p:af) (w:w_) (hf:p.Fit) (hsh: ∀ x∈p.L8,x.dX) (h:af.At w p):
  k_ J3 37 #[a_ p.cells] w fun e w'=> ∃ p',e=r_ (a_ p'.cells)/\ap w' w.heap.size p'/\p'.pure=p.pure/\B_ w.heap.size w w':=by
 have HF:bE (p.Fit/\af.At w p):=⟨hf,h⟩
 have HFS:bE (∀ x∈p.L8,x.dX):=hsh;have HC:bE (fI p w (((w.alloc (c_ p.row 31)).alloc (c_ ar 31))).drew false false false false false false false false false 0 0 0 0 n_ n_ n_ 0 0 0):=by
  have b1:B_ w.heap.size w ((w.alloc (c_ p.row 31)).alloc (c_ ar 31)):=((Kp _ _).alloc (Ki _) _).alloc zw _;exact ⟨b1.drew,(PU zw).trans (Kj _ _),Kq _ _ _,⟨(fun h=>by cases h),fun h=>by cases h⟩,⟨(fun h=>by cases h),fun h=>by cases h⟩,⟨(fun h=>by cases h),fun h=>by cases h⟩,(fun h=>by cases h),⟨(fun h=>by cases h),fun h=>by cases h⟩,zw,⟨fun i j _ q hq=>by rcases i with _ | _ | _ | _ | _ <;> simp [four,bM] at hq,fun i q hq=>by rcases i with _ | _ | _ | _ | _ <;> simp [four,bM] at hq⟩⟩
 have HS:bE (Jn p w (((w.alloc (c_ p.row 31)).alloc (c_ ar 31))).drew):=by obtain ⟨m0,m1,m2,m3,m4,m5,m6,m7⟩:=HC.I.part.cells; exact ⟨m0,m1,m3,m4,m5⟩
 clear hf h hsh;unfold af.cells
 go_enter func37,ntmps37
 go_wp2_with fail;generalize (w.alloc (c_ p.row 31)).alloc (c_ ar 31)=W at *;refine Kr (S:=Jn p w) ZcE HS.I (fun bC=> ?_);refine tt 0 bC ?_;refine tt 1 bC ?_;refine tt 2 bC ?_;refine tt 3 bC ?_;refine tt 5 bC ?_;refine tt 6 bC ?_;refine tt 9 bC ?_;refine tt 10 bC ?_;refine tt 13 bC ?_;refine tt 14 bC ?_;refine wild (IP p w) (fun l a w1 hI=> ?_) (fun l a w1 hI i hi=> ?_) (fun l a w1 hI h0=> ?_) _ _ _ _ ⟨false,false,false,false,false,false,false,false,false,0,0,0,0,n_,n_,n_,0,0,0,by kernel_rfl,rfl,HC.I⟩ (of_decide_eq_true ZcE)
 .obtain ⟨b0,d0,b1,d1,b2,d2,b3,d3,e,g0,g1,g2,o,a0,a1,a2,c0,c1,c2,-,-,hC⟩:=hI
  obtain ⟨m0,m1,m2,m3,m4,m5,m6,m7⟩:=hC.part.cells;exact ⟨m0,m1,m3,m4,m5⟩
 .obtain ⟨b0,d0,b1,d1,b2,d2,b3,d3,e,g0,g1,g2,o,a0,a1,a2,c0,c1,c2,rfl,rfl,hC⟩:=hI
  have HI:bE (fI p w w1 b0 d0 b1 d1 b2 d2 b3 d3 e g0 g1 g2 o a0 a1 a2 c0 c1 c2):=hC;clear hC;unfold CY
  match i,hi with
  | 0,hi=>exact absurd (cX hi) zw
  | 1,hi=>exact absurd (cX hi) zw
  | 2,hi=>exact absurd (cX hi) zw
  | 3,hi=>exact absurd (cX hi) zw
  | 4,hi=>
   have hb:b0=false:=by have h5:=cX hi; simpa using h5
   subst hb;refine ln (o:=_) rfl ZcE (fun K hK=> ?_);go_wp2_with fail;exact hK.out _ _ ⟨true,d0,b1,d1,b2,d2,b3,d3,e,w1.heap.size,g1,g2,o,a0,a1,a2,c0,c1,c2,by rfl,by rfl,HI.I.aaZ⟩
  | 5,hi=>exact absurd (cX hi) zw
  | 6,hi=>exact absurd (cX hi) zw
  | 7,hi=>
   have hb:d0=false:=by have h5:=cX hi; simpa using h5
   have hn4:b0=true:=by have h5:=hF [4,6] hi ZcE 4 (by decide); simpa using h5
   subst hb hn4;refine ln (o:=_) rfl ZcE (fun K hK=> ?_);obtain ⟨a',c',w2,hr,ho,hg,hq⟩:=Iq w1 (w.heap.size+2) g0 (HI.I.s0.made rfl rfl).1 (HI.I.s0.made rfl rfl).2 p.bc p.aj p.bF ((HF.I.2.below HI.I.cd).2.1.1) HF.I.1.short.aj HI.I.size;refine cM _ _ _ rfl _ _ _ w2 rfl rfl hr ?_;have he:e=false:=by cases e with | false=>rfl | true=>(have h5:=HI.I.cl.1 rfl; simp at h5)
   subst he;exact hK.out _ _ ⟨true,true,b1,d1,b2,d2,b3,d3,false,g0,g1,g2,o,a',a1,a2,c',c1,c2,by rfl,by rfl,HI.I.aa1 ho hg hq⟩
  | 8,hi=>
   have hb:b1=false:=by have h5:=cX hi; simpa using h5
   subst hb;refine ln (o:=_) rfl ZcE (fun K hK=> ?_);go_wp2_with fail;exact hK.out _ _ ⟨b0,d0,true,d1,b2,d2,b3,d3,e,g0,w1.heap.size,g2,o,a0,a1,a2,c0,c1,c2,by rfl,by rfl,HI.I.abg⟩
  | 9,hi=>exact absurd (cX hi) zw
  | 10,hi=>exact absurd (cX hi) zw
  | 11,hi=>
   have hb:d1=false:=by have h5:=cX hi; simpa using h5
   have hn8:b1=true:=by have h5:=hF [8,10,7] hi ZcE 8 (by decide); simpa using h5
   subst hb hn8;refine ln (o:=_) rfl ZcE (fun K hK=> ?_);obtain ⟨a',c',w2,hr,ho,hg,hq⟩:=Fp w1 (w.heap.size+2) g1 (HI.I.s1.made rfl rfl).1 (HI.I.s1.made rfl rfl).2 p.ay p.L9 p.aO ((HF.I.2.below HI.I.cd).2.2.1.1) HF.I.1.short.L9 HI.I.size;refine cM _ _ _ rfl _ _ _ w2 rfl rfl hr ?_;have he:e=false:=by cases e with | false=>rfl | true=>(have h5:=HI.I.cl.1 rfl; simp at h5)
   subst he;exact hK.out _ _ ⟨b0,d0,true,true,b2,d2,b3,d3,false,g0,g1,g2,o,a0,a',a2,c0,c',c2,by rfl,by rfl,HI.I.aa2 ho hg hq⟩
  | 12,hi=>
   have hb:b2=false:=by have h5:=cX hi; simpa using h5
   subst hb;refine ln (o:=_) rfl ZcE (fun K hK=> ?_);go_wp2_with fail;exact hK.out _ _ ⟨b0,d0,b1,d1,true,d2,b3,d3,e,g0,g1,w1.heap.size,o,a0,a1,a2,c0,c1,c2,by rfl,by rfl,HI.I.make2⟩
  | 13,hi=>exact absurd (cX hi) zw
  | 14,hi=>exact absurd (cX hi) zw
  | 15,hi=>
   have hb:d2=false:=by have h5:=cX hi; simpa using h5
   have adF:b2=true:=by have h5:=hF [12,14,11] hi ZcE 12 (by decide); simpa using h5
   subst hb adF;refine ln (o:=_) rfl ZcE (fun K hK=> ?_);obtain ⟨a',c',w2,hr,ho,hg,hq⟩:=ED w1 (w.heap.size+2) g2 (HI.I.s2.made rfl rfl).1 (HI.I.s2.made rfl rfl).2 p.ax p.ag p.aP ((HF.I.2.below HI.I.cd).2.2.2.1.1) HF.I.1.short.ag HI.I.size;refine cM _ _ _ rfl _ _ _ w2 rfl rfl hr ?_;have he:e=false:=by cases e with | false=>rfl | true=>(have h5:=HI.I.cl.1 rfl; simp at h5)
   subst he;exact hK.out _ _ ⟨b0,d0,b1,d1,true,true,b3,d3,false,g0,g1,g2,o,a0,a1,a',c0,c1,c',by rfl,by rfl,HI.I.copy2 ho hg hq⟩
  | 16,hi=>
   have hb:e=false:=by have h5:=cX hi; simpa using h5
   have hn7:d0=true:=by have h5:=hF [1,3,7,11,15] hi ZcE 7 (by decide); simpa using h5
   have hn11:d1=true:=by have h5:=hF [1,3,7,11,15] hi ZcE 11 (by decide); simpa using h5
   have hn15:d2=true:=by have h5:=hF [1,3,7,11,15] hi ZcE 15 (by decide); simpa using h5
   subst hb hn7 hn11 hn15;refine ln (o:=_) rfl ZcE (fun K hK=> ?_);go_wp2_with fail;exact hK.out _ _ ⟨b0,true,b1,true,b2,true,b3,d3,true,g0,g1,g2,o,a0,a1,a2,c0,c1,c2,by rfl,by rfl,HI.I.build rfl rfl rfl⟩
  | 17,hi=>
   have hb:b3=false:=by have h5:=cX hi; simpa using h5
   subst hb;refine ln (o:=_) rfl ZcE (fun K hK=> ?_);have hd3:d3=false:=by cases d3 with | false=>rfl | true=>(have h5:=HI.I.cl.2 rfl; simp at h5)
   subst hd3;go_wp2_with fail;exact hK.out _ _ ⟨b0,d0,b1,d1,b2,d2,true,false,e,g0,g1,g2,w1.heap.size,a0,a1,a2,c0,c1,c2,by rfl,by rfl,HI.I.aa9⟩
  | 18,hi=>
   have hb:d3=false:=by have h5:=cX hi; simpa using h5
   have hn17:b3=true:=by have h5:=hF [17,16,15,0,1,2,3,4,5,6,7,8,9,10,11,12,13,14,15,16,17] hi ZcE 17 (by decide); simpa using h5
   have hn16:e=true:=by have h5:=hF [17,16,15,0,1,2,3,4,5,6,7,8,9,10,11,12,13,14,15,16,17] hi ZcE 16 (by decide); simpa using h5
   subst hb hn17 hn16;refine ln (o:=_) rfl ZcE (fun K hK=> ?_);refine qd _ _ _ rfl o _ _ _ rfl rfl (HI.I.I rfl) ZcE rfl ZcE ?_;exact hK.out _ _ ⟨b0,d0,b1,d1,b2,d2,true,true,true,g0,g1,g2,o,a0,a1,a2,c0,c1,c2,by rfl,by rfl,HI.I.store⟩
  | n+19,hi=>exact absurd (cX hi) zw
 .obtain ⟨b0,d0,b1,d1,b2,d2,b3,d3,e,g0,g1,g2,o,a0,a1,a2,c0,c1,c2,rfl,rfl,hC⟩:=hI
  have hno: ∀ i,i∉Region.ready .any _ _:=fun i hi=>by rw [h0] at hi; cases hi
  have hb0:b0=true:=by cases hx:b0 with | true=>rfl | false=>exact absurd (jW [] ZcE ZcE Zdf (fun j hj=>by cases hj)) (hno 4)
  have hd0:d0=true:=by cases hx:d0 with | true=>rfl | false=>exact absurd (jW [4,6] ZcE ZcE Zdf (fun j hj=>by simp only [Kt,Ku,or_false] at hj; rcases hj with rfl | rfl <;> first | rfl | simp [hb0])) (hno 7)
  have hb1:b1=true:=by cases hx:b1 with | true=>rfl | false=>exact absurd (jW [] ZcE ZcE Zdf (fun j hj=>by cases hj)) (hno 8)
  have hd1:d1=true:=by cases hx:d1 with | true=>rfl | false=>exact absurd (jW [8,10,7] ZcE ZcE Zdf (fun j hj=>by simp only [Kt,Ku,or_false] at hj; rcases hj with rfl | rfl | rfl <;> first | rfl | simp [hb1,hd0])) (hno 11)
  have hb2:b2=true:=by cases hx:b2 with | true=>rfl | false=>exact absurd (jW [] ZcE ZcE Zdf (fun j hj=>by cases hj)) (hno 12)
  have hd2:d2=true:=by cases hx:d2 with | true=>rfl | false=>exact absurd (jW [12,14,11] ZcE ZcE Zdf (fun j hj=>by simp only [Kt,Ku,or_false] at hj; rcases hj with rfl | rfl | rfl <;> first | rfl | simp [hb2,hd1])) (hno 15)
  have he:e=true:=by cases hx:e with | true=>rfl | false=>exact absurd (jW [1,3,7,11,15] ZcE ZcE Zdf (fun j hj=>by simp only [Kt,Ku,or_false] at hj; rcases hj with rfl | rfl | rfl | rfl | rfl <;> first | rfl | simp [hd0,hd1,hd2])) (hno 16)
  have hb3:b3=true:=by cases hx:b3 with | true=>rfl | false=>exact absurd (jW [] ZcE ZcE Zdf (fun j hj=>by cases hj)) (hno 17)
  have hd3:d3=true:=by cases hx:d3 with | true=>rfl | false=>exact absurd (jW [17,16,15,0,1,2,3,4,5,6,7,8,9,10,11,12,13,14,15,16,17] ZcE ZcE Zdf (fun j hj=>by simp only [Kt,Ku,or_false] at hj; rcases hj with rfl | rfl | rfl | rfl | rfl | rfl | rfl | rfl | rfl | rfl | rfl | rfl | rfl | rfl | rfl | rfl | rfl | rfl | rfl | rfl | rfl <;> first | rfl | simp [hb0,hd0,hb1,hd1,hb2,hd2,he,hb3])) (hno 18)
  subst hb0 hd0 hb1 hd1 hb2 hd2 he hb3 hd3;have HI:bE (fI p w w1 true true true true true true true true true g0 g1 g2 o a0 a1 a2 c0 c1 c2):=hC;clear hC hno h0;simp only [CY,cond_true];have HLS:bE (cL p w w1 o ⟨p.id,p.next,[],n_,0,p.aj,a0,c0,p.L9,a1,c1,p.ag,a2,c2,[],n_,0,[],n_,0⟩):=cL.start HI.I;clear HI HC HS bC;obtain ⟨qE,hi',GQ⟩:=Kw.1 nb;simp only [Kx] at GQ;have HI:bE (Tryz.prog.info? 41=o_ qE/\qE.zero=o_ _/\qE.size=12/\qE.bytes=128):=⟨hi',GQ⟩
  clear hi' GQ;have hpProc:p.L8.length<=1048576:=HF.I.1.short.L8;go_wp2_with fail
  go_loopw [4] (fun i wr=> ∃ k:Nat,k<=p.L8.length/\i=i_ j_ k/\bE (∃ q,cL p w wr o q/\q.pure= { p.pure with L8:=p.pure.L8.take k,ae:= [],ai:= [] })) (fun i _=>p.L8.length - (Go.RowKit.intOf i).toNat)
  case atStart=>exact ⟨0,Ky _,rfl,⟨_,HLS.I,rfl⟩⟩
  case round=>
   obtain ⟨k,hk,rfl,HA⟩:=hrel;obtain ⟨q,hL,hq⟩:=HA.I;have HL:bE (cL p w wr o q/\(q.pure= { p.pure with L8:=p.pure.L8.take k,ae:= [],ai:= [] })/\q.L8.length=k):=⟨hL,hq,IV hq hk⟩
   clear HA hL hq;have mp:wr.cell? ⟨w.heap.size,2,n_⟩=o_ (s_ p.aN p.L8.length p.aW):=by obtain ⟨m0,m1,m2,m3,m4,m5,m6,m7⟩:=HL.I.1.part.cells; exact m2
   by_cases hlt:k < p.L8.length
   .have i0:(0:Int)<=(k:Int):=zo
    have i1:(k:Int) < (p.L8.length:Int):=zo
    obtain ⟨x,hx⟩: ∃ x,p.L8[k]? =o_ x:=⟨_,Kz hlt⟩
    have hAt:=HF.I.2.below HL.I.1.cd;obtain ⟨gs,ha,hat⟩:=cn hAt.1 hx;rw [ha] at mp;obtain ⟨d0,d1,d2,d3,d4,d5,d6,d7,d8,d9,tH,tS⟩:=hat;have HX:bE (p.L8[k]? =o_ x/\Row wr x.aY (fk.flat x.prog)/\x.prog.length<=1048576):=⟨hx,hAt.1.2 x (KA hx) (x.aY,fk.flat x.prog) (KB.2 rfl),(HFS.I x (KA hx)).prog⟩
    clear hx ha hAt;have hb2:B_ wr.heap.size wr ((wr.alloc (c_ x.row 41)).alloc (c_ #[] 45)):=((Kp _ _).alloc (Ki _) _).alloc zw _;obtain ⟨a2,c2,w7,hap,how,Fw,nW⟩:=Gg ((wr.alloc (c_ x.row 41)).alloc (c_ #[] 45)) wr.heap.size (wr.heap.size+1) (Kq _ _ _) zo x.aY x.prog x.bH (HX.I.2.1.below hb2) HX.I.2.2 ZcF;have DO:=(Fw.block wr.heap.size ZcF (fun e=>by have:=KC e; omega)).trans ((PU zw).trans (Kj wr _));have gh:B_ wr.heap.size wr w7:=hb2.grown Fw ZcF (fun k hk=>by cases hk; omega);have DR:bE (vt wr w7 x a2 c2):=⟨DO,gh,how,fun g hg=>by have h5:=nW g hg; simp at h5; exact h5⟩
    have z0:w7.frozen? ⟨wr.heap.size,2,n_⟩=false:=Ko _ _ _ _ _ DO;have z1:w7.cell? ⟨wr.heap.size,2,n_⟩=o_ (s_ x.aY x.prog.length x.bH):=by simp [World.cell?,DO]
    clear hb2 how Fw nW DO gh;obtain ⟨co,e0,e1,e2,e3,e4,e5,e6,e7,e8,e9,Pn,e11⟩:=HL.I.1.ago DR.I rfl;have hkl:q.L8.length<=1048576:=by have:=HL.I.2.2; have:=HF.I.1.short.L8; omega
    have hsz:w.heap.size+2<=w7.heap.size:=by have h5:=DR.I.2.1.size; have h6:=HL.I.1.low; have h7:o < wr.heap.size:=(J2.1 HL.I.1.I).1; omega
    have Jr:bE (_):=HL.I.1.IH DR.I rfl rfl;go_wp2_with (at_builtin; first | (refine br _ rfl _ _ 39 rfl _ _ _ _ rfl rfl hap ?_; clear hap) | (refine KD _ rfl _ _ 24 rfl (w.heap.size+2) 41 qE _ 12 128 underlying24 HI.I.1 HI.I.2.1 HI.I.2.2.1 HI.I.2.2.2 rfl (by decide) (s_ q.aN q.L8.length q.aW) q.L8.length (bg.flat q.L8) rfl Jr.I.1 ⟨w7.heap.size,0,n_⟩ 1 1 (bg.vals ({ x with aY:=a2,bH:=c2 } :ao)) (by rfl) rfl (KE (cs:= #[i_ j_ x.id,i_ j_ x.RX,s_ a2 x.prog.length c2,i_ j_ x.Md,i_ j_ x.pc,i_ j_ x.left,i_ j_ x.Mg,i_ j_ x.on,t_ x.held,t_ x.got,i_ j_ x.code,i_ j_ x.RU]) (t:=41) (fr:=(0,0)) Jr.I.2) (by simp [bg,qN,Value.oneCell']) ZcI zo ZcF ?_; intro v5 pH oM oq zR sM; obtain ⟨a5,c5,rfl,-⟩:=cr oM; have HN:bE (cL p w (pH.setCell ⟨o,2,n_⟩ (s_ a5 (q.L8.length+1) c5)) o ({ q with L8:=q.L8 ++ [({ x with aY:=a2,bH:=c2 } :ao)],aN:=a5,aW:=c5 } :af)/\pH.cell? ⟨o,2,n_⟩=o_ (s_ q.aN q.L8.length q.aW)/\pH.frozen? ⟨o,2,n_⟩=false):=HL.I.1.G5 DR.I rfl rfl oM oq sM; have VY:=HN.I.2.1; have VP:=HN.I.2.2; clear oM oq zR sM));go_roundw
    case rel=>exact ⟨k+1,zo,by go_num,⟨_,HN.I.1,cL.upProc HL.I.2.1 HX.I.1⟩⟩
    case measure=>simp [Go.RowKit.intOf]; omega
   .have i1: ¬ (k:Int) < (p.L8.length:Int):=zo
    have HE:bE (∃ q,cL p w wr o q/\q.pure= { p.pure with ae:= [],ai:= [] }):=by
     have h5:=HL.I.2.1;rw [KF (by show (p.L8.map _).length<=k; rw [KG]; omega)] at h5;exact ⟨q,HL.I.1,h5⟩
    clear HL
    rename w_=>W2
    obtain ⟨qE,hi',GQ⟩:=Kw.1 kh;simp only [Kx] at GQ;have HI:bE (Tryz.prog.info? 96=o_ qE/\qE.zero=o_ _/\qE.size=3/\qE.bytes=40):=⟨hi',GQ⟩
    clear hi' GQ;have hpBuffer:p.ae.length<=1048576:=HF.I.1.short.ae;go_wp2_with fail;clear mp
    go_loopw [6] (fun i wr=> ∃ k:Nat,k<=p.ae.length/\i=i_ j_ k/\bE (∃ q,cL p w wr o q/\q.pure= { p.pure with ae:=p.pure.ae.take k,ai:= [] })) (fun i _=>p.ae.length - (Go.RowKit.intOf i).toNat)
    case atStart=>exact ⟨0,Ky _,rfl,by obtain ⟨q,h1,h2⟩:=HE.I; exact ⟨q,h1,h2.trans zw⟩⟩
    case round=>
     obtain ⟨k,hk,rfl,HA⟩:=hrel;obtain ⟨q,hL,hq⟩:=HA.I;have HL:bE (cL p w wr o q/\(q.pure= { p.pure with ae:=p.pure.ae.take k,ai:= [] })/\q.ae.length=k):=⟨hL,hq,Fs hq hk⟩
     clear HA hL hq;have mp:wr.cell? ⟨w.heap.size,6,n_⟩=o_ (s_ p.am p.ae.length p.aG):=by obtain ⟨m0,m1,m2,m3,m4,m5,m6,m7⟩:=HL.I.1.part.cells; exact m6
     by_cases hlt:k < p.ae.length
     .have i0:(0:Int)<=(k:Int):=zo
      have i1:(k:Int) < (p.ae.length:Int):=zo
      obtain ⟨x,hx⟩: ∃ x,p.ae[k]? =o_ x:=⟨_,Kz hlt⟩
      have hAt:=HF.I.2.below HL.I.1.cd;obtain ⟨gs,ha,hat⟩:=iA hAt.2.2.2.2.1 hx;rw [ha] at mp;obtain ⟨d0,d1,d2⟩:=hat;have HX:bE (p.ae[k]? =o_ x/\Row wr x.ak (bT.flat x.Ma)/\x.Ma.length<=1048576):=⟨hx,hAt.2.2.2.2.1.2 x (KA hx) (x.ak,bT.flat x.Ma) (KB.2 rfl),(HF.I.1.ae x (KA hx)).1⟩
      clear hx ha hAt;have hb2:B_ wr.heap.size wr ((wr.alloc (c_ #[i_ j_ x.id,i_ j_ x.max,s_ x.ak x.Ma.length x.aq] 96)).alloc (c_ #[] 9)):=((Kp _ _).alloc (Ki _) _).alloc zw _;obtain ⟨a2,c2,w7,hap,how,Fw,nW⟩:=tO ((wr.alloc (c_ #[i_ j_ x.id,i_ j_ x.max,s_ x.ak x.Ma.length x.aq] 96)).alloc (c_ #[] 9)) wr.heap.size (wr.heap.size+1) (Kq _ _ _) zo x.ak x.Ma x.aq (HX.I.2.1.below hb2) HX.I.2.2 ZcF;have DO:=(Fw.block wr.heap.size ZcF (fun e=>by have:=KC e; omega)).trans ((PU zw).trans (Kj wr _));have gh:B_ wr.heap.size wr w7:=hb2.grown Fw ZcF (fun k hk=>by cases hk; omega);have DR:bE (o9 wr w7 x a2 c2):=⟨DO,gh,how,fun g hg=>by have h5:=nW g hg; simp at h5; exact h5⟩
      have z0:w7.frozen? ⟨wr.heap.size,2,n_⟩=false:=Ko _ _ _ _ _ DO;have z1:w7.cell? ⟨wr.heap.size,2,n_⟩=o_ (s_ x.ak x.Ma.length x.aq):=by simp [World.cell?,DO]
      clear hb2 how Fw nW DO gh;obtain ⟨co,e0,e1,e2⟩:=HL.I.1.F9 DR.I rfl;have hkl:q.ae.length<=1048576:=by have:=HL.I.2.2; have:=HF.I.1.short.ae; omega
      have hsz:w.heap.size+2<=w7.heap.size:=by have h5:=DR.I.2.1.size; have h6:=HL.I.1.low; have h7:o < wr.heap.size:=(J2.1 HL.I.1.I).1; omega
      have Jr:bE (_):=HL.I.1.Fl DR.I rfl rfl;go_wp2_with (at_builtin; first | (refine br _ rfl _ _ 94 rfl _ _ _ _ rfl rfl hap ?_; clear hap) | (refine KD _ rfl _ _ 28 rfl (w.heap.size+2) 96 qE _ 3 40 underlying28 HI.I.1 HI.I.2.1 HI.I.2.2.1 HI.I.2.2.2 rfl (by decide) (s_ q.am q.ae.length q.aG) q.ae.length (bm.flat q.ae) rfl Jr.I.1 ⟨w7.heap.size,0,n_⟩ 1 1 (bm.vals ({ x with ak:=a2,aq:=c2 } :au)) (by rfl) rfl (KE (cs:= #[i_ j_ x.id,i_ j_ x.max,s_ a2 x.Ma.length c2]) (t:=96) (fr:=(0,0)) Jr.I.2) (by simp [bm,nD,Value.oneCell']) ZcI zo ZcF ?_; intro v5 pH oM oq zR sM; obtain ⟨a5,c5,rfl,-⟩:=cr oM; have HN:bE (cL p w (pH.setCell ⟨o,6,n_⟩ (s_ a5 (q.ae.length+1) c5)) o ({ q with ae:=q.ae ++ [({ x with ak:=a2,aq:=c2 } :au)],am:=a5,aG:=c5 } :af)/\pH.cell? ⟨o,6,n_⟩=o_ (s_ q.am q.ae.length q.aG)/\pH.frozen? ⟨o,6,n_⟩=false):=HL.I.1.Do DR.I rfl rfl oM oq sM; have VY:=HN.I.2.1; have VP:=HN.I.2.2; clear oM oq zR sM));go_roundw
      case rel=>exact ⟨k+1,zo,by go_num,⟨_,HN.I.1,cL.FY HL.I.2.1 HX.I.1⟩⟩
      case measure=>simp [Go.RowKit.intOf]; omega
     .have i1: ¬ (k:Int) < (p.ae.length:Int):=zo
      have HE:bE (∃ q,cL p w wr o q/\q.pure= { p.pure with ai:= [] }):=by
       have h5:=HL.I.2.1;rw [KF (by show (p.ae.map _).length<=k; rw [KG]; omega)] at h5;exact ⟨q,HL.I.1,h5⟩
      clear HL
      rename w_=>W3
      obtain ⟨qE,hi',GQ⟩:=Kw.1 na;simp only [Kx] at GQ;have HI:bE (Tryz.prog.info? 115=o_ qE/\qE.zero=o_ _/\qE.size=5/\qE.bytes=48):=⟨hi',GQ⟩
      clear hi' GQ;have hpPort:p.ai.length<=1048576:=HF.I.1.short.ai;go_wp2_with fail;clear mp
      go_loopw [8] (fun i wr=> ∃ k:Nat,k<=p.ai.length/\i=i_ j_ k/\bE (∃ q,cL p w wr o q/\q.pure= { p.pure with ai:=p.pure.ai.take k })) (fun i _=>p.ai.length - (Go.RowKit.intOf i).toNat)
      case atStart=>exact ⟨0,Ky _,rfl,by obtain ⟨q,h1,h2⟩:=HE.I; exact ⟨q,h1,h2.trans zw⟩⟩
      case round=>
       obtain ⟨k,hk,rfl,HA⟩:=hrel;obtain ⟨q,hL,hq⟩:=HA.I;have HL:bE (cL p w wr o q/\(q.pure= { p.pure with ai:=p.pure.ai.take k })/\q.ai.length=k):=⟨hL,hq,I0 hq hk⟩
       clear HA hL hq;have mp:wr.cell? ⟨w.heap.size,7,n_⟩=o_ (s_ p.aK p.ai.length p.aV):=by obtain ⟨m0,m1,m2,m3,m4,m5,m6,m7⟩:=HL.I.1.part.cells; exact m7
       by_cases hlt:k < p.ai.length
       .have i0:(0:Int)<=(k:Int):=zo
        have i1:(k:Int) < (p.ai.length:Int):=zo
        obtain ⟨x,hx⟩: ∃ x,p.ai[k]? =o_ x:=⟨_,Kz hlt⟩
        have hAt:=HF.I.2.below HL.I.1.cd;obtain ⟨gs,ha,hat⟩:=lm hAt.2.2.2.2.2 hx;rw [ha] at mp;obtain ⟨d0,d1,d2,d3,d4⟩:=hat;have HX:bE (p.ai[k]? =o_ x/\Row wr x.ak (bT.flat x.Ma)/\x.Ma.length<=1048576):=⟨hx,hAt.2.2.2.2.2.2 x (KA hx) (x.ak,bT.flat x.Ma) (KB.2 rfl),(HF.I.1.ai x (KA hx)).1⟩
        clear hx ha hAt;have hb2:B_ wr.heap.size wr ((wr.alloc (c_ #[i_ j_ x.id,b_ x.I,b_ x.Mf,i_ j_ x.max,s_ x.ak x.Ma.length x.aq] 115)).alloc (c_ #[] 9)):=((Kp _ _).alloc (Ki _) _).alloc zw _;obtain ⟨a2,c2,w7,hap,how,Fw,nW⟩:=tO ((wr.alloc (c_ #[i_ j_ x.id,b_ x.I,b_ x.Mf,i_ j_ x.max,s_ x.ak x.Ma.length x.aq] 115)).alloc (c_ #[] 9)) wr.heap.size (wr.heap.size+1) (Kq _ _ _) zo x.ak x.Ma x.aq (HX.I.2.1.below hb2) HX.I.2.2 ZcF;have DO:=(Fw.block wr.heap.size ZcF (fun e=>by have:=KC e; omega)).trans ((PU zw).trans (Kj wr _));have gh:B_ wr.heap.size wr w7:=hb2.grown Fw ZcF (fun k hk=>by cases hk; omega);have DR:bE (uT wr w7 x a2 c2):=⟨DO,gh,how,fun g hg=>by have h5:=nW g hg; simp at h5; exact h5⟩
        have z0:w7.frozen? ⟨wr.heap.size,4,n_⟩=false:=Ko _ _ _ _ _ DO;have z1:w7.cell? ⟨wr.heap.size,4,n_⟩=o_ (s_ x.ak x.Ma.length x.aq):=by simp [World.cell?,DO]
        clear hb2 how Fw nW DO gh;obtain ⟨co,e0,e1,e2,e3,e4⟩:=HL.I.1.agV DR.I rfl;have hkl:q.ai.length<=1048576:=by have:=HL.I.2.2; have:=HF.I.1.short.ai; omega
        have hsz:w.heap.size+2<=w7.heap.size:=by have h5:=DR.I.2.1.size; have h6:=HL.I.1.low; have h7:o < wr.heap.size:=(J2.1 HL.I.1.I).1; omega
        have Jr:bE (_):=HL.I.1.I4 DR.I rfl rfl;go_wp2_with (at_builtin; first | (refine br _ rfl _ _ 94 rfl _ _ _ _ rfl rfl hap ?_; clear hap) | (refine KD _ rfl _ _ 29 rfl (w.heap.size+2) 115 qE _ 5 48 underlying29 HI.I.1 HI.I.2.1 HI.I.2.2.1 HI.I.2.2.2 rfl (by decide) (s_ q.aK q.ai.length q.aV) q.ai.length (bX.flat q.ai) rfl Jr.I.1 ⟨w7.heap.size,0,n_⟩ 1 1 (bX.vals ({ x with ak:=a2,aq:=c2 } :aM)) (by rfl) rfl (KE (cs:= #[i_ j_ x.id,b_ x.I,b_ x.Mf,i_ j_ x.max,s_ a2 x.Ma.length c2]) (t:=115) (fr:=(0,0)) Jr.I.2) (by simp [bX,qT,Value.oneCell']) ZcI zo ZcF ?_; intro v5 pH oM oq zR sM; obtain ⟨a5,c5,rfl,-⟩:=cr oM; have HN:bE (cL p w (pH.setCell ⟨o,7,n_⟩ (s_ a5 (q.ai.length+1) c5)) o ({ q with ai:=q.ai ++ [({ x with ak:=a2,aq:=c2 } :aM)],aK:=a5,aV:=c5 } :af)/\pH.cell? ⟨o,7,n_⟩=o_ (s_ q.aK q.ai.length q.aV)/\pH.frozen? ⟨o,7,n_⟩=false):=HL.I.1.Gi DR.I rfl rfl oM oq sM; have VY:=HN.I.2.1; have VP:=HN.I.2.2; clear oM oq zR sM));go_roundw
        case rel=>exact ⟨k+1,zo,by go_num,⟨_,HN.I.1,cL.upPort HL.I.2.1 HX.I.1⟩⟩
        case measure=>simp [Go.RowKit.intOf]; omega
       .have i1: ¬ (k:Int) < (p.ai.length:Int):=zo
        have HE:bE (∃ q,cL p w wr o q/\q.pure=p.pure):=by
         have h5:=HL.I.2.1;rw [KF (by show (p.ai.map _).length<=k; rw [KG]; omega)] at h5;exact ⟨q,HL.I.1,h5⟩
        clear HL;obtain ⟨q,hL,hq⟩:=HE.I;have HZ:bE (cL p w wr o q/\q.pure=p.pure):=⟨hL,hq⟩
        obtain ⟨m0,m1,m2,m3,m4,m5,m6,m7⟩:=hL.I.cells;clear hL hq HE
        repeat (first | (go_big_may; refine ec 2 96 q.row HZ.I.1.ret ?_) | go_values | go_skip | go_guarded | go_step | go_upon | go_back)
        repeat (first | go_values | go_skip | go_guarded | go_step | go_upon)
        refine gZ results37 HZ.I.1.ret ?_;have hne: ∀ g∈q.Mc,g≠w.heap.size+1:=fun g hg e=>by have:=(HZ.I.1.own.lt g hg).1; omega
        exact ⟨q,rfl,(HZ.I.1.own.lower zo).same fun g hg=>KH _ _ _ _ (hne g hg),HZ.I.2,q_ HZ.I.1.cd zo _⟩
abbrev afB (q:af):List Nat:=blk q.am ++ (q.ae.filterMap aC.bt ++ (blk q.aK ++ (q.ai.filterMap aU.bt)))
abbrev afC (q:af):List Nat:=blk q.ax ++ (blk q.am ++ (q.ae.filterMap aC.bt ++ (blk q.aK ++ (q.ai.filterMap aU.bt))))
abbrev afw (q:af):List Nat:=blk q.ay ++ (blk q.ax ++ (blk q.am ++ (q.ae.filterMap aC.bt ++ (blk q.aK ++ (q.ai.filterMap aU.bt)))))
abbrev afo (q:af):List Nat:=blk q.bc ++ (blk q.ay ++ (blk q.ax ++ (blk q.am ++ (q.ae.filterMap aC.bt ++ (blk q.aK ++ (q.ai.filterMap aU.bt))))))
def ap.As {w w':w_} {bj:Nat} {q:af} {l:List ao} (h:ap w bj q) (ho:w'.ownsRow bj 41 12 (s_ q.aN q.L8.length q.aW) q.L8.length (bg.flat l)) (hl:l.length=q.L8.length) (hm: ∀ y∈l,aR.cO w' bj y) (hki:l.filterMap aR.bt=q.L8.filterMap aR.bt) (hk:aI w w' (blk q.aN ++ q.L8.filterMap aR.bt)):
  ap w' bj ({ q with L8:=l } :af)/\({ q with L8:=l } :af).Mc=q.Mc:=by
 have hbs:q.Mc= [] ++ ((blk q.aN ++ q.L8.filterMap aR.bt) ++ (afo q)):=by simp [af.Mc,Lm]
 have rN:({ q with L8:=l } :af).Mc=q.Mc:=by simp only [af.Mc,hki]
 have hnd:=h.nodup;rw [hbs] at hnd;have nc: ∀ g,(g∈ [] \/g∈(afo q))->g∉(blk q.aN ++ q.L8.filterMap aR.bt):=fun g bR hA=>by
  exact D_
 have hs: ∀ g,(g∈ [] \/g∈(afo q))->w'.heap[g]? =w.heap[g]? :=fun g bR=>hk.same g (h.lt g (by
  rw [hbs];rcases bR with bR | bR
  .exact Lz _ bR
  .exact Ly _ (Ly _ bR))).2 (nc g bR)
 refine ⟨⟨ZdK,aL h.aj fun g bR=>hs g (.inr ZcJ),aL h.L9 fun g bR=>hs g (.inr ZcJ),aL h.ag fun g bR=>hs g (.inr ZcJ),aL h.ae fun g bR=>hs g (.inr ZcJ),aL h.ai fun g bR=>hs g (.inr ZcJ),hm,fun y hy=>(h.eE y hy).same fun g hk=>hs g (.inr ZcG),fun y hy=>(h.eR y hy).same fun g hk=>hs g (.inr ZcG),?_⟩,rN⟩;rw [rN];exact h.nodup
def ap.DT {w w':w_} {bj:Nat} {q:af} {l:List bD} (h:ap w bj q) (ho:w'.ownsRow bj 89 3 (s_ q.bc q.aj.length q.bF) q.aj.length (dm.flat l)) (hl:l.length=q.aj.length) (hk:aI w w' (blk q.bc)):
  ap w' bj ({ q with aj:=l } :af)/\({ q with aj:=l } :af).Mc=q.Mc:=by
 have hbs:q.Mc=(blk q.aN ++ q.L8.filterMap aR.bt) ++ ((blk q.bc) ++ (afw q)):=by simp [af.Mc,Lm]
 have rN:({ q with aj:=l } :af).Mc=q.Mc:=by rfl
 have hnd:=h.nodup;rw [hbs] at hnd;have nc: ∀ g,(g∈(blk q.aN ++ q.L8.filterMap aR.bt)\/g∈(afw q))->g∉(blk q.bc):=fun g bR hA=>by
  exact D_
 have hs: ∀ g,(g∈(blk q.aN ++ q.L8.filterMap aR.bt)\/g∈(afw q))->w'.heap[g]? =w.heap[g]? :=fun g bR=>hk.same g (h.lt g (by
  rw [hbs];rcases bR with bR | bR
  .exact Lz _ bR
  .exact Ly _ (Ly _ bR))).2 (nc g bR)
 refine ⟨⟨aL h.L8 fun g bR=>hs g (.inl ZcJ),ZdK,aL h.L9 fun g bR=>hs g (.inr ZcJ),aL h.ag fun g bR=>hs g (.inr ZcJ),aL h.ae fun g bR=>hs g (.inr ZcJ),aL h.ai fun g bR=>hs g (.inr ZcJ),fun y hy=>(h.eI y hy).same fun g hk=>hs g (.inl ZcG),fun y hy=>(h.eE y hy).same fun g hk=>hs g (.inr ZcG),fun y hy=>(h.eR y hy).same fun g hk=>hs g (.inr ZcG),?_⟩,rN⟩;rw [rN];exact h.nodup
def ap.xA {w w':w_} {bj:Nat} {q:af} {l:List aB} (h:ap w bj q) (ho:w'.ownsRow bj 91 2 (s_ q.ay q.L9.length q.aO) q.L9.length (bJ.flat l)) (hl:l.length=q.L9.length) (hk:aI w w' (blk q.ay)):
  ap w' bj ({ q with L9:=l } :af)/\({ q with L9:=l } :af).Mc=q.Mc:=by
 have hbs:q.Mc=(blk q.aN ++ q.L8.filterMap aR.bt ++ blk q.bc) ++ ((blk q.ay) ++ (afC q)):=by simp [af.Mc,Lm]
 have rN:({ q with L9:=l } :af).Mc=q.Mc:=by rfl
 have hnd:=h.nodup;rw [hbs] at hnd;have nc: ∀ g,(g∈(blk q.aN ++ q.L8.filterMap aR.bt ++ blk q.bc)\/g∈(afC q))->g∉(blk q.ay):=fun g bR hA=>by
  exact D_
 have hs: ∀ g,(g∈(blk q.aN ++ q.L8.filterMap aR.bt ++ blk q.bc)\/g∈(afC q))->w'.heap[g]? =w.heap[g]? :=fun g bR=>hk.same g (h.lt g (by
  rw [hbs];rcases bR with bR | bR
  .exact Lz _ bR
  .exact Ly _ (Ly _ bR))).2 (nc g bR)
 refine ⟨⟨aL h.L8 fun g bR=>hs g (.inl ZcJ),aL h.aj fun g bR=>hs g (.inl ZcJ),ZdK,aL h.ag fun g bR=>hs g (.inr ZcJ),aL h.ae fun g bR=>hs g (.inr ZcJ),aL h.ai fun g bR=>hs g (.inr ZcJ),fun y hy=>(h.eI y hy).same fun g hk=>hs g (.inl ZcG),fun y hy=>(h.eE y hy).same fun g hk=>hs g (.inr ZcG),fun y hy=>(h.eR y hy).same fun g hk=>hs g (.inr ZcG),?_⟩,rN⟩;rw [rN];exact h.nodup
def ap.xM {w w':w_} {bj:Nat} {q:af} {l:List az} (h:ap w bj q) (ho:w'.ownsRow bj 93 3 (s_ q.ax q.ag.length q.aP) q.ag.length (bG.flat l)) (hl:l.length=q.ag.length) (hk:aI w w' (blk q.ax)):
  ap w' bj ({ q with ag:=l } :af)/\({ q with ag:=l } :af).Mc=q.Mc:=by
 have hbs:q.Mc=(blk q.aN ++ q.L8.filterMap aR.bt ++ blk q.bc ++ blk q.ay) ++ ((blk q.ax) ++ (afB q)):=by simp [af.Mc,Lm]
 have rN:({ q with ag:=l } :af).Mc=q.Mc:=by rfl
 have hnd:=h.nodup;rw [hbs] at hnd;have nc: ∀ g,(g∈(blk q.aN ++ q.L8.filterMap aR.bt ++ blk q.bc ++ blk q.ay)\/g∈(afB q))->g∉(blk q.ax):=fun g bR hA=>by
  exact D_
 have hs: ∀ g,(g∈(blk q.aN ++ q.L8.filterMap aR.bt ++ blk q.bc ++ blk q.ay)\/g∈(afB q))->w'.heap[g]? =w.heap[g]? :=fun g bR=>hk.same g (h.lt g (by
  rw [hbs];rcases bR with bR | bR
  .exact Lz _ bR
  .exact Ly _ (Ly _ bR))).2 (nc g bR)
 refine ⟨⟨aL h.L8 fun g bR=>hs g (.inl ZcJ),aL h.aj fun g bR=>hs g (.inl ZcJ),aL h.L9 fun g bR=>hs g (.inl ZcJ),ZdK,aL h.ae fun g bR=>hs g (.inr ZcJ),aL h.ai fun g bR=>hs g (.inr ZcJ),fun y hy=>(h.eI y hy).same fun g hk=>hs g (.inl ZcG),fun y hy=>(h.eE y hy).same fun g hk=>hs g (.inr ZcG),fun y hy=>(h.eR y hy).same fun g hk=>hs g (.inr ZcG),?_⟩,rN⟩;rw [rN];exact h.nodup
end
section
def ce (id:Int) (f:aD->aD) (l:List aD):List aD:=l.map fun x=>if x.id=id then f x else x
def hU (p:aE) (id:Int) (ok:aD->Bool) (f:aD->aD) (nx:Int):Option aE:=
 if bK p then match p.L8.find? (fun x=>decide (x.id=id)) with
  | some y=>if ok y then o_ { p with next:=nx,L8:=ce id f p.L8 } else n_
  | none=>n_
 else n_
def cN:aE:=⟨0,0,[],[],[],[],[],[]⟩
def gI (w:w_) (r:Option aE) (e:Ending) (w':w_):Prop:= ∃ q:af,e=r_ (u_ #[a_ q.cells,b_ r.isSome])/\ap w' w.heap.size q/\q.pure=r.getD cN/\B_ w.heap.size w w'
def Ai (w:w_) (bj:Nat):ap w bj ⟨0,0,[],n_,0,[],n_,0,[],n_,0,[],n_,0,[],n_,0,[],n_,0⟩:=
 ⟨Ke _ _ _ _,Ke _ _ _ _,Ke _ _ _ _,Ke _ _ _ _,Ke _ _ _ _,Ke _ _ _ _,(fun x hx=>by cases hx),(fun x hx=>by cases hx),(fun x hx=>by cases hx),by simp [af.Mc,blk]⟩
def ca {w w':w_} {r:Option aE} (h:r=n_) (hb:B_ w.heap.size w w'):gI w r (r_ (u_ #[a_ ar,b_ false])) w':=by
 subst h;exact ⟨_,rfl,Ai _ _,rfl,hb⟩
def vO {p:aE} {id nx:Int} {ok:aD->Bool} {f:aD->aD} (h:bK p=false):hU p id ok f nx=n_:=by simp [hU,h]
def tg {p:aE} {id nx:Int} {ok:aD->Bool} {f:aD->aD} (h:p.L8.find? (fun x=>decide (x.id=id))=n_):hU p id ok f nx=n_:=by
 unfold hU
 split
 .rw [h]
 .rfl
def sx {p:aE} {id nx:Int} {ok:aD->Bool} {f:aD->aD} {y:aD} (h:p.L8.find? (fun x=>decide (x.id=id))=o_ y) (ho:ok y=false):hU p id ok f nx=n_:=by
 unfold hU
 split
 .rw [h]; simp [ho]
 .rfl
def tT {p:aE} {id nx:Int} {ok:aD->Bool} {f:aD->aD} {y:aD} (hp:bK p=true) (h:p.L8.find? (fun x=>decide (x.id=id))=o_ y) (ho:ok y=true):hU p id ok f nx=o_ { p with next:=nx,L8:=ce id f p.L8 } :=by
 unfold hU;rw [if_pos hp,h];simp [ho]
def db {α:Type} {num:α->Int} {ok:α->Bool} : ∀ {l:List α} {last:Int},aw num ok last l=true->(∀ x∈l,last < num x)/\l.Pairwise (fun x y=>num x < num y)
 | [],_,_=>⟨(fun x hx=>by cases hx),List.Pairwise.nil⟩
 | x :: r,last,h=>by
  simp only [aw,J7,decide_eq_true_eq] at h;obtain ⟨h1,h2⟩:=db h.2;refine ⟨fun y hy=> ?_,List.Pairwise.cons (fun y hy=>h1 y hy) h2⟩;rcases Kt.1 hy with rfl | hy
  .exact h.1.1.2
  .have:=h1 y hy; have:=h.1.1.2; omega
def rp {l:List aD} {f:aD->aD} {id:Int} {n:Nat} {y:aD} (hr:l.Pairwise (fun x y=>x.id < y.id)) (hn:l[n]? =o_ y) (hy:y.id=id):ce id f l=l.set n (f y):=by
 induction l generalizing n with
 | nil=>simp at hn
 | cons x r ih=>
  obtain ⟨h1,h2⟩:=LM.1 hr;cases n with
  | zero=>
   simp only [QI,LF] at hn;subst hn;have e:ce id f r=r:=by
    unfold ce
    conv=>rhs; rw [<- List.map_id r]
    refine Lw fun z hz=> ?_
    rw [if_neg (by have:=h1 z hz; omega)];rfl
   simp only [Ln]
   show (if x.id=id then f x else x) :: ce id f r=_
   rw [if_pos hy,e]
  | succ n=>
   simp only [QC] at hn;have hlt:=h1 y (KA hn);simp only [Lo]
   show (if x.id=id then f x else x) :: ce id f r=_
   rw [if_neg zo,ih h2 hn]
def sc {p:aE} (h:bK p=true):p.L8.Pairwise (fun x y=>x.id < y.id):=(db ((ch _).1 h).L8).2
def GM (x:aD):Prop:=(x.prog.length<=1048576/\(∀ o∈x.prog,o.2.2.2.size<=1048576)/\x.held.size<=1048576/\x.got.size<=1048576)/\(Lit.int j_ x.id).wf=true/\(Lit.int j_ x.on).wf=true/\(Lit.int j_ x.RU).wf=true
def IZ {p:aE} (h:bK p=true):(Lit.int j_ p.next).wf=true:=by
 have h2:=bz.1 ((ch _).1 h).next;have e1:IntKind.min j_<=0:=by decide
 have e2:2000000000<=IntKind.max j_:=by decide
 simp only [Lit.wf,J7,decide_eq_true_eq];omega
def hY:cN.Small:=⟨Ky _,Ky _,Ky _,Ky _,Ky _,Ky _,(fun x hx=>by cases hx),(fun x hx=>by cases hx),(fun x hx=>by cases hx),(fun x hx=>by cases hx),(fun x hx=>by cases hx),(fun x hx=>by cases hx)⟩
def qQ {p:aE} {id nx:Int} {ok:aD->Bool} {f:aD->aD} :(hU p id ok f nx).getD cN=cN\/bK p=true/\(hU p id ok f nx).getD cN= { p with next:=nx,L8:=ce id f p.L8 } :=by
 unfold hU
 split
 .rename_i hp
  split
  .split
   .exact .inr ⟨hp,rfl⟩
   .exact .inl rfl
  .exact .inl rfl
 .exact .inl rfl
def zJ {p:aE} {id nx:Int} {ok:aD->Bool} {f:aD->aD} (h:p.Small) (hf:bK p=true-> ∀ y∈p.L8,GM y->GM (f y)):((hU p id ok f nx).getD cN).Small:=by
 rcases qQ (p:=p) (id:=id) (nx:=nx) (ok:=ok) (f:=f) with e | ⟨hp,e⟩
 .rw [e]; exact hY
 .rw [e]
  refine ⟨by simpa [ce] using h.dl,h.fx,h.cD,h.cC,h.cb,h.dH,fun x hx=> ?_,h.aj,h.L9,h.ag,h.ae,h.ai⟩;obtain ⟨y,hy,rfl⟩:=Lr.1 hx
  split
  .exact hf hp y hy (h.L8 y hy)
  .exact h.L8 y hy
def ap.kB {w:w_} {bj n j gs:Nat} {q:af} {x y:ao} {vs:List v_} (h:ap w bj q) (hx:q.L8[n]? =o_ x) (ha:q.aN=o_ ⟨gs,0,n_⟩) (hy:y.prog=x.prog/\y.aY=x.aY/\y.bH=x.bH)
  (hj:j+vs.length<=12) (h1: ∀ r,r < vs.length->(bg.vals y)[j+r]? =vs[r]?) (h2: ∀ r,r < 12-> ¬ (j<=r/\r < j+vs.length)->(bg.vals y)[r]? =(bg.vals x)[r]?):
  ap (bn w gs (n * 12+j) vs) bj ({ q with L8:=q.L8.set n y } :af)/\aI w (bn w gs (n * 12+j) vs) [gs] /\({ q with L8:=q.L8.set n y } :af).Mc=q.Mc:=by
 have hn:n < q.L8.length:=(Lj.1 hx).1;have hsp:=kL hx;have hset:q.L8.set n y=q.L8.take n ++ y :: q.L8.drop (n+1):=by rw [RJ,if_pos hn]
 have hl:(q.L8.take n).length=n:=by rw [Lk]; omega
 have hkb:aI w (bn w gs (n * 12+j) vs) [gs] :=aI.set _ zw;have ho:=h.L8;rw [ha] at ho;obtain ⟨g,hg,hrow⟩:=bl.fX (K:=bg) ho zo;cases hg;rw [hsp] at hrow;have h5:=bl.part (K:=bg) (x:=x) (y:=y) (j:=j) (vs:=vs) hrow hj h1 h2;rw [hl,show bg.n=12 from rfl,<- hset] at h5;have h6:=h5.owns;have hki:(q.L8.set n y).filterMap aR.bt=q.L8.filterMap aR.bt:=by
  rw [hset]
  conv=>rhs; rw [hsp]
  have e:aR.bt y=aR.bt x:=by show y.aY.map (·.block)=x.aY.map (·.block); rw [hy.2.1]
  simp only [LW,List.filterMap_cons,e]
 have Pp:aR.cO w bj y:=by
  have h7:=h.eI x (KA hx)
  show w.ownsRow bj _ 4 (s_ y.aY y.prog.length y.bH) y.prog.length (fk.flat y.prog)
  rw [hy.1,hy.2.1,hy.2.2];exact h7
 have EI: ∀ z∈q.L8,∀ b,aR.bt z=o_ b->b≠gs:=fun z hz b hb e=>by
  have h8:=h.nodup;rw [af.Mc,ha] at h8;have h9:=(Kf.1 h8).2.2 gs (by simp [blk]) b (Lz _ (Lq.2 ⟨z,hz,hb⟩));exact h9 e.symm
 have hsame: ∀ b,b≠gs->(bn w gs (n * 12+j) vs).heap[b]? =w.heap[b]? :=fun b hb=>de _ hb
 have hm: ∀ z∈q.L8.set n y,aR.cO (bn w gs (n * 12+j) vs) bj z:=fun z hz=>by
  rcases PO hz with hz | rfl
  .exact (h.eI z hz).same fun b hb=>hsame b (EI z hz b hb)
  .refine Pp.same fun b hb=>hsame b (EI x (KA hx) b ?_)
   rw [<- hb]
   show x.aY.map (·.block)=z.aY.map (·.block)
   rw [hy.2.1]
 have ht:=h.As (w':=bn w gs (n * 12+j) vs) (l:=q.L8.set n y) (by rw [ha]; rw [LI] at h6; exact h6) zw hm hki (hkb.mono (by simp [ha,blk]));exact ⟨ht.1,hkb,ht.2⟩
end
section
open Go.Maps
attribute [local go_sem ↓] Kc Kd
def nK (id:Int): ∀ (l:List aD) (k:Nat),(place (l.map (·.id)) id k= -1/\l.find? (fun x=>decide (x.id=id))=n_)\/ ∃ n x,place (l.map (·.id)) id k=((k+n:Nat):Int)/\l[n]? =o_ x/\l.find? (fun x=>decide (x.id=id))=o_ x
 | [],k=> .inl ⟨rfl,rfl⟩
 | x :: r,k=>by
  by_cases h:x.id=id
  .refine .inr ⟨0,x,?_,rfl,by simp [h]⟩
   simp [place,h]
  .rcases nK id r (k+1) with ⟨h1,h2⟩ | ⟨n,y,h1,h2,h3⟩
   .exact ZbC
   .refine .inr ⟨n+1,y,?_,h2,by simp only [LL,h,decide_false]; exact h3⟩
    simp only [Lt,place];rw [if_neg h,h1];omega
def j7 (y:aD):aD:=⟨y.id,y.RX,y.prog,0,0,0,0,0,rM,y.got,y.code,0⟩
def sW (y:ao):ao:=⟨j7 y.toaD,y.aY,y.bH⟩
def mN (x:ao) (w:w_):k_ J3 124 #[a_ x.row] w fun e w'=>e=r_ (a_ #[i_ j_ x.id,i_ j_ x.RX,s_ x.aY x.prog.length x.bH,i_ j_ 0,i_ j_ 0,i_ j_ 0,i_ j_ 0,i_ j_ 0,t_ ⟨#[]⟩,t_ x.got,i_ j_ x.code,i_ j_ 0])/\B_ w.heap.size w w':=by
 have HB:bE (B_ w.heap.size w ((w.alloc (c_ x.row 41)).alloc (c_ cE 41))/\((w.alloc (c_ x.row 41)).alloc (c_ cE 41)).heap[w.heap.size+1]? =o_ (c_ cE 41)):=⟨((Kp _ _).alloc (Ki _) _).alloc zw _,Kq _ _ _⟩
 go_enter func124,ntmps124
 go_wp2_with (refine wpList_store_row rfl 41 (Operand.tmp 2) (Operand.tmp 13) rfl (w.heap.size+1) _ _ #[i_ j_ x.id,i_ j_ x.RX,s_ x.aY x.prog.length x.bH,i_ j_ 0,i_ j_ 0,i_ j_ 0,i_ j_ 0,i_ j_ 0,t_ ⟨#[]⟩,t_ x.got,i_ j_ x.code,i_ j_ 0] rfl rfl HB.I.2 ZcE rfl ZcE ?_);refine KT (v:=a_ #[i_ j_ x.id,i_ j_ x.RX,s_ x.aY x.prog.length x.bH,i_ j_ 0,i_ j_ 0,i_ j_ 0,i_ j_ 0,i_ j_ 0,t_ ⟨#[]⟩,t_ x.got,i_ j_ x.code,i_ j_ 0]) (K9 results124 _ _ (w.heap.size+1) _ _ (0,0) _ rfl (KU _ _ _ _ _ _ HB.I.2) underlying41 rfl ZcE) rfl ?_;exact ⟨rfl,q_ HB.I.1 zo _⟩
def Ba (O gs n:Nat) (q:af) (x:ao) (w':w_):Prop:=w'.cell? ⟨O,2,n_⟩=o_ (s_ (o_ ⟨gs,0,n_⟩) q.L8.length q.aW)/\w'.cell? ⟨gs,n * 12,n_⟩=o_ (i_ j_ x.id)/\w'.cell? ⟨gs,n * 12+1,n_⟩=o_ (i_ j_ x.RX)/\w'.cell? ⟨gs,n * 12+2,n_⟩=o_ (s_ x.aY x.prog.length x.bH)/\w'.cell? ⟨gs,n * 12+3,n_⟩=o_ (i_ j_ x.Md)/\w'.cell? ⟨gs,n * 12+4,n_⟩=o_ (i_ j_ x.pc)/\w'.cell? ⟨gs,n * 12+5,n_⟩=o_ (i_ j_ x.left)/\w'.cell? ⟨gs,n * 12+6,n_⟩=o_ (i_ j_ x.Mg)/\w'.cell? ⟨gs,n * 12+7,n_⟩=o_ (i_ j_ x.on)/\w'.cell? ⟨gs,n * 12+8,n_⟩=o_ (t_ x.held)/\w'.cell? ⟨gs,n * 12+9,n_⟩=o_ (t_ x.got)/\w'.cell? ⟨gs,n * 12+10,n_⟩=o_ (i_ j_ x.code)/\w'.cell? ⟨gs,n * 12+11,n_⟩=o_ (i_ j_ x.RU)
end
section
variable {α:Type} (afM:α->α->Bool)
def qV (r:Option α) (x:α):Option α:=match r with
 | none=>o_ x
 | some b=>if afM x b then o_ x else o_ b
def oa (l:List α):Option α:=l.foldl (qV afM) n_
def qy (l:List α) (x:α):oa afM (l ++ [x])=qV afM (oa afM l) x:=by simp [oa]
def EO {r:Option α} {x y:α} (h:qV afM r x=o_ y):y=x\/r=o_ y:=by
 unfold qV at h
 exact ZbP
def zZ: ∀ (l:List α) (r:Option α) {y:α},l.foldl (qV afM) r=o_ y->y∈l\/r=o_ y
 | [],_,_,h=> .inr h
 | x :: l,r,y,h=>by
  rcases zZ l (qV afM r x) h with h1 | h1
  .exact .inl (by simp [h1])
  .rcases EO afM h1 with h2 | h2
   .exact .inl (by simp [h2])
   .exact .inr h2
def Fg {l:List α} {y:α} (h:oa afM l=o_ y):y∈l:=(zZ afM l n_ h).elim id (fun e=>by cases e)
def C8 (r:Option α) (x:α): ∃ y,qV afM r x=o_ y:=by
 unfold qV
 split
 .exact ⟨_,rfl⟩
 .split <;> exact ⟨_,rfl⟩
def CZ {l:List α} (h:oa afM l=n_):l= [] :=by
 rcases List.eq_nil_or_concat l with e | ⟨l',x,e⟩
 .exact e
 .subst e
  rw [List.concat_eq_append,qy] at h;obtain ⟨y,hy⟩:=C8 afM (oa afM l') x;rw [hy] at h;cases h
def eN (f:α->Bool) (l:List α) (k:Nat) (i:Int):Prop:=match oa afM ((l.take k).filter f) with
 | none=>i= -1
 | some x=> ∃ n:Nat,i=n/\n < k/\l[n]? =o_ x
variable {f:α->Bool} {l:List α} {k:Nat} {i:Int} {x:α}
def eN.start (f:α->Bool) (l:List α):eN afM f l 0 (-1):=by simp [eN,oa]
def qm (hx:l[k]? =o_ x):(l.take (k+1)).filter f=(l.take k).filter f ++ (if f x then [x] else []):=by
 have h:l.take (k+1)=l.take k ++ [x] :=by rw [List.take_add_one,hx]; rfl
 rw [h,QN];by_cases h:f x=true <;> simp [h]
variable {afM}
def eN.skip (h:eN afM f l k i) (hx:l[k]? =o_ x) (hf:f x=false):eN afM f l (k+1) i:=by
 unfold eN at h ⊢;rw [qm hx,hf];simp only [J5,if_false,QO]
 exact Zb1
def eN.first (h:eN afM f l k i) (hi:i < 0) (hx:l[k]? =o_ x) (hf:f x=true):eN afM f l (k+1) k:=by
 unfold eN at h ⊢;rw [qm hx,hf];simp only [if_true];rw [qy]
 exact ZbN
def eN.got (h:eN afM f l k i) (hi: ¬ i < 0): ∃ (n:Nat) (y:α),i=n/\n < k/\l[n]? =o_ y/\oa afM ((l.take k).filter f)=o_ y:=by
 unfold eN at h
 exact ZbU
def eN.none' (h:eN afM f l k i) (hi:i < 0):oa afM ((l.take k).filter f)=n_:=by
 unfold eN at h
 split at h
 .assumption
 .obtain ⟨n,h1,_⟩:=h
  omega
def eN.next {n:Nat} {y:α} (hn:n < k) (hy:l[n]? =o_ y) (he:oa afM ((l.take k).filter f)=o_ y) (hx:l[k]? =o_ x) (hf:f x=true):eN afM f l (k+1) (if afM x y then (k:Int) else (n:Int)):=by
 unfold eN;rw [qm hx,hf];simp only [if_true];rw [qy,he];simp only [qV];by_cases ha:afM x y=true
 .simp only [ha,if_true]
  exact ⟨k,rfl,zo,hx⟩
 .simp only [ha,J5,if_false]
  exact ⟨n,rfl,zo,hy⟩
end
def og (bA:Int) (x:aD):Bool:=decide (2<=x.Md) && cv x.Mg 1 bA
def l8 (a b:aD):Bool:=decide (a.Mg < b.Mg)
def lF (bA:Int) (l:List aD):List aD:=l.filter (og bA)
def lZ (bA:Int) (l:List aD):Option aD:=oa l8 (lF bA l)
def jM (code:Int) (x:aD):aD:= { x with code:=code,Md:=1,pc:=x.pc+1,left:=0,Mg:=0,on:=0,held:=rM }
def jT (code:Int) (x:aD):aD:=if x.pc+1=x.prog.length then j7 (jM code x) else jM code x
def iY (nx code:Int) (x:aD):aD:=if x.pc+1=x.prog.length then j7 (jM code x) else { jM code x with RU:=nx }
def gf (nx:Int) (x:aD):Int:=if x.pc+1=x.prog.length then nx else nx+1
def mL (x:aD):Int:=if x.Md=2 then 0 else 2
def gu (p:aE) (x:aD):aE:= { p with next:=gf p.next x,L8:=ce x.id (iY p.next (mL x)) p.L8 }
def oO (bA:Int):Nat->aE->aE
 | 0,p=>p
 | n+1,p=>match lZ bA p.L8 with
  | none=>p
  | some x=>oO bA n (gu p x)
def gj (bA:Int) (p:aE):aE:=oO bA (lF bA p.L8).length p
def kk (p:aE) (bA:Int):Option aE:=if bK p && cv bA 0 1000000000 && decide (p.next<=999999980) then o_ (gj bA p) else n_
def rD (nx code:Int) (x:aD):(iY nx code x).id=x.id/\(iY nx code x).prog=x.prog:=by
 unfold iY
 split <;> exact ⟨rfl,rfl⟩
def E7 (bA nx code:Int) (x:aD):og bA (iY nx code x)=false:=by
 unfold iY og
 split <;> simp [j7,jM]
def qB {f:aD->aD} {id:Int} : ∀ {l:List aD},(∀ y∈l,y.id≠id)->ce id f l=l
 | [],_=>rfl
 | y :: r,h=>by
  have h1:ce id f r=r:=qB fun z hz=>h z (LB _ hz)
  simp only [ce,Lt] at h1 ⊢;rw [if_neg (h y zw),h1]
def Bg {bA:Int} {f:aD->aD} {x:aD} (hf:og bA (f x)=false) (hx:og bA x=true): ∀ {l:List aD},l.Pairwise (fun x y=>x.id < y.id)->x∈l->(lF bA (ce x.id f l)).length+1=(lF bA l).length
 | [],_,h=>by cases h
 | y :: r,hr,h=>by
  rw [LM] at hr;by_cases e:y=x
  .subst e
   have h2:ce y.id f (y :: r)=f y :: r:=by
    exact ZbD
   rw [h2];simp [lF,hf,hx]
  .have hm:x∈r:=by
    rcases Kt.1 h with h1 | h1
    .exact absurd h1.symm e
    .exact h1
   have h4:=Bg hf hx hr.2 hm;have h5: ¬ y.id=x.id:=by have:=hr.1 x hm; omega
   have h6:ce x.id f (y :: r)=y :: ce x.id f r:=by simp [ce,h5]
   rw [h6];unfold lF at h4 ⊢;by_cases hy:og bA y=true
   .simp only [LN,hy,if_true,List.length_cons]; omega
   .simp only [LN,hy,J5,if_false]; exact h4
def rW {f:aD->aD} {id:Int} (hf: ∀ x,(f x).id=x.id) {l:List aD} (h:l.Pairwise (fun x y=>x.id < y.id)):(ce id f l).Pairwise (fun x y=>x.id < y.id):=by
 unfold ce;rw [Qm];refine h.imp fun {a b} hab=> ?_
 have e: ∀ z:aD,(if z.id=id then f z else z).id=z.id:=fun z=>by split <;> simp [hf]
 rw [e,e];exact hab
def Gs {f:aD->aD} {id:Int} {l:List aD} {y:aD} (h:y∈ce id f l):y∈l\/ ∃ x∈l,y=f x:=by
 obtain ⟨z,hz,e⟩:=Lr.1 h;by_cases h1:z.id=id
 .exact .inr ⟨z,hz,by rw [<- e,if_pos h1]⟩
 .exact .inl (by rw [if_neg h1] at e; exact e ▸ hz)
structure af9 (bA:Int) (p:aE):Prop where
 kW:p.L8.Pairwise (fun x y=>x.id < y.id)
 op: ∀ x∈p.L8,2<=x.Md->0<=x.pc/\x.pc < x.prog.length
 room:1<=p.next/\p.next+(lF bA p.L8).length<=1000000000
 low:p.L8.length<=6
def af9.mem {bA:Int} {p:aE} {x:aD} (h:lZ bA p.L8=o_ x):x∈p.L8/\og bA x=true:=by
 have h1:=Fg l8 h;exact L2.1 h1
def af9.step {bA:Int} {p:aE} {x:aD} (h:af9 bA p) (hx:lZ bA p.L8=o_ x):af9 bA (gu p x)/\(lF bA (gu p x).L8).length+1=(lF bA p.L8).length:=by
 obtain ⟨hm,hd⟩:=af9.mem hx;have h1:=Bg (E7 bA p.next (mL x) x) hd h.kW hm;refine ⟨⟨rW (fun y=>(rD _ _ y).1) h.kW,fun y hy hs=> ?_,?_,?_⟩,h1⟩
 .rcases Gs hy with h2 | ⟨z,_,rfl⟩
  .exact h.op y h2 hs
  .unfold iY at hs
   split at hs <;> simp [j7,jM] at hs
 .have h2:=h.room
  have h3:(gu p x).next<=p.next+1/\p.next<=(gu p x).next:=by
   show gf p.next x<=_/\_<=gf p.next x
   unfold gf
   split <;> omega
  have h4:(lF bA (gu p x).L8).length+1=(lF bA p.L8).length:=h1;omega
 .show (ce _ _ p.L8).length<=6
  simpa [ce] using h.low
def Co {bA:Int} {p:aE} (h:lZ bA p.L8=n_):gj bA p=p:=by
 unfold gj;rw [CZ l8 h];rfl
def vn {bA:Int} {p:aE} {x:aD} (h:af9 bA p) (hx:lZ bA p.L8=o_ x):gj bA p=gj bA (gu p x):=by
 have h1:=(h.step hx).2;unfold gj;rw [<- h1];simp only [oO,hx]
def af9.of {bA:Int} {p:aE} (h:aQ p) (hn:p.next<=999999980):af9 bA p:=by
 have h1:=(db h.L8).2;refine ⟨h1,fun x hx hs=> ?_,?_,h.dl⟩
 .have h2:=(cK h.L8 x hx).2
  simp only [cH,J7] at h2;have h3:=h2.1.1.2;unfold bO at h3;have h4:dU x=true:=by
   split at h3
   .omega
   .split at h3
    .omega
    .exact ZaJ
  have h5:=bz.1 h4;omega
 .have h2:=bz.1 h.next
  have h3:(lF bA p.L8).length<=p.L8.length:=Qq _ _;have h4:=h.dl;omega
section
def Di {α:Type} {N:gd α} {w w':w_} {bj:Nat} {x:α} (h:N.cO w bj x) (hb:B_ w.heap.size w w'):N.cO w' bj x:=h.same fun g hk=>hb.block g (h.lt hk).2
def o8 (W:w_) (X b:Nat) (q:af):Prop:=av W X q/\ap W b q
def rT (W:w_) (X b:Nat) (x:ao):Prop:=jx W X x/\aR.cO W b x
section
variable {p q:af} {x:ao} {w W W':w_} {X b:Nat} {bs:List Nat}
def o8.below (h:o8 W X b q) (hb:B_ W.heap.size W W'):o8 W' X b q:=⟨h.1.below hb,h.2.below hb⟩
def o8.kept (h:o8 W X b q) (hk:aI W W' bs) (hs:X∉bs) (ho: ∀ g∈q.Mc,g∉bs):o8 W' X b q:=⟨(hk.same _ (J2.1 h.1).1 hs).trans h.1,h.2.same fun g hg=>hk.same g (h.2.lt g hg).2 (ho g hg)⟩
def rT.below (h:rT W X b x) (hb:B_ W.heap.size W W'):rT W' X b x:=⟨h.1.below hb,Di h.2 hb⟩
def rT.kept (h:rT W X b x) (hk:aI W W' bs) (hs:X∉bs) (ho: ∀ g∈blk x.aY,g∉bs):rT W' X b x:=⟨(hk.same _ (J2.1 h.1).1 hs).trans h.1,h.2.same fun g hg=>hk.same g (h.2.lt hg).2 (ho g (fZ.2 hg))⟩
def av.lt {W:w_} {X:Nat} {q:af} (h:av W X q):X < W.heap.size:=(J2.1 h).1
def jx.lt {W:w_} {X:Nat} {x:ao} (h:jx W X x):X < W.heap.size:=(J2.1 h).1
end
end
def jP {α:Type} (num:α->Int) (id:Int) (f:α->α) (l:List α):List α:=l.map fun x=>if num x=id then f x else x
def cg {α:Type} (num:α->Int) (id:Int) (l:List α):Option α:=l.find? fun x=>decide (num x=id)
def ie (st on:Int) (x:aD):Bool:=decide (x.Md=st) && decide (x.on=on)
def jl (st on:Int) (l:List aD):Option aD:=jo (l.filter (ie st on))
def bu (code id:Int) (p:aE):aE:= { p with L8:=ce id (jT code) p.L8 }
def lG (t:ByteArray) (x:aD):aD:= { x with got:=t }
def ez (t:ByteArray) (id:Int) (p:aE):aE:= { p with L8:=ce id (lG t) p.L8 }
def gF (f:aD->aD) (p:aE) (x:aD):aE:= { p with next:=gf p.next x,L8:=ce x.id (fun y=>iY p.next 0 (f y)) p.L8 }
def gW (f:aD->aD) (st on:Int):Nat->aE->aE
 | 0,p=>p
 | n+1,p=>match jl st on p.L8 with
  | none=>p
  | some x=>gW f st on n (gF f p x)
def ff (f:aD->aD) (st on:Int) (p:aE):aE:=gW f st on (p.L8.filter (ie st on)).length p
def zb (nx st on:Int) (held:ByteArray) (Mg:Int) (y:aD):aD:= { y with Md:=st,Mg:=Mg,on:=on,held:=held,RU:=nx }
def kC (st on:Int) (held:ByteArray) (Mg id:Int) (p:aE):aE:= { p with next:=p.next+1,L8:=ce id (zb p.next st on held Mg) p.L8 }
def kZ (bA m:Int):Int:=if 0<=m then bA+m else -1
def mX (st:Int) (o:dN) (bA id:Int) (p:aE):aE:=if o.2.2.1=0 then bu 1 id p else kC st o.2.1 o.2.2.2 (kZ bA o.2.2.1) id p
def nZ (id d:Int) (p:aE):aE:= { p with aj:=jP (·.id) id (fun y=> { y with n:=y.n+d }) p.aj }
def gL (id:Int) (b:Bool) (p:aE):aE:= { p with L9:=jP (·.id) id (fun y=> { y with up:=b }) p.L9 }
def ib (id:Int) (b:Bool) (t:ByteArray) (p:aE):aE:= { p with ag:=jP (·.id) id (fun y=> { y with shown:=b,text:=t }) p.ag }
def cV (id:Int) (l:List ByteArray) (p:aE):aE:= { p with ae:=jP (·.id) id (fun y=> { y with Ma:=l }) p.ae }
def gU (id:Int) (l:List ByteArray) (p:aE):aE:= { p with ai:=jP (·.id) id (fun y=> { y with Ma:=l }) p.ai }
def mh (o:dN) (bA id:Int) (p:aE):aE:=match cg (·.id) o.2.1 p.aj with
 | none=>bu 3 id p
 | some s=>if s.n=0 then mX 3 o bA id p else bu 0 id (nZ o.2.1 (-1) p)
def gJ (o:dN) (id:Int) (p:aE):aE:=match cg (·.id) o.2.1 p.aj with
 | none=>bu 3 id p
 | some s=>match jl 3 o.2.1 p.L8 with
  | some y=>bu 0 id (gF (fun y=>y) p y)
  | none=>if s.n=s.max then bu 1 id p else bu 0 id (nZ o.2.1 1 p)
def dE (o:dN) (bA id:Int) (p:aE):aE:=match cg (·.id) o.2.1 p.L9 with
 | none=>bu 3 id p
 | some e=>if o.1=5 then bu 0 id (ff (fun y=>y) 4 o.2.1 (gL o.2.1 true p))
  else if o.1=6 then bu 0 id (gL o.2.1 false p)
  else if e.up then bu 0 id p else mX 4 o bA id p
def lc (o:dN) (bA id:Int) (p:aE):aE:=match cg (·.id) o.2.1 p.ae with
 | none=>bu 3 id p
 | some b=>match jl 6 o.2.1 p.L8 with
  | some y=>bu 0 id (gF (lG o.2.2.2) p y)
  | none=>if (b.Ma.length:Int)=b.max then mX 5 o bA id p else bu 0 id (cV o.2.1 (b.Ma ++ [o.2.2.2]) p)
def ka (o:dN) (bA id:Int) (p:aE):aE:=match cg (·.id) o.2.1 p.ae with
 | none=>bu 3 id p
 | some b=>match b.Ma with
  | [] =>mX 6 o bA id (ez rM id p)
  | t :: r=>match jl 5 o.2.1 (ez t id p).L8 with
   | none=>bu 0 id (cV o.2.1 r (ez t id p))
   | some y=>bu 0 id (gF (fun y=>y) (cV o.2.1 (r ++ [y.held]) (ez t id p)) y)
def dC (o:dN) (bA id:Int) (p:aE):aE:=match cg (·.id) o.2.1 p.ag with
 | none=>bu 3 id p
 | some b=>if o.1=10 then bu 0 id (ff (lG o.2.2.2) 7 o.2.1 (ib o.2.1 true o.2.2.2 p))
  else if o.1=11 then bu 0 id (ib o.2.1 false rM p)
  else if b.shown then bu 0 id (ez b.text id p) else mX 7 o bA id (ez b.text id p)
def ig (o:dN) (id:Int) (p:aE):aE:=match cg (·.id) o.2.1 p.ai with
 | none=>bu 3 id p
 | some q=>if q.I=false then bu 3 id p
  else if q.Mf=false then bu 0 id (gU o.2.1 [o.2.2.2] p)
  else if (q.Ma.length:Int)=q.max then bu 1 id p
  else bu 0 id (gU o.2.1 (q.Ma ++ [o.2.2.2]) p)
def gC (o:dN) (id:Int) (p:aE):aE:=match cg (·.id) o.2.1 p.ai with
 | none=>bu 3 id p
 | some q=>if q.I then bu 3 id p else match q.Ma with
  | [] =>bu 1 id (ez rM id p)
  | t :: r=>bu 0 id (if q.Mf then gU o.2.1 r (ez t id p) else ez t id p)
def py (id:Int) (p:aE):aE:= { p with next:=p.next+1,L8:=ce id (fun y=> { y with Md:=1,RU:=p.next }) p.L8 }
def ot (id:Int) (p:aE):aE:= { p with L8:=ce id j7 p.L8 }
def jU (o:dN) (id:Int) (p:aE):aE:=match cg (·.id) o.2.1 p.L8 with
 | none=>bu 3 id p
 | some y=>if y.Md=0 then bu 0 id (py o.2.1 p) else bu 1 id p
def lg (o:dN) (id:Int) (p:aE):aE:=match cg (·.id) o.2.1 p.L8 with
 | none=>bu 3 id p
 | some y=>if y.Md=0 then bu 1 id p else if o.2.1=id then ot id p else bu 0 id (ot o.2.1 p)
def GY (x:aD) (o:dN) (p:aE):aE:=
 if (if x.left=0 then o.2.1 else x.left)=1 then bu 0 x.id p
 else { p with L8:=ce x.id (fun y=> { y with left:=(if x.left=0 then o.2.1 else x.left) - 1 }) p.L8 }
def lX (bA:Int) (x:aD) (o:dN) (p:aE):aE:=
 if o.1=1 then GY x o p
 else if o.1=2 then kC 2 0 rM (bA+o.2.1) x.id p
 else if o.1=3 then mh o bA x.id p
 else if o.1=4 then gJ o x.id p
 else if o.1=5\/o.1=6\/o.1=7 then dE o bA x.id p
 else if o.1=8 then lc o bA x.id p
 else if o.1=9 then ka o bA x.id p
 else if o.1=10\/o.1=11\/o.1=12 then dC o bA x.id p
 else if o.1=13 then ig o x.id p
 else if o.1=14 then gC o x.id p
 else if o.1=15 then jU o x.id p
 else if o.1=16 then lg o x.id p
 else { p with L8:=ce x.id (fun y=> { y with pc:=0 }) p.L8 }
def mS (bA:Int) (p:aE):aE:=match jl 1 0 (gj bA p).L8 with
 | none=>gj bA p
 | some x=>lX bA x (opAt x) (gj bA p)
def hZ (p:aE) (bA:Int):Option aE:=if bK p && cv bA 0 1000000000 && decide (p.next<=999999980) then o_ (mS bA p) else n_
section
variable {α:Type} {num:α->Int}
def jF {l:List α} {f:α->α} {id:Int} {n:Nat} {y:α} (hr:l.Pairwise (fun x y=>num x < num y)) (hn:l[n]? =o_ y) (hy:num y=id):jP num id f l=l.set n (f y):=by
 induction l generalizing n with
 | nil=>simp at hn
 | cons x r ih=>
  obtain ⟨h1,h2⟩:=LM.1 hr;cases n with
  | zero=>
   simp only [QI,LF] at hn;subst hn;have e:jP num id f r=r:=by
    unfold jP
    conv=>rhs; rw [<- List.map_id r]
    refine Lw fun z hz=> ?_
    rw [if_neg (by have:=h1 z hz; omega)];rfl
   simp only [Ln]
   show (if num x=id then f x else x) :: jP num id f r=_
   rw [if_pos hy,e]
  | succ n=>
   simp only [QC] at hn;have hlt:=h1 y (KA hn);simp only [Lo]
   show (if num x=id then f x else x) :: jP num id f r=_
   rw [if_neg zo,ih h2 hn]
def ef (id:Int): ∀ (l:List α) (k:Nat),(place (l.map num) id k= -1/\cg num id l=n_)\/ ∃ n x,place (l.map num) id k=((k+n:Nat):Int)/\l[n]? =o_ x/\num x=id/\cg num id l=o_ x
 | [],k=> .inl ⟨rfl,rfl⟩
 | x :: r,k=>by
  unfold cg;by_cases h:num x=id
  .refine .inr ⟨0,x,?_,rfl,h,by simp [h]⟩
   simp [place,h]
  .rcases ef id r (k+1) with ⟨h1,h2⟩ | ⟨n,y,h1,h2,h4,h3⟩
   .exact ZbC
   .refine .inr ⟨n+1,y,?_,h2,h4,by simp only [LL,h,decide_false]; exact h3⟩
    simp only [Lt,place];rw [if_neg h,h1];omega
def ks {id:Int} {l:List α} {x:α} (h:cg num id l=o_ x):x∈l/\num x=id:=by
 have h1:=List.find?_some h;exact ⟨List.mem_of_find?_eq_some h,by simpa using h1⟩
end
def xw: ∀ (l:List aD) (r:Option aD) {y:aD},l.foldl iy r=o_ y->y∈l\/r=o_ y
 | [],_,_,h=> .inr h
 | x :: l,r,y,h=>by
  rcases xw l (iy r x) h with h1 | h1
  .exact .inl (by simp [h1])
  .rcases zp h1 with h2 | h2
   .exact .inl (by simp [h2])
   .exact .inr h2
def ft {st on:Int} {l:List aD} {x:aD} (h:jl st on l=o_ x):x∈l/\x.Md=st/\x.on=on:=by
 have h1:x∈l.filter (ie st on):=(xw _ n_ h).elim (fun e=>e) (fun e=>by cases e);obtain ⟨h2,h3⟩:=L2.1 h1;unfold ie at h3;simp only [J7,decide_eq_true_eq] at h3;exact ⟨h2,h3⟩
def Dt {st on:Int} {l:List aD} (h:jl st on l=n_):l.filter (ie st on)= [] :=by
 unfold jl jo at h;rcases List.eq_nil_or_concat (l.filter (ie st on)) with e | ⟨l',x,e⟩
 .exact e
 .rw [e,List.concat_eq_append,List.foldl_append] at h
  simp only [List.foldl_cons,List.foldl_nil] at h;obtain ⟨y,hy⟩:=pN (l'.foldl iy n_) x;rw [hy] at h;cases h
def pT {n:Int} (h1: -2147483648<=n) (h2:n<=2147483647):(Lit.int j_ n).wf=true:=by
 have e1:IntKind.min j_<= -2147483648:=by decide
 have e2:2147483647<=IntKind.max j_:=by decide
 simp only [Lit.wf,J7,decide_eq_true_eq];omega
section
def wrap64_wf (n:Int):(Lit.int j_ (wrap64 n)).wf=true:=by
 have e1:IntKind.min j_= -9223372036854775808:=by decide
 have e2:IntKind.max j_=9223372036854775807:=by decide
 simp only [Lit.wf,J7,decide_eq_true_eq,e1,e2];unfold wrap64;omega
def Iv (r:Nat) (a:Option d_) (len cap:Nat) (low high:Int) (w:w_) (hl:len<=1048576) (l0: -1<=low) (l1:low<=high) (l2:high<=1000000000) (h:Rd r a len cap w):
  k_ J3 39 #[p_ (o_ ⟨r,0,n_⟩),i_ j_ low,i_ j_ high] w fun e w'=> ∃ v:Int,e=r_ (i_ j_ v)/\(Lit.int j_ v).wf=true/\gG r w w'/\Rd r a len cap w':=by
 have HWL:bE ((Lit.int j_ low).wf=true/\(Lit.int j_ high).wf=true):=⟨pT zo zo,pT zo zo⟩
 have k1: ¬ high < low:=zo
 have k2: ¬ high - low+1=0:=zo
 go_enter func39,ntmps39
 go_wp2_with fail;refine (dh r a len cap 8 _ hl zo zo h).mono ?_;rintro e w1 ⟨v,v0,v1,rfl,hb,hr⟩;by_cases e0:v=0
 .have b0:(v == 0)=true:=by simp [e0]
  go_wp2;go_ret;exact ⟨_,rfl,HWL.I.1,hb,hr⟩
 have b0:(v == 0)=false:=by simp [e0]
 by_cases e1:v=1
 .have b1:(v == 1)=true:=by simp [e1]
  go_wp2;go_ret;exact ⟨_,rfl,HWL.I.2,hb,hr⟩
 have b1:(v == 1)=false:=by simp [e1]
 go_wp2_with fail;refine (BO r a len cap _ hl hr).mono ?_;rintro e w2 ⟨x,rfl,hb2,hr2⟩;go_wp2;go_ret;exact ⟨_,rfl,wrap64_wf _,hb.trans hb2,hr2⟩
def Gk (r:Nat) (a:Option d_) (len cap:Nat) (low high:Int) (w:w_) (hl:len<=1048576) (l0: -1<=low) (l1:low<=high) (l2:high<=1000000000) (h:Rd r a len cap w):
  k_ J3 24 #[p_ (o_ ⟨r,0,n_⟩),i_ j_ low,i_ j_ high] w fun e w'=> ∃ v:Int,e=r_ (i_ j_ v)/\(Lit.int j_ v).wf=true/\gG r w w'/\Rd r a len cap w':=by
 go_enter func24,ntmps24
 go_wp2_with fail;refine (jt r a len cap 24 _ hl zo zo h).mono ?_;rintro e w1 ⟨v,rfl,hb,hr⟩;cases v with
 | true=>
  have rl:=hr.lt;go_wp2_with fail;refine (dh r a len cap 4 _ hl zo zo (hr.below ((Kp _ _).alloc (Ki _) _))).mono ?_;rintro e w2 ⟨v,v0,v1,rfl,hb2,hr2⟩;obtain ⟨n,rfl⟩:=QK v0;have hn:n < 4:=zo
  have hy: ∃ y,w2.cell? ⟨w1.heap.size,n,n_⟩=o_ (i_ j_ y)/\(Lit.int j_ y).wf=true:=by
   rw [hb2.cell (p:=⟨w1.heap.size,n,n_⟩) zw ZcF,World.cell?_alloc_new]
   match n,hn with
   | 0,_=>exact ⟨_,rfl,pT zo zo⟩
   | 1,_=>exact ⟨_,rfl,pT zo zo⟩
   | 2,_=>exact ⟨_,rfl,rfl⟩
   | 3,_=>exact ⟨_,rfl,rfl⟩
  obtain ⟨y,hy,hyw⟩:=hy;have HY:bE ((Lit.int j_ y).wf=true):=hyw;clear hyw;have HB:bE (gG r w w2):=(hb.alloc _).trans hb2;clear hb2 hb;go_wp2;go_ret;exact ⟨y,rfl,HY.I,HB.I,hr2⟩
 | false=>
  go_wp2_with fail;refine (Iv r a len cap low high _ hl l0 l1 l2 hr).mono ?_;rintro e w2 ⟨x,rfl,hxw,hb2,hr2⟩;go_wp2;go_ret;exact ⟨_,rfl,hxw,hb.trans hb2,hr2⟩
end
end Go.Proofs.YtfncpmaefninjaaGreatDoor
