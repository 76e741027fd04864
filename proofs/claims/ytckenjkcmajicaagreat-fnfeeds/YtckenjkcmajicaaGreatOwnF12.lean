/- What the proof leans on, part 12. -/
import Derived.Test.YtckenjkcmajicaaGreatOwnF10
set_option linter.all false
set_option maxRecDepth 100000
set_option maxHeartbeats 8000000
open Go.Proofs.Tryz
open Go renaming World->w_,Value->v_,Calls->k_,Addr->d_,TypeId->T_
open Go.Ending renaming returned->r_
open Go.IntKind renaming i64->j_
open Go.Obj renaming cells->c_
open Go.RowKit renaming Below->B_,Hid->bN
open Go.Value renaming int->i_,slice->s_,bool->b_,string->t_,agg->a_,pointer->p_
open Option renaming some->o_,none->n_
open Go renaming wp_at_succ->Kd,wp_at_zero->Kc
open List renaming find?_cons->LL

open Nat renaming le_refl->Ki
open Nat renaming lt_of_lt_of_le->Kn
namespace Go.Proofs.YtckenjkcmajicaaGreat
section
open Go.RowKit
attribute [local go_sem ↓] Kc Kd
def CY (p:af) (B:Nat) (b0 d0 b1 d1 b2 d2 b3 e:Bool) (g0 g1 g2 o:Nat) (a0 a1 a2:Option d_) (c0 c1 c2:Nat):Act:=⟨#[a_ #[i_ j_ p.id,i_ j_ p.next,s_ p.aN p.L8.length p.aW,s_ p.bc p.aj.length p.bF,s_ p.ay p.L9.length p.aO,s_ p.ax p.ag.length p.aP,s_ p.am p.ae.length p.aG,s_ p.aK p.ai.length p.aV],p_ (o_ ⟨B,0,n_⟩),p_ (o_ ⟨(B+1),0,n_⟩),bif b3 then p_ (o_ ⟨o,0,n_⟩) else undef,undef,undef,undef,undef,undef,undef,p_ (o_ ⟨B,0,n_⟩),i_ j_ p.id,p_ (o_ ⟨B,1,n_⟩),i_ j_ p.next,bif b0 then s_ (o_ ⟨g0,0,n_⟩) 0 0 else undef,p_ (o_ ⟨B,3,n_⟩),s_ p.bc p.aj.length p.bF,bif d0 then s_ a0 p.aj.length c0 else undef,bif b1 then s_ (o_ ⟨g1,0,n_⟩) 0 0 else undef,p_ (o_ ⟨B,4,n_⟩),s_ p.ay p.L9.length p.aO,bif d1 then s_ a1 p.L9.length c1 else undef,bif b2 then s_ (o_ ⟨g2,0,n_⟩) 0 0 else undef,p_ (o_ ⟨B,5,n_⟩),s_ p.ax p.ag.length p.aP,bif d2 then s_ a2 p.ag.length c2 else undef,bif e then a_ #[i_ j_ p.id,i_ j_ p.next,s_ n_ 0 0,s_ a0 p.aj.length c0,s_ a1 p.L9.length c1,s_ a2 p.ag.length c2,s_ n_ 0 0,s_ n_ 0 0] else undef,undef,undef,undef,undef,undef,undef,undef,undef,undef,undef,undef,undef,undef,undef,undef,undef,undef,undef,undef,undef,undef,undef,undef,undef,undef,undef,undef,undef,undef,undef,undef,undef,undef,undef,undef,undef,undef,undef,undef,undef,undef,undef,undef,undef,undef,undef,undef,undef,undef,undef,undef,undef,undef,undef,undef,undef,undef,undef,undef,undef,undef,undef,undef,undef,undef,undef,undef,undef,undef,undef],[]⟩
def IP (p:af) (We:w_) (l:Array Bool) (a:Act) (w:w_):Prop:= ∃ (b0 d0 b1 d1 b2 d2 b3 d3 e:Bool) (g0 g1 g2 o:Nat) (a0 a1 a2:Option d_) (c0 c1 c2:Nat),l= #[true,true,true,true,b0,true,true,d0,b1,true,true,d1,b2,true,true,d2,e,b3,d3] /\a=CY p We.heap.size b0 d0 b1 d1 b2 d2 b3 e g0 g1 g2 o a0 a1 a2 c0 c1 c2/\fI p We w b0 d0 b1 d1 b2 d2 b3 d3 e g0 g1 g2 o a0 a1 a2 c0 c1 c2
abbrev pcA (x:ao) (a2:Option d_) (c2:Nat):Array v_:= #[i_ j_ x.id,i_ j_ x.RX,s_ a2 x.prog.length c2,i_ j_ x.Md,i_ j_ x.pc,i_ j_ x.left,i_ j_ x.Mg,i_ j_ x.on,t_ x.held,t_ x.got,i_ j_ x.code,i_ j_ x.RU]
abbrev pcB (x:aM) (a2:Option d_) (c2:Nat):Array v_:= #[i_ j_ x.id,b_ x.I,b_ x.Mf,i_ j_ x.max,s_ a2 x.Ma.length c2]
structure cL (p:af) (We w:w_) (o:Nat) (q:af):Prop where
 cd:B_ We.heap.size We w
 part:av w We.heap.size p
 ret:w.heap[We.heap.size+1]? =o_ (c_ ar 46)
 I:av w o q
 own:ap w (We.heap.size+2) q
 low:We.heap.size+2<=o
 free:o∉q.Mc
def cL.below {p:af} {We w w':w_} {o:Nat} {q:af} (h:cL p We w o q) (hb:B_ w.heap.size w w'):cL p We w' o q:=
 ⟨h.cd.trans (hb.mono h.cd.size),h.part.below hb,(hb.block _ (J2.1 h.ret).1).trans h.ret,h.I.below hb,h.own.below hb,h.low,h.free⟩
def cL.start {p:af} {We w:w_} {g0 g1 g2 o:Nat} {a0 a1 a2:Option d_} {c0 c1 c2:Nat} (h:fI p We w true true true true true true true true true g0 g1 g2 o a0 a1 a2 c0 c1 c2):
  cL p We w o ⟨p.id,p.next,[],n_,0,p.aj,a0,c0,p.L9,a1,c1,p.ag,a2,c2,[],n_,0,[],n_,0⟩:=by
 have hap:=h.pR.apart;refine ⟨h.cd,h.part,h.ret,h.I rfl,⟨Ke _ _ _ _,h.s0.done rfl,h.s1.done rfl,h.s2.done rfl,Ke _ _ _ _,Ke _ _ _ _,(fun x hx=>by cases hx),(fun x hx=>by cases hx),(fun x hx=>by cases hx),?_⟩,(h.pR.xy 3 o ZcF).1,?_⟩
 .have e:af.Mc ⟨p.id,p.next,[],n_,0,p.aj,a0,c0,p.L9,a1,c1,p.ag,a2,c2,[],n_,0,[],n_,0⟩=blk a0 ++ (blk a1 ++ blk a2):=by simp [af.Mc,blk]
  rw [e];simp only [Kf,Kg];refine ⟨fN _,⟨fN _,fN _,fun a ha b hb e=> ?_⟩,fun a ha b hb e=> ?_⟩
  .subst e
   exact hap 1 2 (by decide) a Zc0 Zcm
  .subst e
   rcases hb with hb | hb
   .exact hap 0 1 (by decide) a Zc0 Zcm
   .exact hap 0 2 (by decide) a Zc0 Zcm
 .have e:af.Mc ⟨p.id,p.next,[],n_,0,p.aj,a0,c0,p.L9,a1,c1,p.ag,a2,c2,[],n_,0,[],n_,0⟩=blk a0 ++ (blk a1 ++ blk a2):=by simp [af.Mc,blk]
  rw [e];simp only [Kg];rintro (hb | hb | hb)
  .exact hap 3 0 (by decide) o ZcF Zcm
  .exact hap 3 1 (by decide) o ZcF Zcm
  .exact hap 3 2 (by decide) o ZcF Zcm
def di {a:Option d_} {n c g:Nat} (h:(Value.slice a n c).ownBlock=o_ g):g∈blk a:=by
 cases a with
 | none=>simp [Value.ownBlock] at h
 | some ad=>simp [Value.ownBlock] at h; simp [blk,h]
def aH {w:w_} {o i g:Nat} {v:v_} (h:g≠o):(w.setCell ⟨o,i,n_⟩ v).heap[g]? =w.heap[g]? :=de [v] h
def cx {w:w_} {o i:Nat} {v:v_} {cs:Array v_} {t:T_} (h:w.heap[o]? =o_ (c_ cs t)):(w.setCell ⟨o,i,n_⟩ v).heap[o]? =o_ (c_ (cs.setIfInBounds i v) t):=jc [v] h
def bP {B o i:Nat} {w0 w:w_} {v:v_} (h:B_ B w0 w) (hb:B<=o):B_ B w0 (w.setCell ⟨o,i,n_⟩ v):=
 ⟨h.os,h.tape,h.output,by have:=h.size; rw [show (w.setCell ⟨o,i,n_⟩ v).heap.size=w.heap.size from fH [v]]; exact this,fun k hk=>(aH zw).trans (h.block k hk)⟩
def IV {p q:af} {k:Nat} (h:q.pure= { p.pure with L8:=p.pure.L8.take k,ae:= [],ai:= [] }) (hk:k<=p.L8.length):q.L8.length=k:=by
 have h5:=congrArg (fun z=>(aE.L8 z).length) h;simp [af.pure] at h5;omega
def Fs {p q:af} {k:Nat} (h:q.pure= { p.pure with ae:=p.pure.ae.take k,ai:= [] }) (hk:k<=p.ae.length):q.ae.length=k:=by
 have h5:=congrArg (fun z=>(aE.ae z).length) h;simp [af.pure] at h5;omega
def I0 {p q:af} {k:Nat} (h:q.pure= { p.pure with ai:=p.pure.ai.take k }) (hk:k<=p.ai.length):q.ai.length=k:=by
 have h5:=congrArg (fun z=>(aE.ai z).length) h;simp [af.pure] at h5;omega
def cL.yg {p:af} {We w w':w_} {o:Nat} {q:af} {x:ao} {a:Option d_} {c:Nat} (h:cL p We w o q) (hm:aR.cO w (We.heap.size+2) x) (hx: ∀ g,aR.bt x=o_ g->g∉q.Mc/\g≠o)
  (ho:w'.ownsRow (We.heap.size+2) 125 12 (s_ a (q.L8.length+1) c) (q.L8.length+1) (bg.flat (q.L8 ++ [x]))) (hg:w.grownBy w' ((Value.slice q.aN q.L8.length q.aW).ownBlock)) (hb: ∀ g∈blk a,g∈blk q.aN\/g=w.heap.size):
  cL p We (w'.setCell ⟨o,2,n_⟩ (s_ a (q.L8.length+1) c)) o ({ q with L8:=q.L8 ++ [x],aN:=a,aW:=c } :af):=by
 have p7:o < w.heap.size:=(J2.1 h.I).1;have hrow: ∀ g,g < w.heap.size->g∉blk q.aN->w'.heap[g]? =w.heap[g]? :=fun g hgl hn=>hg.block g hgl fun e=>hn (di e.symm)
 obtain ⟨hown,hbl⟩:=h.own.yg hm (fun g hk=>(hx g hk).1) ho hrow hb;have hoA:o∉blk q.aN:=fun hm'=>h.free (by simp [af.Mc,hm'])
 have hlow: ∀ g,g∈blk q.aN->We.heap.size+2<=g:=fun g hg'=>(cf h.own.L8 hg').1
 have hfree:o∉({ q with L8:=q.L8 ++ [x],aN:=a,aW:=c } :af).Mc:=fun hm'=>by
  exact Zar
 have hsc: ∀ g,g≠o->(w'.setCell ⟨o,2,n_⟩ (s_ a (q.L8.length+1) c)).heap[g]? =w'.heap[g]? :=fun g hne=>aH hne
 have lY:B_ We.heap.size We w':=h.cd.grown hg (by have:=h.low; omega) (fun k hk=>by have:=hlow k (di hk); omega);have hout:w'.heap[o]? =w.heap[o]? :=hrow o p7 hoA;have hlo:=h.low;refine ⟨bP lY zw,(hsc _ zw).trans ((hrow _ zw fun hm'=>by have:=hlow _ hm'; omega).trans h.part),(hsc _ zw).trans ((hrow _ zw fun hm'=>by have:=hlow _ hm'; omega).trans h.ret),?_,hown.same fun g hg'=>hsc g fun e=>hfree (e ▸ hg'),h.low,hfree⟩;have h5:=cx (i:=2) (v:=s_ a (q.L8.length+1) c) (hout.trans h.I);have e:(q.L8 ++ [x]).length=q.L8.length+1:=by simp
 unfold av;simp only [e];exact h5
def vt (wr w7:w_) (x:ao) (a2:Option d_) (c2:Nat):Prop:=w7.heap[wr.heap.size]? =o_ (c_ #[i_ j_ x.id,i_ j_ x.RX,s_ x.aY x.prog.length x.bH,i_ j_ x.Md,i_ j_ x.pc,i_ j_ x.left,i_ j_ x.Mg,i_ j_ x.on,t_ x.held,t_ x.got,i_ j_ x.code,i_ j_ x.RU] 125)/\B_ wr.heap.size wr w7/\w7.ownsRow wr.heap.size 217 4 (s_ a2 x.prog.length c2) x.prog.length (fk.flat x.prog)/\ ∀ g∈blk a2,g=wr.heap.size+1\/g=wr.heap.size+2
section
variable {p q:af} {We wr w7 pH W8 W9:w_} {o c2 c k:Nat} {x:ao} {a2 a:Option d_}
def cL.ago (h:cL p We wr o q) (h7:vt wr w7 x a2 c2) (e8:W8=w7.setCell ⟨wr.heap.size,2,n_⟩ (s_ a2 x.prog.length c2)):W8.cell? ⟨o,2,n_⟩=o_ (s_ q.aN q.L8.length q.aW)/\W8.cell? ⟨wr.heap.size,0,n_⟩=o_ (i_ j_ x.id)/\W8.cell? ⟨wr.heap.size,1,n_⟩=o_ (i_ j_ x.RX)/\W8.cell? ⟨wr.heap.size,2,n_⟩=o_ (s_ a2 x.prog.length c2)/\W8.cell? ⟨wr.heap.size,3,n_⟩=o_ (i_ j_ x.Md)/\W8.cell? ⟨wr.heap.size,4,n_⟩=o_ (i_ j_ x.pc)/\W8.cell? ⟨wr.heap.size,5,n_⟩=o_ (i_ j_ x.left)/\W8.cell? ⟨wr.heap.size,6,n_⟩=o_ (i_ j_ x.Mg)/\W8.cell? ⟨wr.heap.size,7,n_⟩=o_ (i_ j_ x.on)/\W8.cell? ⟨wr.heap.size,8,n_⟩=o_ (t_ x.held)/\W8.cell? ⟨wr.heap.size,9,n_⟩=o_ (t_ x.got)/\W8.cell? ⟨wr.heap.size,10,n_⟩=o_ (i_ j_ x.code)/\W8.cell? ⟨wr.heap.size,11,n_⟩=o_ (i_ j_ x.RU):=by
 subst e8;have p7:o < wr.heap.size:=(J2.1 h.I).1;have h1:=(aH (i:=2) (v:=s_ a2 x.prog.length c2) (by omega:o≠wr.heap.size)).trans (h7.2.1.block o p7);have h2:=cx (i:=2) (v:=s_ a2 x.prog.length c2) h7.1;exact Zas
def cL.Hm (h7:vt wr w7 x a2 c2) (e8:W8=w7.setCell ⟨wr.heap.size,2,n_⟩ (s_ a2 x.prog.length c2)) (e9:W9=W8.alloc (c_ (pcA x a2 c2) 125)):B_ wr.heap.size wr W9/\W8.heap.size=w7.heap.size:=by
 exact Zax
def cL.IH (h:cL p We wr o q) (h7:vt wr w7 x a2 c2) (e8:W8=w7.setCell ⟨wr.heap.size,2,n_⟩ (s_ a2 x.prog.length c2)) (e9:W9=W8.alloc (c_ (pcA x a2 c2) 125)):W9.ownsRow (We.heap.size+2) 125 12 (s_ q.aN q.L8.length q.aW) q.L8.length (bg.flat q.L8)/\W9.heap[w7.heap.size]? =o_ (c_ (pcA x a2 c2) 125):=by
 have kN:=cL.Hm h7 e8 e9;refine ⟨(h.below kN.1).own.L8,?_⟩;subst e9;have h5:=Kj W8 (c_ (pcA x a2 c2) 125)
 rwa [kN.2] at h5
def cL.upProc (h:q.pure= { p.pure with L8:=p.pure.L8.take k,ae:= [],ai:= [] }) (hx:p.L8[k]? =o_ x):({ q with L8:=q.L8 ++ [({ x with aY:=a2,bH:=c2 } :ao)],aN:=a,aW:=c } :af).pure= { p.pure with L8:=p.pure.L8.take (k+1),ae:= [],ai:= [] } :=by
 have e:p.pure.L8.take (k+1)=p.pure.L8.take k ++ [x.toaD] :=by
  rw [cj (x:=x.toaD)]
  show (p.L8.map (·.toaD))[k]? =_
  rw [Kk,hx];rfl
 rw [e];have h5:=congrArg aE.L8 h;have h6:(q.L8 ++ [({ x with aY:=a2,bH:=c2 } :ao)]).map (·.toaD)=p.pure.L8.take k ++ [x.toaD] :=by
  rw [Kl];exact congrArg (· ++ [x.toaD]) h5
 show ({ q.pure with L8:=(q.L8 ++ [({ x with aY:=a2,bH:=c2 } :ao)]).map (·.toaD) } :aE)=_
 rw [h6,h]
def cL.G5 (h:cL p We wr o q) (h7:vt wr w7 x a2 c2) (e8:W8=w7.setCell ⟨wr.heap.size,2,n_⟩ (s_ a2 x.prog.length c2)) (e9:W9=W8.alloc (c_ (pcA x a2 c2) 125))
  (ho:pH.ownsRow (We.heap.size+2) 125 12 (s_ a (q.L8.length+1) c) (q.L8.length+1) (bg.flat q.L8 ++ bg.vals ({ x with aY:=a2,bH:=c2 } :ao))) (hg:W9.grownBy pH ((Value.slice q.aN q.L8.length q.aW).ownBlock))
  (hb:(Value.slice a (q.L8.length+1) c).ownBlock=(Value.slice q.aN q.L8.length q.aW).ownBlock\/(Value.slice a (q.L8.length+1) c).ownBlock=o_ W9.heap.size):
  cL p We (pH.setCell ⟨o,2,n_⟩ (s_ a (q.L8.length+1) c)) o ({ q with L8:=q.L8 ++ [({ x with aY:=a2,bH:=c2 } :ao)],aN:=a,aW:=c } :af)/\pH.cell? ⟨o,2,n_⟩=o_ (s_ q.aN q.L8.length q.aW)/\pH.frozen? ⟨o,2,n_⟩=false:=by
 have p7:o < wr.heap.size:=(J2.1 h.I).1;obtain ⟨kN,hs8⟩:=cL.Hm h7 e8 e9;have h9:=h.below kN;have hlow:=h.low;have hm:aR.cO W9 (We.heap.size+2) ({ x with aY:=a2,bH:=c2 } :ao):=by
  exact y_
 have hx: ∀ g,aR.bt ({ x with aY:=a2,bH:=c2 } :ao)=o_ g->g∉q.Mc/\g≠o:=fun g hk=>by
  exact Zag
 have hn: ∀ g∈blk a,g∈blk q.aN\/g=W9.heap.size:=fun g hg'=>by
  exact Fd
 have hL:=h9.yg hm hx (by rw [bg.dc]; exact ho) hg hn;exact z_
end
def cL.sD {p:af} {We w w':w_} {o:Nat} {q:af} {x:au} {a:Option d_} {c:Nat} (h:cL p We w o q) (hm:aC.cO w (We.heap.size+2) x) (hx: ∀ g,aC.bt x=o_ g->g∉q.Mc/\g≠o)
  (ho:w'.ownsRow (We.heap.size+2) 137 3 (s_ a (q.ae.length+1) c) (q.ae.length+1) (bm.flat (q.ae ++ [x]))) (hg:w.grownBy w' ((Value.slice q.am q.ae.length q.aG).ownBlock)) (hb: ∀ g∈blk a,g∈blk q.am\/g=w.heap.size):
  cL p We (w'.setCell ⟨o,6,n_⟩ (s_ a (q.ae.length+1) c)) o ({ q with ae:=q.ae ++ [x],am:=a,aG:=c } :af):=by
 have p7:o < w.heap.size:=(J2.1 h.I).1;have hrow: ∀ g,g < w.heap.size->g∉blk q.am->w'.heap[g]? =w.heap[g]? :=fun g hgl hn=>hg.block g hgl fun e=>hn (di e.symm)
 obtain ⟨hown,hbl⟩:=h.own.sD hm (fun g hk=>(hx g hk).1) ho hrow hb;have hoA:o∉blk q.am:=fun hm'=>h.free (by simp [af.Mc,hm'])
 have hlow: ∀ g,g∈blk q.am->We.heap.size+2<=g:=fun g hg'=>(cf h.own.ae hg').1
 have hfree:o∉({ q with ae:=q.ae ++ [x],am:=a,aG:=c } :af).Mc:=fun hm'=>by
  exact Zar
 have hsc: ∀ g,g≠o->(w'.setCell ⟨o,6,n_⟩ (s_ a (q.ae.length+1) c)).heap[g]? =w'.heap[g]? :=fun g hne=>aH hne
 have lY:B_ We.heap.size We w':=h.cd.grown hg (by have:=h.low; omega) (fun k hk=>by have:=hlow k (di hk); omega);have hout:w'.heap[o]? =w.heap[o]? :=hrow o p7 hoA;have hlo:=h.low;refine ⟨bP lY zw,(hsc _ zw).trans ((hrow _ zw fun hm'=>by have:=hlow _ hm'; omega).trans h.part),(hsc _ zw).trans ((hrow _ zw fun hm'=>by have:=hlow _ hm'; omega).trans h.ret),?_,hown.same fun g hg'=>hsc g fun e=>hfree (e ▸ hg'),h.low,hfree⟩;have h5:=cx (i:=6) (v:=s_ a (q.ae.length+1) c) (hout.trans h.I);have e:(q.ae ++ [x]).length=q.ae.length+1:=by simp
 unfold av;simp only [e];exact h5
def o9 (wr w7:w_) (x:au) (a2:Option d_) (c2:Nat):Prop:=w7.heap[wr.heap.size]? =o_ (c_ #[i_ j_ x.id,i_ j_ x.max,s_ x.ak x.Ma.length x.aq] 137)/\B_ wr.heap.size wr w7/\w7.ownsRow wr.heap.size 9 1 (s_ a2 x.Ma.length c2) x.Ma.length (bT.flat x.Ma)/\ ∀ g∈blk a2,g=wr.heap.size+1\/g=wr.heap.size+2
section
variable {p q:af} {We wr w7 pH W8 W9:w_} {o c2 c k:Nat} {x:au} {a2 a:Option d_}
def cL.F9 (h:cL p We wr o q) (h7:o9 wr w7 x a2 c2) (e8:W8=w7.setCell ⟨wr.heap.size,2,n_⟩ (s_ a2 x.Ma.length c2)):W8.cell? ⟨o,6,n_⟩=o_ (s_ q.am q.ae.length q.aG)/\W8.cell? ⟨wr.heap.size,0,n_⟩=o_ (i_ j_ x.id)/\W8.cell? ⟨wr.heap.size,1,n_⟩=o_ (i_ j_ x.max)/\W8.cell? ⟨wr.heap.size,2,n_⟩=o_ (s_ a2 x.Ma.length c2):=by
 subst e8;have p7:o < wr.heap.size:=(J2.1 h.I).1;have h1:=(aH (i:=2) (v:=s_ a2 x.Ma.length c2) (by omega:o≠wr.heap.size)).trans (h7.2.1.block o p7);have h2:=cx (i:=2) (v:=s_ a2 x.Ma.length c2) h7.1;exact Zas
def cL.zQ (h7:o9 wr w7 x a2 c2) (e8:W8=w7.setCell ⟨wr.heap.size,2,n_⟩ (s_ a2 x.Ma.length c2)) (e9:W9=W8.alloc (c_ #[i_ j_ x.id,i_ j_ x.max,s_ a2 x.Ma.length c2] 137)):B_ wr.heap.size wr W9/\W8.heap.size=w7.heap.size:=by
 exact Zax
def cL.Fl (h:cL p We wr o q) (h7:o9 wr w7 x a2 c2) (e8:W8=w7.setCell ⟨wr.heap.size,2,n_⟩ (s_ a2 x.Ma.length c2)) (e9:W9=W8.alloc (c_ #[i_ j_ x.id,i_ j_ x.max,s_ a2 x.Ma.length c2] 137)):W9.ownsRow (We.heap.size+2) 137 3 (s_ q.am q.ae.length q.aG) q.ae.length (bm.flat q.ae)/\W9.heap[w7.heap.size]? =o_ (c_ #[i_ j_ x.id,i_ j_ x.max,s_ a2 x.Ma.length c2] 137):=by
 have kN:=cL.zQ h7 e8 e9;refine ⟨(h.below kN.1).own.ae,?_⟩;subst e9;have h5:=Kj W8 (c_ #[i_ j_ x.id,i_ j_ x.max,s_ a2 x.Ma.length c2] 137)
 rwa [kN.2] at h5
def cL.FY (h:q.pure= { p.pure with ae:=p.pure.ae.take k,ai:= [] }) (hx:p.ae[k]? =o_ x):({ q with ae:=q.ae ++ [({ x with ak:=a2,aq:=c2 } :au)],am:=a,aG:=c } :af).pure= { p.pure with ae:=p.pure.ae.take (k+1),ai:= [] } :=by
 have e:p.pure.ae.take (k+1)=p.pure.ae.take k ++ [x.toci] :=by
  rw [cj (x:=x.toci)]
  show (p.ae.map (·.toci))[k]? =_
  rw [Kk,hx];rfl
 rw [e];have h5:=congrArg aE.ae h;have h6:(q.ae ++ [({ x with ak:=a2,aq:=c2 } :au)]).map (·.toci)=p.pure.ae.take k ++ [x.toci] :=by
  rw [Kl];exact congrArg (· ++ [x.toci]) h5
 show ({ q.pure with ae:=(q.ae ++ [({ x with ak:=a2,aq:=c2 } :au)]).map (·.toci) } :aE)=_
 rw [h6,h]
def cL.Do (h:cL p We wr o q) (h7:o9 wr w7 x a2 c2) (e8:W8=w7.setCell ⟨wr.heap.size,2,n_⟩ (s_ a2 x.Ma.length c2)) (e9:W9=W8.alloc (c_ #[i_ j_ x.id,i_ j_ x.max,s_ a2 x.Ma.length c2] 137))
  (ho:pH.ownsRow (We.heap.size+2) 137 3 (s_ a (q.ae.length+1) c) (q.ae.length+1) (bm.flat q.ae ++ bm.vals ({ x with ak:=a2,aq:=c2 } :au))) (hg:W9.grownBy pH ((Value.slice q.am q.ae.length q.aG).ownBlock))
  (hb:(Value.slice a (q.ae.length+1) c).ownBlock=(Value.slice q.am q.ae.length q.aG).ownBlock\/(Value.slice a (q.ae.length+1) c).ownBlock=o_ W9.heap.size):
  cL p We (pH.setCell ⟨o,6,n_⟩ (s_ a (q.ae.length+1) c)) o ({ q with ae:=q.ae ++ [({ x with ak:=a2,aq:=c2 } :au)],am:=a,aG:=c } :af)/\pH.cell? ⟨o,6,n_⟩=o_ (s_ q.am q.ae.length q.aG)/\pH.frozen? ⟨o,6,n_⟩=false:=by
 have p7:o < wr.heap.size:=(J2.1 h.I).1;obtain ⟨kN,hs8⟩:=cL.zQ h7 e8 e9;have h9:=h.below kN;have hlow:=h.low;have hm:aC.cO W9 (We.heap.size+2) ({ x with ak:=a2,aq:=c2 } :au):=by
  exact y_
 have hx: ∀ g,aC.bt ({ x with ak:=a2,aq:=c2 } :au)=o_ g->g∉q.Mc/\g≠o:=fun g hk=>by
  exact Zag
 have hn: ∀ g∈blk a,g∈blk q.am\/g=W9.heap.size:=fun g hg'=>by
  exact Fd
 have hL:=h9.sD hm hx (by rw [bm.dc]; exact ho) hg hn;exact z_
end
def cL.yf {p:af} {We w w':w_} {o:Nat} {q:af} {x:aM} {a:Option d_} {c:Nat} (h:cL p We w o q) (hm:aU.cO w (We.heap.size+2) x) (hx: ∀ g,aU.bt x=o_ g->g∉q.Mc/\g≠o)
  (ho:w'.ownsRow (We.heap.size+2) 51 5 (s_ a (q.ai.length+1) c) (q.ai.length+1) (bX.flat (q.ai ++ [x]))) (hg:w.grownBy w' ((Value.slice q.aK q.ai.length q.aV).ownBlock)) (hb: ∀ g∈blk a,g∈blk q.aK\/g=w.heap.size):
  cL p We (w'.setCell ⟨o,7,n_⟩ (s_ a (q.ai.length+1) c)) o ({ q with ai:=q.ai ++ [x],aK:=a,aV:=c } :af):=by
 have p7:o < w.heap.size:=(J2.1 h.I).1;have hrow: ∀ g,g < w.heap.size->g∉blk q.aK->w'.heap[g]? =w.heap[g]? :=fun g hgl hn=>hg.block g hgl fun e=>hn (di e.symm)
 obtain ⟨hown,hbl⟩:=h.own.yf hm (fun g hk=>(hx g hk).1) ho hrow hb;have hoA:o∉blk q.aK:=fun hm'=>h.free (by simp [af.Mc,hm'])
 have hlow: ∀ g,g∈blk q.aK->We.heap.size+2<=g:=fun g hg'=>(cf h.own.ai hg').1
 have hfree:o∉({ q with ai:=q.ai ++ [x],aK:=a,aV:=c } :af).Mc:=fun hm'=>by
  exact Zar
 have hsc: ∀ g,g≠o->(w'.setCell ⟨o,7,n_⟩ (s_ a (q.ai.length+1) c)).heap[g]? =w'.heap[g]? :=fun g hne=>aH hne
 have lY:B_ We.heap.size We w':=h.cd.grown hg (by have:=h.low; omega) (fun k hk=>by have:=hlow k (di hk); omega);have hout:w'.heap[o]? =w.heap[o]? :=hrow o p7 hoA;have hlo:=h.low;refine ⟨bP lY zw,(hsc _ zw).trans ((hrow _ zw fun hm'=>by have:=hlow _ hm'; omega).trans h.part),(hsc _ zw).trans ((hrow _ zw fun hm'=>by have:=hlow _ hm'; omega).trans h.ret),?_,hown.same fun g hg'=>hsc g fun e=>hfree (e ▸ hg'),h.low,hfree⟩;have h5:=cx (i:=7) (v:=s_ a (q.ai.length+1) c) (hout.trans h.I);have e:(q.ai ++ [x]).length=q.ai.length+1:=by simp
 unfold av;simp only [e];exact h5
def uT (wr w7:w_) (x:aM) (a2:Option d_) (c2:Nat):Prop:=w7.heap[wr.heap.size]? =o_ (c_ #[i_ j_ x.id,b_ x.I,b_ x.Mf,i_ j_ x.max,s_ x.ak x.Ma.length x.aq] 51)/\B_ wr.heap.size wr w7/\w7.ownsRow wr.heap.size 9 1 (s_ a2 x.Ma.length c2) x.Ma.length (bT.flat x.Ma)/\ ∀ g∈blk a2,g=wr.heap.size+1\/g=wr.heap.size+2
section
variable {p q:af} {We wr w7 pH W8 W9:w_} {o c2 c k:Nat} {x:aM} {a2 a:Option d_}
def cL.agV (h:cL p We wr o q) (h7:uT wr w7 x a2 c2) (e8:W8=w7.setCell ⟨wr.heap.size,4,n_⟩ (s_ a2 x.Ma.length c2)):W8.cell? ⟨o,7,n_⟩=o_ (s_ q.aK q.ai.length q.aV)/\W8.cell? ⟨wr.heap.size,0,n_⟩=o_ (i_ j_ x.id)/\W8.cell? ⟨wr.heap.size,1,n_⟩=o_ (b_ x.I)/\W8.cell? ⟨wr.heap.size,2,n_⟩=o_ (b_ x.Mf)/\W8.cell? ⟨wr.heap.size,3,n_⟩=o_ (i_ j_ x.max)/\W8.cell? ⟨wr.heap.size,4,n_⟩=o_ (s_ a2 x.Ma.length c2):=by
 subst e8;have p7:o < wr.heap.size:=(J2.1 h.I).1;have h1:=(aH (i:=4) (v:=s_ a2 x.Ma.length c2) (by omega:o≠wr.heap.size)).trans (h7.2.1.block o p7);have h2:=cx (i:=4) (v:=s_ a2 x.Ma.length c2) h7.1;exact Zas
def cL.F4 (h7:uT wr w7 x a2 c2) (e8:W8=w7.setCell ⟨wr.heap.size,4,n_⟩ (s_ a2 x.Ma.length c2)) (e9:W9=W8.alloc (c_ (pcB x a2 c2) 51)):B_ wr.heap.size wr W9/\W8.heap.size=w7.heap.size:=by
 exact Zax
def cL.I4 (h:cL p We wr o q) (h7:uT wr w7 x a2 c2) (e8:W8=w7.setCell ⟨wr.heap.size,4,n_⟩ (s_ a2 x.Ma.length c2)) (e9:W9=W8.alloc (c_ (pcB x a2 c2) 51)):W9.ownsRow (We.heap.size+2) 51 5 (s_ q.aK q.ai.length q.aV) q.ai.length (bX.flat q.ai)/\W9.heap[w7.heap.size]? =o_ (c_ (pcB x a2 c2) 51):=by
 have kN:=cL.F4 h7 e8 e9;refine ⟨(h.below kN.1).own.ai,?_⟩;subst e9;have h5:=Kj W8 (c_ (pcB x a2 c2) 51)
 rwa [kN.2] at h5
def cL.upPort (h:q.pure= { p.pure with ai:=p.pure.ai.take k }) (hx:p.ai[k]? =o_ x):({ q with ai:=q.ai ++ [({ x with ak:=a2,aq:=c2 } :aM)],aK:=a,aV:=c } :af).pure= { p.pure with ai:=p.pure.ai.take (k+1) } :=by
 have e:p.pure.ai.take (k+1)=p.pure.ai.take k ++ [x.todS] :=by
  rw [cj (x:=x.todS)]
  show (p.ai.map (·.todS))[k]? =_
  rw [Kk,hx];rfl
 rw [e];have h5:=congrArg aE.ai h;have h6:(q.ai ++ [({ x with ak:=a2,aq:=c2 } :aM)]).map (·.todS)=p.pure.ai.take k ++ [x.todS] :=by
  rw [Kl];exact congrArg (· ++ [x.todS]) h5
 show ({ q.pure with ai:=(q.ai ++ [({ x with ak:=a2,aq:=c2 } :aM)]).map (·.todS) } :aE)=_
 rw [h6,h]
def cL.Gi (h:cL p We wr o q) (h7:uT wr w7 x a2 c2) (e8:W8=w7.setCell ⟨wr.heap.size,4,n_⟩ (s_ a2 x.Ma.length c2)) (e9:W9=W8.alloc (c_ (pcB x a2 c2) 51))
  (ho:pH.ownsRow (We.heap.size+2) 51 5 (s_ a (q.ai.length+1) c) (q.ai.length+1) (bX.flat q.ai ++ bX.vals ({ x with ak:=a2,aq:=c2 } :aM))) (hg:W9.grownBy pH ((Value.slice q.aK q.ai.length q.aV).ownBlock))
  (hb:(Value.slice a (q.ai.length+1) c).ownBlock=(Value.slice q.aK q.ai.length q.aV).ownBlock\/(Value.slice a (q.ai.length+1) c).ownBlock=o_ W9.heap.size):
  cL p We (pH.setCell ⟨o,7,n_⟩ (s_ a (q.ai.length+1) c)) o ({ q with ai:=q.ai ++ [({ x with ak:=a2,aq:=c2 } :aM)],aK:=a,aV:=c } :af)/\pH.cell? ⟨o,7,n_⟩=o_ (s_ q.aK q.ai.length q.aV)/\pH.frozen? ⟨o,7,n_⟩=false:=by
 have p7:o < wr.heap.size:=(J2.1 h.I).1;obtain ⟨kN,hs8⟩:=cL.F4 h7 e8 e9;have h9:=h.below kN;have hlow:=h.low;have hm:aU.cO W9 (We.heap.size+2) ({ x with ak:=a2,aq:=c2 } :aM):=by
  exact y_
 have hx: ∀ g,aU.bt ({ x with ak:=a2,aq:=c2 } :aM)=o_ g->g∉q.Mc/\g≠o:=fun g hk=>by
  exact Zag
 have hn: ∀ g∈blk a,g∈blk q.aK\/g=W9.heap.size:=fun g hg'=>by
  exact Fd
 have hL:=h9.yf hm hx (by rw [bX.dc]; exact ho) hg hn;exact z_
end
abbrev Jn (p:af) (w w':w_):Prop:=w'.cell? ⟨w.heap.size,0,n_⟩=o_ (i_ j_ p.id)/\w'.cell? ⟨w.heap.size,1,n_⟩=o_ (i_ j_ p.next)/\w'.cell? ⟨w.heap.size,3,n_⟩=o_ (s_ p.bc p.aj.length p.bF)/\w'.cell? ⟨w.heap.size,4,n_⟩=o_ (s_ p.ay p.L9.length p.aO)/\w'.cell? ⟨w.heap.size,5,n_⟩=o_ (s_ p.ax p.ag.length p.aP)
def fR (p:af) (w:w_) (hf:p.Fit) (hsh: ∀ x∈p.L8,x.dX) (h:af.At w p):
  k_ Tryz.prog 44 #[a_ p.cells] w fun e w'=> ∃ p',e=r_ (a_ p'.cells)/\ap w' w.heap.size p'/\p'.pure=p.pure/\B_ w.heap.size w w':=by
 have HF:bN (p.Fit/\af.At w p):=⟨hf,h⟩
 have HFS:bN (∀ x∈p.L8,x.dX):=hsh;have HC:bN (fI p w (((w.alloc (c_ p.row 46)).alloc (c_ ar 46))).drew false false false false false false false false false 0 0 0 0 n_ n_ n_ 0 0 0):=by
  have b1:B_ w.heap.size w ((w.alloc (c_ p.row 46)).alloc (c_ ar 46)):=((Kp _ _).alloc (Ki _) _).alloc zy _;exact ⟨b1.drew,(PU zy).trans (Kj _ _),Kq _ _ _,⟨(fun h=>by cases h),fun h=>by cases h⟩,⟨(fun h=>by cases h),fun h=>by cases h⟩,⟨(fun h=>by cases h),fun h=>by cases h⟩,(fun h=>by cases h),⟨(fun h=>by cases h),fun h=>by cases h⟩,zy,⟨fun i j _ q hq=>by rcases i with _ | _ | _ | _ | _ <;> simp [four,bM] at hq,fun i q hq=>by rcases i with _ | _ | _ | _ | _ <;> simp [four,bM] at hq⟩⟩
 have HS:bN (Jn p w (((w.alloc (c_ p.row 46)).alloc (c_ ar 46))).drew):=by obtain ⟨m0,m1,m2,m3,m4,m5,m6,m7⟩:=HC.I.part.cells; exact ⟨m0,m1,m3,m4,m5⟩
 clear hf h hsh;unfold af.cells
 go_enter func44,ntmps44
 go_wp2_with fail;generalize (w.alloc (c_ p.row 46)).alloc (c_ ar 46)=W at *;refine Kr (S:=Jn p w) ZbY HS.I (fun bE=> ?_);refine tt 0 bE ?_;refine tt 1 bE ?_;refine tt 2 bE ?_;refine tt 3 bE ?_;refine tt 5 bE ?_;refine tt 6 bE ?_;refine tt 9 bE ?_;refine tt 10 bE ?_;refine tt 13 bE ?_;refine tt 14 bE ?_;refine wild (IP p w) (fun l a w1 hI=> ?_) (fun l a w1 hI i hi=> ?_) (fun l a w1 hI h0=> ?_) _ _ _ _ ⟨false,false,false,false,false,false,false,false,false,0,0,0,0,n_,n_,n_,0,0,0,by kernel_rfl,rfl,HC.I⟩ (of_decide_eq_true ZbY)
 .obtain ⟨b0,d0,b1,d1,b2,d2,b3,d3,e,g0,g1,g2,o,a0,a1,a2,c0,c1,c2,-,-,hC⟩:=hI
  obtain ⟨m0,m1,m2,m3,m4,m5,m6,m7⟩:=hC.part.cells;exact ⟨m0,m1,m3,m4,m5⟩
 .obtain ⟨b0,d0,b1,d1,b2,d2,b3,d3,e,g0,g1,g2,o,a0,a1,a2,c0,c1,c2,rfl,rfl,hC⟩:=hI
  have HI:bN (fI p w w1 b0 d0 b1 d1 b2 d2 b3 d3 e g0 g1 g2 o a0 a1 a2 c0 c1 c2):=hC;clear hC;unfold CY
  match i,hi with
  | 0,hi=>exact absurd (cX hi) zy
  | 1,hi=>exact absurd (cX hi) zy
  | 2,hi=>exact absurd (cX hi) zy
  | 3,hi=>exact absurd (cX hi) zy
  | 4,hi=>
   have hb:b0=false:=by have h5:=cX hi; simpa using h5
   subst hb;refine ln (o:=_) rfl ZbY (fun K hK=> ?_);go_wp2_with fail;exact hK.out _ _ ⟨true,d0,b1,d1,b2,d2,b3,d3,e,w1.heap.size,g1,g2,o,a0,a1,a2,c0,c1,c2,by rfl,by rfl,HI.I.aaZ⟩
  | 5,hi=>exact absurd (cX hi) zy
  | 6,hi=>exact absurd (cX hi) zy
  | 7,hi=>
   have hb:d0=false:=by have h5:=cX hi; simpa using h5
   have hn4:b0=true:=by have h5:=hF [4,6] hi ZbY 4 (by decide); simpa using h5
   subst hb hn4;refine ln (o:=_) rfl ZbY (fun K hK=> ?_);obtain ⟨a',c',w2,hr,ho,hg,hq⟩:=Iq w1 (w.heap.size+2) g0 (HI.I.s0.made rfl rfl).1 (HI.I.s0.made rfl rfl).2 p.bc p.aj p.bF ((HF.I.2.below HI.I.cd).2.1.1) HF.I.1.short.aj HI.I.size;refine cM _ _ _ rfl _ _ _ w2 rfl rfl hr ?_;have he:e=false:=by cases e with | false=>rfl | true=>(have h5:=HI.I.cl.1 rfl; simp at h5)
   subst he;exact hK.out _ _ ⟨true,true,b1,d1,b2,d2,b3,d3,false,g0,g1,g2,o,a',a1,a2,c',c1,c2,by rfl,by rfl,HI.I.aa1 ho hg hq⟩
  | 8,hi=>
   have hb:b1=false:=by have h5:=cX hi; simpa using h5
   subst hb;refine ln (o:=_) rfl ZbY (fun K hK=> ?_);go_wp2_with fail;exact hK.out _ _ ⟨b0,d0,true,d1,b2,d2,b3,d3,e,g0,w1.heap.size,g2,o,a0,a1,a2,c0,c1,c2,by rfl,by rfl,HI.I.abg⟩
  | 9,hi=>exact absurd (cX hi) zy
  | 10,hi=>exact absurd (cX hi) zy
  | 11,hi=>
   have hb:d1=false:=by have h5:=cX hi; simpa using h5
   have hn8:b1=true:=by have h5:=hF [8,10,7] hi ZbY 8 (by decide); simpa using h5
   subst hb hn8;refine ln (o:=_) rfl ZbY (fun K hK=> ?_);obtain ⟨a',c',w2,hr,ho,hg,hq⟩:=Fp w1 (w.heap.size+2) g1 (HI.I.s1.made rfl rfl).1 (HI.I.s1.made rfl rfl).2 p.ay p.L9 p.aO ((HF.I.2.below HI.I.cd).2.2.1.1) HF.I.1.short.L9 HI.I.size;refine cM _ _ _ rfl _ _ _ w2 rfl rfl hr ?_;have he:e=false:=by cases e with | false=>rfl | true=>(have h5:=HI.I.cl.1 rfl; simp at h5)
   subst he;exact hK.out _ _ ⟨b0,d0,true,true,b2,d2,b3,d3,false,g0,g1,g2,o,a0,a',a2,c0,c',c2,by rfl,by rfl,HI.I.aa2 ho hg hq⟩
  | 12,hi=>
   have hb:b2=false:=by have h5:=cX hi; simpa using h5
   subst hb;refine ln (o:=_) rfl ZbY (fun K hK=> ?_);go_wp2_with fail;exact hK.out _ _ ⟨b0,d0,b1,d1,true,d2,b3,d3,e,g0,g1,w1.heap.size,o,a0,a1,a2,c0,c1,c2,by rfl,by rfl,HI.I.make2⟩
  | 13,hi=>exact absurd (cX hi) zy
  | 14,hi=>exact absurd (cX hi) zy
  | 15,hi=>
   have hb:d2=false:=by have h5:=cX hi; simpa using h5
   have adF:b2=true:=by have h5:=hF [12,14,11] hi ZbY 12 (by decide); simpa using h5
   subst hb adF;refine ln (o:=_) rfl ZbY (fun K hK=> ?_);obtain ⟨a',c',w2,hr,ho,hg,hq⟩:=ED w1 (w.heap.size+2) g2 (HI.I.s2.made rfl rfl).1 (HI.I.s2.made rfl rfl).2 p.ax p.ag p.aP ((HF.I.2.below HI.I.cd).2.2.2.1.1) HF.I.1.short.ag HI.I.size;refine cM _ _ _ rfl _ _ _ w2 rfl rfl hr ?_;have he:e=false:=by cases e with | false=>rfl | true=>(have h5:=HI.I.cl.1 rfl; simp at h5)
   subst he;exact hK.out _ _ ⟨b0,d0,b1,d1,true,true,b3,d3,false,g0,g1,g2,o,a0,a1,a',c0,c1,c',by rfl,by rfl,HI.I.copy2 ho hg hq⟩
  | 16,hi=>
   have hb:e=false:=by have h5:=cX hi; simpa using h5
   have hn7:d0=true:=by have h5:=hF [1,3,7,11,15] hi ZbY 7 (by decide); simpa using h5
   have hn11:d1=true:=by have h5:=hF [1,3,7,11,15] hi ZbY 11 (by decide); simpa using h5
   have hn15:d2=true:=by have h5:=hF [1,3,7,11,15] hi ZbY 15 (by decide); simpa using h5
   subst hb hn7 hn11 hn15;refine ln (o:=_) rfl ZbY (fun K hK=> ?_);go_wp2_with fail;exact hK.out _ _ ⟨b0,true,b1,true,b2,true,b3,d3,true,g0,g1,g2,o,a0,a1,a2,c0,c1,c2,by rfl,by rfl,HI.I.build rfl rfl rfl⟩
  | 17,hi=>
   have hb:b3=false:=by have h5:=cX hi; simpa using h5
   subst hb;refine ln (o:=_) rfl ZbY (fun K hK=> ?_);have hd3:d3=false:=by cases d3 with | false=>rfl | true=>(have h5:=HI.I.cl.2 rfl; simp at h5)
   subst hd3;go_wp2_with fail;exact hK.out _ _ ⟨b0,d0,b1,d1,b2,d2,true,false,e,g0,g1,g2,w1.heap.size,a0,a1,a2,c0,c1,c2,by rfl,by rfl,HI.I.aa9⟩
  | 18,hi=>
   have hb:d3=false:=by have h5:=cX hi; simpa using h5
   have hn17:b3=true:=by have h5:=hF [17,16,15,0,1,2,3,4,5,6,7,8,9,10,11,12,13,14,15,16,17] hi ZbY 17 (by decide); simpa using h5
   have hn16:e=true:=by have h5:=hF [17,16,15,0,1,2,3,4,5,6,7,8,9,10,11,12,13,14,15,16,17] hi ZbY 16 (by decide); simpa using h5
   subst hb hn17 hn16;refine ln (o:=_) rfl ZbY (fun K hK=> ?_);refine qd _ _ _ rfl o _ _ _ rfl rfl (HI.I.I rfl) ZbY rfl ZbY ?_;exact hK.out _ _ ⟨b0,d0,b1,d1,b2,d2,true,true,true,g0,g1,g2,o,a0,a1,a2,c0,c1,c2,by rfl,by rfl,HI.I.store⟩
  | n+19,hi=>exact absurd (cX hi) zy
 .obtain ⟨b0,d0,b1,d1,b2,d2,b3,d3,e,g0,g1,g2,o,a0,a1,a2,c0,c1,c2,rfl,rfl,hC⟩:=hI
  have hno: ∀ i,i∉Region.ready .any _ _:=fun i hi=>by rw [h0] at hi; cases hi
  have hb0:b0=true:=by cases hx:b0 with | true=>rfl | false=>exact absurd (jW [] ZbY ZbY Zch (fun j hj=>by cases hj)) (hno 4)
  have hd0:d0=true:=by cases hx:d0 with | true=>rfl | false=>exact absurd (jW [4,6] ZbY ZbY Zch (fun j hj=>by simp only [Kt,Ku,or_false] at hj; rcases hj with rfl | rfl <;> first | rfl | simp [hb0])) (hno 7)
  have hb1:b1=true:=by cases hx:b1 with | true=>rfl | false=>exact absurd (jW [] ZbY ZbY Zch (fun j hj=>by cases hj)) (hno 8)
  have hd1:d1=true:=by cases hx:d1 with | true=>rfl | false=>exact absurd (jW [8,10,7] ZbY ZbY Zch (fun j hj=>by simp only [Kt,Ku,or_false] at hj; rcases hj with rfl | rfl | rfl <;> first | rfl | simp [hb1,hd0])) (hno 11)
  have hb2:b2=true:=by cases hx:b2 with | true=>rfl | false=>exact absurd (jW [] ZbY ZbY Zch (fun j hj=>by cases hj)) (hno 12)
  have hd2:d2=true:=by cases hx:d2 with | true=>rfl | false=>exact absurd (jW [12,14,11] ZbY ZbY Zch (fun j hj=>by simp only [Kt,Ku,or_false] at hj; rcases hj with rfl | rfl | rfl <;> first | rfl | simp [hb2,hd1])) (hno 15)
  have he:e=true:=by cases hx:e with | true=>rfl | false=>exact absurd (jW [1,3,7,11,15] ZbY ZbY Zch (fun j hj=>by simp only [Kt,Ku,or_false] at hj; rcases hj with rfl | rfl | rfl | rfl | rfl <;> first | rfl | simp [hd0,hd1,hd2])) (hno 16)
  have hb3:b3=true:=by cases hx:b3 with | true=>rfl | false=>exact absurd (jW [] ZbY ZbY Zch (fun j hj=>by cases hj)) (hno 17)
  have hd3:d3=true:=by cases hx:d3 with | true=>rfl | false=>exact absurd (jW [17,16,15,0,1,2,3,4,5,6,7,8,9,10,11,12,13,14,15,16,17] ZbY ZbY Zch (fun j hj=>by simp only [Kt,Ku,or_false] at hj; rcases hj with rfl | rfl | rfl | rfl | rfl | rfl | rfl | rfl | rfl | rfl | rfl | rfl | rfl | rfl | rfl | rfl | rfl | rfl | rfl | rfl | rfl <;> first | rfl | simp [hb0,hd0,hb1,hd1,hb2,hd2,he,hb3])) (hno 18)
  subst hb0 hd0 hb1 hd1 hb2 hd2 he hb3 hd3;have HI:bN (fI p w w1 true true true true true true true true true g0 g1 g2 o a0 a1 a2 c0 c1 c2):=hC;clear hC hno h0;simp only [CY,cond_true];have HLS:bN (cL p w w1 o ⟨p.id,p.next,[],n_,0,p.aj,a0,c0,p.L9,a1,c1,p.ag,a2,c2,[],n_,0,[],n_,0⟩):=cL.start HI.I;clear HI HC HS bE;obtain ⟨qE,hi',GQ⟩:=Kw.1 nb;simp only [Kx] at GQ;have HI:bN (Tryz.prog.info? 125=o_ qE/\qE.zero=o_ _/\qE.size=12/\qE.bytes=128):=⟨hi',GQ⟩
  clear hi' GQ;have hpProc:p.L8.length<=1048576:=HF.I.1.short.L8;go_wp2_with fail
  go_loopw [4] (fun i wr=> ∃ k:Nat,k<=p.L8.length/\i=i_ j_ k/\bN (∃ q,cL p w wr o q/\q.pure= { p.pure with L8:=p.pure.L8.take k,ae:= [],ai:= [] })) (fun i _=>p.L8.length - (Go.RowKit.intOf i).toNat)
  case atStart=>exact ⟨0,Ky _,rfl,⟨_,HLS.I,rfl⟩⟩
  case round=>
   obtain ⟨k,hk,rfl,HA⟩:=hrel;obtain ⟨q,hL,hq⟩:=HA.I;have HL:bN (cL p w wr o q/\(q.pure= { p.pure with L8:=p.pure.L8.take k,ae:= [],ai:= [] })/\q.L8.length=k):=⟨hL,hq,IV hq hk⟩
   clear HA hL hq;have mp:wr.cell? ⟨w.heap.size,2,n_⟩=o_ (s_ p.aN p.L8.length p.aW):=by obtain ⟨m0,m1,m2,m3,m4,m5,m6,m7⟩:=HL.I.1.part.cells; exact m2
   by_cases hlt:k < p.L8.length
   .have i0:(0:Int)<=(k:Int):=zw
    have i1:(k:Int) < (p.L8.length:Int):=zw
    obtain ⟨x,hx⟩: ∃ x,p.L8[k]? =o_ x:=⟨_,Kz hlt⟩
    have hAt:=HF.I.2.below HL.I.1.cd;obtain ⟨gs,ha,hat⟩:=cn hAt.1 hx;rw [ha] at mp;obtain ⟨d0,d1,d2,d3,d4,d5,d6,d7,d8,d9,tH,tS⟩:=hat;have HX:bN (p.L8[k]? =o_ x/\Row wr x.aY (fk.flat x.prog)/\x.prog.length<=1048576):=⟨hx,hAt.1.2 x (KA hx) (x.aY,fk.flat x.prog) (KB.2 rfl),(HFS.I x (KA hx)).prog⟩
    clear hx ha hAt;have hb2:B_ wr.heap.size wr ((wr.alloc (c_ x.row 125)).alloc (c_ #[] 217)):=((Kp _ _).alloc (Ki _) _).alloc zy _;obtain ⟨a2,c2,w7,hap,how,Fw,nW⟩:=Gg ((wr.alloc (c_ x.row 125)).alloc (c_ #[] 217)) wr.heap.size (wr.heap.size+1) (Kq _ _ _) zw x.aY x.prog x.bH (HX.I.2.1.below hb2) HX.I.2.2 ZbZ;have DO:=(Fw.block wr.heap.size ZbZ (fun e=>by have:=KC e; omega)).trans ((PU zy).trans (Kj wr _));have gh:B_ wr.heap.size wr w7:=hb2.grown Fw ZbZ (fun k hk=>by cases hk; omega);have DR:bN (vt wr w7 x a2 c2):=⟨DO,gh,how,fun g hg=>by have h5:=nW g hg; simp at h5; exact h5⟩
    have z0:w7.frozen? ⟨wr.heap.size,2,n_⟩=false:=Ko _ _ _ _ _ DO;have z1:w7.cell? ⟨wr.heap.size,2,n_⟩=o_ (s_ x.aY x.prog.length x.bH):=by simp [World.cell?,DO]
    clear hb2 how Fw nW DO gh;obtain ⟨co,e0,e1,e2,e3,e4,e5,e6,e7,e8,e9,Pn,e11⟩:=HL.I.1.ago DR.I rfl;have hkl:q.L8.length<=1048576:=by have:=HL.I.2.2; have:=HF.I.1.short.L8; omega
    have hsz:w.heap.size+2<=w7.heap.size:=by have h5:=DR.I.2.1.size; have h6:=HL.I.1.low; have h7:o < wr.heap.size:=(J2.1 HL.I.1.I).1; omega
    have Jr:bN (_):=HL.I.1.IH DR.I rfl rfl;go_wp2_with (at_builtin; first | (refine br _ rfl _ _ 123 rfl _ _ _ _ rfl rfl hap ?_; clear hap) | (refine KD _ rfl _ _ 39 rfl (w.heap.size+2) 125 qE _ 12 128 underlying39 HI.I.1 HI.I.2.1 HI.I.2.2.1 HI.I.2.2.2 rfl (by decide) (s_ q.aN q.L8.length q.aW) q.L8.length (bg.flat q.L8) rfl Jr.I.1 ⟨w7.heap.size,0,n_⟩ 1 1 (bg.vals ({ x with aY:=a2,bH:=c2 } :ao)) (by rfl) rfl (KE (cs:= #[i_ j_ x.id,i_ j_ x.RX,s_ a2 x.prog.length c2,i_ j_ x.Md,i_ j_ x.pc,i_ j_ x.left,i_ j_ x.Mg,i_ j_ x.on,t_ x.held,t_ x.got,i_ j_ x.code,i_ j_ x.RU]) (t:=125) (fr:=(0,0)) Jr.I.2) (by simp [bg,qN,Value.oneCell']) Zb9 zw ZbZ ?_; intro v5 pH oM oq zR sM; obtain ⟨a5,c5,rfl,-⟩:=cr oM; have HN:bN (cL p w (pH.setCell ⟨o,2,n_⟩ (s_ a5 (q.L8.length+1) c5)) o ({ q with L8:=q.L8 ++ [({ x with aY:=a2,bH:=c2 } :ao)],aN:=a5,aW:=c5 } :af)/\pH.cell? ⟨o,2,n_⟩=o_ (s_ q.aN q.L8.length q.aW)/\pH.frozen? ⟨o,2,n_⟩=false):=HL.I.1.G5 DR.I rfl rfl oM oq sM; have VY:=HN.I.2.1; have VP:=HN.I.2.2; clear oM oq zR sM));go_roundw
    case rel=>exact ⟨k+1,zw,by go_num,⟨_,HN.I.1,cL.upProc HL.I.2.1 HX.I.1⟩⟩
    case measure=>simp [Go.RowKit.intOf]; omega
   .have i1: ¬ (k:Int) < (p.L8.length:Int):=zw
    have HE:bN (∃ q,cL p w wr o q/\q.pure= { p.pure with ae:= [],ai:= [] }):=by
     have h5:=HL.I.2.1;rw [KF (by show (p.L8.map _).length<=k; rw [KG]; omega)] at h5;exact ⟨q,HL.I.1,h5⟩
    clear HL
    rename w_=>W2
    obtain ⟨qE,hi',GQ⟩:=Kw.1 kh;simp only [Kx] at GQ;have HI:bN (Tryz.prog.info? 137=o_ qE/\qE.zero=o_ _/\qE.size=3/\qE.bytes=40):=⟨hi',GQ⟩
    clear hi' GQ;have hpBuffer:p.ae.length<=1048576:=HF.I.1.short.ae;go_wp2_with fail;clear mp
    go_loopw [6] (fun i wr=> ∃ k:Nat,k<=p.ae.length/\i=i_ j_ k/\bN (∃ q,cL p w wr o q/\q.pure= { p.pure with ae:=p.pure.ae.take k,ai:= [] })) (fun i _=>p.ae.length - (Go.RowKit.intOf i).toNat)
    case atStart=>exact ⟨0,Ky _,rfl,by obtain ⟨q,h1,h2⟩:=HE.I; exact ⟨q,h1,h2.trans zy⟩⟩
    case round=>
     obtain ⟨k,hk,rfl,HA⟩:=hrel;obtain ⟨q,hL,hq⟩:=HA.I;have HL:bN (cL p w wr o q/\(q.pure= { p.pure with ae:=p.pure.ae.take k,ai:= [] })/\q.ae.length=k):=⟨hL,hq,Fs hq hk⟩
     clear HA hL hq;have mp:wr.cell? ⟨w.heap.size,6,n_⟩=o_ (s_ p.am p.ae.length p.aG):=by obtain ⟨m0,m1,m2,m3,m4,m5,m6,m7⟩:=HL.I.1.part.cells; exact m6
     by_cases hlt:k < p.ae.length
     .have i0:(0:Int)<=(k:Int):=zw
      have i1:(k:Int) < (p.ae.length:Int):=zw
      obtain ⟨x,hx⟩: ∃ x,p.ae[k]? =o_ x:=⟨_,Kz hlt⟩
      have hAt:=HF.I.2.below HL.I.1.cd;obtain ⟨gs,ha,hat⟩:=iA hAt.2.2.2.2.1 hx;rw [ha] at mp;obtain ⟨d0,d1,d2⟩:=hat;have HX:bN (p.ae[k]? =o_ x/\Row wr x.ak (bT.flat x.Ma)/\x.Ma.length<=1048576):=⟨hx,hAt.2.2.2.2.1.2 x (KA hx) (x.ak,bT.flat x.Ma) (KB.2 rfl),(HF.I.1.ae x (KA hx)).1⟩
      clear hx ha hAt;have hb2:B_ wr.heap.size wr ((wr.alloc (c_ #[i_ j_ x.id,i_ j_ x.max,s_ x.ak x.Ma.length x.aq] 137)).alloc (c_ #[] 9)):=((Kp _ _).alloc (Ki _) _).alloc zy _;obtain ⟨a2,c2,w7,hap,how,Fw,nW⟩:=tO ((wr.alloc (c_ #[i_ j_ x.id,i_ j_ x.max,s_ x.ak x.Ma.length x.aq] 137)).alloc (c_ #[] 9)) wr.heap.size (wr.heap.size+1) (Kq _ _ _) zw x.ak x.Ma x.aq (HX.I.2.1.below hb2) HX.I.2.2 ZbZ;have DO:=(Fw.block wr.heap.size ZbZ (fun e=>by have:=KC e; omega)).trans ((PU zy).trans (Kj wr _));have gh:B_ wr.heap.size wr w7:=hb2.grown Fw ZbZ (fun k hk=>by cases hk; omega);have DR:bN (o9 wr w7 x a2 c2):=⟨DO,gh,how,fun g hg=>by have h5:=nW g hg; simp at h5; exact h5⟩
      have z0:w7.frozen? ⟨wr.heap.size,2,n_⟩=false:=Ko _ _ _ _ _ DO;have z1:w7.cell? ⟨wr.heap.size,2,n_⟩=o_ (s_ x.ak x.Ma.length x.aq):=by simp [World.cell?,DO]
      clear hb2 how Fw nW DO gh;obtain ⟨co,e0,e1,e2⟩:=HL.I.1.F9 DR.I rfl;have hkl:q.ae.length<=1048576:=by have:=HL.I.2.2; have:=HF.I.1.short.ae; omega
      have hsz:w.heap.size+2<=w7.heap.size:=by have h5:=DR.I.2.1.size; have h6:=HL.I.1.low; have h7:o < wr.heap.size:=(J2.1 HL.I.1.I).1; omega
      have Jr:bN (_):=HL.I.1.Fl DR.I rfl rfl;go_wp2_with (at_builtin; first | (refine br _ rfl _ _ 49 rfl _ _ _ _ rfl rfl hap ?_; clear hap) | (refine KD _ rfl _ _ 43 rfl (w.heap.size+2) 137 qE _ 3 40 underlying43 HI.I.1 HI.I.2.1 HI.I.2.2.1 HI.I.2.2.2 rfl (by decide) (s_ q.am q.ae.length q.aG) q.ae.length (bm.flat q.ae) rfl Jr.I.1 ⟨w7.heap.size,0,n_⟩ 1 1 (bm.vals ({ x with ak:=a2,aq:=c2 } :au)) (by rfl) rfl (KE (cs:= #[i_ j_ x.id,i_ j_ x.max,s_ a2 x.Ma.length c2]) (t:=137) (fr:=(0,0)) Jr.I.2) (by simp [bm,nD,Value.oneCell']) Zb9 zw ZbZ ?_; intro v5 pH oM oq zR sM; obtain ⟨a5,c5,rfl,-⟩:=cr oM; have HN:bN (cL p w (pH.setCell ⟨o,6,n_⟩ (s_ a5 (q.ae.length+1) c5)) o ({ q with ae:=q.ae ++ [({ x with ak:=a2,aq:=c2 } :au)],am:=a5,aG:=c5 } :af)/\pH.cell? ⟨o,6,n_⟩=o_ (s_ q.am q.ae.length q.aG)/\pH.frozen? ⟨o,6,n_⟩=false):=HL.I.1.Do DR.I rfl rfl oM oq sM; have VY:=HN.I.2.1; have VP:=HN.I.2.2; clear oM oq zR sM));go_roundw
      case rel=>exact ⟨k+1,zw,by go_num,⟨_,HN.I.1,cL.FY HL.I.2.1 HX.I.1⟩⟩
      case measure=>simp [Go.RowKit.intOf]; omega
     .have i1: ¬ (k:Int) < (p.ae.length:Int):=zw
      have HE:bN (∃ q,cL p w wr o q/\q.pure= { p.pure with ai:= [] }):=by
       have h5:=HL.I.2.1;rw [KF (by show (p.ae.map _).length<=k; rw [KG]; omega)] at h5;exact ⟨q,HL.I.1,h5⟩
      clear HL
      rename w_=>W3
      obtain ⟨qE,hi',GQ⟩:=Kw.1 na;simp only [Kx] at GQ;have HI:bN (Tryz.prog.info? 51=o_ qE/\qE.zero=o_ _/\qE.size=5/\qE.bytes=48):=⟨hi',GQ⟩
      clear hi' GQ;have hpPort:p.ai.length<=1048576:=HF.I.1.short.ai;go_wp2_with fail;clear mp
      go_loopw [8] (fun i wr=> ∃ k:Nat,k<=p.ai.length/\i=i_ j_ k/\bN (∃ q,cL p w wr o q/\q.pure= { p.pure with ai:=p.pure.ai.take k })) (fun i _=>p.ai.length - (Go.RowKit.intOf i).toNat)
      case atStart=>exact ⟨0,Ky _,rfl,by obtain ⟨q,h1,h2⟩:=HE.I; exact ⟨q,h1,h2.trans zy⟩⟩
      case round=>
       obtain ⟨k,hk,rfl,HA⟩:=hrel;obtain ⟨q,hL,hq⟩:=HA.I;have HL:bN (cL p w wr o q/\(q.pure= { p.pure with ai:=p.pure.ai.take k })/\q.ai.length=k):=⟨hL,hq,I0 hq hk⟩
       clear HA hL hq;have mp:wr.cell? ⟨w.heap.size,7,n_⟩=o_ (s_ p.aK p.ai.length p.aV):=by obtain ⟨m0,m1,m2,m3,m4,m5,m6,m7⟩:=HL.I.1.part.cells; exact m7
       by_cases hlt:k < p.ai.length
       .have i0:(0:Int)<=(k:Int):=zw
        have i1:(k:Int) < (p.ai.length:Int):=zw
        obtain ⟨x,hx⟩: ∃ x,p.ai[k]? =o_ x:=⟨_,Kz hlt⟩
        have hAt:=HF.I.2.below HL.I.1.cd;obtain ⟨gs,ha,hat⟩:=lm hAt.2.2.2.2.2 hx;rw [ha] at mp;obtain ⟨d0,d1,d2,d3,d4⟩:=hat;have HX:bN (p.ai[k]? =o_ x/\Row wr x.ak (bT.flat x.Ma)/\x.Ma.length<=1048576):=⟨hx,hAt.2.2.2.2.2.2 x (KA hx) (x.ak,bT.flat x.Ma) (KB.2 rfl),(HF.I.1.ai x (KA hx)).1⟩
        clear hx ha hAt;have hb2:B_ wr.heap.size wr ((wr.alloc (c_ #[i_ j_ x.id,b_ x.I,b_ x.Mf,i_ j_ x.max,s_ x.ak x.Ma.length x.aq] 51)).alloc (c_ #[] 9)):=((Kp _ _).alloc (Ki _) _).alloc zy _;obtain ⟨a2,c2,w7,hap,how,Fw,nW⟩:=tO ((wr.alloc (c_ #[i_ j_ x.id,b_ x.I,b_ x.Mf,i_ j_ x.max,s_ x.ak x.Ma.length x.aq] 51)).alloc (c_ #[] 9)) wr.heap.size (wr.heap.size+1) (Kq _ _ _) zw x.ak x.Ma x.aq (HX.I.2.1.below hb2) HX.I.2.2 ZbZ;have DO:=(Fw.block wr.heap.size ZbZ (fun e=>by have:=KC e; omega)).trans ((PU zy).trans (Kj wr _));have gh:B_ wr.heap.size wr w7:=hb2.grown Fw ZbZ (fun k hk=>by cases hk; omega);have DR:bN (uT wr w7 x a2 c2):=⟨DO,gh,how,fun g hg=>by have h5:=nW g hg; simp at h5; exact h5⟩
        have z0:w7.frozen? ⟨wr.heap.size,4,n_⟩=false:=Ko _ _ _ _ _ DO;have z1:w7.cell? ⟨wr.heap.size,4,n_⟩=o_ (s_ x.ak x.Ma.length x.aq):=by simp [World.cell?,DO]
        clear hb2 how Fw nW DO gh;obtain ⟨co,e0,e1,e2,e3,e4⟩:=HL.I.1.agV DR.I rfl;have hkl:q.ai.length<=1048576:=by have:=HL.I.2.2; have:=HF.I.1.short.ai; omega
        have hsz:w.heap.size+2<=w7.heap.size:=by have h5:=DR.I.2.1.size; have h6:=HL.I.1.low; have h7:o < wr.heap.size:=(J2.1 HL.I.1.I).1; omega
        have Jr:bN (_):=HL.I.1.I4 DR.I rfl rfl;go_wp2_with (at_builtin; first | (refine br _ rfl _ _ 49 rfl _ _ _ _ rfl rfl hap ?_; clear hap) | (refine KD _ rfl _ _ 44 rfl (w.heap.size+2) 51 qE _ 5 48 underlying44 HI.I.1 HI.I.2.1 HI.I.2.2.1 HI.I.2.2.2 rfl (by decide) (s_ q.aK q.ai.length q.aV) q.ai.length (bX.flat q.ai) rfl Jr.I.1 ⟨w7.heap.size,0,n_⟩ 1 1 (bX.vals ({ x with ak:=a2,aq:=c2 } :aM)) (by rfl) rfl (KE (cs:= #[i_ j_ x.id,b_ x.I,b_ x.Mf,i_ j_ x.max,s_ a2 x.Ma.length c2]) (t:=51) (fr:=(0,0)) Jr.I.2) (by simp [bX,qT,Value.oneCell']) Zb9 zw ZbZ ?_; intro v5 pH oM oq zR sM; obtain ⟨a5,c5,rfl,-⟩:=cr oM; have HN:bN (cL p w (pH.setCell ⟨o,7,n_⟩ (s_ a5 (q.ai.length+1) c5)) o ({ q with ai:=q.ai ++ [({ x with ak:=a2,aq:=c2 } :aM)],aK:=a5,aV:=c5 } :af)/\pH.cell? ⟨o,7,n_⟩=o_ (s_ q.aK q.ai.length q.aV)/\pH.frozen? ⟨o,7,n_⟩=false):=HL.I.1.Gi DR.I rfl rfl oM oq sM; have VY:=HN.I.2.1; have VP:=HN.I.2.2; clear oM oq zR sM));go_roundw
        case rel=>exact ⟨k+1,zw,by go_num,⟨_,HN.I.1,cL.upPort HL.I.2.1 HX.I.1⟩⟩
        case measure=>simp [Go.RowKit.intOf]; omega
       .have i1: ¬ (k:Int) < (p.ai.length:Int):=zw
        have HE:bN (∃ q,cL p w wr o q/\q.pure=p.pure):=by
         have h5:=HL.I.2.1;rw [KF (by show (p.ai.map _).length<=k; rw [KG]; omega)] at h5;exact ⟨q,HL.I.1,h5⟩
        clear HL;obtain ⟨q,hL,hq⟩:=HE.I;have HZ:bN (cL p w wr o q/\q.pure=p.pure):=⟨hL,hq⟩
        obtain ⟨m0,m1,m2,m3,m4,m5,m6,m7⟩:=hL.I.cells;clear hL hq HE
        repeat (first | (go_big_may; refine ec _ _ q.row HZ.I.1.ret ?_) | go_values | go_skip | go_guarded | go_step | go_upon | go_back)
        repeat (first | go_values | go_skip | go_guarded | go_step | go_upon)
        refine gZ results44 HZ.I.1.ret ?_;have hne: ∀ g∈q.Mc,g≠w.heap.size+1:=fun g hg e=>by have:=(HZ.I.1.own.lt g hg).1; omega
        exact ⟨q,rfl,(HZ.I.1.own.lower zw).same fun g hg=>KH _ _ _ _ (hne g hg),HZ.I.2,kz HZ.I.1.cd zw _⟩
end
section
open Go.RowKit Go.Maps
attribute [local go_sem ↓] Kc Kd
def nK (id:Int): ∀ (l:List aD) (k:Nat),(place (l.map (·.id)) id k= -1/\l.find? (fun x=>decide (x.id=id))=n_)\/ ∃ n x,place (l.map (·.id)) id k=((k+n:Nat):Int)/\l[n]? =o_ x/\l.find? (fun x=>decide (x.id=id))=o_ x
 | [],k=> .inl ⟨rfl,rfl⟩
 | x :: r,k=>by
  by_cases h:x.id=id
  .refine .inr ⟨0,x,?_,rfl,by simp [h]⟩
   simp [place,h]
  .rcases nK id r (k+1) with ⟨h1,h2⟩ | ⟨n,y,h1,h2,h3⟩
   .exact Za8
   .refine .inr ⟨n+1,y,?_,h2,by simp only [LL,h,decide_false]; exact h3⟩
    simp only [Lt,place];rw [if_neg h,h1];omega
end
end Go.Proofs.YtckenjkcmajicaaGreat
