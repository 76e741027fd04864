/- What the proof leans on, part 6. -/
import Derived.Test.YteidkehoekbcaaaGreatOwnC4
import Derived.Test.YteidkehoekbcaaaGreatOwnC5
set_option maxRecDepth 100000
set_option maxHeartbeats 8000000
open Array renaming getElem?_eq_some_iff->J2
open Function renaming comp_def->Ls
open Go renaming bodyPost_ret->KT,frozen_of_row->Ko,heap_alloc2_new->Kq,heap_alloc_new->Kj,setRow_other->KH,wpAnyH_done->K3,wpList_append_own_at->KD,wp_at_succ->Kd,wp_at_zero->Kc,wp_region_held_drew->Kr
open Go.Deep renaming blk_setCell_other->ac5
open Go.Proofs.Tryz renaming prog->J3
open Go.RowKit.Below renaming heap_alloc->adD,heap_setCell->K6,refl->Kp
open Go.World renaming news_of_block->KE,ownsRow_nil->Ke
open List renaming getElem?_eq_getElem->Kz,getElem?_map->Kk,getElem_cons_succ->K1,getElem_cons_zero->K0,getElem_toArray->KZ,length_map->KG,map_append->Kl,mem_append->Kg,mem_cons->Kt,mem_map->Lr,mem_of_getElem?->KA,mem_singleton->KB,nodup_append->Kf,nodup_cons->Lp,not_mem_nil->Ku,setIfInBounds_toArray->Qr,set_cons_succ->Lo,set_cons_zero->Ln,take_of_length_le->KF
open Nat renaming le_refl->Ki,lt_of_lt_of_le->Kn,zero_add->Li,zero_le->Ky
open Option renaming map_eq_some_iff->Kw
open Option.some renaming inj->KC
open Prod.mk renaming injEq->Kx

namespace Go.Proofs.YteidkehoekbcaaaGreat
section
open Go.RowKit
attribute [local go_sem ↓] Kc Kd
def CY (p:af) (B:Nat) (b0 d0 b1 d1 b2 d2 b3 e:Bool) (g0 g1 g2 o:Nat) (a0 a1 a2:Option Addr) (c0 c1 c2:Nat):Act:=⟨#[.agg #[.int .i64 p.id,.int .i64 p.next,.slice p.aN p.L8.length p.aW,.slice p.bc p.aj.length p.bF,.slice p.ay p.L9.length p.aO,.slice p.ax p.ag.length p.aP,.slice p.am p.ae.length p.aG,.slice p.aK p.ai.length p.aV],.pointer (some ⟨B,0,none⟩),.pointer (some ⟨(B+1),0,none⟩),bif b3 then .pointer (some ⟨o,0,none⟩) else undef,undef,undef,undef,undef,undef,undef,.pointer (some ⟨B,0,none⟩),.int .i64 p.id,.pointer (some ⟨B,1,none⟩),.int .i64 p.next,bif b0 then .slice (some ⟨g0,0,none⟩) 0 0 else undef,.pointer (some ⟨B,3,none⟩),.slice p.bc p.aj.length p.bF,bif d0 then .slice a0 p.aj.length c0 else undef,bif b1 then .slice (some ⟨g1,0,none⟩) 0 0 else undef,.pointer (some ⟨B,4,none⟩),.slice p.ay p.L9.length p.aO,bif d1 then .slice a1 p.L9.length c1 else undef,bif b2 then .slice (some ⟨g2,0,none⟩) 0 0 else undef,.pointer (some ⟨B,5,none⟩),.slice p.ax p.ag.length p.aP,bif d2 then .slice a2 p.ag.length c2 else undef,bif e then .agg #[.int .i64 p.id,.int .i64 p.next,.slice none 0 0,.slice a0 p.aj.length c0,.slice a1 p.L9.length c1,.slice a2 p.ag.length c2,.slice none 0 0,.slice none 0 0] else undef,undef,undef,undef,undef,undef,undef,undef,undef,undef,undef,undef,undef,undef,undef,undef,undef,undef,undef,undef,undef,undef,undef,undef,undef,undef,undef,undef,undef,undef,undef,undef,undef,undef,undef,undef,undef,undef,undef,undef,undef,undef,undef,undef,undef,undef,undef,undef,undef,undef,undef,undef,undef,undef,undef,undef,undef,undef,undef,undef,undef,undef,undef,undef,undef,undef,undef,undef,undef,undef,undef],[]⟩
def IP (p:af) (We:World) (l:Array Bool) (a:Act) (w:World):Prop:= ∃ (b0 d0 b1 d1 b2 d2 b3 d3 e:Bool) (g0 g1 g2 o:Nat) (a0 a1 a2:Option Addr) (c0 c1 c2:Nat),l= #[true,true,true,true,b0,true,true,d0,b1,true,true,d1,b2,true,true,d2,e,b3,d3] ∧a=CY p We.heap.size b0 d0 b1 d1 b2 d2 b3 e g0 g1 g2 o a0 a1 a2 c0 c1 c2∧fI p We w b0 d0 b1 d1 b2 d2 b3 d3 e g0 g1 g2 o a0 a1 a2 c0 c1 c2
abbrev pcA (x:ao) (a2:Option Addr) (c2:Nat):Array Value:= #[.int .i64 x.id,.int .i64 x.RX,.slice a2 x.prog.length c2,.int .i64 x.Md,.int .i64 x.pc,.int .i64 x.left,.int .i64 x.Mg,.int .i64 x.on,.string x.held,.string x.got,.int .i64 x.code,.int .i64 x.RU]
abbrev pcB (x:aM) (a2:Option Addr) (c2:Nat):Array Value:= #[.int .i64 x.id,.bool x.I,.bool x.Mf,.int .i64 x.max,.slice a2 x.Ma.length c2]
structure cL (p:af) (We w:World) (o:Nat) (q:af):Prop where
 cd:Below We.heap.size We w
 part:av w We.heap.size p
 ret:w.heap[We.heap.size+1]? =some (.cells ar 48 (0,0))
 I:av w o q
 own:ap w (We.heap.size+2) q
 low:We.heap.size+2≤o
 free:o∉q.Mc
theorem cL.below {p:af} {We w w':World} {o:Nat} {q:af} (h:cL p We w o q) (hb:Below w.heap.size w w'):cL p We w' o q:=
 ⟨h.cd.trans (hb.mono h.cd.size),h.part.below hb,(hb.block _ (J2.1 h.ret).1).trans h.ret,h.I.below hb,h.own.below hb,h.low,h.free⟩
theorem cL.start {p:af} {We w:World} {g0 g1 g2 o:Nat} {a0 a1 a2:Option Addr} {c0 c1 c2:Nat} (h:fI p We w true true true true true true true true true g0 g1 g2 o a0 a1 a2 c0 c1 c2):
  cL p We w o ⟨p.id,p.next,[],none,0,p.aj,a0,c0,p.L9,a1,c1,p.ag,a2,c2,[],none,0,[],none,0⟩:=by
 have hap:=h.pR.apart;refine ⟨h.cd,h.part,h.ret,h.I rfl,⟨Ke _ _ _ _,h.s0.done rfl,h.s1.done rfl,h.s2.done rfl,Ke _ _ _ _,Ke _ _ _ _,(fun x hx=>by cases hx),(fun x hx=>by cases hx),(fun x hx=>by cases hx),?_⟩,(h.pR.xy 3 o (by simp [four])).1,?_⟩
 ·have e:af.Mc ⟨p.id,p.next,[],none,0,p.aj,a0,c0,p.L9,a1,c1,p.ag,a2,c2,[],none,0,[],none,0⟩=blk a0 ++ (blk a1 ++ blk a2):=by simp [af.Mc,blk]
  rw [e];simp only [Kf,Kg];refine ⟨fN _,⟨fN _,fN _,fun a ha b hb e=> ?_⟩,fun a ha b hb e=> ?_⟩
  ·subst e
   exact hap 1 2 (by decide) a (by simpa [four,bM] using ha) (by simpa [four,bM] using hb)
  ·subst e
   rcases hb with hb | hb
   ·exact hap 0 1 (by decide) a (by simpa [four,bM] using ha) (by simpa [four,bM] using hb)
   ·exact hap 0 2 (by decide) a (by simpa [four,bM] using ha) (by simpa [four,bM] using hb)
 ·have e:af.Mc ⟨p.id,p.next,[],none,0,p.aj,a0,c0,p.L9,a1,c1,p.ag,a2,c2,[],none,0,[],none,0⟩=blk a0 ++ (blk a1 ++ blk a2):=by simp [af.Mc,blk]
  rw [e];simp only [Kg];rintro (hb | hb | hb)
  ·exact hap 3 0 (by decide) o (by simp [four]) (by simpa [four,bM] using hb)
  ·exact hap 3 1 (by decide) o (by simp [four]) (by simpa [four,bM] using hb)
  ·exact hap 3 2 (by decide) o (by simp [four]) (by simpa [four,bM] using hb)
theorem di {a:Option Addr} {n c g:Nat} (h:(Value.slice a n c).ownBlock=some g):g∈blk a:=by
 cases a with
 | none=>simp [Value.ownBlock] at h
 | some ad=>simp [Value.ownBlock] at h; simp [blk,h]
theorem aH {w:World} {o i g:Nat} {v:Value} (h:g≠o):(w.setCell ⟨o,i,none⟩ v).heap[g]? =w.heap[g]? :=de [v] h
theorem cx {w:World} {o i:Nat} {v:Value} {cs:Array Value} {t:TypeId} (h:w.heap[o]? =some (.cells cs t (0,0))):(w.setCell ⟨o,i,none⟩ v).heap[o]? =some (.cells (cs.setIfInBounds i v) t (0,0)):=jc [v] h
theorem bP {B o i:Nat} {w0 w:World} {v:Value} (h:Below B w0 w) (hb:B≤o):Below B w0 (w.setCell ⟨o,i,none⟩ v):=
 ⟨h.os,h.tape,h.output,by have:=h.size; rw [show (w.setCell ⟨o,i,none⟩ v).heap.size=w.heap.size from fH [v]]; exact this,fun k hk=>(aH (by omega)).trans (h.block k hk)⟩
theorem IV {p q:af} {k:Nat} (h:q.pure= { p.pure with L8:=p.pure.L8.take k,ae:= [],ai:= [] }) (hk:k≤p.L8.length):q.L8.length=k:=by
 have h5:=congrArg (fun z=>(aE.L8 z).length) h;simp [af.pure] at h5;omega
theorem Fs {p q:af} {k:Nat} (h:q.pure= { p.pure with ae:=p.pure.ae.take k,ai:= [] }) (hk:k≤p.ae.length):q.ae.length=k:=by
 have h5:=congrArg (fun z=>(aE.ae z).length) h;simp [af.pure] at h5;omega
theorem I0 {p q:af} {k:Nat} (h:q.pure= { p.pure with ai:=p.pure.ai.take k }) (hk:k≤p.ai.length):q.ai.length=k:=by
 have h5:=congrArg (fun z=>(aE.ai z).length) h;simp [af.pure] at h5;omega
theorem cL.yg {p:af} {We w w':World} {o:Nat} {q:af} {x:ao} {a:Option Addr} {c:Nat} (h:cL p We w o q) (hm:aR.cO w (We.heap.size+2) x) (hx: ∀ g,aR.bt x=some g→g∉q.Mc∧g≠o)
  (ho:w'.ownsRow (We.heap.size+2) 148 12 (.slice a (q.L8.length+1) c) (q.L8.length+1) (bg.flat (q.L8 ++ [x]))) (hg:w.grownBy w' ((Value.slice q.aN q.L8.length q.aW).ownBlock)) (hb: ∀ g∈blk a,g∈blk q.aN∨g=w.heap.size):
  cL p We (w'.setCell ⟨o,2,none⟩ (.slice a (q.L8.length+1) c)) o ({ q with L8:=q.L8 ++ [x],aN:=a,aW:=c } :af):=by
 have p7:o < w.heap.size:=(J2.1 h.I).1;have hrow: ∀ g,g < w.heap.size→g∉blk q.aN→w'.heap[g]? =w.heap[g]? :=fun g hgl hn=>hg.block g hgl fun e=>hn (di e.symm)
 obtain ⟨hown,hbl⟩:=h.own.yg hm (fun g hk=>(hx g hk).1) ho hrow hb;have hoA:o∉blk q.aN:=fun hm'=>h.free (by simp [af.Mc,hm'])
 have hlow: ∀ g,g∈blk q.aN→We.heap.size+2≤g:=fun g hg'=>(cf h.own.L8 hg').1
 have hfree:o∉({ q with L8:=q.L8 ++ [x],aN:=a,aW:=c } :af).Mc:=fun hm'=>by
  rcases hbl o hm' with h1 | h1 | h1
  ·exact h.free h1
  ·exact (hx o h1).2 rfl
  ·omega
 have hsc: ∀ g,g≠o→(w'.setCell ⟨o,2,none⟩ (.slice a (q.L8.length+1) c)).heap[g]? =w'.heap[g]? :=fun g hne=>aH hne
 have lY:Below We.heap.size We w':=h.cd.grown hg (by have:=h.low; omega) (fun k hk=>by have:=hlow k (di hk); omega);have hout:w'.heap[o]? =w.heap[o]? :=hrow o p7 hoA;have hlo:=h.low;refine ⟨bP lY (by omega),(hsc _ (by omega)).trans ((hrow _ (by omega) fun hm'=>by have:=hlow _ hm'; omega).trans h.part),(hsc _ (by omega)).trans ((hrow _ (by omega) fun hm'=>by have:=hlow _ hm'; omega).trans h.ret),?_,hown.same fun g hg'=>hsc g fun e=>hfree (e ▸ hg'),h.low,hfree⟩;have h5:=cx (i:=2) (v:= .slice a (q.L8.length+1) c) (hout.trans h.I);have e:(q.L8 ++ [x]).length=q.L8.length+1:=by simp
 unfold av;simp only [e];exact h5
def vt (wr w7:World) (x:ao) (a2:Option Addr) (c2:Nat):Prop:=w7.heap[wr.heap.size]? =some (.cells #[.int .i64 x.id,.int .i64 x.RX,.slice x.aY x.prog.length x.bH,.int .i64 x.Md,.int .i64 x.pc,.int .i64 x.left,.int .i64 x.Mg,.int .i64 x.on,.string x.held,.string x.got,.int .i64 x.code,.int .i64 x.RU] 148 (0,0))∧Below wr.heap.size wr w7∧w7.ownsRow wr.heap.size 234 4 (.slice a2 x.prog.length c2) x.prog.length (fk.flat x.prog)∧ ∀ g∈blk a2,g=wr.heap.size+1∨g=wr.heap.size+2
section
variable {p q:af} {We wr w7 pH W8 W9:World} {o c2 c k:Nat} {x:ao} {a2 a:Option Addr}
theorem cL.inProc (h:cL p We wr o q) (h7:vt wr w7 x a2 c2) (e8:W8=w7.setCell ⟨wr.heap.size,2,none⟩ (.slice a2 x.prog.length c2)):W8.cell? ⟨o,2,none⟩=some (.slice q.aN q.L8.length q.aW)∧W8.cell? ⟨wr.heap.size,0,none⟩=some (.int .i64 x.id)∧W8.cell? ⟨wr.heap.size,1,none⟩=some (.int .i64 x.RX)∧W8.cell? ⟨wr.heap.size,2,none⟩=some (.slice a2 x.prog.length c2)∧W8.cell? ⟨wr.heap.size,3,none⟩=some (.int .i64 x.Md)∧W8.cell? ⟨wr.heap.size,4,none⟩=some (.int .i64 x.pc)∧W8.cell? ⟨wr.heap.size,5,none⟩=some (.int .i64 x.left)∧W8.cell? ⟨wr.heap.size,6,none⟩=some (.int .i64 x.Mg)∧W8.cell? ⟨wr.heap.size,7,none⟩=some (.int .i64 x.on)∧W8.cell? ⟨wr.heap.size,8,none⟩=some (.string x.held)∧W8.cell? ⟨wr.heap.size,9,none⟩=some (.string x.got)∧W8.cell? ⟨wr.heap.size,10,none⟩=some (.int .i64 x.code)∧W8.cell? ⟨wr.heap.size,11,none⟩=some (.int .i64 x.RU):=by
 subst e8;have p7:o < wr.heap.size:=(J2.1 h.I).1;have h1:=(aH (i:=2) (v:= .slice a2 x.prog.length c2) (by omega:o≠wr.heap.size)).trans (h7.2.1.block o p7);have h2:=cx (i:=2) (v:= .slice a2 x.prog.length c2) h7.1;have h3:=h1.trans h.I;refine ⟨by simp [World.cell?,h3],?_⟩;simp [World.cell?,h2]
theorem cL.Hm (h7:vt wr w7 x a2 c2) (e8:W8=w7.setCell ⟨wr.heap.size,2,none⟩ (.slice a2 x.prog.length c2)) (e9:W9=W8.alloc (.cells (pcA x a2 c2) 148)):Below wr.heap.size wr W9∧W8.heap.size=w7.heap.size:=by
 subst e8 e9;exact ⟨(bP h7.2.1 (Ki _)).alloc (bP h7.2.1 (Ki _)).size _,fH [_]⟩
theorem cL.IH (h:cL p We wr o q) (h7:vt wr w7 x a2 c2) (e8:W8=w7.setCell ⟨wr.heap.size,2,none⟩ (.slice a2 x.prog.length c2)) (e9:W9=W8.alloc (.cells (pcA x a2 c2) 148)):W9.ownsRow (We.heap.size+2) 148 12 (.slice q.aN q.L8.length q.aW) q.L8.length (bg.flat q.L8)∧W9.heap[w7.heap.size]? =some (.cells (pcA x a2 c2) 148 (0,0)):=by
 have kN:=cL.Hm h7 e8 e9;refine ⟨(h.below kN.1).own.L8,?_⟩;subst e9;have h5:=Kj W8 (.cells (pcA x a2 c2) 148)
 rwa [kN.2] at h5
theorem cL.upProc (h:q.pure= { p.pure with L8:=p.pure.L8.take k,ae:= [],ai:= [] }) (hx:p.L8[k]? =some x):({ q with L8:=q.L8 ++ [({ x with aY:=a2,bH:=c2 } :ao)],aN:=a,aW:=c } :af).pure= { p.pure with L8:=p.pure.L8.take (k+1),ae:= [],ai:= [] } :=by
 have e:p.pure.L8.take (k+1)=p.pure.L8.take k ++ [x.toaD] :=by
  rw [cj (x:=x.toaD)]
  show (p.L8.map (·.toaD))[k]? =_
  rw [Kk,hx];rfl
 rw [e];have h5:=congrArg aE.L8 h;have h6:(q.L8 ++ [({ x with aY:=a2,bH:=c2 } :ao)]).map (·.toaD)=p.pure.L8.take k ++ [x.toaD] :=by
  rw [Kl];exact congrArg (· ++ [x.toaD]) h5
 show ({ q.pure with L8:=(q.L8 ++ [({ x with aY:=a2,bH:=c2 } :ao)]).map (·.toaD) } :aE)=_
 rw [h6,h]
theorem cL.G5 (h:cL p We wr o q) (h7:vt wr w7 x a2 c2) (e8:W8=w7.setCell ⟨wr.heap.size,2,none⟩ (.slice a2 x.prog.length c2)) (e9:W9=W8.alloc (.cells (pcA x a2 c2) 148))
  (ho:pH.ownsRow (We.heap.size+2) 148 12 (.slice a (q.L8.length+1) c) (q.L8.length+1) (bg.flat q.L8 ++ bg.vals ({ x with aY:=a2,bH:=c2 } :ao))) (hg:W9.grownBy pH ((Value.slice q.aN q.L8.length q.aW).ownBlock))
  (hb:(Value.slice a (q.L8.length+1) c).ownBlock=(Value.slice q.aN q.L8.length q.aW).ownBlock∨(Value.slice a (q.L8.length+1) c).ownBlock=some W9.heap.size):
  cL p We (pH.setCell ⟨o,2,none⟩ (.slice a (q.L8.length+1) c)) o ({ q with L8:=q.L8 ++ [({ x with aY:=a2,bH:=c2 } :ao)],aN:=a,aW:=c } :af)∧pH.cell? ⟨o,2,none⟩=some (.slice q.aN q.L8.length q.aW)∧pH.frozen? ⟨o,2,none⟩=false:=by
 have p7:o < wr.heap.size:=(J2.1 h.I).1;obtain ⟨kN,hs8⟩:=cL.Hm h7 e8 e9;have h9:=h.below kN;have hlow:=h.low;have hm:aR.cO W9 (We.heap.size+2) ({ x with aY:=a2,bH:=c2 } :ao):=by
  refine cq (base:=wr.heap.size) ?_ (by omega);refine aL h7.2.2.1 fun g hg'=> ?_
  have h5:=h7.2.2.2 g hg';have h6:=cf h7.2.2.1 hg';subst e9;refine (PU (by omega)).trans ?_;subst e8;exact aH (by omega)
 have hx: ∀ g,aR.bt ({ x with aY:=a2,bH:=c2 } :ao)=some g→g∉q.Mc∧g≠o:=fun g hk=>by
  have h5:=h7.2.2.2 g (fZ.2 hk);refine ⟨fun hm'=> ?_,by omega⟩
  have:=(h.own.lt g hm').2
  omega
 have hn: ∀ g∈blk a,g∈blk q.aN∨g=W9.heap.size:=fun g hg'=>by
  cases a with
  | none=>simp [blk] at hg'
  | some ad=>
   simp [blk] at hg';subst hg';rcases hb with hb | hb
   ·exact .inl (di hb.symm)
   ·exact .inr (by simpa [Value.ownBlock] using hb)
 have hL:=h9.yg hm hx (by rw [bg.dc]; exact ho) hg hn;have xj:pH.heap[o]? =W9.heap[o]? :=hg.block o (Kn p7 kN.size) fun e=>h.free (by
  have:=di e.symm
  simp [af.Mc,this])
 have lV:=xj.trans h9.I;exact ⟨hL,by simp [World.cell?,lV],Ko _ _ _ _ _ lV⟩
end
theorem cL.sD {p:af} {We w w':World} {o:Nat} {q:af} {x:au} {a:Option Addr} {c:Nat} (h:cL p We w o q) (hm:aC.cO w (We.heap.size+2) x) (hx: ∀ g,aC.bt x=some g→g∉q.Mc∧g≠o)
  (ho:w'.ownsRow (We.heap.size+2) 160 3 (.slice a (q.ae.length+1) c) (q.ae.length+1) (bm.flat (q.ae ++ [x]))) (hg:w.grownBy w' ((Value.slice q.am q.ae.length q.aG).ownBlock)) (hb: ∀ g∈blk a,g∈blk q.am∨g=w.heap.size):
  cL p We (w'.setCell ⟨o,6,none⟩ (.slice a (q.ae.length+1) c)) o ({ q with ae:=q.ae ++ [x],am:=a,aG:=c } :af):=by
 have p7:o < w.heap.size:=(J2.1 h.I).1;have hrow: ∀ g,g < w.heap.size→g∉blk q.am→w'.heap[g]? =w.heap[g]? :=fun g hgl hn=>hg.block g hgl fun e=>hn (di e.symm)
 obtain ⟨hown,hbl⟩:=h.own.sD hm (fun g hk=>(hx g hk).1) ho hrow hb;have hoA:o∉blk q.am:=fun hm'=>h.free (by simp [af.Mc,hm'])
 have hlow: ∀ g,g∈blk q.am→We.heap.size+2≤g:=fun g hg'=>(cf h.own.ae hg').1
 have hfree:o∉({ q with ae:=q.ae ++ [x],am:=a,aG:=c } :af).Mc:=fun hm'=>by
  rcases hbl o hm' with h1 | h1 | h1
  ·exact h.free h1
  ·exact (hx o h1).2 rfl
  ·omega
 have hsc: ∀ g,g≠o→(w'.setCell ⟨o,6,none⟩ (.slice a (q.ae.length+1) c)).heap[g]? =w'.heap[g]? :=fun g hne=>aH hne
 have lY:Below We.heap.size We w':=h.cd.grown hg (by have:=h.low; omega) (fun k hk=>by have:=hlow k (di hk); omega);have hout:w'.heap[o]? =w.heap[o]? :=hrow o p7 hoA;have hlo:=h.low;refine ⟨bP lY (by omega),(hsc _ (by omega)).trans ((hrow _ (by omega) fun hm'=>by have:=hlow _ hm'; omega).trans h.part),(hsc _ (by omega)).trans ((hrow _ (by omega) fun hm'=>by have:=hlow _ hm'; omega).trans h.ret),?_,hown.same fun g hg'=>hsc g fun e=>hfree (e ▸ hg'),h.low,hfree⟩;have h5:=cx (i:=6) (v:= .slice a (q.ae.length+1) c) (hout.trans h.I);have e:(q.ae ++ [x]).length=q.ae.length+1:=by simp
 unfold av;simp only [e];exact h5
def o9 (wr w7:World) (x:au) (a2:Option Addr) (c2:Nat):Prop:=w7.heap[wr.heap.size]? =some (.cells #[.int .i64 x.id,.int .i64 x.max,.slice x.ak x.Ma.length x.aq] 160 (0,0))∧Below wr.heap.size wr w7∧w7.ownsRow wr.heap.size 9 1 (.slice a2 x.Ma.length c2) x.Ma.length (bT.flat x.Ma)∧ ∀ g∈blk a2,g=wr.heap.size+1∨g=wr.heap.size+2
section
variable {p q:af} {We wr w7 pH W8 W9:World} {o c2 c k:Nat} {x:au} {a2 a:Option Addr}
theorem cL.F9 (h:cL p We wr o q) (h7:o9 wr w7 x a2 c2) (e8:W8=w7.setCell ⟨wr.heap.size,2,none⟩ (.slice a2 x.Ma.length c2)):W8.cell? ⟨o,6,none⟩=some (.slice q.am q.ae.length q.aG)∧W8.cell? ⟨wr.heap.size,0,none⟩=some (.int .i64 x.id)∧W8.cell? ⟨wr.heap.size,1,none⟩=some (.int .i64 x.max)∧W8.cell? ⟨wr.heap.size,2,none⟩=some (.slice a2 x.Ma.length c2):=by
 subst e8;have p7:o < wr.heap.size:=(J2.1 h.I).1;have h1:=(aH (i:=2) (v:= .slice a2 x.Ma.length c2) (by omega:o≠wr.heap.size)).trans (h7.2.1.block o p7);have h2:=cx (i:=2) (v:= .slice a2 x.Ma.length c2) h7.1;have h3:=h1.trans h.I;refine ⟨by simp [World.cell?,h3],?_⟩;simp [World.cell?,h2]
theorem cL.zQ (h7:o9 wr w7 x a2 c2) (e8:W8=w7.setCell ⟨wr.heap.size,2,none⟩ (.slice a2 x.Ma.length c2)) (e9:W9=W8.alloc (.cells #[.int .i64 x.id,.int .i64 x.max,.slice a2 x.Ma.length c2] 160)):Below wr.heap.size wr W9∧W8.heap.size=w7.heap.size:=by
 subst e8 e9;exact ⟨(bP h7.2.1 (Ki _)).alloc (bP h7.2.1 (Ki _)).size _,fH [_]⟩
theorem cL.Fl (h:cL p We wr o q) (h7:o9 wr w7 x a2 c2) (e8:W8=w7.setCell ⟨wr.heap.size,2,none⟩ (.slice a2 x.Ma.length c2)) (e9:W9=W8.alloc (.cells #[.int .i64 x.id,.int .i64 x.max,.slice a2 x.Ma.length c2] 160)):W9.ownsRow (We.heap.size+2) 160 3 (.slice q.am q.ae.length q.aG) q.ae.length (bm.flat q.ae)∧W9.heap[w7.heap.size]? =some (.cells #[.int .i64 x.id,.int .i64 x.max,.slice a2 x.Ma.length c2] 160 (0,0)):=by
 have kN:=cL.zQ h7 e8 e9;refine ⟨(h.below kN.1).own.ae,?_⟩;subst e9;have h5:=Kj W8 (.cells #[.int .i64 x.id,.int .i64 x.max,.slice a2 x.Ma.length c2] 160)
 rwa [kN.2] at h5
theorem cL.FY (h:q.pure= { p.pure with ae:=p.pure.ae.take k,ai:= [] }) (hx:p.ae[k]? =some x):({ q with ae:=q.ae ++ [({ x with ak:=a2,aq:=c2 } :au)],am:=a,aG:=c } :af).pure= { p.pure with ae:=p.pure.ae.take (k+1),ai:= [] } :=by
 have e:p.pure.ae.take (k+1)=p.pure.ae.take k ++ [x.toci] :=by
  rw [cj (x:=x.toci)]
  show (p.ae.map (·.toci))[k]? =_
  rw [Kk,hx];rfl
 rw [e];have h5:=congrArg aE.ae h;have h6:(q.ae ++ [({ x with ak:=a2,aq:=c2 } :au)]).map (·.toci)=p.pure.ae.take k ++ [x.toci] :=by
  rw [Kl];exact congrArg (· ++ [x.toci]) h5
 show ({ q.pure with ae:=(q.ae ++ [({ x with ak:=a2,aq:=c2 } :au)]).map (·.toci) } :aE)=_
 rw [h6,h]
theorem cL.Do (h:cL p We wr o q) (h7:o9 wr w7 x a2 c2) (e8:W8=w7.setCell ⟨wr.heap.size,2,none⟩ (.slice a2 x.Ma.length c2)) (e9:W9=W8.alloc (.cells #[.int .i64 x.id,.int .i64 x.max,.slice a2 x.Ma.length c2] 160))
  (ho:pH.ownsRow (We.heap.size+2) 160 3 (.slice a (q.ae.length+1) c) (q.ae.length+1) (bm.flat q.ae ++ bm.vals ({ x with ak:=a2,aq:=c2 } :au))) (hg:W9.grownBy pH ((Value.slice q.am q.ae.length q.aG).ownBlock))
  (hb:(Value.slice a (q.ae.length+1) c).ownBlock=(Value.slice q.am q.ae.length q.aG).ownBlock∨(Value.slice a (q.ae.length+1) c).ownBlock=some W9.heap.size):
  cL p We (pH.setCell ⟨o,6,none⟩ (.slice a (q.ae.length+1) c)) o ({ q with ae:=q.ae ++ [({ x with ak:=a2,aq:=c2 } :au)],am:=a,aG:=c } :af)∧pH.cell? ⟨o,6,none⟩=some (.slice q.am q.ae.length q.aG)∧pH.frozen? ⟨o,6,none⟩=false:=by
 have p7:o < wr.heap.size:=(J2.1 h.I).1;obtain ⟨kN,hs8⟩:=cL.zQ h7 e8 e9;have h9:=h.below kN;have hlow:=h.low;have hm:aC.cO W9 (We.heap.size+2) ({ x with ak:=a2,aq:=c2 } :au):=by
  refine cq (base:=wr.heap.size) ?_ (by omega);refine aL h7.2.2.1 fun g hg'=> ?_
  have h5:=h7.2.2.2 g hg';have h6:=cf h7.2.2.1 hg';subst e9;refine (PU (by omega)).trans ?_;subst e8;exact aH (by omega)
 have hx: ∀ g,aC.bt ({ x with ak:=a2,aq:=c2 } :au)=some g→g∉q.Mc∧g≠o:=fun g hk=>by
  have h5:=h7.2.2.2 g (fZ.2 hk);refine ⟨fun hm'=> ?_,by omega⟩
  have:=(h.own.lt g hm').2
  omega
 have hn: ∀ g∈blk a,g∈blk q.am∨g=W9.heap.size:=fun g hg'=>by
  cases a with
  | none=>simp [blk] at hg'
  | some ad=>
   simp [blk] at hg';subst hg';rcases hb with hb | hb
   ·exact .inl (di hb.symm)
   ·exact .inr (by simpa [Value.ownBlock] using hb)
 have hL:=h9.sD hm hx (by rw [bm.dc]; exact ho) hg hn;have xj:pH.heap[o]? =W9.heap[o]? :=hg.block o (Kn p7 kN.size) fun e=>h.free (by
  have:=di e.symm
  simp [af.Mc,this])
 have lV:=xj.trans h9.I;exact ⟨hL,by simp [World.cell?,lV],Ko _ _ _ _ _ lV⟩
end
theorem cL.yf {p:af} {We w w':World} {o:Nat} {q:af} {x:aM} {a:Option Addr} {c:Nat} (h:cL p We w o q) (hm:aU.cO w (We.heap.size+2) x) (hx: ∀ g,aU.bt x=some g→g∉q.Mc∧g≠o)
  (ho:w'.ownsRow (We.heap.size+2) 85 5 (.slice a (q.ai.length+1) c) (q.ai.length+1) (bX.flat (q.ai ++ [x]))) (hg:w.grownBy w' ((Value.slice q.aK q.ai.length q.aV).ownBlock)) (hb: ∀ g∈blk a,g∈blk q.aK∨g=w.heap.size):
  cL p We (w'.setCell ⟨o,7,none⟩ (.slice a (q.ai.length+1) c)) o ({ q with ai:=q.ai ++ [x],aK:=a,aV:=c } :af):=by
 have p7:o < w.heap.size:=(J2.1 h.I).1;have hrow: ∀ g,g < w.heap.size→g∉blk q.aK→w'.heap[g]? =w.heap[g]? :=fun g hgl hn=>hg.block g hgl fun e=>hn (di e.symm)
 obtain ⟨hown,hbl⟩:=h.own.yf hm (fun g hk=>(hx g hk).1) ho hrow hb;have hoA:o∉blk q.aK:=fun hm'=>h.free (by simp [af.Mc,hm'])
 have hlow: ∀ g,g∈blk q.aK→We.heap.size+2≤g:=fun g hg'=>(cf h.own.ai hg').1
 have hfree:o∉({ q with ai:=q.ai ++ [x],aK:=a,aV:=c } :af).Mc:=fun hm'=>by
  rcases hbl o hm' with h1 | h1 | h1
  ·exact h.free h1
  ·exact (hx o h1).2 rfl
  ·omega
 have hsc: ∀ g,g≠o→(w'.setCell ⟨o,7,none⟩ (.slice a (q.ai.length+1) c)).heap[g]? =w'.heap[g]? :=fun g hne=>aH hne
 have lY:Below We.heap.size We w':=h.cd.grown hg (by have:=h.low; omega) (fun k hk=>by have:=hlow k (di hk); omega);have hout:w'.heap[o]? =w.heap[o]? :=hrow o p7 hoA;have hlo:=h.low;refine ⟨bP lY (by omega),(hsc _ (by omega)).trans ((hrow _ (by omega) fun hm'=>by have:=hlow _ hm'; omega).trans h.part),(hsc _ (by omega)).trans ((hrow _ (by omega) fun hm'=>by have:=hlow _ hm'; omega).trans h.ret),?_,hown.same fun g hg'=>hsc g fun e=>hfree (e ▸ hg'),h.low,hfree⟩;have h5:=cx (i:=7) (v:= .slice a (q.ai.length+1) c) (hout.trans h.I);have e:(q.ai ++ [x]).length=q.ai.length+1:=by simp
 unfold av;simp only [e];exact h5
def uT (wr w7:World) (x:aM) (a2:Option Addr) (c2:Nat):Prop:=w7.heap[wr.heap.size]? =some (.cells #[.int .i64 x.id,.bool x.I,.bool x.Mf,.int .i64 x.max,.slice x.ak x.Ma.length x.aq] 85 (0,0))∧Below wr.heap.size wr w7∧w7.ownsRow wr.heap.size 9 1 (.slice a2 x.Ma.length c2) x.Ma.length (bT.flat x.Ma)∧ ∀ g∈blk a2,g=wr.heap.size+1∨g=wr.heap.size+2
section
variable {p q:af} {We wr w7 pH W8 W9:World} {o c2 c k:Nat} {x:aM} {a2 a:Option Addr}
theorem cL.inPort (h:cL p We wr o q) (h7:uT wr w7 x a2 c2) (e8:W8=w7.setCell ⟨wr.heap.size,4,none⟩ (.slice a2 x.Ma.length c2)):W8.cell? ⟨o,7,none⟩=some (.slice q.aK q.ai.length q.aV)∧W8.cell? ⟨wr.heap.size,0,none⟩=some (.int .i64 x.id)∧W8.cell? ⟨wr.heap.size,1,none⟩=some (.bool x.I)∧W8.cell? ⟨wr.heap.size,2,none⟩=some (.bool x.Mf)∧W8.cell? ⟨wr.heap.size,3,none⟩=some (.int .i64 x.max)∧W8.cell? ⟨wr.heap.size,4,none⟩=some (.slice a2 x.Ma.length c2):=by
 subst e8;have p7:o < wr.heap.size:=(J2.1 h.I).1;have h1:=(aH (i:=4) (v:= .slice a2 x.Ma.length c2) (by omega:o≠wr.heap.size)).trans (h7.2.1.block o p7);have h2:=cx (i:=4) (v:= .slice a2 x.Ma.length c2) h7.1;have h3:=h1.trans h.I;refine ⟨by simp [World.cell?,h3],?_⟩;simp [World.cell?,h2]
theorem cL.F4 (h7:uT wr w7 x a2 c2) (e8:W8=w7.setCell ⟨wr.heap.size,4,none⟩ (.slice a2 x.Ma.length c2)) (e9:W9=W8.alloc (.cells (pcB x a2 c2) 85)):Below wr.heap.size wr W9∧W8.heap.size=w7.heap.size:=by
 subst e8 e9;exact ⟨(bP h7.2.1 (Ki _)).alloc (bP h7.2.1 (Ki _)).size _,fH [_]⟩
theorem cL.I4 (h:cL p We wr o q) (h7:uT wr w7 x a2 c2) (e8:W8=w7.setCell ⟨wr.heap.size,4,none⟩ (.slice a2 x.Ma.length c2)) (e9:W9=W8.alloc (.cells (pcB x a2 c2) 85)):W9.ownsRow (We.heap.size+2) 85 5 (.slice q.aK q.ai.length q.aV) q.ai.length (bX.flat q.ai)∧W9.heap[w7.heap.size]? =some (.cells (pcB x a2 c2) 85 (0,0)):=by
 have kN:=cL.F4 h7 e8 e9;refine ⟨(h.below kN.1).own.ai,?_⟩;subst e9;have h5:=Kj W8 (.cells (pcB x a2 c2) 85)
 rwa [kN.2] at h5
theorem cL.upPort (h:q.pure= { p.pure with ai:=p.pure.ai.take k }) (hx:p.ai[k]? =some x):({ q with ai:=q.ai ++ [({ x with ak:=a2,aq:=c2 } :aM)],aK:=a,aV:=c } :af).pure= { p.pure with ai:=p.pure.ai.take (k+1) } :=by
 have e:p.pure.ai.take (k+1)=p.pure.ai.take k ++ [x.todS] :=by
  rw [cj (x:=x.todS)]
  show (p.ai.map (·.todS))[k]? =_
  rw [Kk,hx];rfl
 rw [e];have h5:=congrArg aE.ai h;have h6:(q.ai ++ [({ x with ak:=a2,aq:=c2 } :aM)]).map (·.todS)=p.pure.ai.take k ++ [x.todS] :=by
  rw [Kl];exact congrArg (· ++ [x.todS]) h5
 show ({ q.pure with ai:=(q.ai ++ [({ x with ak:=a2,aq:=c2 } :aM)]).map (·.todS) } :aE)=_
 rw [h6,h]
theorem cL.Gi (h:cL p We wr o q) (h7:uT wr w7 x a2 c2) (e8:W8=w7.setCell ⟨wr.heap.size,4,none⟩ (.slice a2 x.Ma.length c2)) (e9:W9=W8.alloc (.cells (pcB x a2 c2) 85))
  (ho:pH.ownsRow (We.heap.size+2) 85 5 (.slice a (q.ai.length+1) c) (q.ai.length+1) (bX.flat q.ai ++ bX.vals ({ x with ak:=a2,aq:=c2 } :aM))) (hg:W9.grownBy pH ((Value.slice q.aK q.ai.length q.aV).ownBlock))
  (hb:(Value.slice a (q.ai.length+1) c).ownBlock=(Value.slice q.aK q.ai.length q.aV).ownBlock∨(Value.slice a (q.ai.length+1) c).ownBlock=some W9.heap.size):
  cL p We (pH.setCell ⟨o,7,none⟩ (.slice a (q.ai.length+1) c)) o ({ q with ai:=q.ai ++ [({ x with ak:=a2,aq:=c2 } :aM)],aK:=a,aV:=c } :af)∧pH.cell? ⟨o,7,none⟩=some (.slice q.aK q.ai.length q.aV)∧pH.frozen? ⟨o,7,none⟩=false:=by
 have p7:o < wr.heap.size:=(J2.1 h.I).1;obtain ⟨kN,hs8⟩:=cL.F4 h7 e8 e9;have h9:=h.below kN;have hlow:=h.low;have hm:aU.cO W9 (We.heap.size+2) ({ x with ak:=a2,aq:=c2 } :aM):=by
  refine cq (base:=wr.heap.size) ?_ (by omega);refine aL h7.2.2.1 fun g hg'=> ?_
  have h5:=h7.2.2.2 g hg';have h6:=cf h7.2.2.1 hg';subst e9;refine (PU (by omega)).trans ?_;subst e8;exact aH (by omega)
 have hx: ∀ g,aU.bt ({ x with ak:=a2,aq:=c2 } :aM)=some g→g∉q.Mc∧g≠o:=fun g hk=>by
  have h5:=h7.2.2.2 g (fZ.2 hk);refine ⟨fun hm'=> ?_,by omega⟩
  have:=(h.own.lt g hm').2
  omega
 have hn: ∀ g∈blk a,g∈blk q.aK∨g=W9.heap.size:=fun g hg'=>by
  cases a with
  | none=>simp [blk] at hg'
  | some ad=>
   simp [blk] at hg';subst hg';rcases hb with hb | hb
   ·exact .inl (di hb.symm)
   ·exact .inr (by simpa [Value.ownBlock] using hb)
 have hL:=h9.yf hm hx (by rw [bX.dc]; exact ho) hg hn;have xj:pH.heap[o]? =W9.heap[o]? :=hg.block o (Kn p7 kN.size) fun e=>h.free (by
  have:=di e.symm
  simp [af.Mc,this])
 have lV:=xj.trans h9.I;exact ⟨hL,by simp [World.cell?,lV],Ko _ _ _ _ _ lV⟩
end
abbrev Jn (p:af) (w w':World):Prop:=w'.cell? ⟨w.heap.size,0,none⟩=some (.int .i64 p.id)∧w'.cell? ⟨w.heap.size,1,none⟩=some (.int .i64 p.next)∧w'.cell? ⟨w.heap.size,3,none⟩=some (.slice p.bc p.aj.length p.bF)∧w'.cell? ⟨w.heap.size,4,none⟩=some (.slice p.ay p.L9.length p.aO)∧w'.cell? ⟨w.heap.size,5,none⟩=some (.slice p.ax p.ag.length p.aP)
theorem fR (p:af) (w:World) (hf:p.Fit) (hsh: ∀ x∈p.L8,x.dX) (h:af.At w p):
  Calls J3 46 #[.agg p.cells] w fun e w'=> ∃ p',e= .returned (.agg p'.cells)∧ap w' w.heap.size p'∧p'.pure=p.pure∧Below w.heap.size w w':=by
 have HF:Hid (p.Fit∧af.At w p):=⟨hf,h⟩
 have HFS:Hid (∀ x∈p.L8,x.dX):=hsh;have HC:Hid (fI p w (((w.alloc (.cells p.row 48)).alloc (.cells ar 48))).drew false false false false false false false false false 0 0 0 0 none none none 0 0 0):=by
  have b1:Below w.heap.size w ((w.alloc (.cells p.row 48)).alloc (.cells ar 48)):=((Kp _ _).alloc (Ki _) _).alloc (by simp) _;exact ⟨b1.drew,(PU (by simp)).trans (Kj _ _),Kq _ _ _,⟨(fun h=>by cases h),fun h=>by cases h⟩,⟨(fun h=>by cases h),fun h=>by cases h⟩,⟨(fun h=>by cases h),fun h=>by cases h⟩,(fun h=>by cases h),⟨(fun h=>by cases h),fun h=>by cases h⟩,(by simp),⟨fun i j _ q hq=>by rcases i with _ | _ | _ | _ | _ <;> simp [four,bM] at hq,fun i q hq=>by rcases i with _ | _ | _ | _ | _ <;> simp [four,bM] at hq⟩⟩
 have HS:Hid (Jn p w (((w.alloc (.cells p.row 48)).alloc (.cells ar 48))).drew):=by obtain ⟨m0,m1,m2,m3,m4,m5,m6,m7⟩:=HC.I.part.cells; exact ⟨m0,m1,m3,m4,m5⟩
 clear hf h hsh;unfold af.cells
 go_enter Tryz.func46,Tryz.ntmps46
 go_wp2_with fail;generalize (w.alloc (.cells p.row 48)).alloc (.cells ar 48)=W at *;refine Kr (S:=Jn p w) (by kernel_rfl) HS.I (fun hHeld=> ?_);refine tt 0 hHeld ?_;refine tt 1 hHeld ?_;refine tt 2 hHeld ?_;refine tt 3 hHeld ?_;refine tt 5 hHeld ?_;refine tt 6 hHeld ?_;refine tt 9 hHeld ?_;refine tt 10 hHeld ?_;refine tt 13 hHeld ?_;refine tt 14 hHeld ?_;refine wild (IP p w) (fun l a w1 hI=> ?_) (fun l a w1 hI i hi=> ?_) (fun l a w1 hI h0=> ?_) _ _ _ _ ⟨false,false,false,false,false,false,false,false,false,0,0,0,0,none,none,none,0,0,0,by kernel_rfl,rfl,HC.I⟩ (of_decide_eq_true (by kernel_rfl))
 ·obtain ⟨b0,d0,b1,d1,b2,d2,b3,d3,e,g0,g1,g2,o,a0,a1,a2,c0,c1,c2,-,-,hC⟩:=hI
  obtain ⟨m0,m1,m2,m3,m4,m5,m6,m7⟩:=hC.part.cells;exact ⟨m0,m1,m3,m4,m5⟩
 ·obtain ⟨b0,d0,b1,d1,b2,d2,b3,d3,e,g0,g1,g2,o,a0,a1,a2,c0,c1,c2,rfl,rfl,hC⟩:=hI
  have HI:Hid (fI p w w1 b0 d0 b1 d1 b2 d2 b3 d3 e g0 g1 g2 o a0 a1 a2 c0 c1 c2):=hC;clear hC;unfold CY
  match i,hi with
  | 0,hi=>exact absurd (cX hi) (by simp)
  | 1,hi=>exact absurd (cX hi) (by simp)
  | 2,hi=>exact absurd (cX hi) (by simp)
  | 3,hi=>exact absurd (cX hi) (by simp)
  | 4,hi=>
   have hb:b0=false:=by have h5:=cX hi; simpa using h5
   subst hb;refine ln (o:=_) rfl (by kernel_rfl) (fun K hK=> ?_);go_wp2_with fail;exact hK.out _ _ ⟨true,d0,b1,d1,b2,d2,b3,d3,e,w1.heap.size,g1,g2,o,a0,a1,a2,c0,c1,c2,by rfl,by rfl,HI.I.aaZ⟩
  | 5,hi=>exact absurd (cX hi) (by simp)
  | 6,hi=>exact absurd (cX hi) (by simp)
  | 7,hi=>
   have hb:d0=false:=by have h5:=cX hi; simpa using h5
   have hn4:b0=true:=by have h5:=hF [4,6] hi (by kernel_rfl) 4 (by decide); simpa using h5
   subst hb hn4;refine ln (o:=_) rfl (by kernel_rfl) (fun K hK=> ?_);obtain ⟨a',c',w2,hr,ho,hg,hq⟩:=Iq w1 (w.heap.size+2) g0 (HI.I.s0.made rfl rfl).1 (HI.I.s0.made rfl rfl).2 p.bc p.aj p.bF ((HF.I.2.below HI.I.cd).2.1.1) HF.I.1.short.aj HI.I.size;refine cM _ _ _ rfl _ _ _ w2 rfl rfl hr ?_;have he:e=false:=by cases e with | false=>rfl | true=>(have h5:=HI.I.cl.1 rfl; simp at h5)
   subst he;exact hK.out _ _ ⟨true,true,b1,d1,b2,d2,b3,d3,false,g0,g1,g2,o,a',a1,a2,c',c1,c2,by rfl,by rfl,HI.I.aa1 ho hg hq⟩
  | 8,hi=>
   have hb:b1=false:=by have h5:=cX hi; simpa using h5
   subst hb;refine ln (o:=_) rfl (by kernel_rfl) (fun K hK=> ?_);go_wp2_with fail;exact hK.out _ _ ⟨b0,d0,true,d1,b2,d2,b3,d3,e,g0,w1.heap.size,g2,o,a0,a1,a2,c0,c1,c2,by rfl,by rfl,HI.I.abg⟩
  | 9,hi=>exact absurd (cX hi) (by simp)
  | 10,hi=>exact absurd (cX hi) (by simp)
  | 11,hi=>
   have hb:d1=false:=by have h5:=cX hi; simpa using h5
   have hn8:b1=true:=by have h5:=hF [8,10,7] hi (by kernel_rfl) 8 (by decide); simpa using h5
   subst hb hn8;refine ln (o:=_) rfl (by kernel_rfl) (fun K hK=> ?_);obtain ⟨a',c',w2,hr,ho,hg,hq⟩:=Fp w1 (w.heap.size+2) g1 (HI.I.s1.made rfl rfl).1 (HI.I.s1.made rfl rfl).2 p.ay p.L9 p.aO ((HF.I.2.below HI.I.cd).2.2.1.1) HF.I.1.short.L9 HI.I.size;refine cM _ _ _ rfl _ _ _ w2 rfl rfl hr ?_;have he:e=false:=by cases e with | false=>rfl | true=>(have h5:=HI.I.cl.1 rfl; simp at h5)
   subst he;exact hK.out _ _ ⟨b0,d0,true,true,b2,d2,b3,d3,false,g0,g1,g2,o,a0,a',a2,c0,c',c2,by rfl,by rfl,HI.I.aa2 ho hg hq⟩
  | 12,hi=>
   have hb:b2=false:=by have h5:=cX hi; simpa using h5
   subst hb;refine ln (o:=_) rfl (by kernel_rfl) (fun K hK=> ?_);go_wp2_with fail;exact hK.out _ _ ⟨b0,d0,b1,d1,true,d2,b3,d3,e,g0,g1,w1.heap.size,o,a0,a1,a2,c0,c1,c2,by rfl,by rfl,HI.I.make2⟩
  | 13,hi=>exact absurd (cX hi) (by simp)
  | 14,hi=>exact absurd (cX hi) (by simp)
  | 15,hi=>
   have hb:d2=false:=by have h5:=cX hi; simpa using h5
   have adF:b2=true:=by have h5:=hF [12,14,11] hi (by kernel_rfl) 12 (by decide); simpa using h5
   subst hb adF;refine ln (o:=_) rfl (by kernel_rfl) (fun K hK=> ?_);obtain ⟨a',c',w2,hr,ho,hg,hq⟩:=ED w1 (w.heap.size+2) g2 (HI.I.s2.made rfl rfl).1 (HI.I.s2.made rfl rfl).2 p.ax p.ag p.aP ((HF.I.2.below HI.I.cd).2.2.2.1.1) HF.I.1.short.ag HI.I.size;refine cM _ _ _ rfl _ _ _ w2 rfl rfl hr ?_;have he:e=false:=by cases e with | false=>rfl | true=>(have h5:=HI.I.cl.1 rfl; simp at h5)
   subst he;exact hK.out _ _ ⟨b0,d0,b1,d1,true,true,b3,d3,false,g0,g1,g2,o,a0,a1,a',c0,c1,c',by rfl,by rfl,HI.I.copy2 ho hg hq⟩
  | 16,hi=>
   have hb:e=false:=by have h5:=cX hi; simpa using h5
   have hn7:d0=true:=by have h5:=hF [1,3,7,11,15] hi (by kernel_rfl) 7 (by decide); simpa using h5
   have hn11:d1=true:=by have h5:=hF [1,3,7,11,15] hi (by kernel_rfl) 11 (by decide); simpa using h5
   have hn15:d2=true:=by have h5:=hF [1,3,7,11,15] hi (by kernel_rfl) 15 (by decide); simpa using h5
   subst hb hn7 hn11 hn15;refine ln (o:=_) rfl (by kernel_rfl) (fun K hK=> ?_);go_wp2_with fail;exact hK.out _ _ ⟨b0,true,b1,true,b2,true,b3,d3,true,g0,g1,g2,o,a0,a1,a2,c0,c1,c2,by rfl,by rfl,HI.I.build rfl rfl rfl⟩
  | 17,hi=>
   have hb:b3=false:=by have h5:=cX hi; simpa using h5
   subst hb;refine ln (o:=_) rfl (by kernel_rfl) (fun K hK=> ?_);have hd3:d3=false:=by cases d3 with | false=>rfl | true=>(have h5:=HI.I.cl.2 rfl; simp at h5)
   subst hd3;go_wp2_with fail;exact hK.out _ _ ⟨b0,d0,b1,d1,b2,d2,true,false,e,g0,g1,g2,w1.heap.size,a0,a1,a2,c0,c1,c2,by rfl,by rfl,HI.I.aa9⟩
  | 18,hi=>
   have hb:d3=false:=by have h5:=cX hi; simpa using h5
   have hn17:b3=true:=by have h5:=hF [17,16,15,0,1,2,3,4,5,6,7,8,9,10,11,12,13,14,15,16,17] hi (by kernel_rfl) 17 (by decide); simpa using h5
   have hn16:e=true:=by have h5:=hF [17,16,15,0,1,2,3,4,5,6,7,8,9,10,11,12,13,14,15,16,17] hi (by kernel_rfl) 16 (by decide); simpa using h5
   subst hb hn17 hn16;refine ln (o:=_) rfl (by kernel_rfl) (fun K hK=> ?_);refine qd _ _ _ rfl o _ _ _ rfl rfl (HI.I.I rfl) (by kernel_rfl) rfl (by kernel_rfl) ?_;exact hK.out _ _ ⟨b0,d0,b1,d1,b2,d2,true,true,true,g0,g1,g2,o,a0,a1,a2,c0,c1,c2,by rfl,by rfl,HI.I.store⟩
  | n+19,hi=>exact absurd (cX hi) (by simp)
 ·obtain ⟨b0,d0,b1,d1,b2,d2,b3,d3,e,g0,g1,g2,o,a0,a1,a2,c0,c1,c2,rfl,rfl,hC⟩:=hI
  have hno: ∀ i,i∉Region.ready .any _ _:=fun i hi=>by rw [h0] at hi; cases hi
  have hb0:b0=true:=by cases hx:b0 with | true=>rfl | false=>exact absurd (jW [] (by kernel_rfl) (by kernel_rfl) (by simp [hx]) (fun j hj=>by cases hj)) (hno 4)
  have hd0:d0=true:=by cases hx:d0 with | true=>rfl | false=>exact absurd (jW [4,6] (by kernel_rfl) (by kernel_rfl) (by simp [hx]) (fun j hj=>by simp only [Kt,Ku,or_false] at hj; rcases hj with rfl | rfl <;> first | rfl | simp [hb0])) (hno 7)
  have hb1:b1=true:=by cases hx:b1 with | true=>rfl | false=>exact absurd (jW [] (by kernel_rfl) (by kernel_rfl) (by simp [hx]) (fun j hj=>by cases hj)) (hno 8)
  have hd1:d1=true:=by cases hx:d1 with | true=>rfl | false=>exact absurd (jW [8,10,7] (by kernel_rfl) (by kernel_rfl) (by simp [hx]) (fun j hj=>by simp only [Kt,Ku,or_false] at hj; rcases hj with rfl | rfl | rfl <;> first | rfl | simp [hb1,hd0])) (hno 11)
  have hb2:b2=true:=by cases hx:b2 with | true=>rfl | false=>exact absurd (jW [] (by kernel_rfl) (by kernel_rfl) (by simp [hx]) (fun j hj=>by cases hj)) (hno 12)
  have hd2:d2=true:=by cases hx:d2 with | true=>rfl | false=>exact absurd (jW [12,14,11] (by kernel_rfl) (by kernel_rfl) (by simp [hx]) (fun j hj=>by simp only [Kt,Ku,or_false] at hj; rcases hj with rfl | rfl | rfl <;> first | rfl | simp [hb2,hd1])) (hno 15)
  have he:e=true:=by cases hx:e with | true=>rfl | false=>exact absurd (jW [1,3,7,11,15] (by kernel_rfl) (by kernel_rfl) (by simp [hx]) (fun j hj=>by simp only [Kt,Ku,or_false] at hj; rcases hj with rfl | rfl | rfl | rfl | rfl <;> first | rfl | simp [hd0,hd1,hd2])) (hno 16)
  have hb3:b3=true:=by cases hx:b3 with | true=>rfl | false=>exact absurd (jW [] (by kernel_rfl) (by kernel_rfl) (by simp [hx]) (fun j hj=>by cases hj)) (hno 17)
  have hd3:d3=true:=by cases hx:d3 with | true=>rfl | false=>exact absurd (jW [17,16,15,0,1,2,3,4,5,6,7,8,9,10,11,12,13,14,15,16,17] (by kernel_rfl) (by kernel_rfl) (by simp [hx]) (fun j hj=>by simp only [Kt,Ku,or_false] at hj; rcases hj with rfl | rfl | rfl | rfl | rfl | rfl | rfl | rfl | rfl | rfl | rfl | rfl | rfl | rfl | rfl | rfl | rfl | rfl | rfl | rfl | rfl <;> first | rfl | simp [hb0,hd0,hb1,hd1,hb2,hd2,he,hb3])) (hno 18)
  subst hb0 hd0 hb1 hd1 hb2 hd2 he hb3 hd3;have HI:Hid (fI p w w1 true true true true true true true true true g0 g1 g2 o a0 a1 a2 c0 c1 c2):=hC;clear hC hno h0;simp only [CY,cond_true];have HLS:Hid (cL p w w1 o ⟨p.id,p.next,[],none,0,p.aj,a0,c0,p.L9,a1,c1,p.ag,a2,c2,[],none,0,[],none,0⟩):=cL.start HI.I;clear HI HC HS hHeld;obtain ⟨qE,hi',GQ⟩:=Kw.1 nb;simp only [Kx] at GQ;have HI:Hid (Tryz.prog.info? 148=some qE∧qE.zero=some _∧qE.size=12∧qE.bytes=128):=⟨hi',GQ⟩
  clear hi' GQ;have hpProc:p.L8.length≤1048576:=HF.I.1.short.L8;go_wp2_with fail
  go_loopw [4] (fun i wr=> ∃ k:Nat,k≤p.L8.length∧i= .int .i64 k∧Hid (∃ q,cL p w wr o q∧q.pure= { p.pure with L8:=p.pure.L8.take k,ae:= [],ai:= [] })) (fun i _=>p.L8.length - (Go.RowKit.intOf i).toNat)
  case atStart=>exact ⟨0,Ky _,rfl,⟨_,HLS.I,rfl⟩⟩
  case round=>
   obtain ⟨k,hk,rfl,HA⟩:=hrel;obtain ⟨q,hL,hq⟩:=HA.I;have HL:Hid (cL p w wr o q∧(q.pure= { p.pure with L8:=p.pure.L8.take k,ae:= [],ai:= [] })∧q.L8.length=k):=⟨hL,hq,IV hq hk⟩
   clear HA hL hq;have mp:wr.cell? ⟨w.heap.size,2,none⟩=some (.slice p.aN p.L8.length p.aW):=by obtain ⟨m0,m1,m2,m3,m4,m5,m6,m7⟩:=HL.I.1.part.cells; exact m2
   by_cases hlt:k < p.L8.length
   ·have i0:(0:Int)≤(k:Int):=by omega
    have i1:(k:Int) < (p.L8.length:Int):=by omega
    obtain ⟨x,hx⟩: ∃ x,p.L8[k]? =some x:=⟨_,Kz hlt⟩
    have hAt:=HF.I.2.below HL.I.1.cd;obtain ⟨gs,ha,hat⟩:=cn hAt.1 hx;rw [ha] at mp;obtain ⟨d0,d1,d2,d3,d4,d5,d6,d7,d8,d9,tH,tS⟩:=hat;have HX:Hid (p.L8[k]? =some x∧Row wr x.aY (fk.flat x.prog)∧x.prog.length≤1048576):=⟨hx,hAt.1.2 x (KA hx) (x.aY,fk.flat x.prog) (KB.2 rfl),(HFS.I x (KA hx)).prog⟩
    clear hx ha hAt;have hb2:Below wr.heap.size wr ((wr.alloc (.cells x.row 148)).alloc (.cells #[] 234)):=((Kp _ _).alloc (Ki _) _).alloc (by simp) _;obtain ⟨a2,c2,w7,hap,how,Fw,nW⟩:=Gg ((wr.alloc (.cells x.row 148)).alloc (.cells #[] 234)) wr.heap.size (wr.heap.size+1) (Kq _ _ _) (by omega) x.aY x.prog x.bH (HX.I.2.1.below hb2) HX.I.2.2 (by simp; omega);have DO:=(Fw.block wr.heap.size (by simp; omega) (fun e=>by have:=KC e; omega)).trans ((PU (by simp)).trans (Kj wr _));have gh:Below wr.heap.size wr w7:=hb2.grown Fw (by simp; omega) (fun k hk=>by cases hk; omega);have DR:Hid (vt wr w7 x a2 c2):=⟨DO,gh,how,fun g hg=>by have h5:=nW g hg; simp at h5; exact h5⟩
    have z0:w7.frozen? ⟨wr.heap.size,2,none⟩=false:=Ko _ _ _ _ _ DO;have z1:w7.cell? ⟨wr.heap.size,2,none⟩=some (.slice x.aY x.prog.length x.bH):=by simp [World.cell?,DO]
    clear hb2 how Fw nW DO gh;obtain ⟨co,e0,e1,e2,e3,e4,e5,e6,e7,e8,e9,Pn,e11⟩:=HL.I.1.inProc DR.I rfl;have hkl:q.L8.length≤1048576:=by have:=HL.I.2.2; have:=HF.I.1.short.L8; omega
    have hsz:w.heap.size+2≤w7.heap.size:=by have h5:=DR.I.2.1.size; have h6:=HL.I.1.low; have h7:o < wr.heap.size:=(J2.1 HL.I.1.I).1; omega
    have Jr:Hid (_):=HL.I.1.IH DR.I rfl rfl;go_wp2_with (at_builtin; first | (refine br _ rfl _ _ 146 rfl _ _ _ _ rfl rfl hap ?_; clear hap) | (refine KD _ rfl _ _ 41 rfl (w.heap.size+2) 148 qE _ 12 128 Tryz.underlying41 HI.I.1 HI.I.2.1 HI.I.2.2.1 HI.I.2.2.2 rfl (by decide) (.slice q.aN q.L8.length q.aW) q.L8.length (bg.flat q.L8) rfl Jr.I.1 ⟨w7.heap.size,0,none⟩ 1 1 (bg.vals ({ x with aY:=a2,bH:=c2 } :ao)) (by rfl) rfl (KE (cs:= #[.int .i64 x.id,.int .i64 x.RX,.slice a2 x.prog.length c2,.int .i64 x.Md,.int .i64 x.pc,.int .i64 x.left,.int .i64 x.Mg,.int .i64 x.on,.string x.held,.string x.got,.int .i64 x.code,.int .i64 x.RU]) (t:=148) (fr:=(0,0)) Jr.I.2) (by simp [bg,qN,Value.oneCell']) (by unfold maxLen; omega) (by omega) (by simp; omega) ?_; intro v5 pH oM oq zR sM; obtain ⟨a5,c5,rfl,-⟩:=cr oM; have HN:Hid (cL p w (pH.setCell ⟨o,2,none⟩ (.slice a5 (q.L8.length+1) c5)) o ({ q with L8:=q.L8 ++ [({ x with aY:=a2,bH:=c2 } :ao)],aN:=a5,aW:=c5 } :af)∧pH.cell? ⟨o,2,none⟩=some (.slice q.aN q.L8.length q.aW)∧pH.frozen? ⟨o,2,none⟩=false):=HL.I.1.G5 DR.I rfl rfl oM oq sM; have VY:=HN.I.2.1; have VP:=HN.I.2.2; clear oM oq zR sM));go_roundw
    case rel=>exact ⟨k+1,by omega,by go_num,⟨_,HN.I.1,cL.upProc HL.I.2.1 HX.I.1⟩⟩
    case measure=>simp [Go.RowKit.intOf]; omega
   ·have i1: ¬ (k:Int) < (p.L8.length:Int):=by omega
    have HE:Hid (∃ q,cL p w wr o q∧q.pure= { p.pure with ae:= [],ai:= [] }):=by
     have h5:=HL.I.2.1;rw [KF (by show (p.L8.map _).length≤k; rw [KG]; omega)] at h5;exact ⟨q,HL.I.1,h5⟩
    clear HL
    rename World=>W2
    obtain ⟨qE,hi',GQ⟩:=Kw.1 kh;simp only [Kx] at GQ;have HI:Hid (Tryz.prog.info? 160=some qE∧qE.zero=some _∧qE.size=3∧qE.bytes=40):=⟨hi',GQ⟩
    clear hi' GQ;have hpBuffer:p.ae.length≤1048576:=HF.I.1.short.ae;go_wp2_with fail;clear mp
    go_loopw [6] (fun i wr=> ∃ k:Nat,k≤p.ae.length∧i= .int .i64 k∧Hid (∃ q,cL p w wr o q∧q.pure= { p.pure with ae:=p.pure.ae.take k,ai:= [] })) (fun i _=>p.ae.length - (Go.RowKit.intOf i).toNat)
    case atStart=>exact ⟨0,Ky _,rfl,by obtain ⟨q,h1,h2⟩:=HE.I; exact ⟨q,h1,h2.trans (by simp)⟩⟩
    case round=>
     obtain ⟨k,hk,rfl,HA⟩:=hrel;obtain ⟨q,hL,hq⟩:=HA.I;have HL:Hid (cL p w wr o q∧(q.pure= { p.pure with ae:=p.pure.ae.take k,ai:= [] })∧q.ae.length=k):=⟨hL,hq,Fs hq hk⟩
     clear HA hL hq;have mp:wr.cell? ⟨w.heap.size,6,none⟩=some (.slice p.am p.ae.length p.aG):=by obtain ⟨m0,m1,m2,m3,m4,m5,m6,m7⟩:=HL.I.1.part.cells; exact m6
     by_cases hlt:k < p.ae.length
     ·have i0:(0:Int)≤(k:Int):=by omega
      have i1:(k:Int) < (p.ae.length:Int):=by omega
      obtain ⟨x,hx⟩: ∃ x,p.ae[k]? =some x:=⟨_,Kz hlt⟩
      have hAt:=HF.I.2.below HL.I.1.cd;obtain ⟨gs,ha,hat⟩:=iA hAt.2.2.2.2.1 hx;rw [ha] at mp;obtain ⟨d0,d1,d2⟩:=hat;have HX:Hid (p.ae[k]? =some x∧Row wr x.ak (bT.flat x.Ma)∧x.Ma.length≤1048576):=⟨hx,hAt.2.2.2.2.1.2 x (KA hx) (x.ak,bT.flat x.Ma) (KB.2 rfl),(HF.I.1.ae x (KA hx)).1⟩
      clear hx ha hAt;have hb2:Below wr.heap.size wr ((wr.alloc (.cells #[.int .i64 x.id,.int .i64 x.max,.slice x.ak x.Ma.length x.aq] 160)).alloc (.cells #[] 9)):=((Kp _ _).alloc (Ki _) _).alloc (by simp) _;obtain ⟨a2,c2,w7,hap,how,Fw,nW⟩:=tO ((wr.alloc (.cells #[.int .i64 x.id,.int .i64 x.max,.slice x.ak x.Ma.length x.aq] 160)).alloc (.cells #[] 9)) wr.heap.size (wr.heap.size+1) (Kq _ _ _) (by omega) x.ak x.Ma x.aq (HX.I.2.1.below hb2) HX.I.2.2 (by simp; omega);have DO:=(Fw.block wr.heap.size (by simp; omega) (fun e=>by have:=KC e; omega)).trans ((PU (by simp)).trans (Kj wr _));have gh:Below wr.heap.size wr w7:=hb2.grown Fw (by simp; omega) (fun k hk=>by cases hk; omega);have DR:Hid (o9 wr w7 x a2 c2):=⟨DO,gh,how,fun g hg=>by have h5:=nW g hg; simp at h5; exact h5⟩
      have z0:w7.frozen? ⟨wr.heap.size,2,none⟩=false:=Ko _ _ _ _ _ DO;have z1:w7.cell? ⟨wr.heap.size,2,none⟩=some (.slice x.ak x.Ma.length x.aq):=by simp [World.cell?,DO]
      clear hb2 how Fw nW DO gh;obtain ⟨co,e0,e1,e2⟩:=HL.I.1.F9 DR.I rfl;have hkl:q.ae.length≤1048576:=by have:=HL.I.2.2; have:=HF.I.1.short.ae; omega
      have hsz:w.heap.size+2≤w7.heap.size:=by have h5:=DR.I.2.1.size; have h6:=HL.I.1.low; have h7:o < wr.heap.size:=(J2.1 HL.I.1.I).1; omega
      have Jr:Hid (_):=HL.I.1.Fl DR.I rfl rfl;go_wp2_with (at_builtin; first | (refine br _ rfl _ _ 83 rfl _ _ _ _ rfl rfl hap ?_; clear hap) | (refine KD _ rfl _ _ 45 rfl (w.heap.size+2) 160 qE _ 3 40 Tryz.underlying45 HI.I.1 HI.I.2.1 HI.I.2.2.1 HI.I.2.2.2 rfl (by decide) (.slice q.am q.ae.length q.aG) q.ae.length (bm.flat q.ae) rfl Jr.I.1 ⟨w7.heap.size,0,none⟩ 1 1 (bm.vals ({ x with ak:=a2,aq:=c2 } :au)) (by rfl) rfl (KE (cs:= #[.int .i64 x.id,.int .i64 x.max,.slice a2 x.Ma.length c2]) (t:=160) (fr:=(0,0)) Jr.I.2) (by simp [bm,nD,Value.oneCell']) (by unfold maxLen; omega) (by omega) (by simp; omega) ?_; intro v5 pH oM oq zR sM; obtain ⟨a5,c5,rfl,-⟩:=cr oM; have HN:Hid (cL p w (pH.setCell ⟨o,6,none⟩ (.slice a5 (q.ae.length+1) c5)) o ({ q with ae:=q.ae ++ [({ x with ak:=a2,aq:=c2 } :au)],am:=a5,aG:=c5 } :af)∧pH.cell? ⟨o,6,none⟩=some (.slice q.am q.ae.length q.aG)∧pH.frozen? ⟨o,6,none⟩=false):=HL.I.1.Do DR.I rfl rfl oM oq sM; have VY:=HN.I.2.1; have VP:=HN.I.2.2; clear oM oq zR sM));go_roundw
      case rel=>exact ⟨k+1,by omega,by go_num,⟨_,HN.I.1,cL.FY HL.I.2.1 HX.I.1⟩⟩
      case measure=>simp [Go.RowKit.intOf]; omega
     ·have i1: ¬ (k:Int) < (p.ae.length:Int):=by omega
      have HE:Hid (∃ q,cL p w wr o q∧q.pure= { p.pure with ai:= [] }):=by
       have h5:=HL.I.2.1;rw [KF (by show (p.ae.map _).length≤k; rw [KG]; omega)] at h5;exact ⟨q,HL.I.1,h5⟩
      clear HL
      rename World=>W3
      obtain ⟨qE,hi',GQ⟩:=Kw.1 na;simp only [Kx] at GQ;have HI:Hid (Tryz.prog.info? 85=some qE∧qE.zero=some _∧qE.size=5∧qE.bytes=48):=⟨hi',GQ⟩
      clear hi' GQ;have hpPort:p.ai.length≤1048576:=HF.I.1.short.ai;go_wp2_with fail;clear mp
      go_loopw [8] (fun i wr=> ∃ k:Nat,k≤p.ai.length∧i= .int .i64 k∧Hid (∃ q,cL p w wr o q∧q.pure= { p.pure with ai:=p.pure.ai.take k })) (fun i _=>p.ai.length - (Go.RowKit.intOf i).toNat)
      case atStart=>exact ⟨0,Ky _,rfl,by obtain ⟨q,h1,h2⟩:=HE.I; exact ⟨q,h1,h2.trans (by simp)⟩⟩
      case round=>
       obtain ⟨k,hk,rfl,HA⟩:=hrel;obtain ⟨q,hL,hq⟩:=HA.I;have HL:Hid (cL p w wr o q∧(q.pure= { p.pure with ai:=p.pure.ai.take k })∧q.ai.length=k):=⟨hL,hq,I0 hq hk⟩
       clear HA hL hq;have mp:wr.cell? ⟨w.heap.size,7,none⟩=some (.slice p.aK p.ai.length p.aV):=by obtain ⟨m0,m1,m2,m3,m4,m5,m6,m7⟩:=HL.I.1.part.cells; exact m7
       by_cases hlt:k < p.ai.length
       ·have i0:(0:Int)≤(k:Int):=by omega
        have i1:(k:Int) < (p.ai.length:Int):=by omega
        obtain ⟨x,hx⟩: ∃ x,p.ai[k]? =some x:=⟨_,Kz hlt⟩
        have hAt:=HF.I.2.below HL.I.1.cd;obtain ⟨gs,ha,hat⟩:=lm hAt.2.2.2.2.2 hx;rw [ha] at mp;obtain ⟨d0,d1,d2,d3,d4⟩:=hat;have HX:Hid (p.ai[k]? =some x∧Row wr x.ak (bT.flat x.Ma)∧x.Ma.length≤1048576):=⟨hx,hAt.2.2.2.2.2.2 x (KA hx) (x.ak,bT.flat x.Ma) (KB.2 rfl),(HF.I.1.ai x (KA hx)).1⟩
        clear hx ha hAt;have hb2:Below wr.heap.size wr ((wr.alloc (.cells #[.int .i64 x.id,.bool x.I,.bool x.Mf,.int .i64 x.max,.slice x.ak x.Ma.length x.aq] 85)).alloc (.cells #[] 9)):=((Kp _ _).alloc (Ki _) _).alloc (by simp) _;obtain ⟨a2,c2,w7,hap,how,Fw,nW⟩:=tO ((wr.alloc (.cells #[.int .i64 x.id,.bool x.I,.bool x.Mf,.int .i64 x.max,.slice x.ak x.Ma.length x.aq] 85)).alloc (.cells #[] 9)) wr.heap.size (wr.heap.size+1) (Kq _ _ _) (by omega) x.ak x.Ma x.aq (HX.I.2.1.below hb2) HX.I.2.2 (by simp; omega);have DO:=(Fw.block wr.heap.size (by simp; omega) (fun e=>by have:=KC e; omega)).trans ((PU (by simp)).trans (Kj wr _));have gh:Below wr.heap.size wr w7:=hb2.grown Fw (by simp; omega) (fun k hk=>by cases hk; omega);have DR:Hid (uT wr w7 x a2 c2):=⟨DO,gh,how,fun g hg=>by have h5:=nW g hg; simp at h5; exact h5⟩
        have z0:w7.frozen? ⟨wr.heap.size,4,none⟩=false:=Ko _ _ _ _ _ DO;have z1:w7.cell? ⟨wr.heap.size,4,none⟩=some (.slice x.ak x.Ma.length x.aq):=by simp [World.cell?,DO]
        clear hb2 how Fw nW DO gh;obtain ⟨co,e0,e1,e2,e3,e4⟩:=HL.I.1.inPort DR.I rfl;have hkl:q.ai.length≤1048576:=by have:=HL.I.2.2; have:=HF.I.1.short.ai; omega
        have hsz:w.heap.size+2≤w7.heap.size:=by have h5:=DR.I.2.1.size; have h6:=HL.I.1.low; have h7:o < wr.heap.size:=(J2.1 HL.I.1.I).1; omega
        have Jr:Hid (_):=HL.I.1.I4 DR.I rfl rfl;go_wp2_with (at_builtin; first | (refine br _ rfl _ _ 83 rfl _ _ _ _ rfl rfl hap ?_; clear hap) | (refine KD _ rfl _ _ 46 rfl (w.heap.size+2) 85 qE _ 5 48 Tryz.underlying46 HI.I.1 HI.I.2.1 HI.I.2.2.1 HI.I.2.2.2 rfl (by decide) (.slice q.aK q.ai.length q.aV) q.ai.length (bX.flat q.ai) rfl Jr.I.1 ⟨w7.heap.size,0,none⟩ 1 1 (bX.vals ({ x with ak:=a2,aq:=c2 } :aM)) (by rfl) rfl (KE (cs:= #[.int .i64 x.id,.bool x.I,.bool x.Mf,.int .i64 x.max,.slice a2 x.Ma.length c2]) (t:=85) (fr:=(0,0)) Jr.I.2) (by simp [bX,qT,Value.oneCell']) (by unfold maxLen; omega) (by omega) (by simp; omega) ?_; intro v5 pH oM oq zR sM; obtain ⟨a5,c5,rfl,-⟩:=cr oM; have HN:Hid (cL p w (pH.setCell ⟨o,7,none⟩ (.slice a5 (q.ai.length+1) c5)) o ({ q with ai:=q.ai ++ [({ x with ak:=a2,aq:=c2 } :aM)],aK:=a5,aV:=c5 } :af)∧pH.cell? ⟨o,7,none⟩=some (.slice q.aK q.ai.length q.aV)∧pH.frozen? ⟨o,7,none⟩=false):=HL.I.1.Gi DR.I rfl rfl oM oq sM; have VY:=HN.I.2.1; have VP:=HN.I.2.2; clear oM oq zR sM));go_roundw
        case rel=>exact ⟨k+1,by omega,by go_num,⟨_,HN.I.1,cL.upPort HL.I.2.1 HX.I.1⟩⟩
        case measure=>simp [Go.RowKit.intOf]; omega
       ·have i1: ¬ (k:Int) < (p.ai.length:Int):=by omega
        have HE:Hid (∃ q,cL p w wr o q∧q.pure=p.pure):=by
         have h5:=HL.I.2.1;rw [KF (by show (p.ai.map _).length≤k; rw [KG]; omega)] at h5;exact ⟨q,HL.I.1,h5⟩
        clear HL;obtain ⟨q,hL,hq⟩:=HE.I;have HZ:Hid (cL p w wr o q∧q.pure=p.pure):=⟨hL,hq⟩
        obtain ⟨m0,m1,m2,m3,m4,m5,m6,m7⟩:=hL.I.cells;clear hL hq HE
        repeat (first | (go_big_may; refine ec 2 96 q.row HZ.I.1.ret ?_) | go_values | go_skip | go_guarded | go_step | go_upon | go_back)
        repeat (first | go_values | go_skip | go_guarded | go_step | go_upon)
        refine gZ Tryz.results46 HZ.I.1.ret ?_;have hne: ∀ g∈q.Mc,g≠w.heap.size+1:=fun g hg e=>by have:=(HZ.I.1.own.lt g hg).1; omega
        exact ⟨q,rfl,(HZ.I.1.own.lower (by omega)).same fun g hg=>KH _ _ _ _ (hne g hg),HZ.I.2,kz HZ.I.1.cd (by omega) _⟩
end
section
open Go.RowKit Go.Maps
attribute [local go_sem ↓] Kc Kd
theorem Dv {VO VS VV r1 r2 r3 r4 r5 r6:List Nat} {N n1 n2 n3 n4 n5 n6:Nat} (hk:(VO ++ (VS ++ VV)).Nodup) (hkl: ∀ g∈VO ++ (VS ++ VV),g < N) (h1:nU N n1 r1) (h2:nU n1 n2 r2) (h3:nU n2 n3 r3) (h4:nU n3 n4 r4) (h5:nU n4 n5 r5) (h6:nU n5 n6 r6)
  (e:N≤n1∧n1≤n2∧n2≤n3∧n3≤n4∧n4≤n5∧n5≤n6):(r1 ++ (VO ++ (r2 ++ (r3 ++ (r4 ++ (r5 ++ (VS ++ (r6 ++ VV)))))))).Nodup:=by
 have hp:(r1 ++ (VO ++ (r2 ++ (r3 ++ (r4 ++ (r5 ++ (VS ++ (r6 ++ VV)))))))).Perm ((VO ++ (VS ++ VV)) ++ (r1 ++ (r2 ++ (r3 ++ (r4 ++ (r5 ++ r6)))))):=by
  rw [List.perm_iff_count];intro x;simp only [List.count_append];omega
 rw [hp.nodup_iff,Kf];have hr:nU N n6 (r1 ++ (r2 ++ (r3 ++ (r4 ++ (r5 ++ r6))))):=h1.append (h2.append (h3.append (h4.append (h5.append h6 (by omega) (by omega) (by omega)) (by omega) (by omega) (by omega)) (by omega) (by omega) (by omega)) (by omega) (by omega) (by omega)) (by omega) (by omega) (by omega);refine ⟨hk,hr.1,fun a ha b hb e=> ?_⟩
 have:=hkl a ha
 have:=(hr.2 b hb).1
 omega
theorem px {w:World} {base n size cap:Nat} {e:TypeId} {a:Option Addr} {xs:List Value} (h:w.ownsRow base e size (.slice a n cap) n xs):nU base w.heap.size (blk a):=⟨fN a,fun _ hg=>cf h hg⟩
structure aZ.Fits (S:aZ):Prop where
 dl:S.lp.length≤1048576
 Jl: ∀ p∈RW (fun x:ao=>x.id) S.lp,(Lit.int .i64 p.1).wf=true
 fx:S.ls.length≤1048576
 adG: ∀ p∈RW (fun x:bD=>x.id) S.ls,(Lit.int .i64 p.1).wf=true
 cD:S.le.length≤1048576
 G4: ∀ p∈RW (fun x:aB=>x.id) S.le,(Lit.int .i64 p.1).wf=true
 cC:S.lb.length≤1048576
 FP: ∀ p∈RW (fun x:az=>x.id) S.lb,(Lit.int .i64 p.1).wf=true
 cb:S.lf.length≤1048576
 DW: ∀ p∈RW (fun x:au=>x.id) S.lf,(Lit.int .i64 p.1).wf=true
 dH:S.lq.length≤1048576
 Jz: ∀ p∈RW (fun x:aM=>x.id) S.lq,(Lit.int .i64 p.1).wf=true
abbrev GR (o:Nat) (S:aZ) (w':World):Prop:=w'.cell? ⟨o,0,none⟩=some (.int .i64 S.q.id)∧w'.cell? ⟨o,1,none⟩=some (.int .i64 S.q.next)∧w'.cell? ⟨o,2,none⟩=some (.int .i64 6)∧w'.cell? ⟨o,3,none⟩=some (.map (some S.q.bp))∧w'.cell? ⟨o,4,none⟩=some (.int .i64 5)∧w'.cell? ⟨o,5,none⟩=some (.map (some S.q.bs))∧w'.cell? ⟨o,6,none⟩=some (.int .i64 5)∧w'.cell? ⟨o,7,none⟩=some (.map (some S.q.be))∧w'.cell? ⟨o,8,none⟩=some (.int .i64 5)∧w'.cell? ⟨o,9,none⟩=some (.map (some S.q.bb))∧w'.cell? ⟨o,10,none⟩=some (.int .i64 5)∧w'.cell? ⟨o,11,none⟩=some (.map (some S.q.bf))∧w'.cell? ⟨o,12,none⟩=some (.int .i64 5)∧w'.cell? ⟨o,13,none⟩=some (.map (some S.q.bq))
theorem kP {o:Nat} {S:aZ} {w:World} (h:fa w o S.q):GR o S w:=⟨h.cell 0,h.cell 1,h.cell 2,h.cell 3,h.cell 4,h.cell 5,h.cell 6,h.cell 7,h.cell 8,h.cell 9,h.cell 10,h.cell 11,h.cell 12,h.cell 13⟩
def aaM (w:World) (base:Nat) (S:aZ) (e:Ending) (w':World):Prop:= ∃ r:af,e= .returned (.agg r.cells)∧ap w' base r∧r.pure=S.pure∧Below w.heap.size w w'∧ ∀ g∈r.Mc,g∈S.kids∨w.heap.size≤g
theorem ZZ (o base:Nat) (S:aZ) (w:World) (h:cJ w base o S) (hf:S.Fits):Calls J3 47 #[.pointer (some ⟨o,0,none⟩)] w fun e w'=>aaM w base S e w':=by
 have hb0:Below w.heap.size w (w.alloc (.cells ar 48)):=(Kp _ _).alloc (Ki _) _;have HZ:Hid (cJ w base o S∧S.Fits∧Below w.heap.size w (w.alloc (.cells ar 48)).drew∧(w.alloc (.cells ar 48)).drew.heap[w.heap.size]? =some (.cells ar 48 (0,0))∧w.heap.size < (w.alloc (.cells ar 48)).drew.heap.size):=⟨h,hf,hb0.drew,Kj _ _,by simp⟩
 have HS:Hid (GR o S (w.alloc (.cells ar 48)).drew):=kP (h.opn.below hb0.drew);clear h hf hb0
 go_enter Tryz.func47,Tryz.ntmps47
 go_wp2_with fail;generalize w.alloc (.cells ar 48)=W at *;refine Kr (S:=GR o S) (by kernel_rfl) HS.I (fun hHeld=> ?_);refine tt 0 hHeld ?_;refine tt 1 hHeld ?_;refine tt 2 hHeld ?_;refine tt 3 hHeld ?_;refine tt 4 hHeld ?_;refine tt 5 hHeld ?_;refine tt 6 hHeld ?_;refine tt 7 hHeld ?_;refine tt 8 hHeld ?_;refine tt 9 hHeld ?_;refine tt 10 hHeld ?_;refine tt 11 hHeld ?_;refine tt 13 hHeld ?_;refine tt 14 hHeld ?_;refine tt 15 hHeld ?_;refine tt 16 hHeld ?_;refine tt 18 hHeld ?_;refine tt 19 hHeld ?_;refine tt 20 hHeld ?_;refine tt 21 hHeld ?_;refine tt 23 hHeld ?_;refine tt 24 hHeld ?_;refine tt 25 hHeld ?_;refine tt 26 hHeld ?_;refine tt 28 hHeld ?_;refine tt 29 hHeld ?_;refine tt 30 hHeld ?_;refine tt 31 hHeld ?_;refine tt 33 hHeld ?_;refine tt 34 hHeld ?_;refine tt 35 hHeld ?_;refine tt 36 hHeld ?_;clear HS;generalize hWd:W.drew=W0 at *;clear hWd;refine L7 12 (fun K hK=> ?_);go_wp2_with fail;refine (zj 6 base S.q.bp S.lp W0 (HZ.I.1.L8.below HZ.I.2.2.1) HZ.I.2.1.dl HZ.I.2.1.Jl).mono ?_;rintro e W1 ⟨a1,c1,rfl,hown,hb⟩;have wm:Hid (nU W0.heap.size W1.heap.size (blk a1)∧W0.heap.size≤W1.heap.size):=⟨px hown,hb.size⟩
 have HY:Hid (W1.ownsRow W0.heap.size 148 12 (.slice a1 (S.lp.map (·.1)).length c1) (S.lp.map (·.1)).length (bg.flat (S.lp.map (·.1)))∧W0.heap.size≤W1.heap.size):=⟨hown,hb.size⟩
 have HR:=HY;clear HY;have iP:Hid (cJ w base o S∧S.Fits∧Below w.heap.size w W1∧W1.heap[w.heap.size]? =some (.cells ar 48 (0,0))∧w.heap.size < W0.heap.size):=⟨HZ.I.1,HZ.I.2.1,HZ.I.2.2.1.trans (hb.mono HZ.I.2.2.1.size),(hb.block _ (J2.1 HZ.I.2.2.2.1).1).trans HZ.I.2.2.2.1,HZ.I.2.2.2.2⟩
 clear HZ hown hb;have HZ:=iP;clear iP hHeld;refine hK.out _ _ (kP (HZ.I.1.opn.below HZ.I.2.2.1)) (fun hHeld=> ?_);clear hK K
 try simp only [KZ,K0,K1,Act.put,Qr,Ln,Lo]
 refine L7 17 (fun K hK=> ?_);go_wp2_with fail;refine (AN 5 base S.q.bs S.ls W1 (HZ.I.1.aj.below HZ.I.2.2.1) HZ.I.2.1.fx HZ.I.2.1.adG).mono ?_;rintro e W2 ⟨a2,c2,rfl,hown,hb⟩;have xD:Hid (nU W1.heap.size W2.heap.size (blk a2)∧W1.heap.size≤W2.heap.size):=⟨px hown,hb.size⟩
 have HY:Hid (W2.ownsRow W0.heap.size 148 12 (.slice a1 (S.lp.map (·.1)).length c1) (S.lp.map (·.1)).length (bg.flat (S.lp.map (·.1)))∧W2.ownsRow W1.heap.size 184 3 (.slice a2 (S.ls.map (·.1)).length c2) (S.ls.map (·.1)).length (dm.flat (S.ls.map (·.1)))∧W0.heap.size≤W1.heap.size∧W1.heap.size≤W2.heap.size):=⟨cR HR.I.1 hb,hown,HR.I.2,hb.size⟩
 clear HR;have HR:=HY;clear HY;have iP:Hid (cJ w base o S∧S.Fits∧Below w.heap.size w W2∧W2.heap[w.heap.size]? =some (.cells ar 48 (0,0))∧w.heap.size < W0.heap.size):=⟨HZ.I.1,HZ.I.2.1,HZ.I.2.2.1.trans (hb.mono HZ.I.2.2.1.size),(hb.block _ (J2.1 HZ.I.2.2.2.1).1).trans HZ.I.2.2.2.1,HZ.I.2.2.2.2⟩
 clear HZ hown hb;have HZ:=iP;clear iP hHeld;refine hK.out _ _ (kP (HZ.I.1.opn.below HZ.I.2.2.1)) (fun hHeld=> ?_);clear hK K
 try simp only [KZ,K0,K1,Act.put,Qr,Ln,Lo]
 refine L7 22 (fun K hK=> ?_);go_wp2_with fail;refine (wN 5 base S.q.be S.le W2 (HZ.I.1.L9.below HZ.I.2.2.1) HZ.I.2.1.cD HZ.I.2.1.G4).mono ?_;rintro e W3 ⟨a3,c3,rfl,hown,hb⟩;have Fz:Hid (nU W2.heap.size W3.heap.size (blk a3)∧W2.heap.size≤W3.heap.size):=⟨px hown,hb.size⟩
 have HY:Hid (W3.ownsRow W0.heap.size 148 12 (.slice a1 (S.lp.map (·.1)).length c1) (S.lp.map (·.1)).length (bg.flat (S.lp.map (·.1)))∧W3.ownsRow W1.heap.size 184 3 (.slice a2 (S.ls.map (·.1)).length c2) (S.ls.map (·.1)).length (dm.flat (S.ls.map (·.1)))∧W3.ownsRow W2.heap.size 187 2 (.slice a3 (S.le.map (·.1)).length c3) (S.le.map (·.1)).length (bJ.flat (S.le.map (·.1)))∧W0.heap.size≤W1.heap.size∧W1.heap.size≤W2.heap.size∧W2.heap.size≤W3.heap.size):=⟨cR HR.I.1 hb,cR HR.I.2.1 hb,hown,HR.I.2.2.1,HR.I.2.2.2,hb.size⟩
 clear HR;have HR:=HY;clear HY;have iP:Hid (cJ w base o S∧S.Fits∧Below w.heap.size w W3∧W3.heap[w.heap.size]? =some (.cells ar 48 (0,0))∧w.heap.size < W0.heap.size):=⟨HZ.I.1,HZ.I.2.1,HZ.I.2.2.1.trans (hb.mono HZ.I.2.2.1.size),(hb.block _ (J2.1 HZ.I.2.2.2.1).1).trans HZ.I.2.2.2.1,HZ.I.2.2.2.2⟩
 clear HZ hown hb;have HZ:=iP;clear iP hHeld;refine hK.out _ _ (kP (HZ.I.1.opn.below HZ.I.2.2.1)) (fun hHeld=> ?_);clear hK K
 try simp only [KZ,K0,K1,Act.put,Qr,Ln,Lo]
 refine L7 27 (fun K hK=> ?_);go_wp2_with fail;refine (wC 5 base S.q.bb S.lb W3 (HZ.I.1.ag.below HZ.I.2.2.1) HZ.I.2.1.cC HZ.I.2.1.FP).mono ?_;rintro e W4 ⟨a4,c4,rfl,hown,hb⟩;have FA:Hid (nU W3.heap.size W4.heap.size (blk a4)∧W3.heap.size≤W4.heap.size):=⟨px hown,hb.size⟩
 have HY:Hid (W4.ownsRow W0.heap.size 148 12 (.slice a1 (S.lp.map (·.1)).length c1) (S.lp.map (·.1)).length (bg.flat (S.lp.map (·.1)))∧W4.ownsRow W1.heap.size 184 3 (.slice a2 (S.ls.map (·.1)).length c2) (S.ls.map (·.1)).length (dm.flat (S.ls.map (·.1)))∧W4.ownsRow W2.heap.size 187 2 (.slice a3 (S.le.map (·.1)).length c3) (S.le.map (·.1)).length (bJ.flat (S.le.map (·.1)))∧W4.ownsRow W3.heap.size 190 3 (.slice a4 (S.lb.map (·.1)).length c4) (S.lb.map (·.1)).length (bG.flat (S.lb.map (·.1)))∧W0.heap.size≤W1.heap.size∧W1.heap.size≤W2.heap.size∧W2.heap.size≤W3.heap.size∧W3.heap.size≤W4.heap.size):=⟨cR HR.I.1 hb,cR HR.I.2.1 hb,cR HR.I.2.2.1 hb,hown,HR.I.2.2.2.1,HR.I.2.2.2.2.1,HR.I.2.2.2.2.2,hb.size⟩
 clear HR;have HR:=HY;clear HY;have iP:Hid (cJ w base o S∧S.Fits∧Below w.heap.size w W4∧W4.heap[w.heap.size]? =some (.cells ar 48 (0,0))∧w.heap.size < W0.heap.size):=⟨HZ.I.1,HZ.I.2.1,HZ.I.2.2.1.trans (hb.mono HZ.I.2.2.1.size),(hb.block _ (J2.1 HZ.I.2.2.2.1).1).trans HZ.I.2.2.2.1,HZ.I.2.2.2.2⟩
 clear HZ hown hb;have HZ:=iP;clear iP hHeld;refine hK.out _ _ (kP (HZ.I.1.opn.below HZ.I.2.2.1)) (fun hHeld=> ?_);clear hK K
 try simp only [KZ,K0,K1,Act.put,Qr,Ln,Lo]
 refine L7 32 (fun K hK=> ?_);go_wp2_with fail;refine (uk 5 base S.q.bf S.lf W4 (HZ.I.1.ae.below HZ.I.2.2.1) HZ.I.2.1.cb HZ.I.2.1.DW).mono ?_;rintro e W5 ⟨a5,c5,rfl,hown,hb⟩;have Ik:Hid (nU W4.heap.size W5.heap.size (blk a5)∧W4.heap.size≤W5.heap.size):=⟨px hown,hb.size⟩
 have HY:Hid (W5.ownsRow W0.heap.size 148 12 (.slice a1 (S.lp.map (·.1)).length c1) (S.lp.map (·.1)).length (bg.flat (S.lp.map (·.1)))∧W5.ownsRow W1.heap.size 184 3 (.slice a2 (S.ls.map (·.1)).length c2) (S.ls.map (·.1)).length (dm.flat (S.ls.map (·.1)))∧W5.ownsRow W2.heap.size 187 2 (.slice a3 (S.le.map (·.1)).length c3) (S.le.map (·.1)).length (bJ.flat (S.le.map (·.1)))∧W5.ownsRow W3.heap.size 190 3 (.slice a4 (S.lb.map (·.1)).length c4) (S.lb.map (·.1)).length (bG.flat (S.lb.map (·.1)))∧W5.ownsRow W4.heap.size 160 3 (.slice a5 (S.lf.map (·.1)).length c5) (S.lf.map (·.1)).length (bm.flat (S.lf.map (·.1)))∧W0.heap.size≤W1.heap.size∧W1.heap.size≤W2.heap.size∧W2.heap.size≤W3.heap.size∧W3.heap.size≤W4.heap.size∧W4.heap.size≤W5.heap.size):=⟨cR HR.I.1 hb,cR HR.I.2.1 hb,cR HR.I.2.2.1 hb,cR HR.I.2.2.2.1 hb,hown,HR.I.2.2.2.2.1,HR.I.2.2.2.2.2.1,HR.I.2.2.2.2.2.2.1,HR.I.2.2.2.2.2.2.2,hb.size⟩
 clear HR;have HR:=HY;clear HY;have iP:Hid (cJ w base o S∧S.Fits∧Below w.heap.size w W5∧W5.heap[w.heap.size]? =some (.cells ar 48 (0,0))∧w.heap.size < W0.heap.size):=⟨HZ.I.1,HZ.I.2.1,HZ.I.2.2.1.trans (hb.mono HZ.I.2.2.1.size),(hb.block _ (J2.1 HZ.I.2.2.2.1).1).trans HZ.I.2.2.2.1,HZ.I.2.2.2.2⟩
 clear HZ hown hb;have HZ:=iP;clear iP hHeld;refine hK.out _ _ (kP (HZ.I.1.opn.below HZ.I.2.2.1)) (fun hHeld=> ?_);clear hK K
 try simp only [KZ,K0,K1,Act.put,Qr,Ln,Lo]
 refine L7 37 (fun K hK=> ?_);go_wp2_with fail;refine (zf 5 base S.q.bq S.lq W5 (HZ.I.1.ai.below HZ.I.2.2.1) HZ.I.2.1.dH HZ.I.2.1.Jz).mono ?_;rintro e W6 ⟨a6,c6,rfl,hown,hb⟩;have Jw:Hid (nU W5.heap.size W6.heap.size (blk a6)∧W5.heap.size≤W6.heap.size):=⟨px hown,hb.size⟩
 have HY:Hid (W6.ownsRow W0.heap.size 148 12 (.slice a1 (S.lp.map (·.1)).length c1) (S.lp.map (·.1)).length (bg.flat (S.lp.map (·.1)))∧W6.ownsRow W1.heap.size 184 3 (.slice a2 (S.ls.map (·.1)).length c2) (S.ls.map (·.1)).length (dm.flat (S.ls.map (·.1)))∧W6.ownsRow W2.heap.size 187 2 (.slice a3 (S.le.map (·.1)).length c3) (S.le.map (·.1)).length (bJ.flat (S.le.map (·.1)))∧W6.ownsRow W3.heap.size 190 3 (.slice a4 (S.lb.map (·.1)).length c4) (S.lb.map (·.1)).length (bG.flat (S.lb.map (·.1)))∧W6.ownsRow W4.heap.size 160 3 (.slice a5 (S.lf.map (·.1)).length c5) (S.lf.map (·.1)).length (bm.flat (S.lf.map (·.1)))∧W6.ownsRow W5.heap.size 85 5 (.slice a6 (S.lq.map (·.1)).length c6) (S.lq.map (·.1)).length (bX.flat (S.lq.map (·.1)))∧W0.heap.size≤W1.heap.size∧W1.heap.size≤W2.heap.size∧W2.heap.size≤W3.heap.size∧W3.heap.size≤W4.heap.size∧W4.heap.size≤W5.heap.size∧W5.heap.size≤W6.heap.size):=⟨cR HR.I.1 hb,cR HR.I.2.1 hb,cR HR.I.2.2.1 hb,cR HR.I.2.2.2.1 hb,cR HR.I.2.2.2.2.1 hb,hown,HR.I.2.2.2.2.2.1,HR.I.2.2.2.2.2.2.1,HR.I.2.2.2.2.2.2.2.1,HR.I.2.2.2.2.2.2.2.2.1,HR.I.2.2.2.2.2.2.2.2.2,hb.size⟩
 clear HR;have HR:=HY;clear HY;have iP:Hid (cJ w base o S∧S.Fits∧Below w.heap.size w W6∧W6.heap[w.heap.size]? =some (.cells ar 48 (0,0))∧w.heap.size < W0.heap.size):=⟨HZ.I.1,HZ.I.2.1,HZ.I.2.2.1.trans (hb.mono HZ.I.2.2.1.size),(hb.block _ (J2.1 HZ.I.2.2.2.1).1).trans HZ.I.2.2.2.1,HZ.I.2.2.2.2⟩
 clear HZ hown hb;have HZ:=iP;clear iP hHeld;refine hK.out _ _ (kP (HZ.I.1.opn.below HZ.I.2.2.1)) (fun hHeld=> ?_);clear hK K
 try simp only [KZ,K0,K1,Act.put,Qr,Ln,Lo]
 refine wpAnyH_take (i:=38) (v:= .agg #[.int .i64 S.q.id,.int .i64 S.q.next,.slice a1 S.lp.length c1,.slice a2 S.ls.length c2,.slice a3 S.le.length c3,.slice a4 S.lb.length c4,.slice a5 S.lf.length c5,.slice a6 S.lq.length c6]) rfl (by kernel_rfl) (by kernel_rfl) (by kernel_rfl) (fun _ _ _ h=>h) (Or.inl ⟨by kernel_rfl,?_⟩) hHeld ?_
 ·intro w0 hS0
  go_simp
  try with_reducible rfl
 simp only [KZ,K0,K1,Act.put,Qr,Ln,Lo];refine L7 39 (fun K hK=> ?_);refine qd _ _ _ rfl w.heap.size _ _ #[.int .i64 S.q.id,.int .i64 S.q.next,.slice a1 S.lp.length c1,.slice a2 S.ls.length c2,.slice a3 S.le.length c3,.slice a4 S.lb.length c4,.slice a5 S.lf.length c5,.slice a6 S.lq.length c6] rfl rfl HZ.I.2.2.2.1 (by kernel_rfl) rfl (by simp [Value.oneCell']) ?_;have p7:o < w.heap.size:=(J2.1 HZ.I.1.opn).1;have hbs:Below w.heap.size w (W6.setRow w.heap.size #[.int .i64 S.q.id,.int .i64 S.q.next,.slice a1 S.lp.length c1,.slice a2 S.ls.length c2,.slice a3 S.le.length c3,.slice a4 S.lb.length c4,.slice a5 S.lf.length c5,.slice a6 S.lq.length c6]):=kz HZ.I.2.2.1 (Ki _) _;refine hK.out _ _ (kP (HZ.I.1.opn.below hbs)) (fun hHeld=> ?_);clear hK K hHeld;refine K3 (by kernel_rfl) ?_ _
 repeat (first | go_values | go_skip | go_guarded | go_step | go_upon)
 refine gZ Tryz.results47 HZ.I.2.2.2.1 ?_;have hA:=HZ.I.1;have kj:=HZ.I.2.2.1;have hlo:=hA.low;have hw0:=HZ.I.2.2.2.2;have t1:=wm.I.2;have t2:=xD.I.2;have t3:=Fz.I.2;have t4:=FA.I.2;have t5:=Ik.I.2;have t6:=Jw.I.2;have hmP: ∀ q∈S.lp,aR.cO W6 base q.1:=fun q hq=>(hA.eI q hq).same fun g hk=>kj.block g ((hA.eI q hq).lt hk).2
 have hmF: ∀ q∈S.lf,aC.cO W6 base q.1:=fun q hq=>(hA.eE q hq).same fun g hk=>kj.block g ((hA.eE q hq).lt hk).2
 have hmQ: ∀ q∈S.lq,aU.cO W6 base q.1:=fun q hq=>(hA.eR q hq).same fun g hk=>kj.block g ((hA.eR q hq).lt hk).2
 have hkn:S.kids.Nodup:=(Kf.1 (Lp.1 hA.nodup).2).2.1;have hkl: ∀ g∈S.kids,g < w.heap.size:=fun g hg=>by
  simp only [aZ.kids,Kg,kids,List.mem_filterMap] at hg;rcases hg with ⟨q,hq,hk⟩ | ⟨q,hq,hk⟩ | ⟨q,hq,hk⟩
  ·exact ((hA.eI q hq).lt hk).2
  ·exact ((hA.eE q hq).lt hk).2
  ·exact ((hA.eR q hq).lt hk).2
 have VU:(S.lp.map (·.1)).filterMap aR.bt=kids aR S.lp:=by rw [List.filterMap_map]; rfl
 have eF:(S.lf.map (·.1)).filterMap aC.bt=kids aC S.lf:=by rw [List.filterMap_map]; rfl
 have eQ:(S.lq.map (·.1)).filterMap aU.bt=kids aU S.lq:=by rw [List.filterMap_map]; rfl
 have hown:ap W6 base (⟨S.q.id,S.q.next,S.lp.map (·.1),a1,c1,S.ls.map (·.1),a2,c2,S.le.map (·.1),a3,c3,S.lb.map (·.1),a4,c4,S.lf.map (·.1),a5,c5,S.lq.map (·.1),a6,c6⟩:af):=by
  refine ⟨cq HR.I.1 (by omega),cq HR.I.2.1 (by omega),cq HR.I.2.2.1 (by omega),cq HR.I.2.2.2.1 (by omega),cq HR.I.2.2.2.2.1 (by omega),cq HR.I.2.2.2.2.2.1 (by omega),?_,?_,?_,?_⟩
  ·intro x hx
   obtain ⟨q,hq,rfl⟩:=Lr.1 hx;exact hmP q hq
  ·intro x hx
   obtain ⟨q,hq,rfl⟩:=Lr.1 hx;exact hmF q hq
  ·intro x hx
   obtain ⟨q,hq,rfl⟩:=Lr.1 hx;exact hmQ q hq
  ·simp only [af.Mc,VU,eF,eQ]
   exact Dv (N:=W0.heap.size) hkn (fun g hg=>by have:=hkl g hg; omega) wm.I.1 xD.I.1 Fz.I.1 FA.I.1 Ik.I.1 Jw.I.1 ⟨t1,t2,t3,t4,t5,t6⟩
 have hnk: ∀ g∈(⟨S.q.id,S.q.next,S.lp.map (·.1),a1,c1,S.ls.map (·.1),a2,c2,S.le.map (·.1),a3,c3,S.lb.map (·.1),a4,c4,S.lf.map (·.1),a5,c5,S.lq.map (·.1),a6,c6⟩:af).Mc,g∈S.kids∨w.heap.size < g:=fun g hg=>by
  simp only [af.Mc,VU,eF,eQ,Kg] at hg;have hk: ∀ g,(g∈kids aR S.lp∨g∈kids aC S.lf∨g∈kids aU S.lq)→g∈S.kids:=fun g h5=>by simp only [aZ.kids,Kg]; exact h5
  rcases hg with hg | hg | hg | hg | hg | hg | hg | hg | hg
  ·exact .inr (by have:=(wm.I.1.2 g hg).1; omega)
  ·exact .inl (hk g (.inl hg))
  ·exact .inr (by have:=(xD.I.1.2 g hg).1; omega)
  ·exact .inr (by have:=(Fz.I.1.2 g hg).1; omega)
  ·exact .inr (by have:=(FA.I.1.2 g hg).1; omega)
  ·exact .inr (by have:=(Ik.I.1.2 g hg).1; omega)
  ·exact .inl (hk g (.inr (.inl hg)))
  ·exact .inr (by have:=(Jw.I.1.2 g hg).1; omega)
  ·exact .inl (hk g (.inr (.inr hg)))
 have hne: ∀ g∈(⟨S.q.id,S.q.next,S.lp.map (·.1),a1,c1,S.ls.map (·.1),a2,c2,S.le.map (·.1),a3,c3,S.lb.map (·.1),a4,c4,S.lf.map (·.1),a5,c5,S.lq.map (·.1),a6,c6⟩:af).Mc,g≠w.heap.size:=fun g hg e=>by
  rcases hnk g hg with h5 | h5
  ·have:=hkl g h5; omega
  ·omega
 exact ⟨(⟨S.q.id,S.q.next,S.lp.map (·.1),a1,c1,S.ls.map (·.1),a2,c2,S.le.map (·.1),a3,c3,S.lb.map (·.1),a4,c4,S.lf.map (·.1),a5,c5,S.lq.map (·.1),a6,c6⟩:af),by simp [af.cells],hown.same fun g hg=>KH _ _ _ _ (hne g hg),by simp [af.pure,aZ.pure,Ls],hbs,fun g hg=>(hnk g hg).imp_right Nat.le_of_lt⟩
abbrev fr2 (w:World) (m:Int) (a:Option Addr) (l:List pA) (cap:Nat):World:=(w.alloc (.cells #[.int .i64 m,.slice a l.length cap] 24)).alloc (.cells #[.int .i64 0,.slice none 0 0] 33)
abbrev fr3 (w:World) (m:Int) (a:Option Addr) (l:List pA) (cap:Nat):World:=(fr2 w m a l cap).alloc (.cells #[.int .i64 m,.slice none 0 0] 33)
theorem UI (m:Int) (a:Option Addr) (l:List pA) (cap:Nat) (w:World) (hl:l.length≤1048576) (hc:jq.ep w a l):
  Calls J3 38 #[.agg #[.int .i64 m,.slice a l.length cap]] w fun e w'=> ∃ g,e= .returned (.agg #[.int .i64 m,.slice (some ⟨g,0,none⟩) l.length l.length])∧w'.ownsRow (w.heap.size+1) 100 3 (.slice (some ⟨g,0,none⟩) l.length l.length) l.length (jq.flat l)∧w.heap.size < g∧g < w'.heap.size∧Below w.heap.size w w':=by
 have hb0:Below w.heap.size w (fr3 w m a l cap):=(((Kp _ w).alloc (Ki _) _).alloc (by simp) _).alloc (by simp; omega) _;have HX:Hid ((fr3 w m a l cap).heap[w.heap.size+1]? =some (.cells #[.int .i64 0,.slice none 0 0] 33 (0,0))∧(fr3 w m a l cap).heap[w.heap.size+1+1]? =some (.cells #[.int .i64 m,.slice none 0 0] 33 (0,0))∧(fr3 w m a l cap).heap.size=w.heap.size+1+1+1):=by
  refine ⟨?_,?_,by simp⟩
  ·refine (adD _ _ _ (by simp)).trans ?_
   simpa using Kj (w.alloc (.cells #[.int .i64 m,.slice a l.length cap] 24)) (.cells #[.int .i64 0,.slice none 0 0] 33)
  ·simpa using Kj (fr2 w m a l cap) (.cells #[.int .i64 m,.slice none 0 0] 33)
 have HB:=aA hb0;have Mb:=Vd a l cap _ hl (hc.below hb0);clear hc hb0 hl;unfold fr3 fr2 at *
 go_enter Tryz.func38,Tryz.ntmps38
 go_wp2_with fail;generalize ((w.alloc (.cells #[.int .i64 m,.slice a l.length cap] 24)).alloc (.cells #[.int .i64 0,.slice none 0 0] 33)).alloc (.cells #[.int .i64 m,.slice none 0 0] 33)=W at *;refine Mb.mono ?_;clear Mb;rintro e w1 ⟨rfl,hown,hb1⟩;have hsz:=HX.I.2.2;have y1:w1.heap[w.heap.size+1]? =some (.cells #[.int .i64 0,.slice none 0 0] 33 (0,0)):=(hb1.block _ (by omega)).trans HX.I.1;have y2:w1.heap[w.heap.size+1+1]? =some (.cells #[.int .i64 m,.slice none 0 0] 33 (0,0)):=(hb1.block _ (by omega)).trans HX.I.2.1;have HM:Hid (w1.ownsRow W.heap.size 100 3 (.slice (some ⟨W.heap.size,0,none⟩) l.length l.length) l.length (jq.flat l)∧Below w.heap.size w w1∧W.heap.size < w1.heap.size):=⟨hown,HB.I.trans (hb1.mono HB.I.size),by
  rcases hown.2 with h | ⟨g,c,cur,hv,-,hg,-⟩
  ·cases h.1
  ·cases hv
   exact (J2.1 hg).1⟩
 have t0:w1.cell? ⟨w.heap.size+1+1,0,none⟩=some (.int .i64 m):=by simp [World.cell?,y2]
 have t1:w1.cell? ⟨w.heap.size+1+1,1,none⟩=some (.slice none 0 0):=by simp [World.cell?,y2]
 have u0:w1.frozen? ⟨w.heap.size+1+1,0,none⟩=false:=by simp [World.frozen?,y2]
 have u1:w1.frozen? ⟨w.heap.size+1+1,1,none⟩=false:=by simp [World.frozen?,y2]
 have v0:w1.cell? ⟨w.heap.size+1,0,none⟩=some (.int .i64 0):=by simp [World.cell?,y1]
 have v1:w1.cell? ⟨w.heap.size+1,1,none⟩=some (.slice none 0 0):=by simp [World.cell?,y1]
 have p0:w1.frozen? ⟨w.heap.size+1,0,none⟩=false:=by simp [World.frozen?,y1]
 have p1:w1.frozen? ⟨w.heap.size+1,1,none⟩=false:=by simp [World.frozen?,y1]
 clear y1 y2 hown hb1 hsz
 dsimp only
 go_wp2;refine KT (v:= .agg #[.int .i64 m,.slice (some ⟨W.heap.size,0,none⟩) l.length l.length]) (by simp [results,Tryz.results38,go_sem, *]) rfl ?_;have hsz:=HX.I.2.2;have h7:Below w.heap.size w (bn (bn w1 (w.heap.size+1+1) 1 [.slice (some ⟨W.heap.size,0,none⟩) l.length l.length]) (w.heap.size+1) 0 [.int .i64 m,.slice (some ⟨W.heap.size,0,none⟩) l.length l.length]):=eU _ (by omega) (eU _ (by omega) HM.I.2.1);have h8:(bn (bn w1 (w.heap.size+1+1) 1 [.slice (some ⟨W.heap.size,0,none⟩) l.length l.length]) (w.heap.size+1) 0 [.int .i64 m,.slice (some ⟨W.heap.size,0,none⟩) l.length l.length]).ownsRow W.heap.size 100 3 (.slice (some ⟨W.heap.size,0,none⟩) l.length l.length) l.length (jq.flat l):=aL HM.I.1 fun g hg=>by
  have hg2:g=W.heap.size:=by simpa [blk] using hg
  exact (de _ (by omega)).trans (de _ (by omega))
 have h9:(bn (bn w1 (w.heap.size+1+1) 1 [.slice (some ⟨W.heap.size,0,none⟩) l.length l.length]) (w.heap.size+1) 0 [.int .i64 m,.slice (some ⟨W.heap.size,0,none⟩) l.length l.length]).heap.size=w1.heap.size:=by rw [fH,fH]
 have h10:=cq h8 (show w.heap.size+1≤W.heap.size by omega);simp only [bn,Li] at h7 h9 h10;exact ⟨W.heap.size,rfl,h10,by omega,by rw [h9]; exact HM.I.2.2,h7⟩
abbrev T9:Array Value:= #[.int .i64 0,.int .i64 0,.slice none 0 0,.slice none 0 0,.slice none 0 0]
structure Vs (w:World) (k:eA) (cur:Array Value) (F:World→Prop) (W:World):Prop where
 src:W.heap[w.heap.size]? =some (.cells k.row 28 (0,0))
 res:W.heap[w.heap.size+1]? =some (.cells T9 37 (0,0))
 var:W.heap[w.heap.size+1+1]? =some (.cells cur 37 (0,0))
 cd:Below w.heap.size w W
 keep:fV (w.heap.size+1+1+1) F W
section
variable {w W W2:World} {k:eA} {cur:Array Value} {F G:World→Prop}
theorem Vs.lt (h:Vs w k cur F W):w.heap.size+1+1 < W.heap.size:=(J2.1 h.var).1
theorem Vs.call (h:Vs w k cur F W) (hb:Below W.heap.size W W2) (hg:fV (w.heap.size+1+1+1) G W2):Vs w k cur (fun V=>F V∧G V) W2:=by
 have hl:=h.lt;exact ⟨(hb.block _ (by omega)).trans h.src,(hb.block _ (by omega)).trans h.res,(hb.block _ (by omega)).trans h.var,h.cd.trans (hb.mono h.cd.size),fun V hs hz=>⟨(h.keep.step (fun g _ h2=>hb.block g h2) hb.size) V hs hz,hg V hs hz⟩⟩
theorem Vs.set (h:Vs w k cur F W) (i:Nat) (v:Value):Vs w k (cur.setIfInBounds i v) F (W.setCell ⟨w.heap.size+1+1,i,none⟩ v):=
 ⟨(K6 W _ v _ (by show ¬ w.heap.size=w.heap.size+1+1; omega)).trans h.src,(K6 W _ v _ (by show ¬ w.heap.size+1=w.heap.size+1+1; omega)).trans h.res,heap_setCell_same W _ i cur _ v h.var,h.cd.setCell (by show w.heap.size≤w.heap.size+1+1; omega) v,h.keep.step (fun g h1 _=>K6 W _ v _ (by show ¬ g=w.heap.size+1+1; omega)) (by simp [World.setCell])⟩
end
abbrev kn2 (w:World) (k:eA):World:=(w.alloc (.cells k.row 28)).alloc (.cells T9 37)
abbrev kn3 (w:World) (k:eA):World:=(kn2 w k).alloc (.cells #[.int .i64 k.now,.int .i64 0,.slice none 0 0,.slice none 0 0,.slice none 0 0] 37)
structure gp (w:World) (base:Nat) (k:eA):Prop where
 fn:w.ownsRow base 100 3 (.slice k.vb k.fn.length k.Te) k.fn.length (jq.flat k.fn)
 parts:w.ownsRow base 48 8 (.slice k.qn k.parts.length k.sa) k.parts.length (kp.flat k.parts)
 eC:w.ownsRow base 80 4 (.slice k.qi k.eC.length k.tC) k.eC.length (hM.flat k.eC)
 mine: ∀ p∈k.parts,ap w base p
 nodup:(blk k.vb ++ (blk k.qn ++ (blk k.qi ++ k.parts.flatMap af.Mc))).Nodup
theorem xb (k:eA) (w:World) (hs:k.yq) (hc:k.ep w):
  Calls J3 10 #[.agg k.row] w fun e w'=> ∃ (k':eA) (g:Nat),e= .returned (.agg k'.row)∧gp w' w.heap.size k'∧k'.pure=k.pure∧(k'.vb=some ⟨g,0,none⟩∧g < w'.heap.size)∧Below w.heap.size w w':=by
 have T:Hid (Vs w k #[.int .i64 k.now,.int .i64 0,.slice none 0 0,.slice none 0 0,.slice none 0 0] (fun _=>True) (kn3 w k)):=by
  refine ⟨?_,?_,?_,(((Kp _ w).alloc (Ki _) _).alloc (by simp) _).alloc (by simp; omega) _,fun _ _ _=>trivial⟩
  ·exact (adD _ _ _ (by simp; omega)).trans ((adD _ _ _ (by simp)).trans (Kj _ _))
  ·refine (adD _ _ _ (by simp)).trans ?_
   simpa using Kj (w.alloc (.cells k.row 28)) (.cells T9 37)
  ·simpa using Kj (kn2 w k) (.cells #[.int .i64 k.now,.int .i64 0,.slice none 0 0,.slice none 0 0,.slice none 0 0] 37)
 have HS:=aA hs;have HC:=aA hc;clear hs hc;unfold kn3 kn2 at *
 go_enter Tryz.func10,Tryz.ntmps10
 go_wp2_with fail;generalize ((w.alloc (.cells k.row 28)).alloc (.cells T9 37)).alloc (.cells #[.int .i64 k.now,.int .i64 0,.slice none 0 0,.slice none 0 0,.slice none 0 0] 37)=W0 at *;refine (UI k.major k.vb k.fn k.Te W0 HS.I.Ts (HC.I.fn.below T.I.cd)).mono ?_;rintro e v1 ⟨g1,rfl,ho,CT,hl1,hb1⟩;have hlt:=T.I.lt;replace T:=aA (T.I.call hb1 (G:=fun V=>V.ownsRow w.heap.size 100 3 (.slice (some ⟨g1,0,none⟩) k.fn.length k.fn.length) k.fn.length (jq.flat k.fn)∧g1 < V.heap.size) (fun V hs hz=>⟨cq (aL ho fun g hg=>by
  have e:g=g1:=by simpa [blk] using hg
  subst e;exact hs g (by omega) hl1) (by omega),by omega⟩))
 clear ho CT hl1 hb1 hlt;have t0:v1.cell? ⟨w.heap.size+1+1,0,none⟩=some (.int .i64 k.now):=by have:=T.I.var; simp [World.cell?,this]
 have u0:v1.frozen? ⟨w.heap.size+1+1,0,none⟩=false:=by have:=T.I.var; simp [World.frozen?,this]
 have t1:v1.cell? ⟨w.heap.size+1+1,1,none⟩=some (.int .i64 0):=by have:=T.I.var; simp [World.cell?,this]
 have u1:v1.frozen? ⟨w.heap.size+1+1,1,none⟩=false:=by have:=T.I.var; simp [World.frozen?,this]
 have t2:v1.cell? ⟨w.heap.size+1+1,2,none⟩=some (.slice none 0 0):=by have:=T.I.var; simp [World.cell?,this]
 have u2:v1.frozen? ⟨w.heap.size+1+1,2,none⟩=false:=by have:=T.I.var; simp [World.frozen?,this]
 have t3:v1.cell? ⟨w.heap.size+1+1,3,none⟩=some (.slice none 0 0):=by have:=T.I.var; simp [World.cell?,this]
 have u3:v1.frozen? ⟨w.heap.size+1+1,3,none⟩=false:=by have:=T.I.var; simp [World.frozen?,this]
 have t4:v1.cell? ⟨w.heap.size+1+1,4,none⟩=some (.slice none 0 0):=by have:=T.I.var; simp [World.cell?,this]
 have u4:v1.frozen? ⟨w.heap.size+1+1,4,none⟩=false:=by have:=T.I.var; simp [World.frozen?,this]
 replace T:=aA ((T.I.set 1 (.int .i64 k.major)).set 2 (.slice (some ⟨g1,0,none⟩) k.fn.length k.fn.length));go_upto_region 4 with fail;generalize (v1.setCell ⟨w.heap.size+1+1,1,none⟩ (.int .i64 k.major)).setCell ⟨w.heap.size+1+1,2,none⟩ (.slice (some ⟨g1,0,none⟩) k.fn.length k.fn.length)=W1 at *;clear t0 t1 t2 t3 t4 u0 u1 u2 u3 u4;have s3:W1.cell? ⟨w.heap.size,3,none⟩=some (.slice k.qn k.parts.length k.sa):=by have:=T.I.src; simp [World.cell?,this]
 have Mb:=UJ k.qn k.parts k.sa W1 HS.I.sC HS.I.parts (HC.I.parts.below T.I.cd);go_wp2_with fail;clear s3;refine Mb.mono ?_;clear Mb;rintro e v2 ⟨rfl,I,Vu⟩;have hlt:=T.I.lt;have HP:=aA Vu.alike;have HN:Hid (g1 < W1.heap.size∧W1.heap.size < v2.heap.size∧(I.flatMap af.Mc).Nodup∧ ∀ g∈I.flatMap af.Mc,W1.heap.size < g∧g < v2.heap.size):=⟨T.I.keep.here.2.2,(cf Vu.row (by simp [blk])).2,Vu.nodup,fun g hg=>by
  obtain ⟨p,hp,l9⟩:=List.mem_flatMap.1 hg
  have:=(Vu.mine p hp).lt g l9
  omega⟩
 replace T:=aA (T.I.call Vu.cd (G:=fun V=>V.ownsRow w.heap.size 48 8 (.slice (some ⟨W1.heap.size,0,none⟩) k.parts.length k.parts.length) k.parts.length (kp.flat I)∧ ∀ p∈I,ap V w.heap.size p) (fun V hs hz=>⟨cq (aL Vu.row fun g hg=>hs g (by have:=(cf Vu.row hg).1; omega) (cf Vu.row hg).2) (by omega),fun p hp=>((Vu.mine p hp).same fun g hg=>hs g (by have:=((Vu.mine p hp).lt g hg).1; omega) ((Vu.mine p hp).lt g hg).2).lower (by omega)⟩));clear Vu hlt;generalize W1.heap.size=S2 at *;have t0:v2.cell? ⟨w.heap.size+1+1,0,none⟩=some (.int .i64 k.now):=by have:=T.I.var; simp [World.cell?,this]
 have u0:v2.frozen? ⟨w.heap.size+1+1,0,none⟩=false:=by have:=T.I.var; simp [World.frozen?,this]
 have t1:v2.cell? ⟨w.heap.size+1+1,1,none⟩=some (.int .i64 k.major):=by have:=T.I.var; simp [World.cell?,this]
 have u1:v2.frozen? ⟨w.heap.size+1+1,1,none⟩=false:=by have:=T.I.var; simp [World.frozen?,this]
 have t2:v2.cell? ⟨w.heap.size+1+1,2,none⟩=some (.slice (some ⟨g1,0,none⟩) k.fn.length k.fn.length):=by have:=T.I.var; simp [World.cell?,this]
 have u2:v2.frozen? ⟨w.heap.size+1+1,2,none⟩=false:=by have:=T.I.var; simp [World.frozen?,this]
 have t3:v2.cell? ⟨w.heap.size+1+1,3,none⟩=some (.slice none 0 0):=by have:=T.I.var; simp [World.cell?,this]
 have u3:v2.frozen? ⟨w.heap.size+1+1,3,none⟩=false:=by have:=T.I.var; simp [World.frozen?,this]
 have t4:v2.cell? ⟨w.heap.size+1+1,4,none⟩=some (.slice none 0 0):=by have:=T.I.var; simp [World.cell?,this]
 have u4:v2.frozen? ⟨w.heap.size+1+1,4,none⟩=false:=by have:=T.I.var; simp [World.frozen?,this]
 replace T:=aA (T.I.set 3 (.slice (some ⟨S2,0,none⟩) k.parts.length k.parts.length));have HZ:Hid ((v2.setCell ⟨w.heap.size+1+1,3,none⟩ (.slice (some ⟨S2,0,none⟩) k.parts.length k.parts.length)).heap.size=v2.heap.size):=by show _=_; simp
 go_upto_region 5 with fail;generalize v2.setCell ⟨w.heap.size+1+1,3,none⟩ (.slice (some ⟨S2,0,none⟩) k.parts.length k.parts.length)=W2 at *;clear t0 t1 t2 t3 t4 u0 u1 u2 u3 u4;have s4:W2.cell? ⟨w.heap.size,4,none⟩=some (.slice k.qi k.eC.length k.tC):=by have:=T.I.src; simp [World.cell?,this]
 have Mb:=UG k.qi k.eC k.tC W2 HS.I.w8 (HC.I.eC.below T.I.cd);go_wp2_with fail;clear s4;refine Mb.mono ?_;clear Mb;rintro e v3 ⟨rfl,ho,hb3⟩;have hlt:=T.I.lt;replace T:=aA (T.I.call hb3 (G:=fun V=>V.ownsRow w.heap.size 80 4 (.slice (some ⟨W2.heap.size,0,none⟩) k.eC.length k.eC.length) k.eC.length (hM.flat k.eC)) (fun V hs hz=>cq (aL ho fun g hg=>hs g (by have:=(cf ho hg).1; omega) (cf ho hg).2) (by omega)));clear ho hb3 hlt;generalize W2.heap.size=S3 at *;have t0:v3.cell? ⟨w.heap.size+1+1,0,none⟩=some (.int .i64 k.now):=by have:=T.I.var; simp [World.cell?,this]
 have u0:v3.frozen? ⟨w.heap.size+1+1,0,none⟩=false:=by have:=T.I.var; simp [World.frozen?,this]
 have t1:v3.cell? ⟨w.heap.size+1+1,1,none⟩=some (.int .i64 k.major):=by have:=T.I.var; simp [World.cell?,this]
 have u1:v3.frozen? ⟨w.heap.size+1+1,1,none⟩=false:=by have:=T.I.var; simp [World.frozen?,this]
 have t2:v3.cell? ⟨w.heap.size+1+1,2,none⟩=some (.slice (some ⟨g1,0,none⟩) k.fn.length k.fn.length):=by have:=T.I.var; simp [World.cell?,this]
 have u2:v3.frozen? ⟨w.heap.size+1+1,2,none⟩=false:=by have:=T.I.var; simp [World.frozen?,this]
 have t3:v3.cell? ⟨w.heap.size+1+1,3,none⟩=some (.slice (some ⟨S2,0,none⟩) k.parts.length k.parts.length):=by have:=T.I.var; simp [World.cell?,this]
 have u3:v3.frozen? ⟨w.heap.size+1+1,3,none⟩=false:=by have:=T.I.var; simp [World.frozen?,this]
 have t4:v3.cell? ⟨w.heap.size+1+1,4,none⟩=some (.slice none 0 0):=by have:=T.I.var; simp [World.cell?,this]
 have u4:v3.frozen? ⟨w.heap.size+1+1,4,none⟩=false:=by have:=T.I.var; simp [World.frozen?,this]
 replace T:=aA (T.I.set 4 (.slice (some ⟨S3,0,none⟩) k.eC.length k.eC.length));go_upto_region 6 with fail;generalize v3.setCell ⟨w.heap.size+1+1,4,none⟩ (.slice (some ⟨S3,0,none⟩) k.eC.length k.eC.length)=W3 at *;clear t0 t1 t2 t3 t4 u0 u1 u2 u3 u4;have t0:W3.cell? ⟨w.heap.size+1+1,0,none⟩=some (.int .i64 k.now):=by have:=T.I.var; simp [World.cell?,this]
 have u0:W3.frozen? ⟨w.heap.size+1+1,0,none⟩=false:=by have:=T.I.var; simp [World.frozen?,this]
 have t1:W3.cell? ⟨w.heap.size+1+1,1,none⟩=some (.int .i64 k.major):=by have:=T.I.var; simp [World.cell?,this]
 have u1:W3.frozen? ⟨w.heap.size+1+1,1,none⟩=false:=by have:=T.I.var; simp [World.frozen?,this]
 have t2:W3.cell? ⟨w.heap.size+1+1,2,none⟩=some (.slice (some ⟨g1,0,none⟩) k.fn.length k.fn.length):=by have:=T.I.var; simp [World.cell?,this]
 have u2:W3.frozen? ⟨w.heap.size+1+1,2,none⟩=false:=by have:=T.I.var; simp [World.frozen?,this]
 have t3:W3.cell? ⟨w.heap.size+1+1,3,none⟩=some (.slice (some ⟨S2,0,none⟩) k.parts.length k.parts.length):=by have:=T.I.var; simp [World.cell?,this]
 have u3:W3.frozen? ⟨w.heap.size+1+1,3,none⟩=false:=by have:=T.I.var; simp [World.frozen?,this]
 have t4:W3.cell? ⟨w.heap.size+1+1,4,none⟩=some (.slice (some ⟨S3,0,none⟩) k.eC.length k.eC.length):=by have:=T.I.var; simp [World.cell?,this]
 have u4:W3.frozen? ⟨w.heap.size+1+1,4,none⟩=false:=by have:=T.I.var; simp [World.frozen?,this]
 have r0:W3.cell? ⟨w.heap.size+1,0,none⟩=some (.int .i64 0):=by have:=T.I.res; simp [World.cell?,this]
 have p0:W3.frozen? ⟨w.heap.size+1,0,none⟩=false:=by have:=T.I.res; simp [World.frozen?,this]
 have r1:W3.cell? ⟨w.heap.size+1,1,none⟩=some (.int .i64 0):=by have:=T.I.res; simp [World.cell?,this]
 have p1:W3.frozen? ⟨w.heap.size+1,1,none⟩=false:=by have:=T.I.res; simp [World.frozen?,this]
 have r2:W3.cell? ⟨w.heap.size+1,2,none⟩=some (.slice none 0 0):=by have:=T.I.res; simp [World.cell?,this]
 have p2:W3.frozen? ⟨w.heap.size+1,2,none⟩=false:=by have:=T.I.res; simp [World.frozen?,this]
 have r3:W3.cell? ⟨w.heap.size+1,3,none⟩=some (.slice none 0 0):=by have:=T.I.res; simp [World.cell?,this]
 have p3:W3.frozen? ⟨w.heap.size+1,3,none⟩=false:=by have:=T.I.res; simp [World.frozen?,this]
 have r4:W3.cell? ⟨w.heap.size+1,4,none⟩=some (.slice none 0 0):=by have:=T.I.res; simp [World.cell?,this]
 have p4:W3.frozen? ⟨w.heap.size+1,4,none⟩=false:=by have:=T.I.res; simp [World.frozen?,this]
 go_wp2;refine KT (v:= .agg #[.int .i64 k.now,.int .i64 k.major,.slice (some ⟨g1,0,none⟩) k.fn.length k.fn.length,.slice (some ⟨S2,0,none⟩) k.parts.length k.parts.length,.slice (some ⟨S3,0,none⟩) k.eC.length k.eC.length]) (by simp [results,Tryz.results10,go_sem, *]) rfl ?_;have hlen:I.length=k.parts.length:=by have:=congrArg List.length HP.I; simpa using this
 have h7:Below w.heap.size w (bn W3 (w.heap.size+1) 0 [.int .i64 k.now,.int .i64 k.major,.slice (some ⟨g1,0,none⟩) k.fn.length k.fn.length,.slice (some ⟨S2,0,none⟩) k.parts.length k.parts.length,.slice (some ⟨S3,0,none⟩) k.eC.length k.eC.length]):=eU _ (by omega) T.I.cd;have h8:=ni (vs:= [.int .i64 k.now,.int .i64 k.major,.slice (some ⟨g1,0,none⟩) k.fn.length k.fn.length,.slice (some ⟨S2,0,none⟩) k.parts.length k.parts.length,.slice (some ⟨S3,0,none⟩) k.eC.length k.eC.length]) T.I.keep;simp only [bn,Li,Nat.reduceAdd] at h7 h8;obtain ⟨⟨⟨-,h9,h10⟩,h11,h12⟩,h13⟩:=h8;exact ⟨⟨k.now,k.major,k.fn,some ⟨g1,0,none⟩,k.fn.length,I,some ⟨S2,0,none⟩,k.parts.length,k.eC,some ⟨S3,0,none⟩,k.eC.length⟩,g1,by simp only [eA.row,hlen],⟨h9,by simp only [hlen]; exact h11,h13,h12,by
  obtain ⟨n1,n2,n3,n4⟩:=HN.I;have n5:=HZ.I
  show (g1 :: S2 :: S3 :: I.flatMap af.Mc).Nodup
  simp only [Lp,Kt,not_or];exact ⟨⟨by omega,by omega,fun hm=>by have:=n4 _ hm; omega⟩,⟨by omega,fun hm=>by have:=n4 _ hm; omega⟩,fun hm=>by have:=n4 _ hm; omega,n3⟩⟩,by simp only [eA.pure,HP.I],⟨rfl,h10⟩,h7⟩
def aby (w:World) (Z:Nat→Int) (len:Nat) (e:Ending) (w':World):Prop:= ∃ (a:Option Addr) (cap:Nat),e= .returned (.slice a len cap)∧w'.ownsRow (w.heap.size+1) 100 3 (.slice a len cap) len (Zr Z len)∧Below w.heap.size w w'
theorem aar (cs:Array Value) (major:Int) (len:Nat) (Z:Nat→Int) (w:World) (h:P2 major len Z cs) (hn:len≤20):
  Calls J3 159 #[.func (.func 160) #[.agg cs] #[]] w fun e w'=>aby w Z len e w':=by
 have Mb:=callsIn_wide.1 (appendSeq_in cs major len Z w h hn);clear h
 go_enter Tryz.func159,Tryz.ntmps159
 go_wp2_with fail;refine Mb.mono ?_;clear Mb;rintro e W1 ⟨a,cap,rfl,h1,h2⟩;go_wp2;go_ret;exact ⟨a,cap,rfl,h1,h2⟩
theorem abe {P:Program} {md:Region.Mode} {ops:Array Oper} {Q:Exit→Act→World→Prop} {S:World→Prop} (i:Nat) {oi:Oper} {v:Value} {fuel:Nat} {RV:Array Bool} {a:Act} {w:World} {d:Tmp} (hi:ops[i]? =some oi) (hy:YieldsIf P ops S oi v a) (hS:S w)
  (h:wpAnyH P md ops Q S fuel (RV.setIfInBounds i true) (a.put (some d) v) w) (hd:oi.dst=some d:=by rfl) (h1:Region.noSelect ops=true:=by kernel_rfl) (h2:Region.free md ops RV i=true:=by kernel_rfl) (h3:(Region.ready md ops RV).contains i=true:=by kernel_rfl)
  (hQ: ∀ c a w,Q (.panic c) (a.put (some d) v) w→Q (.panic c) a w:=by exact fun _ _ _ h=>h):wpAnyH P md ops Q S (fuel+1) RV a w:=by
 rw [← hd] at h hQ;exact wpAnyH_take (i:=i) hi h1 h2 h3 hQ hy hS h
def abp (w:World) (major:Int) (Z:Nat→Int) (len:Nat) (e:Ending) (w':World):Prop:= ∃ (a:Option Addr) (cap:Nat),e= .returned (.agg #[.int .i64 major,.slice a len cap])∧w'.ownsRow w.heap.size 100 3 (.slice a len cap) len (Zr Z len)∧Below w.heap.size w w'
theorem ZE (cs:Array Value) (major:Int) (len:Nat) (Z:Nat→Int) (w:World) (h:P2 major len Z cs) (hn:len≤20):
  Calls J3 123 #[.agg cs] w fun e w'=>abp w major Z len e w':=by
 have HC:=aA h;have hsz:cs.size=62:=h.1;have S:Hid (((w.alloc (.cells cs 103)).alloc (.cells #[.int .i64 0,.slice none 0 0] 33)).heap[w.heap.size]? =some (.cells cs 103 (0,0))∧((w.alloc (.cells cs 103)).alloc (.cells #[.int .i64 0,.slice none 0 0] 33)).heap[w.heap.size+1]? =some (.cells #[.int .i64 0,.slice none 0 0] 33 (0,0))∧Below w.heap.size w ((w.alloc (.cells cs 103)).alloc (.cells #[.int .i64 0,.slice none 0 0] 33))):=⟨(PU (by simp)).trans (Kj _ _),Kq _ _ _,((Kp _ _).alloc (Ki _) _).alloc (by simp) _⟩
 have HM:Hid (∀ W:World,W.heap[w.heap.size]? =some (.cells cs 103 (0,0))→W.cell? ⟨w.heap.size,0,none⟩=some (.int .i64 major)):=fun W hW=>by rw [cell_of_row W _ _ cs 103 _ hW]; exact HC.I.major
 clear h
 go_enter Tryz.func123,Tryz.ntmps123
 go_upto_region 1 with fail;generalize (w.alloc (.cells cs 103)).alloc (.cells #[.int .i64 0,.slice none 0 0] 33)=W0 at *;refine Kr (S:=fun W=>W.heap[w.heap.size]? =some (.cells cs 103 (0,0))) (by kernel_rfl) S.I.1 (fun _=> ?_);replace S:Hid (W0.drew.heap[w.heap.size]? =some (.cells cs 103 (0,0))∧W0.drew.heap[w.heap.size+1]? =some (.cells #[.int .i64 0,.slice none 0 0] 33 (0,0))∧Below w.heap.size w W0.drew):=⟨S.I.1,S.I.2.1,S.I.2.2.drew⟩
 generalize World.drew _=V at *;refine tt 0 S.I.1 ?_;refine tt 1 S.I.1 ?_ (hy:=fun w0 hS0=>by have q0:=HM.I w0 hS0; go_simp; try with_reducible rfl);refine abe 2 (v:= .agg cs) rfl (Ib (by rfl) 103 _ rfl w.heap.size (by rfl) 103 _ _ (fun _ h=>h) Tryz.underlying103 rfl (by rw [Dw,hsz])) S.I.1 ?_
 try simp only [pt,sb,s0,s1]
 refine tt 3 S.I.1 ?_;refine L7 4 (fun Q hQ=> ?_);go_wp2_with fail;refine (aar cs major len Z V HC.I hn).mono ?_;rintro e W5 ⟨a,cap,rfl,ho,hb⟩;have HO:=aA (And.intro ho (J2.1 S.I.2.1).1);replace S:Hid (W5.heap[w.heap.size]? =some (.cells cs 103 (0,0))∧W5.heap[w.heap.size+1]? =some (.cells #[.int .i64 0,.slice none 0 0] 33 (0,0))∧Below w.heap.size w W5):=⟨(hb.block _ (J2.1 S.I.1).1).trans S.I.1,(hb.block _ (J2.1 S.I.2.1).1).trans S.I.2.1,S.I.2.2.trans (hb.mono S.I.2.2.size)⟩
 clear ho hb;refine hQ.out _ _ S.I.1 (fun _=> ?_);clear hQ Q
 try simp only [pt,sb,s0,s1]
 refine tt 5 S.I.1 ?_;refine L7 6 (fun Q hQ=> ?_);have d0:W5.cell? ⟨w.heap.size+1,0,none⟩=some (.int .i64 0):=by simp [World.cell?,S.I.2.1]
 have d1:W5.cell? ⟨w.heap.size+1,1,none⟩=some (.slice none 0 0):=by simp [World.cell?,S.I.2.1]
 have f0:W5.frozen? ⟨w.heap.size+1,0,none⟩=false:=by simp [World.frozen?,S.I.2.1]
 have f1:W5.frozen? ⟨w.heap.size+1,1,none⟩=false:=by simp [World.frozen?,S.I.2.1]
 go_wp2_with fail;clear d0 d1 f0 f1;have HW:Hid (((W5.setCell ⟨w.heap.size+1,0,none⟩ (.int .i64 major)).setCell ⟨w.heap.size+1,1,none⟩ (.slice a len cap)).heap[w.heap.size+1]? =some (.cells #[.int .i64 major,.slice a len cap] 33 (0,0))∧((W5.setCell ⟨w.heap.size+1,0,none⟩ (.int .i64 major)).setCell ⟨w.heap.size+1,1,none⟩ (.slice a len cap)).ownsRow w.heap.size 100 3 (.slice a len cap) len (Zr Z len)∧Below w.heap.size w ((W5.setCell ⟨w.heap.size+1,0,none⟩ (.int .i64 major)).setCell ⟨w.heap.size+1,1,none⟩ (.slice a len cap))∧((W5.setCell ⟨w.heap.size+1,0,none⟩ (.int .i64 major)).setCell ⟨w.heap.size+1,1,none⟩ (.slice a len cap)).heap[w.heap.size]? =some (.cells cs 103 (0,0))):=by
  have hs: ∀ g,g≠w.heap.size+1→((W5.setCell ⟨w.heap.size+1,0,none⟩ (.int .i64 major)).setCell ⟨w.heap.size+1,1,none⟩ (.slice a len cap)).heap[g]? =W5.heap[g]? :=fun g hg=>(ac5 _ _ _ _ hg).trans (ac5 _ _ _ _ hg)
  refine ⟨by have h5:=S.I.2.1; simp [World.setCell,Array.getElem?_modify,h5],cq (aL HO.I.1 fun g hg=>hs g (by have:=(cf HO.I.1 hg).1; have:=HO.I.2; omega)) (by have:=HO.I.2; omega),(S.I.2.2.setCell (by show _≤w.heap.size+1; omega) _).setCell (by show _≤w.heap.size+1; omega) _,(hs _ (by omega)).trans S.I.1⟩
 refine hQ.out _ _ HW.I.2.2.2 (fun _=> ?_);clear hQ Q S HO;refine K3 (by kernel_rfl) ?_ _;generalize (W5.setCell ⟨w.heap.size+1,0,none⟩ (.int .i64 major)).setCell ⟨w.heap.size+1,1,none⟩ (.slice a len cap)=W6 at *;have r0:W6.cell? ⟨w.heap.size+1,0,none⟩=some (.int .i64 major):=by simp [World.cell?,HW.I.1]
 have r1:W6.cell? ⟨w.heap.size+1,1,none⟩=some (.slice a len cap):=by simp [World.cell?,HW.I.1]
 go_wp2;refine KT (v:= .agg #[.int .i64 major,.slice a len cap]) (by simp [results,Tryz.results123,go_sem, *]) rfl ?_;exact ⟨a,cap,rfl,HW.I.2.1,HW.I.2.2.1⟩
theorem Z8: ∀ (l:List pA) (k:Nat),k≤l.length→Zr (sz l) k=jq.flat (l.take k)
 | l,0,_=>by simp [Zr,Kind.flat]
 | l,k+1,h=>by
  obtain ⟨x,hx⟩: ∃ x,l[k]? =some x:=⟨_,Kz (by omega)⟩
  rw [Zr,Z8 l k (by omega),cj hx];have e0:sz l (k * 3)=x.at_:=by unfold sz; rw [show k * 3 / 3=k by omega,hx]; simp
  have e1:sz l (k * 3+1)=x.len:=by unfold sz; rw [show (k * 3+1) / 3=k by omega,hx]; simp [show (k * 3+1) % 3=1 by omega]
  have e2:sz l (k * 3+2)=x.part:=by unfold sz; rw [show (k * 3+2) / 3=k by omega,hx]; simp [show (k * 3+2) % 3=2 by omega]
  rw [e0,e1,e2];simp [Kind.flat,jq,VE]
end
end Go.Proofs.YteidkehoekbcaaaGreat
