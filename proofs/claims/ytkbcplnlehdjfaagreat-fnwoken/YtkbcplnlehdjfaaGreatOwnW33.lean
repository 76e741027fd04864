/- What the proof leans on, part 33. -/
import Derived.Test.YtkbcplnlehdjfaaGreatOwnW30
set_option maxRecDepth 100000
set_option maxHeartbeats 8000000
open Bool renaming and_eq_true->J7,or_eq_true->Kb
open Go.ByteArray renaming toList_eq->PQ
open Int renaming le_refl->LJ
open List renaming mem_iff_getElem->LK,mem_map->Lr

namespace Go.Proofs.YtkbcplnlehdjfaaGreat
theorem empty_eq {s:ByteArray} (h:bI s=true):s=rM:=by
 have h1:s.data.toList= [] :=by simpa [bI,PQ] using h
 cases s with
 | mk d=>
  have:d= #[] :=Array.toList_eq_nil_iff.1 h1
  rw [this]; rfl
def Up (id:Int) (p:aE):Prop:= ∀ y∈p.L8,y.id=id→y.Md=1
def xr (id:Int) (p:aE):Prop:= ∀ y∈p.L8,y.id=id→y.Md=1∧y.left=0
section
variable {p:aE} {id:Int}
theorem xr.up (h:xr id p):Up id p:=fun y hy hi=>(h y hy hi).1
theorem Up.not (h:Up id p): ∀ y∈p.L8,y.id=id→ ¬ y.Md=0:=fun y hy hi=>by rw [h y hy hi]; decide
theorem Up.other {k nx:Int} {f:aD→aD} (h:Up id p) (hk: ¬ k=id) (hf: ∀ x,(f x).id=x.id):Up id { p with next:=nx,L8:=ce k f p.L8 } :=fun y hy hi=>by
 obtain ⟨z,hz,rfl⟩:=Lr.1 (show y∈ce k f p.L8 from hy)
 split at hi
 ·rw [hf] at hi; omega
 ·rw [if_neg ‹_›]; exact h z hz hi
theorem xr.got {t:ByteArray} {k:Int} (h:xr id p):xr id (ez t k p):=fun y hy hi=>by
 obtain ⟨z,hz,rfl⟩:=Lr.1 (show y∈ce k (lG t) p.L8 from hy)
 split at hi
 ·rw [if_pos ‹_›]; exact h z hz hi
 ·rw [if_neg ‹_›]; exact h z hz hi
theorem Up.Mg {f:aD→aD} {x:aD} (h:Up id p) (hx:x∈p.L8) (hs: ¬ x.Md=1) (hf: ∀ y,(f y).id=y.id):Up id (gF f p x):=
 Up.other h (fun e=>hs (h x hx e)) fun y=>by rw [(rD _ _ _).1,hf]
theorem Up.gW {f:aD→aD} {st on:Int} (hst: ¬ st=1) (hf: ∀ y,(f y).id=y.id): ∀ (n:Nat) (p:aE),Up id p→Up id (gW f st on n p)
 | 0,_,h=>h
 | n+1,p,h=>by
  unfold Go.Proofs.YtkbcplnlehdjfaaGreat.gW
  split
  ·exact h
  ·rename_i x hx
   obtain ⟨m1,m2,-⟩:=ft hx;exact Up.gW hst hf n _ (h.Mg m1 (by omega) hf)
theorem Up.ff {f:aD→aD} {st on:Int} (h:Up id p) (hst: ¬ st=1) (hf: ∀ y,(f y).id=y.id):Up id (ff f st on p):=Up.gW hst hf _ _ h
theorem D6 {code:Int} (h:aQ p) (hu:Up id p) (hc:cv code 0 3=true):aQ (bu code id p):=zF h hu.not hc
theorem sO {st on Mg:Int} {held:ByteArray} (h:aQ p) (hu:xr id p) (hn:p.next+1≤1000000000)
  (hs:st=2∧on=0∧bI held=true∧cv Mg 1 2000000000=true∨(st=5∧bw held=true∨(st=3∨st=4∨st=6∨st=7)∧bI held=true)∧lh Mg=true∧hasB p st on=true):aQ (kC st on held Mg id p):=by
 have hnx:=bz.1 h.next;refine h.ju (f:=zb p.next st on held Mg) (fun _=>rfl) ⟨by omega,hn⟩ fun x hx hi=> ?_
 obtain ⟨hx1,hx2⟩:=hu x hx hi;obtain ⟨-,k1,k2,k3⟩:=h.proc hx;have hop:=iT k1 (by rw [hx1]; decide);have hb:=iF k1;have hh:bw held=true:=by
  rcases hs with hs | ⟨hs | hs,-⟩
  ·rw [empty_eq hs.2.2.1]; rfl
  ·exact hs.2
  ·rw [empty_eq hs.2]; rfl
 have ho:dU (zb p.next st on held Mg x)=true:=eB hop.1 (by show x.pc≤(x.prog.length:Int) - 1; omega);have hst:bO (zb p.next st on held Mg x)=true:=by
  unfold bO;rw [ho]
  show (if st=0 then _ else if st=1 then _ else if st=2 then true && decide (x.left=0) && cv Mg 1 2000000000 && decide (on=0) && bI held else if st=5 then true && decide (x.left=0) && lh Mg else if st=3∨st=4∨st=6∨st=7 then true && decide (x.left=0) && lh Mg && bI held else false)=true
  rw [hx2];rcases hs with ⟨rfl,rfl,h3,h4⟩ | ⟨⟨rfl,h3⟩ | ⟨h3,h4⟩,h5,-⟩
  ·simp [h3,h4]
  ·simp [h5]
  ·rcases h3 with rfl | rfl | rfl | rfl <;> simp [h4,h5]
 refine ⟨?_,?_,?_,.inr (.inr rfl)⟩
 ·rw [fG,J7]
  refine ⟨?_,hst⟩;unfold jY at hb ⊢;simp only [J7] at hb ⊢;exact ⟨⟨⟨hb.1.1.1,hh⟩,hb.1.2⟩,hb.2⟩
 ·unfold fF
  rw [Kb];exact .inr (eB (by show 1≤p.next; omega) (by show p.next≤p.next+1 - 1; omega))
 ·unfold dG
  show (if 3≤st then hasB p st on else true)=true
  rcases hs with ⟨rfl,-⟩ | ⟨-,-,h5⟩
  ·rfl
  ·split
   ·exact h5
   ·rfl
theorem Ha {st now:Int} {o:dN} (h:aQ p) (hu:xr id p) (hn:p.next+1≤1000000000) (eu:0≤now∧now≤1000000000) (hm:cv o.2.2.1 (-1) 1000=true)
  (hs:st=5∧bw o.2.2.2=true∨(st=3∨st=4∨st=6∨st=7)∧bI o.2.2.2=true) (hh:hasB p st o.2.1=true):aQ (mX st o now id p):=by
 have hm':=bz.1 hm;unfold mX
 split
 ·exact D6 h hu.up rfl
 ·refine sO h hu hn (.inr ⟨hs,?_,hh⟩)
  unfold lh kZ;rw [Kb]
  split
  ·exact .inl (eB (by omega) (by omega))
  ·exact .inr (by simp)
theorem IT {st now:Int} {o:dN} :p.next≤(mX st o now id p).next∧(mX st o now id p).next≤p.next+1:=by
 unfold mX
 split
 ·exact ⟨LJ _,by show p.next≤_; omega⟩
 ·exact ⟨by show p.next≤p.next+1; omega,LJ _⟩
theorem mx {k d:Int} (h:aQ p) (hd: ∀ s∈p.aj,s.id=k→0≤s.n+d∧s.n+d≤s.max):aQ (nZ k d p):=
 h.GD (by apply vN; intro _; rfl) (nj h.aj (fun _=>rfl) fun s hs hk=>by
  have h1:=(cK h.aj s hs).2;unfold gw at h1 ⊢;simp only [J7] at h1 ⊢;exact ⟨h1.1,eB (hd s hs hk).1 (hd s hs hk).2⟩)
theorem kw {k:Int} {b:Bool} (h:aQ p):aQ (gL k b p):=h.Cz (by apply vN; intro _; rfl) (nj h.L9 (fun _=>rfl) fun _ _ _=>rfl)
theorem kA {k:Int} {b:Bool} {t:ByteArray} (h:aQ p) (ht:bw t=true) (hb:b=true∨bI t=true):aQ (ib k b t p):=
 h.C5 (by apply vN; intro _; rfl) (nj h.ag (fun _=>rfl) fun s hs hk=>by
  unfold cU;simp only [J7,Kb];exact ⟨ht,hb⟩)
theorem lv {l:List ByteArray} {m:Int} :dJ l m=true↔(l.length:Int)≤m∧ ∀ t∈l,bw t=true:=by
 unfold dJ;simp [and_comm]
theorem gN {k:Int} {l:List ByteArray} (h:aQ p) (hl: ∀ b∈p.ae,b.id=k→(l.length:Int)≤b.max) (ht: ∀ t∈l,bw t=true):aQ (cV k l p):=
 h.Cb (by apply vN; intro _; rfl) (nj h.ae (fun _=>rfl) fun s hs hk=>by
  have h1:=(cK h.ae s hs).2;unfold ct at h1 ⊢;simp only [J7] at h1 ⊢;exact ⟨h1.1,lv.2 ⟨hl s hs hk,ht⟩⟩)
theorem jj {k:Int} {l:List ByteArray} (h:aQ p) (hl: ∀ b∈p.ai,b.id=k→(l.length:Int)≤b.max) (ht: ∀ t∈l,bw t=true):aQ (gU k l p):=
 h.Es (by apply vN; intro _; rfl) (nj h.ai (fun _=>rfl) fun s hs hk=>by
  have h1:=(cK h.ai s hs).2;unfold dj at h1 ⊢;simp only [J7] at h1 ⊢;exact ⟨h1.1,lv.2 ⟨hl s hs hk,ht⟩⟩)
theorem only {α:Type} {num:α→Int} {ok:α→Bool} {last k:Int} {l:List α} {x y:α} (h:aw num ok last l=true) (hx:cg num k l=some x) (hy:y∈l) (hk:num y=k):y=x:=by
 obtain ⟨h1,h2⟩:=ks hx;have h5:=(db h).2;rw [List.pairwise_iff_getElem] at h5;obtain ⟨i,hi1,rfl⟩:=LK.1 hy;obtain ⟨j,DS,rfl⟩:=LK.1 h1;rcases Nat.lt_trichotomy i j with hlt | heq | hgt
 ·have:=h5 i j hi1 DS hlt; omega
 ·subst heq; rfl
 ·have:=h5 j i DS hi1 hgt; omega
theorem ul {α:Type} {num:α→Int} {k:Int} {l:List α} {x:α} (h:cg num k l=some x):decide (k∈l.map num)=true:=by
 obtain ⟨h1,h2⟩:=ks h;exact decide_eq_true (Lr.2 ⟨x,h1,h2⟩)
end
end Go.Proofs.YtkbcplnlehdjfaaGreat
