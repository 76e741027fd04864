/- What the proof leans on, part 31. -/
import Derived.Test.YtkbcplnlehdjfaaGreatOwnP30
set_option maxRecDepth 100000
set_option maxHeartbeats 8000000
open Array renaming getElem?_eq_some_iff->J2
open Bool renaming and_eq_true->J7,or_eq_true->Kb
open Go renaming heap_alloc_new->Kj
open Go.Proofs.Tryz renaming prog->J3
open Go.RowKit.Below renaming refl->Kp
open Int renaming le_refl->LJ
open List renaming length_filter_le->Qq,mem_append->Kg,mem_append_left->Lz,mem_append_right->Ly,mem_cons->Kt,mem_cons_of_mem->LB,mem_cons_self->LA,mem_filterMap->Lq,mem_iff_getElem->LK,nodup_append->Kf,nodup_cons->Lp
open List.Perm renaming refl->RA
open Option renaming map_eq_some_iff->Kw
open Option.some renaming inj->KC
open Prod.mk renaming injEq->Kx

namespace Go.Proofs.YtkbcplnlehdjfaaGreat
section
open Go.RowKit Go.Maps
theorem cJ.drew {w:World} {base o:Nat} {S:aZ} (h:cJ w base o S):cJ w.drew base o S:=
 ⟨h.opn,h.L8.same fun _ _=>rfl,h.aj.same fun _ _=>rfl,h.L9.same fun _ _=>rfl,h.ag.same fun _ _=>rfl,h.ae.same fun _ _=>rfl,h.ai.same fun _ _=>rfl,fun p hp=>(h.eI p hp).same fun _ _=>rfl,fun p hp=>(h.eE p hp).same fun _ _=>rfl,fun p hp=>(h.eR p hp).same fun _ _=>rfl,h.nodup,h.low⟩
end
section
variable {p:aE} {x:aD}
theorem iF (h:cH x=true):jY x=true:=by rw [fG,J7] at h; exact h.1
theorem vm {code:Int} (h:cH x=true) (h0: ¬ x.Md=0) (hc:cv code 0 3=true):cH (jT code x)=true:=by
 obtain ⟨h1,h2⟩:=iT h h0;unfold jT
 split
 ·refine vQ ?_
  have h3:=iF h;unfold jY at h3 ⊢;simp only [J7] at h3 ⊢;exact ⟨⟨⟨h3.1.1.1,jX⟩,h3.1.2⟩,hc⟩
 ·have:=vF (s:=x.RU) (iF h) hc h1 (by omega)
  exact this
theorem AR {code nx:Int} (h:cH x=true) (h0: ¬ x.Md=0) (hc:cv code 0 3=true):cH (iY nx code x)=true:=by
 obtain ⟨h1,h2⟩:=iT h h0;unfold iY
 split
 ·have:=vm (code:=code) h h0 hc
  unfold jT at this;rw [if_pos ‹_›] at this;exact this
 ·exact vF (iF h) hc h1 (by omega)
theorem zF {code id:Int} (h:aQ p) (h0: ∀ x∈p.L8,x.id=id→ ¬ x.Md=0) (hc:cv code 0 3=true):aQ (bu code id p):=by
 have hn:=bz.1 h.next;refine h.ju (nx:=p.next) (f:=jT code) (fun x=>by unfold jT; split <;> rfl) ⟨LJ _,hn.2⟩ fun x hx hi=> ?_
 obtain ⟨-,k1,k2,-⟩:=h.proc hx;have k0:=h0 x hx hi;refine ⟨vm k1 k0 hc,?_,?_,?_⟩
 ·unfold fF at k2 ⊢
  simp only [Kb,decide_eq_true_eq,k0,false_or] at k2 ⊢;unfold jT
  split
  ·exact .inl rfl
  ·exact .inr k2
 ·unfold dG
  rw [if_neg];unfold jT
  split <;> simp [j7,jM]
 ·unfold jT
  split
  ·exact .inr (.inl rfl)
  ·exact .inl rfl
theorem lO {code:Int} {f:aD→aD} (h:aQ p) (hx:x∈p.L8) (h0: ¬ x.Md=0) (hc:cv code 0 3=true) (hf: ∀ y,(f y).id=y.id∧(f y).pc=y.pc∧(f y).prog=y.prog∧(f y).Md=y.Md) (hr:cH (f x)=true) (hn:p.next+1≤1000000000):
  aQ { p with next:=gf p.next x,L8:=ce x.id (fun y=>iY p.next code (f y)) p.L8 } :=by
 have hnx:=bz.1 h.next;have hw:gf p.next x=if (f x).pc+1=(f x).prog.length then p.next else p.next+1:=by unfold gf; rw [(hf x).2.1,(hf x).2.2.1]
 refine h.ju (f:=fun y=>iY p.next code (f y)) (fun y=>by rw [(rD _ _ _).1,(hf y).1]) ?_ fun y hy hi=> ?_
 ·rw [hw]; split <;> omega
 ·have e:y=x:=by
   have h5:=h.kW;rw [List.pairwise_iff_getElem] at h5;obtain ⟨i,hi1,rfl⟩:=LK.1 hy;obtain ⟨j,DS,rfl⟩:=LK.1 hx;rcases Nat.lt_trichotomy i j with hlt | heq | hgt
   ·have:=h5 i j hi1 DS hlt; omega
   ·subst heq; rfl
   ·have:=h5 j i DS hi1 hgt; omega
  subst e;have hs: ¬ (f y).Md=0:=by rw [(hf y).2.2.2]; exact h0
  refine ⟨AR hr hs hc,?_,?_,?_⟩
  ·unfold fF
   rw [hw];simp only [Kb,decide_eq_true_eq];unfold iY
   split
   ·exact .inl rfl
   ·exact .inr (eB (by show 1≤p.next; omega) (by show p.next≤_; omega))
  ·unfold dG
   rw [if_neg];unfold iY
   split <;> simp [j7,jM]
  ·unfold iY
   split
   ·exact .inr (.inl rfl)
   ·exact .inr (.inr rfl)
theorem mU (nx:Int) (x:aD):nx≤gf nx x∧gf nx x≤nx+1:=by unfold gf; split <;> omega
theorem vd {now:Int} (h:aQ p) (hx:lZ now p.L8=some x) (hn:p.next+1≤1000000000):aQ (gu p x):=by
 obtain ⟨hm,hd⟩:=Wk.mem hx;unfold og at hd;simp only [J7,decide_eq_true_eq] at hd;exact lO (f:=fun y=>y) h hm (by omega) (by unfold mL; split <;> rfl) (fun _=>⟨rfl,rfl,rfl,rfl⟩) (h.proc hm).2.1 hn
theorem qI {now:Int} : ∀ (n:Nat) (p:aE),aQ p→p.next+n≤1000000000→aQ (oO now n p)∧p.next≤(oO now n p).next∧(oO now n p).next≤p.next+n
 | 0,p,h,_=>⟨h,by simp [oO]⟩
 | n+1,p,h,hn=>by
  unfold oO
  split
  ·exact ⟨h,by omega,by omega⟩
  ·rename_i x hx
   have h1:=vd h hx (by omega);have h2:(gu p x).next=gf p.next x:=rfl;have h3:=mU p.next x;obtain ⟨h4,h5,h6⟩:=qI n (gu p x) h1 (by omega);exact ⟨h4,by omega,by omega⟩
theorem ru {now:Int} (h:aQ p) (hn:p.next≤999999990):aQ (gj now p)∧p.next≤(gj now p).next∧(gj now p).next≤p.next+6:=by
 have h1:(lF now p.L8).length≤p.L8.length:=Qq _ _;have h2:=h.dl;obtain ⟨h3,h4,h5⟩:=qI (now:=now) (lF now p.L8).length p h (by omega);exact ⟨h3,h4,by unfold gj; omega⟩
theorem iQ {t:ByteArray} {id:Int} (h:aQ p) (ht:bw t=true):aQ (ez t id p):=by
 have hn:=bz.1 h.next;refine h.ju (nx:=p.next) (f:=lG t) (fun _=>rfl) ⟨LJ _,hn.2⟩ fun x hx _=> ?_
 obtain ⟨-,k1,k2,k3⟩:=h.proc hx;refine ⟨?_,k2,k3,.inl rfl⟩;rw [fG,J7] at k1 ⊢;refine ⟨?_,k1.2⟩;have k4:=k1.1;unfold jY at k4 ⊢;simp only [J7] at k4 ⊢;exact ⟨⟨k4.1.1,ht⟩,k4.2⟩
theorem i9 {f:aD→aD} (h:aQ p) (hx:x∈p.L8) (h0: ¬ x.Md=0) (hf:f=(fun y=>y)∨ ∃ t,bw t=true∧f=lG t) (hn:p.next+1≤1000000000):aQ (gF f p x):=by
 rcases hf with rfl | ⟨t,ht,rfl⟩
 ·exact lO h hx h0 rfl (fun _=>⟨rfl,rfl,rfl,rfl⟩) (h.proc hx).2.1 hn
 ·refine lO (f:=lG t) h hx h0 rfl (fun _=>⟨rfl,rfl,rfl,rfl⟩) ?_ hn
  have k1:=(h.proc hx).2.1;rw [fG,J7] at k1 ⊢;refine ⟨?_,k1.2⟩;have k4:=k1.1;unfold jY at k4 ⊢;simp only [J7] at k4 ⊢;exact ⟨⟨k4.1.1,ht⟩,k4.2⟩
theorem oU {f:aD→aD} {st on:Int} (hst: ¬ st=0) (hf:f=(fun y=>y)∨ ∃ t,bw t=true∧f=lG t): ∀ (n:Nat) (p:aE),aQ p→p.next+n≤1000000000→aQ (gW f st on n p)∧p.next≤(gW f st on n p).next∧(gW f st on n p).next≤p.next+n
 | 0,p,h,_=>⟨h,by simp [gW]⟩
 | n+1,p,h,hn=>by
  unfold gW
  split
  ·exact ⟨h,by omega,by omega⟩
  ·rename_i x hx
   obtain ⟨m1,m2,-⟩:=ft hx;have h1:=i9 (f:=f) h m1 (by omega) hf (by omega);have h2:(gF f p x).next=gf p.next x:=rfl;have h3:=mU p.next x;obtain ⟨h4,h5,h6⟩:=oU hst hf n (gF f p x) h1 (by omega);exact ⟨h4,by omega,by omega⟩
theorem pP {f:aD→aD} {st on:Int} (hst: ¬ st=0) (hf:f=(fun y=>y)∨ ∃ t,bw t=true∧f=lG t) (h:aQ p) (hn:p.next≤999999990):aQ (ff f st on p)∧p.next≤(ff f st on p).next∧(ff f st on p).next≤p.next+6:=by
 have h1:(p.L8.filter (ie st on)).length≤p.L8.length:=Qq _ _;have h2:=h.dl;obtain ⟨h3,h4,h5⟩:=oU (on:=on) hst hf (p.L8.filter (ie st on)).length p h (by omega);exact ⟨h3,h4,by unfold ff; omega⟩
end
section
open Go.RowKit Go.Maps
attribute [local go_sem ↓] Go.wp_at_zero Go.wp_at_succ
theorem fi (p q:af) (w:World) (hp:p.Fit∧(∀ x∈p.L8,x.dX)∧af.At w p) (hq:bK p.pure=true→q.Fit∧(∀ x∈q.L8,x.dX)∧af.At w q):
  Calls J3 87 #[.agg p.cells,.agg q.cells] w fun e w'=>Below w.heap.size w w'∧(((bK p.pure && bK q.pure)=true∧e= .returned (.tuple #[.agg q.cells,.bool true]))∨((bK p.pure && bK q.pure)=false∧e= .returned (.tuple #[.agg ar,.bool false]))):=by
 have HB:Hid (Below w.heap.size w (((w.alloc (.cells p.row 32)).alloc (.cells q.row 32)).alloc (.cells ar 32))∧av (((w.alloc (.cells p.row 32)).alloc (.cells q.row 32)).alloc (.cells ar 32)) w.heap.size p∧av (((w.alloc (.cells p.row 32)).alloc (.cells q.row 32)).alloc (.cells ar 32)) (w.heap.size+1) q∧(((w.alloc (.cells p.row 32)).alloc (.cells q.row 32)).alloc (.cells ar 32)).heap[w.heap.size+2]? =some (.cells ar 32 (0,0))):=by
  refine ⟨(((Kp _ _).alloc (Nat.le_refl _) _).alloc (by simp) _).alloc (by simp; omega) _,?_,?_,?_⟩
  ·exact (PU (by simp; omega)).trans ((PU (by simp)).trans (Kj _ _))
  ·exact (PU (by simp)).trans (by simpa using Kj (w.alloc (.cells p.row 32)) _)
  ·simpa using Kj ((w.alloc (.cells p.row 32)).alloc (.cells q.row 32)) _
 have HP:Hid (p.Fit∧(∀ x∈p.L8,x.dX)∧af.At w p):=hp;have HQ:Hid (bK p.pure=true→q.Fit∧(∀ x∈q.L8,x.dX)∧af.At w q):=hq;clear hp hq;obtain ⟨m0,m1,m2,m3,m4,m5,m6,m7⟩:=HB.I.2.1.cells;obtain ⟨k0,k1,k2,k3,k4,k5,k6,k7⟩:=HB.I.2.2.1.cells;unfold af.cells
 go_enter Tryz.func87,Tryz.ntmps87
 go_wp2_with fail;generalize ((w.alloc (.cells p.row 32)).alloc (.cells q.row 32)).alloc (.cells ar 32)=W at *;clear m0 m1 m2 m3 m4 m5 m6 m7 k0 k1 k2 k3 k4 k5 k6 k7;refine (eV p W HP.I.1 HP.I.2.1 (HP.I.2.2.below HB.I.1)).mono ?_;rintro e W1 ⟨rfl,hb⟩;replace HB:Hid (Below w.heap.size w W1∧av W1 w.heap.size p∧av W1 (w.heap.size+1) q∧W1.heap[w.heap.size+2]? =some (.cells ar 32 (0,0))):=⟨HB.I.1.trans (hb.mono HB.I.1.size),HB.I.2.1.below hb,HB.I.2.2.1.below hb,(hb.block _ (J2.1 HB.I.2.2.2).1).trans HB.I.2.2.2⟩
 clear hb;obtain ⟨k0,k1,k2,k3,k4,k5,k6,k7⟩:=HB.I.2.2.1.cells;cases h4:bK p.pure
 ·have H4:Hid (bK p.pure=false):=h4
  clear h4;go_wp2_with (refine ec 4 14 ar HB.I.2.2.2 ?_);refine mG Tryz.results87 (.bool false) HB.I.2.2.2 ?_;exact ⟨below_setRow HB.I.1 (by omega) _,.inr ⟨by rw [H4.I]; rfl,rfl⟩⟩
 have H4:Hid (bK p.pure=true):=h4;clear h4;go_wp2_with fail;clear k0 k1 k2 k3 k4 k5 k6 k7;refine (eV q W1 (HQ.I H4.I).1 (HQ.I H4.I).2.1 ((HQ.I H4.I).2.2.below HB.I.1)).mono ?_;rintro e W2 ⟨rfl,hb⟩;replace HB:Hid (Below w.heap.size w W2∧av W2 w.heap.size p∧av W2 (w.heap.size+1) q∧W2.heap[w.heap.size+2]? =some (.cells ar 32 (0,0))):=⟨HB.I.1.trans (hb.mono HB.I.1.size),HB.I.2.1.below hb,HB.I.2.2.1.below hb,(hb.block _ (J2.1 HB.I.2.2.2).1).trans HB.I.2.2.2⟩
 clear hb;obtain ⟨k0,k1,k2,k3,k4,k5,k6,k7⟩:=HB.I.2.2.1.cells;cases h5:bK q.pure
 ·have H5:Hid (bK q.pure=false):=h5
  clear h5;go_wp2_with (refine ec 4 14 ar HB.I.2.2.2 ?_);refine mG Tryz.results87 (.bool false) HB.I.2.2.2 ?_;exact ⟨below_setRow HB.I.1 (by omega) _,.inr ⟨by rw [H4.I,H5.I]; rfl,rfl⟩⟩
 have H5:Hid (bK q.pure=true):=h5;clear h5;go_wp2_with (refine ec 4 15 q.row HB.I.2.2.2 ?_);refine mG Tryz.results87 (.bool true) HB.I.2.2.2 ?_;exact ⟨below_setRow HB.I.1 (by omega) _,.inl ⟨by rw [H4.I,H5.I]; rfl,rfl⟩⟩
end
section
open Go.RowKit Go.Maps
theorem uI (w:World) (base:Nat) (a0:Option Addr) (c0:Nat) (l0:List bD) (ho:w.ownsRow base 49 3 (.slice a0 l0.length c0) l0.length (dm.flat l0)) (a:Option Addr) (l:List bD) (cap:Nat) (h:ld w a (dm.flat l)) (hl:l0.length+l.length≤4000000) (lY:base≤w.heap.size):
  ∃ a' cap' w',(Builtin.append_ #[26,26] 26 #[.slice a0 l0.length c0,.slice a l.length cap]).run J3 w= .ok (.slice a' (l0.length+l.length) cap') w'∧w'.ownsRow base 49 3 (.slice a' (l0.length+l.length) cap') (l0.length+l.length) (dm.flat (l0 ++ l))∧w.grownBy w' (Value.slice a0 l0.length c0).ownBlock∧ ∀ g∈blk a',g∈blk a0∨g=w.heap.size:=by
 obtain ⟨i,hi,e⟩:=Kw.1 yS;simp only [Kx] at e;rw [dm.dc];exact jD w base _ _ 49 i _ 3 24 Tryz.underlying26 hi e.1 e.2.1 e.2.2 rfl (by decide) a0 l0.length c0 _ ho a l.length cap _ h (dm.dM l) Ec hl (by decide) lY
theorem ap.newSem {w w':World} {base B:Nat} {q:af} {l:List bD} {a':Option Addr} {c':Nat} (h:ap w base q) (hb:base≤B) (hB: ∀ g∈q.Mc,g < B) (hs: ∀ g∈q.Mc,w'.heap[g]? =w.heap[g]?)
  (ho:w'.ownsRow B 49 3 (.slice a' l.length c') l.length (dm.flat l)):ap w' base ({ q with aj:=l,bc:=a',bF:=c' } :af):=by
 refine ⟨aL h.L8 fun g hg=>hs g (by simp [af.Mc,hg]),cq ho hb,aL h.L9 fun g hg=>hs g (by simp [af.Mc,hg]),aL h.ag fun g hg=>hs g (by simp [af.Mc,hg]),aL h.ae fun g hg=>hs g (by simp [af.Mc,hg]),aL h.ai fun g hg=>hs g (by simp [af.Mc,hg]),fun x hx=>(h.eI x hx).same fun g hg=>hs g ?_,fun x hx=>(h.eE x hx).same fun g hg=>hs g ?_,fun x hx=>(h.eR x hx).same fun g hg=>hs g ?_,?_⟩
 ·simp only [af.Mc,Kg,Lq]
  exact .inr (.inl ⟨x,hx,hg⟩)
 ·simp only [af.Mc,Kg,Lq]
  exact .inr (.inr (.inr (.inr (.inr (.inr (.inl ⟨x,hx,hg⟩))))))
 ·simp only [af.Mc,Kg,Lq]
  exact .inr (.inr (.inr (.inr (.inr (.inr (.inr (.inr ⟨x,hx,hg⟩)))))))
 ·have h5:=h.nodup
  have h6: ∀ g∈blk a',g∉q.Mc:=fun g hg hm=>by have:=(cf ho hg).1; have:=hB g hm; omega
  have e1: ∀ (a2:Option Addr) (l2:List bD) (c2:Nat),({ q with aj:=l2,bc:=a2,bF:=c2 } :af).Mc=(blk q.aN ++ q.L8.filterMap aR.bt) ++ (blk a2 ++ (blk q.ay ++ (blk q.ax ++ (blk q.am ++ (q.ae.filterMap aC.bt ++ (blk q.aK ++ q.ai.filterMap aU.bt)))))):=fun _ _ _=>by simp [af.Mc]
  have e2:=e1 q.bc q.aj q.bF;rw [e1];have e3:q.Mc=(blk q.aN ++ q.L8.filterMap aR.bt) ++ (blk q.bc ++ (blk q.ay ++ (blk q.ax ++ (blk q.am ++ (q.ae.filterMap aC.bt ++ (blk q.aK ++ q.ai.filterMap aU.bt)))))):=e2;rw [e3] at h5 h6;exact qv h5 (fN _) h6
theorem qu (w:World) (base:Nat) (a0:Option Addr) (c0:Nat) (l0:List aB) (ho:w.ownsRow base 138 2 (.slice a0 l0.length c0) l0.length (bJ.flat l0)) (a:Option Addr) (l:List aB) (cap:Nat) (h:ld w a (bJ.flat l)) (hl:l0.length+l.length≤4000000) (lY:base≤w.heap.size):
  ∃ a' cap' w',(Builtin.append_ #[27,27] 27 #[.slice a0 l0.length c0,.slice a l.length cap]).run J3 w= .ok (.slice a' (l0.length+l.length) cap') w'∧w'.ownsRow base 138 2 (.slice a' (l0.length+l.length) cap') (l0.length+l.length) (bJ.flat (l0 ++ l))∧w.grownBy w' (Value.slice a0 l0.length c0).ownBlock∧ ∀ g∈blk a',g∈blk a0∨g=w.heap.size:=by
 obtain ⟨i,hi,e⟩:=Kw.1 so;simp only [Kx] at e;rw [bJ.dc];exact jD w base _ _ 138 i _ 2 16 Tryz.underlying27 hi e.1 e.2.1 e.2.2 rfl (by decide) a0 l0.length c0 _ ho a l.length cap _ h (bJ.dM l) xB hl (by decide) lY
theorem ap.Ge {w w':World} {base B:Nat} {q:af} {l:List aB} {a':Option Addr} {c':Nat} (h:ap w base q) (hb:base≤B) (hB: ∀ g∈q.Mc,g < B) (hs: ∀ g∈q.Mc,w'.heap[g]? =w.heap[g]?)
  (ho:w'.ownsRow B 138 2 (.slice a' l.length c') l.length (bJ.flat l)):ap w' base ({ q with L9:=l,ay:=a',aO:=c' } :af):=by
 refine ⟨aL h.L8 fun g hg=>hs g (by simp [af.Mc,hg]),aL h.aj fun g hg=>hs g (by simp [af.Mc,hg]),cq ho hb,aL h.ag fun g hg=>hs g (by simp [af.Mc,hg]),aL h.ae fun g hg=>hs g (by simp [af.Mc,hg]),aL h.ai fun g hg=>hs g (by simp [af.Mc,hg]),fun x hx=>(h.eI x hx).same fun g hg=>hs g ?_,fun x hx=>(h.eE x hx).same fun g hg=>hs g ?_,fun x hx=>(h.eR x hx).same fun g hg=>hs g ?_,?_⟩
 ·simp only [af.Mc,Kg,Lq]
  exact .inr (.inl ⟨x,hx,hg⟩)
 ·simp only [af.Mc,Kg,Lq]
  exact .inr (.inr (.inr (.inr (.inr (.inr (.inl ⟨x,hx,hg⟩))))))
 ·simp only [af.Mc,Kg,Lq]
  exact .inr (.inr (.inr (.inr (.inr (.inr (.inr (.inr ⟨x,hx,hg⟩)))))))
 ·have h5:=h.nodup
  have h6: ∀ g∈blk a',g∉q.Mc:=fun g hg hm=>by have:=(cf ho hg).1; have:=hB g hm; omega
  have e1: ∀ (a2:Option Addr) (l2:List aB) (c2:Nat),({ q with L9:=l2,ay:=a2,aO:=c2 } :af).Mc=(blk q.aN ++ (q.L8.filterMap aR.bt ++ blk q.bc)) ++ (blk a2 ++ (blk q.ax ++ (blk q.am ++ (q.ae.filterMap aC.bt ++ (blk q.aK ++ q.ai.filterMap aU.bt))))):=fun _ _ _=>by simp [af.Mc]
  have e2:=e1 q.ay q.L9 q.aO;rw [e1];have e3:q.Mc=(blk q.aN ++ (q.L8.filterMap aR.bt ++ blk q.bc)) ++ (blk q.ay ++ (blk q.ax ++ (blk q.am ++ (q.ae.filterMap aC.bt ++ (blk q.aK ++ q.ai.filterMap aU.bt))))):=e2;rw [e3] at h5 h6;exact qv h5 (fN _) h6
theorem pX (w:World) (base:Nat) (a0:Option Addr) (c0:Nat) (l0:List az) (ho:w.ownsRow base 141 3 (.slice a0 l0.length c0) l0.length (bG.flat l0)) (a:Option Addr) (l:List az) (cap:Nat) (h:ld w a (bG.flat l)) (hl:l0.length+l.length≤4000000) (lY:base≤w.heap.size):
  ∃ a' cap' w',(Builtin.append_ #[28,28] 28 #[.slice a0 l0.length c0,.slice a l.length cap]).run J3 w= .ok (.slice a' (l0.length+l.length) cap') w'∧w'.ownsRow base 141 3 (.slice a' (l0.length+l.length) cap') (l0.length+l.length) (bG.flat (l0 ++ l))∧w.grownBy w' (Value.slice a0 l0.length c0).ownBlock∧ ∀ g∈blk a',g∈blk a0∨g=w.heap.size:=by
 obtain ⟨i,hi,e⟩:=Kw.1 sj;simp only [Kx] at e;rw [bG.dc];exact jD w base _ _ 141 i _ 3 32 Tryz.underlying28 hi e.1 e.2.1 e.2.2 rfl (by decide) a0 l0.length c0 _ ho a l.length cap _ h (bG.dM l) xV hl (by decide) lY
theorem ap.GV {w w':World} {base B:Nat} {q:af} {l:List az} {a':Option Addr} {c':Nat} (h:ap w base q) (hb:base≤B) (hB: ∀ g∈q.Mc,g < B) (hs: ∀ g∈q.Mc,w'.heap[g]? =w.heap[g]?)
  (ho:w'.ownsRow B 141 3 (.slice a' l.length c') l.length (bG.flat l)):ap w' base ({ q with ag:=l,ax:=a',aP:=c' } :af):=by
 refine ⟨aL h.L8 fun g hg=>hs g (by simp [af.Mc,hg]),aL h.aj fun g hg=>hs g (by simp [af.Mc,hg]),aL h.L9 fun g hg=>hs g (by simp [af.Mc,hg]),cq ho hb,aL h.ae fun g hg=>hs g (by simp [af.Mc,hg]),aL h.ai fun g hg=>hs g (by simp [af.Mc,hg]),fun x hx=>(h.eI x hx).same fun g hg=>hs g ?_,fun x hx=>(h.eE x hx).same fun g hg=>hs g ?_,fun x hx=>(h.eR x hx).same fun g hg=>hs g ?_,?_⟩
 ·simp only [af.Mc,Kg,Lq]
  exact .inr (.inl ⟨x,hx,hg⟩)
 ·simp only [af.Mc,Kg,Lq]
  exact .inr (.inr (.inr (.inr (.inr (.inr (.inl ⟨x,hx,hg⟩))))))
 ·simp only [af.Mc,Kg,Lq]
  exact .inr (.inr (.inr (.inr (.inr (.inr (.inr (.inr ⟨x,hx,hg⟩)))))))
 ·have h5:=h.nodup
  have h6: ∀ g∈blk a',g∉q.Mc:=fun g hg hm=>by have:=(cf ho hg).1; have:=hB g hm; omega
  have e1: ∀ (a2:Option Addr) (l2:List az) (c2:Nat),({ q with ag:=l2,ax:=a2,aP:=c2 } :af).Mc=(blk q.aN ++ (q.L8.filterMap aR.bt ++ (blk q.bc ++ blk q.ay))) ++ (blk a2 ++ (blk q.am ++ (q.ae.filterMap aC.bt ++ (blk q.aK ++ q.ai.filterMap aU.bt)))):=fun _ _ _=>by simp [af.Mc]
  have e2:=e1 q.ax q.ag q.aP;rw [e1];have e3:q.Mc=(blk q.aN ++ (q.L8.filterMap aR.bt ++ (blk q.bc ++ blk q.ay))) ++ (blk q.ax ++ (blk q.am ++ (q.ae.filterMap aC.bt ++ (blk q.aK ++ q.ai.filterMap aU.bt)))):=e2;rw [e3] at h5 h6;exact qv h5 (fN _) h6
theorem cJ.S9 {w w':World} {base o:Nat} {S:aZ} {x:ao} {e:Ending} (h:cJ w base o S) (hb:base≤w.heap.size) (hm:aR.cO w base x) (hk: ∀ c,aR.bt x=some c→c∉o :: (S.boxes ++ S.kids)) (hl:dD w S.q.bp (RW (fun x:ao=>x.id) S.lp) true x.id (aX x) 43 e w'):
  ∃ g,cJ w' base o { S with lp:=fc (fun x:ao=>x.id) (x,g) S.lp } ∧Below base w w':=by
 obtain ⟨g,hg,hsh,hgr⟩:=h.L8.lay hb hl;have hn:=h.nodup;obtain ⟨hno,hn2⟩:=Lp.1 hn;obtain ⟨hnb,hnk,yD⟩:=Kf.1 hn2;have I3:=hnb;unfold aZ.boxes at hnb;obtain ⟨-,r0,d0⟩:=Kf.1 hnb;clear r0;have hs: ∀ c∈o :: (S.boxes ++ S.kids),c≠S.q.bp→w'.heap[c]? =w.heap[c]? :=fun c hc hne=>hgr.block c (h.lt c hc) (fun e=>hne (KC e))
 have wU:S.q.bp∈S.boxes:=by unfold aZ.boxes; exact (Lz _ (LA ..))
 have iH: ∀ c∈S.kids,w'.heap[c]? =w.heap[c]? :=fun c hc=>hs c (LB _ (Ly _ hc)) (fun e=>yD _ wU c hc e.symm)
 refine ⟨g,⟨(hs o (LA ..) (fun e=>hno (e ▸ Lz _ wU))).trans h.opn,hsh,h.aj.same (fun c hc=>hs c (LB _ (Lz _ (by unfold aZ.boxes; exact (Ly _ (Lz _ hc))))) (fun e=>d0 _ (LA ..) c (Lz _ hc) e.symm)),h.L9.same (fun c hc=>hs c (LB _ (Lz _ (by unfold aZ.boxes; exact (Ly _ (Ly _ (Lz _ hc)))))) (fun e=>d0 _ (LA ..) c (Ly _ (Lz _ hc)) e.symm)),h.ag.same (fun c hc=>hs c (LB _ (Lz _ (by unfold aZ.boxes; exact (Ly _ (Ly _ (Ly _ (Lz _ hc))))))) (fun e=>d0 _ (LA ..) c (Ly _ (Ly _ (Lz _ hc))) e.symm)),h.ae.same (fun c hc=>hs c (LB _ (Lz _ (by unfold aZ.boxes; exact (Ly _ (Ly _ (Ly _ (Ly _ (Lz _ hc)))))))) (fun e=>d0 _ (LA ..) c (Ly _ (Ly _ (Ly _ (Lz _ hc)))) e.symm)),h.ai.same (fun c hc=>hs c (LB _ (Lz _ (by unfold aZ.boxes; exact (Ly _ (Ly _ (Ly _ (Ly _ (Ly _ hc)))))))) (fun e=>d0 _ (LA ..) c (Ly _ (Ly _ (Ly _ (Ly _ hc)))) e.symm)),fun r hr=>(Kt.1 ((lC (num:=(fun x:ao=>x.id)) (x,g) S.lp).mem_iff.1 hr)).elim (fun e=>e ▸ hm.same fun c hc=>hgr.block c (hm.lt hc).2 (fun e2=>hk c hc (KC e2 ▸ LB _ (Lz _ wU)))) (fun hr=>(h.eI r hr).same fun c hc=>iH c (by unfold aZ.kids; exact (Lz _ (Lq.2 ⟨r,hr,hc⟩)))),fun r hr=>(h.eE r hr).same fun c hc=>iH c (by unfold aZ.kids; exact (Ly _ (Lz _ (Lq.2 ⟨r,hr,hc⟩)))),fun r hr=>(h.eR r hr).same fun c hc=>iH c (by unfold aZ.kids; exact (Ly _ (Ly _ (Lq.2 ⟨r,hr,hc⟩)))),?_,h.low⟩,(Kp _ _).grown hgr hb fun c e=>(KC e) ▸ h.L8.low _ (LA ..)⟩;have hp1:({ S with lp:=fc (fun x:ao=>x.id) (x,g) S.lp } :aZ).boxes.Perm (g :: S.boxes):=by unfold aZ.boxes; exact ((lM (num:=(fun x:ao=>x.id)) x S.q.bp g S.lp).append_right _)
 have hlt:=h.lt;have hp2:(o :: (({ S with lp:=fc (fun x:ao=>x.id) (x,g) S.lp } :aZ).boxes ++ ({ S with lp:=fc (fun x:ao=>x.id) (x,g) S.lp } :aZ).kids)).Perm (g :: (o :: (S.boxes ++ ({ S with lp:=(x,g) :: S.lp } :aZ).kids))):=(List.Perm.cons o (hp1.append (by unfold aZ.kids; exact ((AG (N:=aR) (num:=(fun x:ao=>x.id)) x g S.lp).append_right _)))).trans (List.Perm.swap g o _);refine hp2.nodup_iff.2 ?_;cases hkx:aR.bt x with
 | none=>
  have e1:({ S with lp:=(x,g) :: S.lp } :aZ).kids=S.kids:=by simp [aZ.kids,kids,hkx]
  rw [e1];exact Lp.2 ⟨fun hm=>by have:=hlt g hm; omega,hn⟩
 | some c=>
  have wu:(({ S with lp:=(x,g) :: S.lp } :aZ).kids).Perm (c :: S.kids):=by
   have e1:kids aR ((x,g) :: S.lp)=c :: kids aR S.lp:=by simp [kids,hkx]
   unfold aZ.kids
   show (kids aR ((x,g) :: S.lp) ++ (kids aC S.lf ++ kids aU S.lq)).Perm _
   rw [e1];exact RA _
  have hp4:(o :: (S.boxes ++ ({ S with lp:=(x,g) :: S.lp } :aZ).kids)).Perm (c :: (o :: (S.boxes ++ S.kids))):=(List.Perm.cons o (dY wu)).trans (List.Perm.swap c o _);have hc1:=hk c hkx;have hc2:=(hm.lt hkx).2;refine (List.Perm.cons g hp4).nodup_iff.2 (Lp.2 ⟨fun hm2=> ?_,Lp.2 ⟨hc1,hn⟩⟩);rcases Kt.1 hm2 with e2 | hm2
  ·omega
  ·have:=hlt g hm2
   omega
end
end Go.Proofs.YtkbcplnlehdjfaaGreat
