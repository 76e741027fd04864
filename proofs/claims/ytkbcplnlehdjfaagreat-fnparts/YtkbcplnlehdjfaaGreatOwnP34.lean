/- What the proof leans on, part 34. -/
import Derived.Test.YtkbcplnlehdjfaaGreatOwnP31
set_option maxRecDepth 100000
set_option maxHeartbeats 8000000
open Array renaming getElem?_eq_some_iff->J2
open Bool renaming and_eq_true->J7,or_eq_true->Kb
open Go.ByteArray renaming toList_eq->PQ
open Int renaming le_refl->LJ
open List renaming mem_cons->Kt,mem_filterMap->Lq,mem_iff_getElem->LK,mem_map->Lr
open Nat renaming zero_le->Ky

namespace Go.Proofs.YtkbcplnlehdjfaaGreat
section
open Go.RowKit Go.Maps
attribute [local go_sem ↓] Go.wp_at_zero Go.wp_at_succ
theorem cJ.lower {w:World} {base base' o:Nat} {S:aZ} (h:cJ w base o S) (hb:base'≤base):cJ w base' o S:=
 ⟨h.opn,h.L8.lower hb,h.aj.lower hb,h.L9.lower hb,h.ag.lower hb,h.ae.lower hb,h.ai.lower hb,fun p hp=>(h.eI p hp).low hb,fun p hp=>(h.eE p hp).low hb,fun p hp=>(h.eR p hp).low hb,h.nodup,Nat.le_trans hb h.low⟩
theorem cJ.ge {w:World} {base o:Nat} {S:aZ} (h:cJ w base o S): ∀ c∈o :: (S.boxes ++ S.kids),base≤c:=fun c hc=>by
 simp only [aZ.boxes,aZ.kids,Kt,List.mem_append] at hc;rcases hc with rfl | ((hc | hc | hc | hc | hc | hc) | hc | hc | hc)
 ·exact h.low
 ·exact h.L8.low c (Kt.2 hc)
 ·exact h.aj.low c (Kt.2 hc)
 ·exact h.L9.low c (Kt.2 hc)
 ·exact h.ag.low c (Kt.2 hc)
 ·exact h.ae.low c (Kt.2 hc)
 ·exact h.ai.low c (Kt.2 hc)
 ·obtain ⟨r,hr,hk⟩:=Lq.1 hc
  exact ((h.eI r hr).lt hk).1
 ·obtain ⟨r,hr,hk⟩:=Lq.1 hc
  exact ((h.eE r hr).lt hk).1
 ·obtain ⟨r,hr,hk⟩:=Lq.1 hc
  exact ((h.eR r hr).lt hk).1
theorem SL (p:af) (id RX:Int) (a:Option Addr) (l:List dN) (c:Nat) (w:World) (hid:(Lit.int .i64 id).wf=true) (hl:l.length≤1048576∧ ∀ o∈l,o.2.2.2.size≤1048576) (hr:Row w a (fk.flat l)) (hg:p.Good w):
  Calls Tryz.prog 27 #[.agg p.cells,.int .i64 id,.int .i64 RX,.slice a l.length c] w fun e w'=>gI w (cB p.pure { p.pure with L8:=bY (·.id) (newP id RX l) p.pure.L8 }) e w':=by
 have b1:Below w.heap.size w ((w.alloc (.cells p.cells 32)).alloc (.cells ar 32)):=dT _ _ _;obtain ⟨b,d,W,hap,ho,hgr⟩:=FR ((w.alloc (.cells p.cells 32)).alloc (.cells ar 32)) a l c (hr.below b1) hl.1;have b2:Below (w.heap.size+1+1) ((w.alloc (.cells p.cells 32)).alloc (.cells ar 32)) W:=by have h5:=(Below.refl ((w.alloc (.cells p.cells 32)).alloc (.cells ar 32)).heap.size ((w.alloc (.cells p.cells 32)).alloc (.cells ar 32))).grown hgr (Nat.le_refl _) (fun c e=>by cases e); simpa using h5
 have hs1:((w.alloc (.cells p.cells 32)).alloc (.cells ar 32)).heap.size=w.heap.size+1+1:=by simp
 have HB:Hid (p.Good W∧Below w.heap.size w W∧W.heap[w.heap.size+1]? =some (.cells ar 32 (0,0))∧av W w.heap.size p∧(Lit.int .i64 id).wf=true∧aR.cO W (w.heap.size+1+1) (⟨newP id RX l,b,d⟩:ao)∧(l.length≤1048576∧ ∀ o∈l,o.2.2.2.size≤1048576)∧w.heap.size+1+1≤W.heap.size):=by
  have h2:=cZ w (.cells p.cells 32) (.cells ar 32);have b3:Below w.heap.size w W:=b1.trans (b2.mono (by omega));refine ⟨hg.below b3,b3,(b2.block _ (by omega)).trans h2.2,(b2.block _ (by omega)).trans h2.1,hid,?_,hl,by have:=b2.size; omega⟩;rw [hs1] at ho;exact ho
 clear hg hid hl hr b1 b2 ho hgr hs1;obtain ⟨m0,m1,m2,m3,m4,m5,m6,m7⟩:=HB.I.2.2.2.1.cells;unfold af.cells at *
 go_enter Tryz.func27,Tryz.ntmps27
 go_wp2_with (at_builtin; refine br _ rfl _ _ 37 rfl _ _ _ _ rfl rfl hap ?_; clear hap);clear m0 m1 m2 m3 m4 m5 m6 m7;refine (iO p W HB.I.1).mono ?_;rintro e w1 ⟨hb1,⟨hno,rfl⟩ | ⟨fm,o,S,rfl,hat,gn⟩⟩
 ·have HZ:Hid (Below w.heap.size w w1∧w1.heap[w.heap.size+1]? =some (.cells ar 32 (0,0))∧True):=⟨HB.I.2.1.trans (hb1.mono HB.I.2.1.size),(hb1.block _ (J2.1 HB.I.2.2.1).1).trans HB.I.2.2.1,trivial⟩
  have HN:Hid (cB p.pure { p.pure with L8:=bY (·.id) (newP id RX l) p.pure.L8 } =none):=nm (dL hno);clear hb1 hno;go_wp2_with (refine ec 8 34 ar HZ.I.2.1 ?_);refine mG Tryz.results27 (.bool false) HZ.I.2.1 ?_;exact ca HN.I (below_setRow HZ.I.1 (by omega) _)
 have HK:Hid (∀ g,aR.bt (⟨newP id RX l,b,d⟩:ao)=some g→g∉o :: (S.boxes ++ S.kids)):=fun g hk hm=>by have h5:=(HB.I.2.2.2.2.2.1.lt hk).2; have h6:=hat.ge g hm; omega
 have HZ:Hid (Below w.heap.size w w1∧w1.heap[w.heap.size+1]? =some (.cells ar 32 (0,0))∧aQ S.pure∧cJ w1 (w.heap.size+1+1) o S∧S.pure=p.pure∧aR.cO w1 (w.heap.size+1+1) (⟨newP id RX l,b,d⟩:ao)∧(w.heap.size+1+1)≤w1.heap.size):=⟨HB.I.2.1.trans (hb1.mono HB.I.2.1.size),(hb1.block _ (J2.1 HB.I.2.2.1).1).trans HB.I.2.2.1,by rw [gn]; exact fm,hat.lower HB.I.2.2.2.2.2.2.2,gn,Di HB.I.2.2.2.2.2.1 hb1,by have:=hb1.size; have:=HB.I.2.2.2.2.2.2.2; omega⟩
 have c0:w1.cell? ⟨o,2,none⟩=some (.int .i64 6):=hat.opn.cell 2;have c1:w1.cell? ⟨o,3,none⟩=some (.map (some S.q.bp)):=hat.opn.cell 3;have HM:Hid (bK { p.pure with L8:=bY (·.id) (newP id RX l) p.pure.L8 } =iI 6 (RW (fun x:ao=>x.id) S.lp) id (cH (newP id RX l))):=by
  have h5:=S8 (id:=id) (RX:=RX) (l:=l) HZ.I.2.2.1;rw [gn] at h5;refine h5.trans ?_;have h6:p.pure.L8=S.lp.map (fun p=>(fun y:ao=>y.toaD) p.1):=by rw [← gn]; rfl
  rw [h6];exact (oP (num:=(fun x:ao=>x.id)) (je:=(·.id)) (fun y:ao=>y.toaD) (fun _=>rfl) cH (⟨newP id RX l,b,d⟩:ao) 6 S.lp).symm
 have Mb:=Bp 6 S.q.bp (RW (fun x:ao=>x.id) S.lp) (⟨newP id RX l,b,d⟩:ao) w1 hat.L8.map HB.I.2.2.2.2.1 (by have h5:=(iB HZ.I.2.2.1).dl; rw [bZ]; omega) ⟨⟨HB.I.2.2.2.2.2.2.1.1,HB.I.2.2.2.2.2.2.1.2,Ky _,Ky _⟩,HZ.I.2.2.2.2.2.1.row⟩;have D1:Hid (∀ e w',dD w1 S.q.bp (RW (fun x:ao=>x.id) S.lp) (iI 6 (RW (fun x:ao=>x.id) S.lp) id (cH (newP id RX l))) id (aX (⟨newP id RX l,b,d⟩:ao)) 43 e w'→dD w1 S.q.bp (RW (fun x:ao=>x.id) S.lp) (bK { p.pure with L8:=bY (·.id) (newP id RX l) p.pure.L8 }) id (aX (⟨newP id RX l,b,d⟩:ao)) 43 e w'):=fun e w' h5=>by rw [HM.I]; exact h5
 simp only [aX] at Mb;clear hb1 fm hat gn HM;go_wp2_with fail;refine Mb.mono ?_;clear Mb c0 c1;intro e w2 hE;replace hE:=D1.I e w2 hE;clear D1;cases hok:bK { p.pure with L8:=bY (·.id) (newP id RX l) p.pure.L8 }
 ·rw [hok] at hE
  obtain ⟨rfl,hb2,-⟩:=hE;have iP:Hid (Below w.heap.size w w2∧w2.heap[w.heap.size+1]? =some (.cells ar 32 (0,0))∧True):=⟨HZ.I.1.trans ((hb2 rfl).mono HZ.I.1.size),((hb2 rfl).block _ (J2.1 HZ.I.2.1).1).trans HZ.I.2.1,trivial⟩
  have HN:Hid (cB p.pure { p.pure with L8:=bY (·.id) (newP id RX l) p.pure.L8 } =none):=ox hok;clear hok hb2;go_wp2_with (refine ec 8 34 ar iP.I.2.1 ?_);refine mG Tryz.results27 (.bool false) iP.I.2.1 ?_;exact ca HN.I (below_setRow iP.I.1 (by omega) _)
 rw [hok] at hE;obtain ⟨g,g8,hb2⟩:=HZ.I.2.2.2.1.S9 (x:=(⟨newP id RX l,b,d⟩:ao)) HZ.I.2.2.2.2.2.2 HZ.I.2.2.2.2.2.1 HK.I hE;obtain ⟨rfl,-,-⟩:=hE;have HN:Hid (cB p.pure { p.pure with L8:=bY (·.id) (newP id RX l) p.pure.L8 } =some { p.pure with L8:=bY (·.id) (newP id RX l) p.pure.L8 }):=mZ (by rw [← HZ.I.2.2.2.2.1]; exact fP HZ.I.2.2.1) hok;have H2:Hid (cJ w2 (w.heap.size+1+1) o ({ S with lp:=fc (fun x:ao=>x.id) ((⟨newP id RX l,b,d⟩:ao),g) S.lp } :aZ)∧Below w.heap.size w w2∧w2.heap[w.heap.size+1]? =some (.cells ar 32 (0,0))):=⟨g8,HZ.I.1.trans (hb2.mono (by omega)),(hb2.block _ (by omega)).trans HZ.I.2.1⟩
 have HF:Hid (({ S with lp:=fc (fun x:ao=>x.id) ((⟨newP id RX l,b,d⟩:ao),g) S.lp } :aZ).pure= { p.pure with L8:=bY (·.id) (newP id RX l) p.pure.L8 } ∧({ S with lp:=fc (fun x:ao=>x.id) ((⟨newP id RX l,b,d⟩:ao),g) S.lp } :aZ).Fits):=by
  have e1:({ S with lp:=fc (fun x:ao=>x.id) ((⟨newP id RX l,b,d⟩:ao),g) S.lp } :aZ).pure= { p.pure with L8:=bY (·.id) (newP id RX l) p.pure.L8 } :=by
   have h6:p.pure.L8=S.lp.map (fun p=>(fun y:ao=>y.toaD) p.1):=by rw [← HZ.I.2.2.2.2.1]; rfl
   have h7:(fc (fun x:ao=>x.id) ((⟨newP id RX l,b,d⟩:ao),g) S.lp).map (fun p=>(fun y:ao=>y.toaD) p.1)=bY (·.id) (newP id RX l) p.pure.L8:=by
    rw [m9 (num:=(fun x:ao=>x.id)) (je:=(·.id)) (fun y:ao=>y.toaD) (fun _=>rfl),← h6]
   rw [← HZ.I.2.2.2.2.1] at h7 ⊢;unfold aZ.pure at h7 ⊢;simp only at h7 ⊢;rw [← h7]
  exact ⟨e1,iB (by rw [e1]; exact (ch _).1 hok)⟩
 clear g8 hb2 hok;go_wp2_with fail;refine (jR o (w.heap.size+1+1) _ w2 H2.I.1 HF.I.2).mono ?_;rintro e w3 ⟨r,rfl,Bn,wu,hb3⟩;have H3:Hid (ap w3 (w.heap.size+1+1) r∧Below w.heap.size w w3∧w3.heap[w.heap.size+1]? =some (.cells ar 32 (0,0))∧r.pure= { p.pure with L8:=bY (·.id) (newP id RX l) p.pure.L8 }):=⟨Bn,H2.I.2.1.trans (hb3.mono H2.I.2.1.size),(hb3.block _ (J2.1 H2.I.2.2).1).trans H2.I.2.2,wu.trans HF.I.1⟩
 clear Bn wu hb3;go_wp2_with (refine ec 8 36 (af.cells r) H3.I.2.2.1 ?_);refine mG Tryz.results27 (.bool true) H3.I.2.2.1 ?_;rw [HN.I];exact ⟨r,rfl,(H3.I.1.lower (by omega)).same fun b hb=>setRow_other _ _ _ _ (by have:=(H3.I.1.lt b hb).1; omega),H3.I.2.2.2,below_setRow H3.I.2.1 (by omega) _⟩
end
theorem empty_eq {s:ByteArray} (h:bI s=true):s=rM:=by
 have h1:s.data.toList= [] :=by simpa [bI,PQ] using h
 cases s with
 | mk d=>
  have:d= #[] :=Array.toList_eq_nil_iff.1 h1
  rw [this]; rfl
def Up (id:Int) (p:aE):Prop:= ∀ y∈p.L8,y.id=id→y.Md=1
def xr (id:Int) (p:aE):Prop:= ∀ y∈p.L8,y.id=id→y.Md=1∧y.left=0
section
variable {p:aE} {id:Int}
theorem xr.up (h:xr id p):Up id p:=fun y hy hi=>(h y hy hi).1
theorem Up.not (h:Up id p): ∀ y∈p.L8,y.id=id→ ¬ y.Md=0:=fun y hy hi=>by rw [h y hy hi]; decide
theorem Up.other {k nx:Int} {f:aD→aD} (h:Up id p) (hk: ¬ k=id) (hf: ∀ x,(f x).id=x.id):Up id { p with next:=nx,L8:=ce k f p.L8 } :=fun y hy hi=>by
 obtain ⟨z,hz,rfl⟩:=Lr.1 (show y∈ce k f p.L8 from hy)
 split at hi
 ·rw [hf] at hi; omega
 ·rw [if_neg ‹_›]; exact h z hz hi
theorem xr.got {t:ByteArray} {k:Int} (h:xr id p):xr id (ez t k p):=fun y hy hi=>by
 obtain ⟨z,hz,rfl⟩:=Lr.1 (show y∈ce k (lG t) p.L8 from hy)
 split at hi
 ·rw [if_pos ‹_›]; exact h z hz hi
 ·rw [if_neg ‹_›]; exact h z hz hi
theorem Up.Mg {f:aD→aD} {x:aD} (h:Up id p) (hx:x∈p.L8) (hs: ¬ x.Md=1) (hf: ∀ y,(f y).id=y.id):Up id (gF f p x):=
 Up.other h (fun e=>hs (h x hx e)) fun y=>by rw [(rD _ _ _).1,hf]
theorem Up.gW {f:aD→aD} {st on:Int} (hst: ¬ st=1) (hf: ∀ y,(f y).id=y.id): ∀ (n:Nat) (p:aE),Up id p→Up id (gW f st on n p)
 | 0,_,h=>h
 | n+1,p,h=>by
  unfold Go.Proofs.YtkbcplnlehdjfaaGreat.gW
  split
  ·exact h
  ·rename_i x hx
   obtain ⟨m1,m2,-⟩:=ft hx;exact Up.gW hst hf n _ (h.Mg m1 (by omega) hf)
theorem Up.ff {f:aD→aD} {st on:Int} (h:Up id p) (hst: ¬ st=1) (hf: ∀ y,(f y).id=y.id):Up id (ff f st on p):=Up.gW hst hf _ _ h
theorem D6 {code:Int} (h:aQ p) (hu:Up id p) (hc:cv code 0 3=true):aQ (bu code id p):=zF h hu.not hc
theorem sO {st on Mg:Int} {held:ByteArray} (h:aQ p) (hu:xr id p) (hn:p.next+1≤1000000000)
  (hs:st=2∧on=0∧bI held=true∧cv Mg 1 2000000000=true∨(st=5∧bw held=true∨(st=3∨st=4∨st=6∨st=7)∧bI held=true)∧lh Mg=true∧hasB p st on=true):aQ (kC st on held Mg id p):=by
 have hnx:=bz.1 h.next;refine h.ju (f:=zb p.next st on held Mg) (fun _=>rfl) ⟨by omega,hn⟩ fun x hx hi=> ?_
 obtain ⟨hx1,hx2⟩:=hu x hx hi;obtain ⟨-,k1,k2,k3⟩:=h.proc hx;have hop:=iT k1 (by rw [hx1]; decide);have hb:=iF k1;have hh:bw held=true:=by
  rcases hs with hs | ⟨hs | hs,-⟩
  ·rw [empty_eq hs.2.2.1]; rfl
  ·exact hs.2
  ·rw [empty_eq hs.2]; rfl
 have ho:dU (zb p.next st on held Mg x)=true:=eB hop.1 (by show x.pc≤(x.prog.length:Int) - 1; omega);have hst:bO (zb p.next st on held Mg x)=true:=by
  unfold bO;rw [ho]
  show (if st=0 then _ else if st=1 then _ else if st=2 then true && decide (x.left=0) && cv Mg 1 2000000000 && decide (on=0) && bI held else if st=5 then true && decide (x.left=0) && lh Mg else if st=3∨st=4∨st=6∨st=7 then true && decide (x.left=0) && lh Mg && bI held else false)=true
  rw [hx2];rcases hs with ⟨rfl,rfl,h3,h4⟩ | ⟨⟨rfl,h3⟩ | ⟨h3,h4⟩,h5,-⟩
  ·simp [h3,h4]
  ·simp [h5]
  ·rcases h3 with rfl | rfl | rfl | rfl <;> simp [h4,h5]
 refine ⟨?_,?_,?_,.inr (.inr rfl)⟩
 ·rw [fG,J7]
  refine ⟨?_,hst⟩;unfold jY at hb ⊢;simp only [J7] at hb ⊢;exact ⟨⟨⟨hb.1.1.1,hh⟩,hb.1.2⟩,hb.2⟩
 ·unfold fF
  rw [Kb];exact .inr (eB (by show 1≤p.next; omega) (by show p.next≤p.next+1 - 1; omega))
 ·unfold dG
  show (if 3≤st then hasB p st on else true)=true
  rcases hs with ⟨rfl,-⟩ | ⟨-,-,h5⟩
  ·rfl
  ·split
   ·exact h5
   ·rfl
theorem Ha {st now:Int} {o:dN} (h:aQ p) (hu:xr id p) (hn:p.next+1≤1000000000) (eu:0≤now∧now≤1000000000) (hm:cv o.2.2.1 (-1) 1000=true)
  (hs:st=5∧bw o.2.2.2=true∨(st=3∨st=4∨st=6∨st=7)∧bI o.2.2.2=true) (hh:hasB p st o.2.1=true):aQ (mX st o now id p):=by
 have hm':=bz.1 hm;unfold mX
 split
 ·exact D6 h hu.up rfl
 ·refine sO h hu hn (.inr ⟨hs,?_,hh⟩)
  unfold lh kZ;rw [Kb]
  split
  ·exact .inl (eB (by omega) (by omega))
  ·exact .inr (by simp)
theorem IT {st now:Int} {o:dN} :p.next≤(mX st o now id p).next∧(mX st o now id p).next≤p.next+1:=by
 unfold mX
 split
 ·exact ⟨LJ _,by show p.next≤_; omega⟩
 ·exact ⟨by show p.next≤p.next+1; omega,LJ _⟩
theorem mx {k d:Int} (h:aQ p) (hd: ∀ s∈p.aj,s.id=k→0≤s.n+d∧s.n+d≤s.max):aQ (nZ k d p):=
 h.GD (by apply vN; intro _; rfl) (nj h.aj (fun _=>rfl) fun s hs hk=>by
  have h1:=(cK h.aj s hs).2;unfold gw at h1 ⊢;simp only [J7] at h1 ⊢;exact ⟨h1.1,eB (hd s hs hk).1 (hd s hs hk).2⟩)
theorem kw {k:Int} {b:Bool} (h:aQ p):aQ (gL k b p):=h.Cz (by apply vN; intro _; rfl) (nj h.L9 (fun _=>rfl) fun _ _ _=>rfl)
theorem kA {k:Int} {b:Bool} {t:ByteArray} (h:aQ p) (ht:bw t=true) (hb:b=true∨bI t=true):aQ (ib k b t p):=
 h.C5 (by apply vN; intro _; rfl) (nj h.ag (fun _=>rfl) fun s hs hk=>by
  unfold cU;simp only [J7,Kb];exact ⟨ht,hb⟩)
theorem lv {l:List ByteArray} {m:Int} :dJ l m=true↔(l.length:Int)≤m∧ ∀ t∈l,bw t=true:=by
 unfold dJ;simp [and_comm]
theorem gN {k:Int} {l:List ByteArray} (h:aQ p) (hl: ∀ b∈p.ae,b.id=k→(l.length:Int)≤b.max) (ht: ∀ t∈l,bw t=true):aQ (cV k l p):=
 h.Cb (by apply vN; intro _; rfl) (nj h.ae (fun _=>rfl) fun s hs hk=>by
  have h1:=(cK h.ae s hs).2;unfold ct at h1 ⊢;simp only [J7] at h1 ⊢;exact ⟨h1.1,lv.2 ⟨hl s hs hk,ht⟩⟩)
theorem jj {k:Int} {l:List ByteArray} (h:aQ p) (hl: ∀ b∈p.ai,b.id=k→(l.length:Int)≤b.max) (ht: ∀ t∈l,bw t=true):aQ (gU k l p):=
 h.Es (by apply vN; intro _; rfl) (nj h.ai (fun _=>rfl) fun s hs hk=>by
  have h1:=(cK h.ai s hs).2;unfold dj at h1 ⊢;simp only [J7] at h1 ⊢;exact ⟨h1.1,lv.2 ⟨hl s hs hk,ht⟩⟩)
theorem only {α:Type} {num:α→Int} {ok:α→Bool} {last k:Int} {l:List α} {x y:α} (h:aw num ok last l=true) (hx:cg num k l=some x) (hy:y∈l) (hk:num y=k):y=x:=by
 obtain ⟨h1,h2⟩:=ks hx;have h5:=(db h).2;rw [List.pairwise_iff_getElem] at h5;obtain ⟨i,hi1,rfl⟩:=LK.1 hy;obtain ⟨j,DS,rfl⟩:=LK.1 h1;rcases Nat.lt_trichotomy i j with hlt | heq | hgt
 ·have:=h5 i j hi1 DS hlt; omega
 ·subst heq; rfl
 ·have:=h5 j i DS hi1 hgt; omega
theorem ul {α:Type} {num:α→Int} {k:Int} {l:List α} {x:α} (h:cg num k l=some x):decide (k∈l.map num)=true:=by
 obtain ⟨h1,h2⟩:=ks h;exact decide_eq_true (Lr.2 ⟨x,h1,h2⟩)
end
end Go.Proofs.YtkbcplnlehdjfaaGreat
