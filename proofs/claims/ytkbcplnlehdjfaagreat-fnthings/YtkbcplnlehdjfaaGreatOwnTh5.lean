/- What the proof leans on, part 5: WithSemI, WithBufferI, WithBoardI, WithEventI. -/
import Derived.Test.YtkbcplnlehdjfaaGreatOwnB2
import Derived.Test.YtkbcplnlehdjfaaGreatOwnB24
import Derived.Test.YtkbcplnlehdjfaaGreatOwnB25
import Derived.Test.YtkbcplnlehdjfaaGreatOwnTh0
import Derived.Test.YtkbcplnlehdjfaaGreatOwnTh1
import Derived.Test.YtkbcplnlehdjfaaGreatOwnTh2
import Derived.Test.YtkbcplnlehdjfaaGreatOwnTh3
set_option maxRecDepth 100000
set_option maxHeartbeats 8000000

namespace Go.Proofs.YtkbcplnlehdjfaaGreat
open Go.RowKit Go.Maps
attribute [local go_sem ↓] Go.wp_at_zero Go.wp_at_succ
theorem FC (p:af) (z:bD) (w:World) (hid:(Lit.int .i64 z.id).wf=true) (hg:p.Good w):
  Calls Tryz.prog 34 #[.agg p.cells,.agg #[.int .i64 z.id,.int .i64 z.n,.int .i64 z.max]] w fun e w'=>gI w (cB p.pure { p.pure with aj:=cA (·.id) z p.pure.aj }) e w':=by
 have HB:Hid (p.Good (((w.alloc (.cells p.cells 32)).alloc (.cells #[.int .i64 z.id,.int .i64 z.n,.int .i64 z.max] 49)).alloc (.cells ar 32))∧Below w.heap.size w (((w.alloc (.cells p.cells 32)).alloc (.cells #[.int .i64 z.id,.int .i64 z.n,.int .i64 z.max] 49)).alloc (.cells ar 32))∧(((w.alloc (.cells p.cells 32)).alloc (.cells #[.int .i64 z.id,.int .i64 z.n,.int .i64 z.max] 49)).alloc (.cells ar 32)).heap[w.heap.size+1+1]? =some (.cells ar 32 (0,0))∧av (((w.alloc (.cells p.cells 32)).alloc (.cells #[.int .i64 z.id,.int .i64 z.n,.int .i64 z.max] 49)).alloc (.cells ar 32)) w.heap.size p∧(Lit.int .i64 z.id).wf=true∧(((w.alloc (.cells p.cells 32)).alloc (.cells #[.int .i64 z.id,.int .i64 z.n,.int .i64 z.max] 49)).alloc (.cells ar 32)).heap[w.heap.size+1]? =some (.cells #[.int .i64 z.id,.int .i64 z.n,.int .i64 z.max] 49 (0,0))):=by
  have b1:Below w.heap.size w (((w.alloc (.cells p.cells 32)).alloc (.cells #[.int .i64 z.id,.int .i64 z.n,.int .i64 z.max] 49)).alloc (.cells ar 32)):=fg _ _ _ _
  have h3:=dR w (.cells p.cells 32) (.cells #[.int .i64 z.id,.int .i64 z.n,.int .i64 z.max] 49) (.cells ar 32)
  exact ⟨hg.below b1,b1,h3.2.2.1,h3.1,hid,h3.2.1⟩
 clear hg hid
 obtain ⟨m0,m1,m2,m3,m4,m5,m6,m7⟩:=HB.out.2.2.2.1.cells
 unfold af.cells at *
 go_enter Tryz.func34,Tryz.ntmps34
 go_wp2_with fail
 generalize ((w.alloc (.cells #[.int .i64 p.id,.int .i64 p.next,.slice p.aN p.procs.length p.aW,.slice p.bc p.aj.length p.bF,.slice p.ay p.events.length p.aO,.slice p.ax p.ag.length p.aP,.slice p.am p.ae.length p.aG,.slice p.aK p.ai.length p.aV] 32)).alloc (.cells #[.int .i64 z.id,.int .i64 z.n,.int .i64 z.max] 49)).alloc (.cells #[.int .i64 0,.int .i64 0,.slice none 0 0,.slice none 0 0,.slice none 0 0,.slice none 0 0,.slice none 0 0,.slice none 0 0] 32)=W at *
 clear m0 m1 m2 m3 m4 m5 m6 m7
 refine (iO p W HB.out.1).mono ?_
 rintro e w1 ⟨hb1,⟨hno,rfl⟩ | ⟨fm,o,S,rfl,hat,gn⟩⟩
 all_goals replace hb1:=hb1.drew
 ·have HZ:Hid (Below w.heap.size w w1.drew∧w1.drew.heap[w.heap.size+1+1]? =some (.cells ar 32 (0,0))∧True):=⟨HB.out.2.1.trans (hb1.mono HB.out.2.1.size),(hb1.block _ (Array.getElem?_eq_some_iff.1 HB.out.2.2.1).1).trans HB.out.2.2.1,trivial⟩
  have HN:Hid (cB p.pure { p.pure with aj:=cA (·.id) z p.pure.aj } =none):=nm (dL hno)
  clear hb1 hno
  go_wp2_with fail
  refine aT (fun w'=>w'=w1.drew) (by kernel_rfl) rfl ?_
  iterate 3 (refine yl (v:= ?_) ?_ ?_; rotate_left; (intro w0 hS0; subst hS0; go_simp; try with_reducible rfl); simp only [pt,sb,s0,s1])
  iterate 7 (refine nl ?_; simp only [pt,sb,s0,s1])
  (refine yl (v:= ?_) ?_ ?_; rotate_left; (intro w0 hS0; subst hS0; go_simp; try with_reducible rfl); simp only [pt,sb,s0,s1])
  refine bk (by kernel_rfl) ?_ _
  intro w1 cm
  subst cm
  go_wp2_with (refine wpList_store_row rfl 32 (Operand.tmp 4) (Operand.tmp 24) rfl (w.heap.size+1+1) _ _ ar rfl rfl HZ.out.2.1 (by kernel_rfl) rfl (by kernel_rfl) ?_)
  refine bodyPost_ret (v:= .tuple #[.agg ar,.bool false]) (bL Tryz.results34 _ _ (w.heap.size+1+1) _ _ _ _ (by rfl) (setRow_heap _ _ _ _ _ _ HZ.out.2.1) Tryz.underlying32 rfl (by kernel_rfl)) rfl ?_
  exact ca HN.out (below_setRow HZ.out.1 (by omega) _)
 replace hat:=hat.drew
 have HZ:Hid (Below w.heap.size w w1.drew∧w1.drew.heap[w.heap.size+1+1]? =some (.cells ar 32 (0,0))∧aQ S.pure∧cJ w1.drew W.heap.size o S∧S.pure=p.pure∧w.heap.size+1+1 < W.heap.size∧W.heap.size≤w1.drew.heap.size):=⟨HB.out.2.1.trans (hb1.mono HB.out.2.1.size),(hb1.block _ (Array.getElem?_eq_some_iff.1 HB.out.2.2.1).1).trans HB.out.2.2.1,by rw [gn]; exact fm,hat,gn,(Array.getElem?_eq_some_iff.1 HB.out.2.2.1).1,hb1.size⟩
 obtain ⟨z0,z1,z2⟩:=gm (x:=z) ((hb1.block _ (by have:=(Array.getElem?_eq_some_iff.1 HB.out.2.2.1).1; omega)).trans HB.out.2.2.2.2.2)
 have c0:w1.drew.cell? ⟨o,4,none⟩=some (.int .i64 5):=hat.opn.cell 4
 have c1:w1.drew.cell? ⟨o,5,none⟩=some (.map (some S.q.bs)):=hat.opn.cell 5
 have HM:Hid (bK { p.pure with aj:=cA (·.id) z p.pure.aj } =iI 5 (keysOf (fun x:bD=>x.id) S.ls) z.id (gw z)):=by
  have h5:=Ed (x:=z) HZ.out.2.2.1
  rw [gn] at h5
  refine h5.trans ?_
  have h6:p.pure.aj=S.ls.map (fun p=>(fun y:bD=>y) p.1):=by rw [← gn]; rfl
  rw [h6]
  exact (oP (num:=(fun x:bD=>x.id)) (je:=(·.id)) (fun y:bD=>y) (fun _=>rfl) gw z 5 S.ls).symm
 have hcall:=tU 5 S.q.bs (keysOf (fun x:bD=>x.id) S.ls) z w1.drew hat.aj.map HB.out.2.2.2.2.1 (by have h5:=(iB HZ.out.2.2.1).fx; rw [bZ]; omega) trivial
 have D1:Hid (∀ e w',dD w1.drew S.q.bs (keysOf (fun x:bD=>x.id) S.ls) (iI 5 (keysOf (fun x:bD=>x.id) S.ls) z.id (gw z)) z.id (eH z) 49 e w'→dD w1.drew S.q.bs (keysOf (fun x:bD=>x.id) S.ls) (bK { p.pure with aj:=cA (·.id) z p.pure.aj }) z.id (eH z) 49 e w'):=fun e w' h5=>by rw [HM.out]; exact h5
 simp only [eH] at hcall
 have HC:Hid (∀ w':World,w'.heap[o]? =w1.drew.heap[o]? →w'.heap[w.heap.size+1]? =w1.drew.heap[w.heap.size+1]? →w'.cell? ⟨o,4,none⟩=some (.int .i64 5)∧w'.cell? ⟨o,5,none⟩=some (.map (some S.q.bs))∧w'.cell? ⟨w.heap.size+1,0,none⟩=some (.int .i64 z.id)∧w'.cell? ⟨w.heap.size+1,1,none⟩=some (.int .i64 z.n)∧w'.cell? ⟨w.heap.size+1,2,none⟩=some (.int .i64 z.max)):=fun w' e1 e2=>⟨(World.cell?_of_block e1).trans c0,(World.cell?_of_block e1).trans c1,(World.cell?_of_block e2).trans z0,(World.cell?_of_block e2).trans z1,(World.cell?_of_block e2).trans z2⟩
 clear hb1 fm hat gn HM
 go_wp2_with fail
 refine wp_region_held_drew (S:=fun w'=>w'.cell? ⟨o,4,none⟩=some (.int .i64 5)∧w'.cell? ⟨o,5,none⟩=some (.map (some S.q.bs))∧w'.cell? ⟨w.heap.size+1,0,none⟩=some (.int .i64 z.id)∧w'.cell? ⟨w.heap.size+1,1,none⟩=some (.int .i64 z.n)∧w'.cell? ⟨w.heap.size+1,2,none⟩=some (.int .i64 z.max)) (by kernel_rfl) (HC.out _ rfl rfl) (fun hHeld=> ?_)
 refine tk 0 (v:= ?_) ?_ hHeld ?_; rotate_left; (intro w0 hS0; obtain ⟨q0,q1,q2,q3,q4⟩:=hS0; go_simp; try with_reducible rfl); simp only [pt,sb,s0,s1]
 refine tk 1 (v:= ?_) ?_ hHeld ?_; rotate_left; (intro w0 hS0; obtain ⟨q0,q1,q2,q3,q4⟩:=hS0; go_simp; try with_reducible rfl); simp only [pt,sb,s0,s1]
 refine tk 2 (v:= ?_) ?_ hHeld ?_; rotate_left; (intro w0 hS0; obtain ⟨q0,q1,q2,q3,q4⟩:=hS0; go_simp; try with_reducible rfl); simp only [pt,sb,s0,s1]
 refine tk 3 (v:= ?_) ?_ hHeld ?_; rotate_left; (intro w0 hS0; obtain ⟨q0,q1,q2,q3,q4⟩:=hS0; go_simp; try with_reducible rfl); simp only [pt,sb,s0,s1]
 refine tk 4 (v:= ?_) ?_ hHeld ?_; rotate_left; (intro w0 hS0; obtain ⟨q0,q1,q2,q3,q4⟩:=hS0; go_simp; try with_reducible rfl); simp only [pt,sb,s0,s1]
 refine tk 5 (v:= ?_) ?_ hHeld ?_; rotate_left; (intro w0 hS0; obtain ⟨q0,q1,q2,q3,q4⟩:=hS0; go_simp; try with_reducible rfl); simp only [pt,sb,s0,s1]
 refine tk 6 (v:= ?_) ?_ hHeld ?_; rotate_left; (intro w0 hS0; obtain ⟨q0,q1,q2,q3,q4⟩:=hS0; go_simp; try with_reducible rfl); simp only [pt,sb,s0,s1]
 refine tk 7 (v:= ?_) ?_ hHeld ?_; rotate_left; (intro w0 hS0; obtain ⟨q0,q1,q2,q3,q4⟩:=hS0; go_simp; try with_reducible rfl); simp only [pt,sb,s0,s1]
 refine wpAnyH_ready (rs:= [8]) (by kernel_rfl) (by simp) ?_
 refine AllReadyH.cons rfl (fun K hK=> ?_) AllReadyH.nil
 simp only [List.getElem_toArray,List.getElem_cons_zero,List.getElem_cons_succ]
 rw [if_pos (by rfl)]
 go_wp2_with fail
 refine hcall.mono ?_
 clear hcall c0 c1 hHeld z0 z1 z2
 intro e w2 hE
 replace hE:=D1.out e w2 hE
 clear D1
 cases hok:bK { p.pure with aj:=cA (·.id) z p.pure.aj }
 ·rw [hok] at hE
  obtain ⟨rfl,hb2,-⟩:=hE
  have iP:Hid (Below w.heap.size w w2∧w2.heap[w.heap.size+1+1]? =some (.cells ar 32 (0,0))∧True):=⟨HZ.out.1.trans ((hb2 rfl).mono HZ.out.1.size),((hb2 rfl).block _ (Array.getElem?_eq_some_iff.1 HZ.out.2.1).1).trans HZ.out.2.1,trivial⟩
  have HN:Hid (cB p.pure { p.pure with aj:=cA (·.id) z p.pure.aj } =none):=ox hok
  refine hK.out _ _ (HC.out w2 ((hb2 rfl).block _ (Array.getElem?_eq_some_iff.1 HZ.out.2.2.2.1.opn).1) ((hb2 rfl).block _ (by have:=HZ.out.2.2.2.2.2; omega))) (fun hHeld=> ?_)
  clear hK K
  try simp only [pt,sb,s0,s1]
  refine tk 9 (v:= ?_) ?_ hHeld ?_; rotate_left; (intro w0 hS0; obtain ⟨q0,q1,q2,q3,q4⟩:=hS0; go_simp; try with_reducible rfl); simp only [pt,sb,s0,s1]
  refine tk 10 (v:= ?_) ?_ hHeld ?_; rotate_left; (intro w0 hS0; obtain ⟨q0,q1,q2,q3,q4⟩:=hS0; go_simp; try with_reducible rfl); simp only [pt,sb,s0,s1]
  refine wpAnyH_done (by kernel_rfl) ?_ _
  clear hHeld HC
  clear hok hb2
  go_wp2_with (refine wpList_store_row rfl 32 (Operand.tmp 4) (Operand.tmp 24) rfl (w.heap.size+1+1) _ _ ar rfl rfl iP.out.2.1 (by kernel_rfl) rfl (by kernel_rfl) ?_)
  refine bodyPost_ret (v:= .tuple #[.agg ar,.bool false]) (bL Tryz.results34 _ _ (w.heap.size+1+1) _ _ _ _ (by rfl) (setRow_heap _ _ _ _ _ _ iP.out.2.1) Tryz.underlying32 rfl (by kernel_rfl)) rfl ?_
  exact ca HN.out (below_setRow iP.out.1 (by omega) _)
 rw [hok] at hE
 obtain ⟨g,g8,hb2⟩:=HZ.out.2.2.2.1.laySem (x:=z) HZ.out.2.2.2.2.2.2 hE
 obtain ⟨rfl,-,-⟩:=hE
 have hlt:=HZ.out.2.2.2.2.2.1
 have HN:Hid (cB p.pure { p.pure with aj:=cA (·.id) z p.pure.aj } =some { p.pure with aj:=cA (·.id) z p.pure.aj }):=mZ (by rw [← HZ.out.2.2.2.2.1]; exact fP HZ.out.2.2.1) hok
 have H2:Hid (cJ w2 W.heap.size o ({ S with ls:=fc (fun x:bD=>x.id) (z,g) S.ls } :aZ)∧Below w.heap.size w w2∧w2.heap[w.heap.size+1+1]? =some (.cells ar 32 (0,0))∧W.heap.size≤w2.heap.size):=⟨g8,HZ.out.1.trans (hb2.mono (by omega)),(hb2.block _ hlt).trans HZ.out.2.1,by have:=hb2.size; have:=HZ.out.2.2.2.2.2.2; omega⟩
 have HF:Hid (({ S with ls:=fc (fun x:bD=>x.id) (z,g) S.ls } :aZ).pure= { p.pure with aj:=cA (·.id) z p.pure.aj } ∧({ S with ls:=fc (fun x:bD=>x.id) (z,g) S.ls } :aZ).Fits):=by
  have h5:=Ed (x:=z) HZ.out.2.2.1
  rw [HZ.out.2.2.2.2.1,hok] at h5
  have e1:({ S with ls:=fc (fun x:bD=>x.id) (z,g) S.ls } :aZ).pure= { p.pure with aj:=cA (·.id) z p.pure.aj } :=by
   have h6:p.pure.aj=S.ls.map (fun p=>(fun y:bD=>y) p.1):=by rw [← HZ.out.2.2.2.2.1]; rfl
   have h7:(fc (fun x:bD=>x.id) (z,g) S.ls).map (fun p=>(fun y:bD=>y) p.1)=cA (·.id) z p.pure.aj:=by
    rw [m9 (num:=(fun x:bD=>x.id)) (je:=(·.id)) (fun y:bD=>y) (fun _=>rfl),← h6]
    exact (rf _ _ (uq h5.symm)).symm
   rw [← HZ.out.2.2.2.2.1] at h7 ⊢
   unfold aZ.pure at h7 ⊢
   simp only at h7 ⊢
   rw [← h7]
  exact ⟨e1,iB (by rw [e1]; exact (ch _).1 hok)⟩
 refine hK.out _ _ (HC.out w2 (H2.out.1.opn.trans HZ.out.2.2.2.1.opn.symm) (hb2.block _ (by omega))) (fun hHeld=> ?_)
 clear hK K
 try simp only [pt,sb,s0,s1]
 refine tk 9 (v:= ?_) ?_ hHeld ?_; rotate_left; (intro w0 hS0; obtain ⟨q0,q1,q2,q3,q4⟩:=hS0; go_simp; try with_reducible rfl); simp only [pt,sb,s0,s1]
 refine tk 10 (v:= ?_) ?_ hHeld ?_; rotate_left; (intro w0 hS0; obtain ⟨q0,q1,q2,q3,q4⟩:=hS0; go_simp; try with_reducible rfl); simp only [pt,sb,s0,s1]
 refine wpAnyH_done (by kernel_rfl) ?_ _
 clear hHeld HC
 clear g8 hb2 hok
 go_wp2_with fail
 refine (jR o W.heap.size _ w2 H2.out.1 HF.out.2).mono ?_
 rintro e w3 ⟨r,rfl,Bn,wu,hb3⟩
 have H3:Hid (ap w3 W.heap.size r∧Below w.heap.size w w3∧w3.heap[w.heap.size+1+1]? =some (.cells ar 32 (0,0))∧r.pure= { p.pure with aj:=cA (·.id) z p.pure.aj }):=⟨Bn,H2.out.2.1.trans (hb3.mono H2.out.2.1.size),(hb3.block _ (Array.getElem?_eq_some_iff.1 H2.out.2.2.1).1).trans H2.out.2.2.1,wu.trans HF.out.1⟩
 clear Bn wu hb3
 go_wp2_with (refine wpList_store_row rfl 32 (Operand.tmp 4) (Operand.tmp 26) rfl (w.heap.size+1+1) _ _ (af.cells r) rfl rfl H3.out.2.2.1 (by kernel_rfl) rfl (by kernel_rfl) ?_)
 refine bodyPost_ret (v:= .tuple #[.agg (af.cells r),.bool true]) (bL Tryz.results34 _ _ (w.heap.size+1+1) _ _ _ _ (by rfl) (setRow_heap _ _ _ _ _ _ H3.out.2.2.1) Tryz.underlying32 rfl (by kernel_rfl)) rfl ?_
 rw [HN.out]
 exact ⟨r,rfl,(H3.out.1.lower (by omega)).same fun b hb=>setRow_other _ _ _ _ (by have:=(H3.out.1.lt b hb).1; omega),H3.out.2.2.2,below_setRow H3.out.2.1 (by omega) _⟩
theorem C7 (p:af) (id most:Int) (w:World) (hid:(Lit.int .i64 id).wf=true) (hg:p.Good w):
  Calls Tryz.prog 42 #[.agg p.cells,.int .i64 id,.int .i64 most] w fun e w'=>gI w (cB p.pure { p.pure with ae:=bY (·.id) (⟨id,most,[]⟩:ci) p.pure.ae }) e w':=by
 have HB:Hid (p.Good ((w.alloc (.cells #[.int .i64 p.id,.int .i64 p.next,.slice p.aN p.procs.length p.aW,.slice p.bc p.aj.length p.bF,.slice p.ay p.events.length p.aO,.slice p.ax p.ag.length p.aP,.slice p.am p.ae.length p.aG,.slice p.aK p.ai.length p.aV] 32)).alloc (.cells #[.int .i64 0,.int .i64 0,.slice none 0 0,.slice none 0 0,.slice none 0 0,.slice none 0 0,.slice none 0 0,.slice none 0 0] 32))∧Below w.heap.size w ((w.alloc (.cells #[.int .i64 p.id,.int .i64 p.next,.slice p.aN p.procs.length p.aW,.slice p.bc p.aj.length p.bF,.slice p.ay p.events.length p.aO,.slice p.ax p.ag.length p.aP,.slice p.am p.ae.length p.aG,.slice p.aK p.ai.length p.aV] 32)).alloc (.cells #[.int .i64 0,.int .i64 0,.slice none 0 0,.slice none 0 0,.slice none 0 0,.slice none 0 0,.slice none 0 0,.slice none 0 0] 32))∧((w.alloc (.cells #[.int .i64 p.id,.int .i64 p.next,.slice p.aN p.procs.length p.aW,.slice p.bc p.aj.length p.bF,.slice p.ay p.events.length p.aO,.slice p.ax p.ag.length p.aP,.slice p.am p.ae.length p.aG,.slice p.aK p.ai.length p.aV] 32)).alloc (.cells #[.int .i64 0,.int .i64 0,.slice none 0 0,.slice none 0 0,.slice none 0 0,.slice none 0 0,.slice none 0 0,.slice none 0 0] 32)).heap[w.heap.size+1]? =some (.cells #[.int .i64 0,.int .i64 0,.slice none 0 0,.slice none 0 0,.slice none 0 0,.slice none 0 0,.slice none 0 0,.slice none 0 0] 32 (0,0))∧av ((w.alloc (.cells #[.int .i64 p.id,.int .i64 p.next,.slice p.aN p.procs.length p.aW,.slice p.bc p.aj.length p.bF,.slice p.ay p.events.length p.aO,.slice p.ax p.ag.length p.aP,.slice p.am p.ae.length p.aG,.slice p.aK p.ai.length p.aV] 32)).alloc (.cells #[.int .i64 0,.int .i64 0,.slice none 0 0,.slice none 0 0,.slice none 0 0,.slice none 0 0,.slice none 0 0,.slice none 0 0] 32)) w.heap.size p∧(Lit.int .i64 id).wf=true):=by
  have b1:Below w.heap.size w ((w.alloc (.cells #[.int .i64 p.id,.int .i64 p.next,.slice p.aN p.procs.length p.aW,.slice p.bc p.aj.length p.bF,.slice p.ay p.events.length p.aO,.slice p.ax p.ag.length p.aP,.slice p.am p.ae.length p.aG,.slice p.aK p.ai.length p.aV] 32)).alloc (.cells #[.int .i64 0,.int .i64 0,.slice none 0 0,.slice none 0 0,.slice none 0 0,.slice none 0 0,.slice none 0 0,.slice none 0 0] 32)):=((Below.refl _ _).alloc (Nat.le_refl _) _).alloc (by simp) _
  exact ⟨hg.below b1,b1,heap_alloc2_new _ _ _,(heap_alloc_old _ _ (by simp)).trans (heap_alloc_new _ _),hid⟩
 clear hg hid
 obtain ⟨m0,m1,m2,m3,m4,m5,m6,m7⟩:=HB.out.2.2.2.1.cells
 unfold af.cells
 go_enter Tryz.func42,Tryz.ntmps42
 go_wp2_with fail
 generalize (w.alloc (.cells #[.int .i64 p.id,.int .i64 p.next,.slice p.aN p.procs.length p.aW,.slice p.bc p.aj.length p.bF,.slice p.ay p.events.length p.aO,.slice p.ax p.ag.length p.aP,.slice p.am p.ae.length p.aG,.slice p.aK p.ai.length p.aV] 32)).alloc (.cells #[.int .i64 0,.int .i64 0,.slice none 0 0,.slice none 0 0,.slice none 0 0,.slice none 0 0,.slice none 0 0,.slice none 0 0] 32)=W at *
 clear m0 m1 m2 m3 m4 m5 m6 m7
 refine (iO p W HB.out.1).mono ?_
 rintro e w1 ⟨hb1,⟨hno,rfl⟩ | ⟨fm,o,S,rfl,hat,gn⟩⟩
 ·have HZ:Hid (Below w.heap.size w w1∧w1.heap[w.heap.size+1]? =some (.cells #[.int .i64 0,.int .i64 0,.slice none 0 0,.slice none 0 0,.slice none 0 0,.slice none 0 0,.slice none 0 0,.slice none 0 0] 32 (0,0))∧True):=⟨HB.out.2.1.trans (hb1.mono HB.out.2.1.size),(hb1.block _ (Array.getElem?_eq_some_iff.1 HB.out.2.2.1).1).trans HB.out.2.2.1,trivial⟩
  have HN:Hid (cB p.pure { p.pure with ae:=bY (·.id) (⟨id,most,[]⟩:ci) p.pure.ae } =none):=nm (dL hno)
  clear hb1 hno
  go_wp2_with (refine wpList_store_row rfl 32 (Operand.tmp 6) (Operand.tmp 28) rfl (w.heap.size+1) _ _ #[.int .i64 0,.int .i64 0,.slice none 0 0,.slice none 0 0,.slice none 0 0,.slice none 0 0,.slice none 0 0,.slice none 0 0] rfl rfl HZ.out.2.1 (by kernel_rfl) rfl (by kernel_rfl) ?_)
  refine bodyPost_ret (v:= .tuple #[.agg #[.int .i64 0,.int .i64 0,.slice none 0 0,.slice none 0 0,.slice none 0 0,.slice none 0 0,.slice none 0 0,.slice none 0 0],.bool false]) (bL Tryz.results42 _ _ (w.heap.size+1) _ _ _ _ (by rfl) (setRow_heap _ _ _ _ _ _ HZ.out.2.1) Tryz.underlying32 rfl (by kernel_rfl)) rfl ?_
  exact ca HN.out (below_setRow HZ.out.1 (by omega) _)
 have HZ:Hid (Below w.heap.size w w1∧w1.heap[w.heap.size+1]? =some (.cells #[.int .i64 0,.int .i64 0,.slice none 0 0,.slice none 0 0,.slice none 0 0,.slice none 0 0,.slice none 0 0,.slice none 0 0] 32 (0,0))∧aQ S.pure∧cJ w1 W.heap.size o S∧S.pure=p.pure∧w.heap.size+1 < W.heap.size∧W.heap.size≤w1.heap.size):=⟨HB.out.2.1.trans (hb1.mono HB.out.2.1.size),(hb1.block _ (Array.getElem?_eq_some_iff.1 HB.out.2.2.1).1).trans HB.out.2.2.1,by rw [gn]; exact fm,hat,gn,(Array.getElem?_eq_some_iff.1 HB.out.2.2.1).1,hb1.size⟩
 have c0:w1.cell? ⟨o,10,none⟩=some (.int .i64 5):=hat.opn.cell 10
 have c1:w1.cell? ⟨o,11,none⟩=some (.map (some S.q.bf)):=hat.opn.cell 11
 have HM:Hid (bK { p.pure with ae:=bY (·.id) (⟨id,most,[]⟩:ci) p.pure.ae } =iI 5 (keysOf (fun x:au=>x.id) S.lf) id (ct (⟨id,most,[]⟩:ci))):=by
  have h5:=vE (x:=(⟨id,most,[]⟩:ci)) HZ.out.2.2.1
  rw [gn] at h5
  refine h5.trans ?_
  have h6:p.pure.ae=S.lf.map (fun p=>(fun y:au=>y.toci) p.1):=by rw [← gn]; rfl
  rw [h6]
  exact (oP (num:=(fun x:au=>x.id)) (je:=(·.id)) (fun y:au=>y.toci) (fun _=>rfl) ct (⟨⟨id,most,[]⟩,none,0⟩:au) 5 S.lf).symm
 have hcall:=pV 5 S.q.bf (keysOf (fun x:au=>x.id) S.lf) (⟨⟨id,most,[]⟩,none,0⟩:au) w1 hat.ae.map HB.out.2.2.2.2 (by have h5:=(iB HZ.out.2.2.1).cb; rw [bZ]; omega) ⟨Nat.zero_le _,(fun s hs=>by cases hs),(fun j u hu=>by cases hu)⟩
 have D1:Hid (∀ e w',dD w1 S.q.bf (keysOf (fun x:au=>x.id) S.lf) (iI 5 (keysOf (fun x:au=>x.id) S.lf) id (ct (⟨id,most,[]⟩:ci))) id (bQ (⟨⟨id,most,[]⟩,none,0⟩:au)) 144 e w'→dD w1 S.q.bf (keysOf (fun x:au=>x.id) S.lf) (bK { p.pure with ae:=bY (·.id) (⟨id,most,[]⟩:ci) p.pure.ae }) id (bQ (⟨⟨id,most,[]⟩,none,0⟩:au)) 144 e w'):=fun e w' h5=>by rw [HM.out]; exact h5
 simp only [bQ,List.length_nil] at hcall
 clear hb1 fm hat gn HM
 go_wp2_with fail
 refine hcall.mono ?_
 clear hcall c0 c1
 intro e w2 hE
 replace hE:=D1.out e w2 hE
 clear D1
 cases hok:bK { p.pure with ae:=bY (·.id) (⟨id,most,[]⟩:ci) p.pure.ae }
 ·rw [hok] at hE
  obtain ⟨rfl,hb2,-⟩:=hE
  have iP:Hid (Below w.heap.size w w2∧w2.heap[w.heap.size+1]? =some (.cells #[.int .i64 0,.int .i64 0,.slice none 0 0,.slice none 0 0,.slice none 0 0,.slice none 0 0,.slice none 0 0,.slice none 0 0] 32 (0,0))∧True):=⟨HZ.out.1.trans ((hb2 rfl).mono HZ.out.1.size),((hb2 rfl).block _ (Array.getElem?_eq_some_iff.1 HZ.out.2.1).1).trans HZ.out.2.1,trivial⟩
  have HN:Hid (cB p.pure { p.pure with ae:=bY (·.id) (⟨id,most,[]⟩:ci) p.pure.ae } =none):=ox hok
  clear hok hb2
  go_wp2_with (refine wpList_store_row rfl 32 (Operand.tmp 6) (Operand.tmp 28) rfl (w.heap.size+1) _ _ #[.int .i64 0,.int .i64 0,.slice none 0 0,.slice none 0 0,.slice none 0 0,.slice none 0 0,.slice none 0 0,.slice none 0 0] rfl rfl iP.out.2.1 (by kernel_rfl) rfl (by kernel_rfl) ?_)
  refine bodyPost_ret (v:= .tuple #[.agg #[.int .i64 0,.int .i64 0,.slice none 0 0,.slice none 0 0,.slice none 0 0,.slice none 0 0,.slice none 0 0,.slice none 0 0],.bool false]) (bL Tryz.results42 _ _ (w.heap.size+1) _ _ _ _ (by rfl) (setRow_heap _ _ _ _ _ _ iP.out.2.1) Tryz.underlying32 rfl (by kernel_rfl)) rfl ?_
  exact ca HN.out (below_setRow iP.out.1 (by omega) _)
 rw [hok] at hE
 obtain ⟨g,g8,hb2⟩:=HZ.out.2.2.2.1.EZ (x:=(⟨⟨id,most,[]⟩,none,0⟩:au)) HZ.out.2.2.2.2.2.2 (World.ownsRow_nil _ _ _ _) (fun c hc=>by cases hc) hE
 obtain ⟨rfl,-,-⟩:=hE
 have hlt:=HZ.out.2.2.2.2.2.1
 have HN:Hid (cB p.pure { p.pure with ae:=bY (·.id) (⟨id,most,[]⟩:ci) p.pure.ae } =some { p.pure with ae:=bY (·.id) (⟨id,most,[]⟩:ci) p.pure.ae }):=mZ (by rw [← HZ.out.2.2.2.2.1]; exact fP HZ.out.2.2.1) hok
 have H2:Hid (cJ w2 W.heap.size o ({ S with lf:=fc (fun x:au=>x.id) ((⟨⟨id,most,[]⟩,none,0⟩:au),g) S.lf } :aZ)∧Below w.heap.size w w2∧w2.heap[w.heap.size+1]? =some (.cells #[.int .i64 0,.int .i64 0,.slice none 0 0,.slice none 0 0,.slice none 0 0,.slice none 0 0,.slice none 0 0,.slice none 0 0] 32 (0,0))∧W.heap.size≤w2.heap.size):=⟨g8,HZ.out.1.trans (hb2.mono (by omega)),(hb2.block _ hlt).trans HZ.out.2.1,by have:=hb2.size; have:=HZ.out.2.2.2.2.2.2; omega⟩
 have HF:Hid (({ S with lf:=fc (fun x:au=>x.id) ((⟨⟨id,most,[]⟩,none,0⟩:au),g) S.lf } :aZ).pure= { p.pure with ae:=bY (·.id) (⟨id,most,[]⟩:ci) p.pure.ae } ∧({ S with lf:=fc (fun x:au=>x.id) ((⟨⟨id,most,[]⟩,none,0⟩:au),g) S.lf } :aZ).Fits):=by
  have h5:=vE (x:=(⟨id,most,[]⟩:ci)) HZ.out.2.2.1
  rw [HZ.out.2.2.2.2.1,hok] at h5
  have e1:({ S with lf:=fc (fun x:au=>x.id) ((⟨⟨id,most,[]⟩,none,0⟩:au),g) S.lf } :aZ).pure= { p.pure with ae:=bY (·.id) (⟨id,most,[]⟩:ci) p.pure.ae } :=by
   have h6:p.pure.ae=S.lf.map (fun p=>(fun y:au=>y.toci) p.1):=by rw [← HZ.out.2.2.2.2.1]; rfl
   have h7:(fc (fun x:au=>x.id) ((⟨⟨id,most,[]⟩,none,0⟩:au),g) S.lf).map (fun p=>(fun y:au=>y.toci) p.1)=bY (·.id) (⟨id,most,[]⟩:ci) p.pure.ae:=by
    rw [m9 (num:=(fun x:au=>x.id)) (je:=(·.id)) (fun y:au=>y.toci) (fun _=>rfl),← h6]
   rw [← HZ.out.2.2.2.2.1] at h7 ⊢
   unfold aZ.pure at h7 ⊢
   simp only at h7 ⊢
   rw [← h7]
  exact ⟨e1,iB (by rw [e1]; exact (ch _).1 hok)⟩
 clear g8 hb2 hok
 go_wp2_with fail
 refine (jR o W.heap.size _ w2 H2.out.1 HF.out.2).mono ?_
 rintro e w3 ⟨r,rfl,Bn,wu,hb3⟩
 have H3:Hid (ap w3 W.heap.size r∧Below w.heap.size w w3∧w3.heap[w.heap.size+1]? =some (.cells #[.int .i64 0,.int .i64 0,.slice none 0 0,.slice none 0 0,.slice none 0 0,.slice none 0 0,.slice none 0 0,.slice none 0 0] 32 (0,0))∧r.pure= { p.pure with ae:=bY (·.id) (⟨id,most,[]⟩:ci) p.pure.ae }):=⟨Bn,H2.out.2.1.trans (hb3.mono H2.out.2.1.size),(hb3.block _ (Array.getElem?_eq_some_iff.1 H2.out.2.2.1).1).trans H2.out.2.2.1,wu.trans HF.out.1⟩
 clear Bn wu hb3
 go_wp2_with (refine wpList_store_row rfl 32 (Operand.tmp 6) (Operand.tmp 30) rfl (w.heap.size+1) _ _ (af.cells r) rfl rfl H3.out.2.2.1 (by kernel_rfl) rfl (by kernel_rfl) ?_)
 refine bodyPost_ret (v:= .tuple #[.agg (af.cells r),.bool true]) (bL Tryz.results42 _ _ (w.heap.size+1) _ _ _ _ (by rfl) (setRow_heap _ _ _ _ _ _ H3.out.2.2.1) Tryz.underlying32 rfl (by kernel_rfl)) rfl ?_
 rw [HN.out]
 exact ⟨r,rfl,(H3.out.1.lower (by omega)).same fun b hb=>setRow_other _ _ _ _ (by have:=(H3.out.1.lt b hb).1; omega),H3.out.2.2.2,below_setRow H3.out.2.1 (by omega) _⟩
theorem D0 (p:af) (id:Int) (w:World) (hid:(Lit.int .i64 id).wf=true) (hg:p.Good w):
  Calls Tryz.prog 39 #[.agg p.cells,.int .i64 id] w fun e w'=>gI w (cB p.pure { p.pure with ag:=cA (·.id) (⟨id,false,⟨#[]⟩⟩:az) p.pure.ag }) e w':=by
 have HB:Hid (p.Good ((w.alloc (.cells #[.int .i64 p.id,.int .i64 p.next,.slice p.aN p.procs.length p.aW,.slice p.bc p.aj.length p.bF,.slice p.ay p.events.length p.aO,.slice p.ax p.ag.length p.aP,.slice p.am p.ae.length p.aG,.slice p.aK p.ai.length p.aV] 32)).alloc (.cells #[.int .i64 0,.int .i64 0,.slice none 0 0,.slice none 0 0,.slice none 0 0,.slice none 0 0,.slice none 0 0,.slice none 0 0] 32))∧Below w.heap.size w ((w.alloc (.cells #[.int .i64 p.id,.int .i64 p.next,.slice p.aN p.procs.length p.aW,.slice p.bc p.aj.length p.bF,.slice p.ay p.events.length p.aO,.slice p.ax p.ag.length p.aP,.slice p.am p.ae.length p.aG,.slice p.aK p.ai.length p.aV] 32)).alloc (.cells #[.int .i64 0,.int .i64 0,.slice none 0 0,.slice none 0 0,.slice none 0 0,.slice none 0 0,.slice none 0 0,.slice none 0 0] 32))∧((w.alloc (.cells #[.int .i64 p.id,.int .i64 p.next,.slice p.aN p.procs.length p.aW,.slice p.bc p.aj.length p.bF,.slice p.ay p.events.length p.aO,.slice p.ax p.ag.length p.aP,.slice p.am p.ae.length p.aG,.slice p.aK p.ai.length p.aV] 32)).alloc (.cells #[.int .i64 0,.int .i64 0,.slice none 0 0,.slice none 0 0,.slice none 0 0,.slice none 0 0,.slice none 0 0,.slice none 0 0] 32)).heap[w.heap.size+1]? =some (.cells #[.int .i64 0,.int .i64 0,.slice none 0 0,.slice none 0 0,.slice none 0 0,.slice none 0 0,.slice none 0 0,.slice none 0 0] 32 (0,0))∧av ((w.alloc (.cells #[.int .i64 p.id,.int .i64 p.next,.slice p.aN p.procs.length p.aW,.slice p.bc p.aj.length p.bF,.slice p.ay p.events.length p.aO,.slice p.ax p.ag.length p.aP,.slice p.am p.ae.length p.aG,.slice p.aK p.ai.length p.aV] 32)).alloc (.cells #[.int .i64 0,.int .i64 0,.slice none 0 0,.slice none 0 0,.slice none 0 0,.slice none 0 0,.slice none 0 0,.slice none 0 0] 32)) w.heap.size p∧(Lit.int .i64 id).wf=true):=by
  have b1:Below w.heap.size w ((w.alloc (.cells #[.int .i64 p.id,.int .i64 p.next,.slice p.aN p.procs.length p.aW,.slice p.bc p.aj.length p.bF,.slice p.ay p.events.length p.aO,.slice p.ax p.ag.length p.aP,.slice p.am p.ae.length p.aG,.slice p.aK p.ai.length p.aV] 32)).alloc (.cells #[.int .i64 0,.int .i64 0,.slice none 0 0,.slice none 0 0,.slice none 0 0,.slice none 0 0,.slice none 0 0,.slice none 0 0] 32)):=((Below.refl _ _).alloc (Nat.le_refl _) _).alloc (by simp) _
  exact ⟨hg.below b1,b1,heap_alloc2_new _ _ _,(heap_alloc_old _ _ (by simp)).trans (heap_alloc_new _ _),hid⟩
 clear hg hid
 obtain ⟨m0,m1,m2,m3,m4,m5,m6,m7⟩:=HB.out.2.2.2.1.cells
 unfold af.cells
 go_enter Tryz.func39,Tryz.ntmps39
 go_wp2_with fail
 generalize (w.alloc (.cells #[.int .i64 p.id,.int .i64 p.next,.slice p.aN p.procs.length p.aW,.slice p.bc p.aj.length p.bF,.slice p.ay p.events.length p.aO,.slice p.ax p.ag.length p.aP,.slice p.am p.ae.length p.aG,.slice p.aK p.ai.length p.aV] 32)).alloc (.cells #[.int .i64 0,.int .i64 0,.slice none 0 0,.slice none 0 0,.slice none 0 0,.slice none 0 0,.slice none 0 0,.slice none 0 0] 32)=W at *
 clear m0 m1 m2 m3 m4 m5 m6 m7
 refine (iO p W HB.out.1).mono ?_
 rintro e w1 ⟨hb1,⟨hno,rfl⟩ | ⟨fm,o,S,rfl,hat,gn⟩⟩
 ·have HZ:Hid (Below w.heap.size w w1∧w1.heap[w.heap.size+1]? =some (.cells #[.int .i64 0,.int .i64 0,.slice none 0 0,.slice none 0 0,.slice none 0 0,.slice none 0 0,.slice none 0 0,.slice none 0 0] 32 (0,0))∧True):=⟨HB.out.2.1.trans (hb1.mono HB.out.2.1.size),(hb1.block _ (Array.getElem?_eq_some_iff.1 HB.out.2.2.1).1).trans HB.out.2.2.1,trivial⟩
  have HN:Hid (cB p.pure { p.pure with ag:=cA (·.id) (⟨id,false,⟨#[]⟩⟩:az) p.pure.ag } =none):=nm (dL hno)
  clear hb1 hno
  go_wp2_with (refine wpList_store_row rfl 32 (Operand.tmp 4) (Operand.tmp 25) rfl (w.heap.size+1) _ _ #[.int .i64 0,.int .i64 0,.slice none 0 0,.slice none 0 0,.slice none 0 0,.slice none 0 0,.slice none 0 0,.slice none 0 0] rfl rfl HZ.out.2.1 (by kernel_rfl) rfl (by kernel_rfl) ?_)
  refine bodyPost_ret (v:= .tuple #[.agg #[.int .i64 0,.int .i64 0,.slice none 0 0,.slice none 0 0,.slice none 0 0,.slice none 0 0,.slice none 0 0,.slice none 0 0],.bool false]) (bL Tryz.results39 _ _ (w.heap.size+1) _ _ _ _ (by rfl) (setRow_heap _ _ _ _ _ _ HZ.out.2.1) Tryz.underlying32 rfl (by kernel_rfl)) rfl ?_
  exact ca HN.out (below_setRow HZ.out.1 (by omega) _)
 have HZ:Hid (Below w.heap.size w w1∧w1.heap[w.heap.size+1]? =some (.cells #[.int .i64 0,.int .i64 0,.slice none 0 0,.slice none 0 0,.slice none 0 0,.slice none 0 0,.slice none 0 0,.slice none 0 0] 32 (0,0))∧aQ S.pure∧cJ w1 W.heap.size o S∧S.pure=p.pure∧w.heap.size+1 < W.heap.size∧W.heap.size≤w1.heap.size):=⟨HB.out.2.1.trans (hb1.mono HB.out.2.1.size),(hb1.block _ (Array.getElem?_eq_some_iff.1 HB.out.2.2.1).1).trans HB.out.2.2.1,by rw [gn]; exact fm,hat,gn,(Array.getElem?_eq_some_iff.1 HB.out.2.2.1).1,hb1.size⟩
 have c0:w1.cell? ⟨o,8,none⟩=some (.int .i64 5):=hat.opn.cell 8
 have c1:w1.cell? ⟨o,9,none⟩=some (.map (some S.q.bb)):=hat.opn.cell 9
 have HM:Hid (bK { p.pure with ag:=cA (·.id) (⟨id,false,⟨#[]⟩⟩:az) p.pure.ag } =iI 5 (keysOf (fun x:az=>x.id) S.lb) id (cU (⟨id,false,⟨#[]⟩⟩:az))):=by
  have h5:=xY (x:=(⟨id,false,⟨#[]⟩⟩:az)) HZ.out.2.2.1
  rw [gn] at h5
  refine h5.trans ?_
  have h6:p.pure.ag=S.lb.map (fun p=>(fun y:az=>y) p.1):=by rw [← gn]; rfl
  rw [h6]
  exact (oP (num:=(fun x:az=>x.id)) (je:=(·.id)) (fun y:az=>y) (fun _=>rfl) cU (⟨id,false,⟨#[]⟩⟩:az) 5 S.lb).symm
 have hcall:=rr 5 S.q.bb (keysOf (fun x:az=>x.id) S.lb) (⟨id,false,⟨#[]⟩⟩:az) w1 hat.ag.map HB.out.2.2.2.2 (by have h5:=(iB HZ.out.2.2.1).cC; rw [bZ]; omega) (Nat.zero_le _)
 have D1:Hid (∀ e w',dD w1 S.q.bb (keysOf (fun x:az=>x.id) S.lb) (iI 5 (keysOf (fun x:az=>x.id) S.lb) id (cU (⟨id,false,⟨#[]⟩⟩:az))) id (cI (⟨id,false,⟨#[]⟩⟩:az)) 141 e w'→dD w1 S.q.bb (keysOf (fun x:az=>x.id) S.lb) (bK { p.pure with ag:=cA (·.id) (⟨id,false,⟨#[]⟩⟩:az) p.pure.ag }) id (cI (⟨id,false,⟨#[]⟩⟩:az)) 141 e w'):=fun e w' h5=>by rw [HM.out]; exact h5
 simp only [cI] at hcall
 clear hb1 fm hat gn HM
 go_wp2_with fail
 refine hcall.mono ?_
 clear hcall c0 c1
 intro e w2 hE
 replace hE:=D1.out e w2 hE
 clear D1
 cases hok:bK { p.pure with ag:=cA (·.id) (⟨id,false,⟨#[]⟩⟩:az) p.pure.ag }
 ·rw [hok] at hE
  obtain ⟨rfl,hb2,-⟩:=hE
  have iP:Hid (Below w.heap.size w w2∧w2.heap[w.heap.size+1]? =some (.cells #[.int .i64 0,.int .i64 0,.slice none 0 0,.slice none 0 0,.slice none 0 0,.slice none 0 0,.slice none 0 0,.slice none 0 0] 32 (0,0))∧True):=⟨HZ.out.1.trans ((hb2 rfl).mono HZ.out.1.size),((hb2 rfl).block _ (Array.getElem?_eq_some_iff.1 HZ.out.2.1).1).trans HZ.out.2.1,trivial⟩
  have HN:Hid (cB p.pure { p.pure with ag:=cA (·.id) (⟨id,false,⟨#[]⟩⟩:az) p.pure.ag } =none):=ox hok
  clear hok hb2
  go_wp2_with (refine wpList_store_row rfl 32 (Operand.tmp 4) (Operand.tmp 25) rfl (w.heap.size+1) _ _ #[.int .i64 0,.int .i64 0,.slice none 0 0,.slice none 0 0,.slice none 0 0,.slice none 0 0,.slice none 0 0,.slice none 0 0] rfl rfl iP.out.2.1 (by kernel_rfl) rfl (by kernel_rfl) ?_)
  refine bodyPost_ret (v:= .tuple #[.agg #[.int .i64 0,.int .i64 0,.slice none 0 0,.slice none 0 0,.slice none 0 0,.slice none 0 0,.slice none 0 0,.slice none 0 0],.bool false]) (bL Tryz.results39 _ _ (w.heap.size+1) _ _ _ _ (by rfl) (setRow_heap _ _ _ _ _ _ iP.out.2.1) Tryz.underlying32 rfl (by kernel_rfl)) rfl ?_
  exact ca HN.out (below_setRow iP.out.1 (by omega) _)
 rw [hok] at hE
 obtain ⟨g,g8,hb2⟩:=HZ.out.2.2.2.1.Gb (x:=(⟨id,false,⟨#[]⟩⟩:az)) HZ.out.2.2.2.2.2.2 hE
 obtain ⟨rfl,-,-⟩:=hE
 have hlt:=HZ.out.2.2.2.2.2.1
 have HN:Hid (cB p.pure { p.pure with ag:=cA (·.id) (⟨id,false,⟨#[]⟩⟩:az) p.pure.ag } =some { p.pure with ag:=cA (·.id) (⟨id,false,⟨#[]⟩⟩:az) p.pure.ag }):=mZ (by rw [← HZ.out.2.2.2.2.1]; exact fP HZ.out.2.2.1) hok
 have H2:Hid (cJ w2 W.heap.size o ({ S with lb:=fc (fun x:az=>x.id) ((⟨id,false,⟨#[]⟩⟩:az),g) S.lb } :aZ)∧Below w.heap.size w w2∧w2.heap[w.heap.size+1]? =some (.cells #[.int .i64 0,.int .i64 0,.slice none 0 0,.slice none 0 0,.slice none 0 0,.slice none 0 0,.slice none 0 0,.slice none 0 0] 32 (0,0))∧W.heap.size≤w2.heap.size):=⟨g8,HZ.out.1.trans (hb2.mono (by omega)),(hb2.block _ hlt).trans HZ.out.2.1,by have:=hb2.size; have:=HZ.out.2.2.2.2.2.2; omega⟩
 have HF:Hid (({ S with lb:=fc (fun x:az=>x.id) ((⟨id,false,⟨#[]⟩⟩:az),g) S.lb } :aZ).pure= { p.pure with ag:=cA (·.id) (⟨id,false,⟨#[]⟩⟩:az) p.pure.ag } ∧({ S with lb:=fc (fun x:az=>x.id) ((⟨id,false,⟨#[]⟩⟩:az),g) S.lb } :aZ).Fits):=by
  have h5:=xY (x:=(⟨id,false,⟨#[]⟩⟩:az)) HZ.out.2.2.1
  rw [HZ.out.2.2.2.2.1,hok] at h5
  have e1:({ S with lb:=fc (fun x:az=>x.id) ((⟨id,false,⟨#[]⟩⟩:az),g) S.lb } :aZ).pure= { p.pure with ag:=cA (·.id) (⟨id,false,⟨#[]⟩⟩:az) p.pure.ag } :=by
   have h6:p.pure.ag=S.lb.map (fun p=>(fun y:az=>y) p.1):=by rw [← HZ.out.2.2.2.2.1]; rfl
   have h7:(fc (fun x:az=>x.id) ((⟨id,false,⟨#[]⟩⟩:az),g) S.lb).map (fun p=>(fun y:az=>y) p.1)=cA (·.id) (⟨id,false,⟨#[]⟩⟩:az) p.pure.ag:=by
    rw [m9 (num:=(fun x:az=>x.id)) (je:=(·.id)) (fun y:az=>y) (fun _=>rfl),← h6]
    exact (rf _ _ (uq h5.symm)).symm
   rw [← HZ.out.2.2.2.2.1] at h7 ⊢
   unfold aZ.pure at h7 ⊢
   simp only at h7 ⊢
   rw [← h7]
  exact ⟨e1,iB (by rw [e1]; exact (ch _).1 hok)⟩
 clear g8 hb2 hok
 go_wp2_with fail
 refine (jR o W.heap.size _ w2 H2.out.1 HF.out.2).mono ?_
 rintro e w3 ⟨r,rfl,Bn,wu,hb3⟩
 have H3:Hid (ap w3 W.heap.size r∧Below w.heap.size w w3∧w3.heap[w.heap.size+1]? =some (.cells #[.int .i64 0,.int .i64 0,.slice none 0 0,.slice none 0 0,.slice none 0 0,.slice none 0 0,.slice none 0 0,.slice none 0 0] 32 (0,0))∧r.pure= { p.pure with ag:=cA (·.id) (⟨id,false,⟨#[]⟩⟩:az) p.pure.ag }):=⟨Bn,H2.out.2.1.trans (hb3.mono H2.out.2.1.size),(hb3.block _ (Array.getElem?_eq_some_iff.1 H2.out.2.2.1).1).trans H2.out.2.2.1,wu.trans HF.out.1⟩
 clear Bn wu hb3
 go_wp2_with (refine wpList_store_row rfl 32 (Operand.tmp 4) (Operand.tmp 27) rfl (w.heap.size+1) _ _ (af.cells r) rfl rfl H3.out.2.2.1 (by kernel_rfl) rfl (by kernel_rfl) ?_)
 refine bodyPost_ret (v:= .tuple #[.agg (af.cells r),.bool true]) (bL Tryz.results39 _ _ (w.heap.size+1) _ _ _ _ (by rfl) (setRow_heap _ _ _ _ _ _ H3.out.2.2.1) Tryz.underlying32 rfl (by kernel_rfl)) rfl ?_
 rw [HN.out]
 exact ⟨r,rfl,(H3.out.1.lower (by omega)).same fun b hb=>setRow_other _ _ _ _ (by have:=(H3.out.1.lt b hb).1; omega),H3.out.2.2.2,below_setRow H3.out.2.1 (by omega) _⟩
theorem DN (p:af) (id:Int) (w:World) (hid:(Lit.int .i64 id).wf=true) (hg:p.Good w):
  Calls Tryz.prog 37 #[.agg p.cells,.int .i64 id] w fun e w'=>gI w (cB p.pure { p.pure with events:=cA (·.id) (⟨id,false⟩:aB) p.pure.events }) e w':=by
 have HB:Hid (p.Good ((w.alloc (.cells #[.int .i64 p.id,.int .i64 p.next,.slice p.aN p.procs.length p.aW,.slice p.bc p.aj.length p.bF,.slice p.ay p.events.length p.aO,.slice p.ax p.ag.length p.aP,.slice p.am p.ae.length p.aG,.slice p.aK p.ai.length p.aV] 32)).alloc (.cells #[.int .i64 0,.int .i64 0,.slice none 0 0,.slice none 0 0,.slice none 0 0,.slice none 0 0,.slice none 0 0,.slice none 0 0] 32))∧Below w.heap.size w ((w.alloc (.cells #[.int .i64 p.id,.int .i64 p.next,.slice p.aN p.procs.length p.aW,.slice p.bc p.aj.length p.bF,.slice p.ay p.events.length p.aO,.slice p.ax p.ag.length p.aP,.slice p.am p.ae.length p.aG,.slice p.aK p.ai.length p.aV] 32)).alloc (.cells #[.int .i64 0,.int .i64 0,.slice none 0 0,.slice none 0 0,.slice none 0 0,.slice none 0 0,.slice none 0 0,.slice none 0 0] 32))∧((w.alloc (.cells #[.int .i64 p.id,.int .i64 p.next,.slice p.aN p.procs.length p.aW,.slice p.bc p.aj.length p.bF,.slice p.ay p.events.length p.aO,.slice p.ax p.ag.length p.aP,.slice p.am p.ae.length p.aG,.slice p.aK p.ai.length p.aV] 32)).alloc (.cells #[.int .i64 0,.int .i64 0,.slice none 0 0,.slice none 0 0,.slice none 0 0,.slice none 0 0,.slice none 0 0,.slice none 0 0] 32)).heap[w.heap.size+1]? =some (.cells #[.int .i64 0,.int .i64 0,.slice none 0 0,.slice none 0 0,.slice none 0 0,.slice none 0 0,.slice none 0 0,.slice none 0 0] 32 (0,0))∧av ((w.alloc (.cells #[.int .i64 p.id,.int .i64 p.next,.slice p.aN p.procs.length p.aW,.slice p.bc p.aj.length p.bF,.slice p.ay p.events.length p.aO,.slice p.ax p.ag.length p.aP,.slice p.am p.ae.length p.aG,.slice p.aK p.ai.length p.aV] 32)).alloc (.cells #[.int .i64 0,.int .i64 0,.slice none 0 0,.slice none 0 0,.slice none 0 0,.slice none 0 0,.slice none 0 0,.slice none 0 0] 32)) w.heap.size p∧(Lit.int .i64 id).wf=true):=by
  have b1:Below w.heap.size w ((w.alloc (.cells #[.int .i64 p.id,.int .i64 p.next,.slice p.aN p.procs.length p.aW,.slice p.bc p.aj.length p.bF,.slice p.ay p.events.length p.aO,.slice p.ax p.ag.length p.aP,.slice p.am p.ae.length p.aG,.slice p.aK p.ai.length p.aV] 32)).alloc (.cells #[.int .i64 0,.int .i64 0,.slice none 0 0,.slice none 0 0,.slice none 0 0,.slice none 0 0,.slice none 0 0,.slice none 0 0] 32)):=((Below.refl _ _).alloc (Nat.le_refl _) _).alloc (by simp) _
  exact ⟨hg.below b1,b1,heap_alloc2_new _ _ _,(heap_alloc_old _ _ (by simp)).trans (heap_alloc_new _ _),hid⟩
 clear hg hid
 obtain ⟨m0,m1,m2,m3,m4,m5,m6,m7⟩:=HB.out.2.2.2.1.cells
 unfold af.cells
 go_enter Tryz.func37,Tryz.ntmps37
 go_wp2_with fail
 generalize (w.alloc (.cells #[.int .i64 p.id,.int .i64 p.next,.slice p.aN p.procs.length p.aW,.slice p.bc p.aj.length p.bF,.slice p.ay p.events.length p.aO,.slice p.ax p.ag.length p.aP,.slice p.am p.ae.length p.aG,.slice p.aK p.ai.length p.aV] 32)).alloc (.cells #[.int .i64 0,.int .i64 0,.slice none 0 0,.slice none 0 0,.slice none 0 0,.slice none 0 0,.slice none 0 0,.slice none 0 0] 32)=W at *
 clear m0 m1 m2 m3 m4 m5 m6 m7
 refine (iO p W HB.out.1).mono ?_
 rintro e w1 ⟨hb1,⟨hno,rfl⟩ | ⟨fm,o,S,rfl,hat,gn⟩⟩
 ·have HZ:Hid (Below w.heap.size w w1∧w1.heap[w.heap.size+1]? =some (.cells #[.int .i64 0,.int .i64 0,.slice none 0 0,.slice none 0 0,.slice none 0 0,.slice none 0 0,.slice none 0 0,.slice none 0 0] 32 (0,0))∧True):=⟨HB.out.2.1.trans (hb1.mono HB.out.2.1.size),(hb1.block _ (Array.getElem?_eq_some_iff.1 HB.out.2.2.1).1).trans HB.out.2.2.1,trivial⟩
  have HN:Hid (cB p.pure { p.pure with events:=cA (·.id) (⟨id,false⟩:aB) p.pure.events } =none):=nm (dL hno)
  clear hb1 hno
  go_wp2_with (refine wpList_store_row rfl 32 (Operand.tmp 4) (Operand.tmp 25) rfl (w.heap.size+1) _ _ #[.int .i64 0,.int .i64 0,.slice none 0 0,.slice none 0 0,.slice none 0 0,.slice none 0 0,.slice none 0 0,.slice none 0 0] rfl rfl HZ.out.2.1 (by kernel_rfl) rfl (by kernel_rfl) ?_)
  refine bodyPost_ret (v:= .tuple #[.agg #[.int .i64 0,.int .i64 0,.slice none 0 0,.slice none 0 0,.slice none 0 0,.slice none 0 0,.slice none 0 0,.slice none 0 0],.bool false]) (bL Tryz.results37 _ _ (w.heap.size+1) _ _ _ _ (by rfl) (setRow_heap _ _ _ _ _ _ HZ.out.2.1) Tryz.underlying32 rfl (by kernel_rfl)) rfl ?_
  exact ca HN.out (below_setRow HZ.out.1 (by omega) _)
 have HZ:Hid (Below w.heap.size w w1∧w1.heap[w.heap.size+1]? =some (.cells #[.int .i64 0,.int .i64 0,.slice none 0 0,.slice none 0 0,.slice none 0 0,.slice none 0 0,.slice none 0 0,.slice none 0 0] 32 (0,0))∧aQ S.pure∧cJ w1 W.heap.size o S∧S.pure=p.pure∧w.heap.size+1 < W.heap.size∧W.heap.size≤w1.heap.size):=⟨HB.out.2.1.trans (hb1.mono HB.out.2.1.size),(hb1.block _ (Array.getElem?_eq_some_iff.1 HB.out.2.2.1).1).trans HB.out.2.2.1,by rw [gn]; exact fm,hat,gn,(Array.getElem?_eq_some_iff.1 HB.out.2.2.1).1,hb1.size⟩
 have c0:w1.cell? ⟨o,6,none⟩=some (.int .i64 5):=hat.opn.cell 6
 have c1:w1.cell? ⟨o,7,none⟩=some (.map (some S.q.be)):=hat.opn.cell 7
 have HM:Hid (bK { p.pure with events:=cA (·.id) (⟨id,false⟩:aB) p.pure.events } =iI 5 (keysOf (fun x:aB=>x.id) S.le) id (ey (⟨id,false⟩:aB))):=by
  have h5:=xE (x:=(⟨id,false⟩:aB)) HZ.out.2.2.1
  rw [gn] at h5
  refine h5.trans ?_
  have h6:p.pure.events=S.le.map (fun p=>(fun y:aB=>y) p.1):=by rw [← gn]; rfl
  rw [h6]
  exact (oP (num:=(fun x:aB=>x.id)) (je:=(·.id)) (fun y:aB=>y) (fun _=>rfl) ey (⟨id,false⟩:aB) 5 S.le).symm
 have hcall:=rC 5 S.q.be (keysOf (fun x:aB=>x.id) S.le) (⟨id,false⟩:aB) w1 hat.events.map HB.out.2.2.2.2 (by have h5:=(iB HZ.out.2.2.1).cD; rw [bZ]; omega) trivial
 have D1:Hid (∀ e w',dD w1 S.q.be (keysOf (fun x:aB=>x.id) S.le) (iI 5 (keysOf (fun x:aB=>x.id) S.le) id (ey (⟨id,false⟩:aB))) id (cG (⟨id,false⟩:aB)) 138 e w'→dD w1 S.q.be (keysOf (fun x:aB=>x.id) S.le) (bK { p.pure with events:=cA (·.id) (⟨id,false⟩:aB) p.pure.events }) id (cG (⟨id,false⟩:aB)) 138 e w'):=fun e w' h5=>by rw [HM.out]; exact h5
 simp only [cG] at hcall
 clear hb1 fm hat gn HM
 go_wp2_with fail
 refine hcall.mono ?_
 clear hcall c0 c1
 intro e w2 hE
 replace hE:=D1.out e w2 hE
 clear D1
 cases hok:bK { p.pure with events:=cA (·.id) (⟨id,false⟩:aB) p.pure.events }
 ·rw [hok] at hE
  obtain ⟨rfl,hb2,-⟩:=hE
  have iP:Hid (Below w.heap.size w w2∧w2.heap[w.heap.size+1]? =some (.cells #[.int .i64 0,.int .i64 0,.slice none 0 0,.slice none 0 0,.slice none 0 0,.slice none 0 0,.slice none 0 0,.slice none 0 0] 32 (0,0))∧True):=⟨HZ.out.1.trans ((hb2 rfl).mono HZ.out.1.size),((hb2 rfl).block _ (Array.getElem?_eq_some_iff.1 HZ.out.2.1).1).trans HZ.out.2.1,trivial⟩
  have HN:Hid (cB p.pure { p.pure with events:=cA (·.id) (⟨id,false⟩:aB) p.pure.events } =none):=ox hok
  clear hok hb2
  go_wp2_with (refine wpList_store_row rfl 32 (Operand.tmp 4) (Operand.tmp 25) rfl (w.heap.size+1) _ _ #[.int .i64 0,.int .i64 0,.slice none 0 0,.slice none 0 0,.slice none 0 0,.slice none 0 0,.slice none 0 0,.slice none 0 0] rfl rfl iP.out.2.1 (by kernel_rfl) rfl (by kernel_rfl) ?_)
  refine bodyPost_ret (v:= .tuple #[.agg #[.int .i64 0,.int .i64 0,.slice none 0 0,.slice none 0 0,.slice none 0 0,.slice none 0 0,.slice none 0 0,.slice none 0 0],.bool false]) (bL Tryz.results37 _ _ (w.heap.size+1) _ _ _ _ (by rfl) (setRow_heap _ _ _ _ _ _ iP.out.2.1) Tryz.underlying32 rfl (by kernel_rfl)) rfl ?_
  exact ca HN.out (below_setRow iP.out.1 (by omega) _)
 rw [hok] at hE
 obtain ⟨g,g8,hb2⟩:=HZ.out.2.2.2.1.FG (x:=(⟨id,false⟩:aB)) HZ.out.2.2.2.2.2.2 hE
 obtain ⟨rfl,-,-⟩:=hE
 have hlt:=HZ.out.2.2.2.2.2.1
 have HN:Hid (cB p.pure { p.pure with events:=cA (·.id) (⟨id,false⟩:aB) p.pure.events } =some { p.pure with events:=cA (·.id) (⟨id,false⟩:aB) p.pure.events }):=mZ (by rw [← HZ.out.2.2.2.2.1]; exact fP HZ.out.2.2.1) hok
 have H2:Hid (cJ w2 W.heap.size o ({ S with le:=fc (fun x:aB=>x.id) ((⟨id,false⟩:aB),g) S.le } :aZ)∧Below w.heap.size w w2∧w2.heap[w.heap.size+1]? =some (.cells #[.int .i64 0,.int .i64 0,.slice none 0 0,.slice none 0 0,.slice none 0 0,.slice none 0 0,.slice none 0 0,.slice none 0 0] 32 (0,0))∧W.heap.size≤w2.heap.size):=⟨g8,HZ.out.1.trans (hb2.mono (by omega)),(hb2.block _ hlt).trans HZ.out.2.1,by have:=hb2.size; have:=HZ.out.2.2.2.2.2.2; omega⟩
 have HF:Hid (({ S with le:=fc (fun x:aB=>x.id) ((⟨id,false⟩:aB),g) S.le } :aZ).pure= { p.pure with events:=cA (·.id) (⟨id,false⟩:aB) p.pure.events } ∧({ S with le:=fc (fun x:aB=>x.id) ((⟨id,false⟩:aB),g) S.le } :aZ).Fits):=by
  have h5:=xE (x:=(⟨id,false⟩:aB)) HZ.out.2.2.1
  rw [HZ.out.2.2.2.2.1,hok] at h5
  have e1:({ S with le:=fc (fun x:aB=>x.id) ((⟨id,false⟩:aB),g) S.le } :aZ).pure= { p.pure with events:=cA (·.id) (⟨id,false⟩:aB) p.pure.events } :=by
   have h6:p.pure.events=S.le.map (fun p=>(fun y:aB=>y) p.1):=by rw [← HZ.out.2.2.2.2.1]; rfl
   have h7:(fc (fun x:aB=>x.id) ((⟨id,false⟩:aB),g) S.le).map (fun p=>(fun y:aB=>y) p.1)=cA (·.id) (⟨id,false⟩:aB) p.pure.events:=by
    rw [m9 (num:=(fun x:aB=>x.id)) (je:=(·.id)) (fun y:aB=>y) (fun _=>rfl),← h6]
    exact (rf _ _ (uq h5.symm)).symm
   rw [← HZ.out.2.2.2.2.1] at h7 ⊢
   unfold aZ.pure at h7 ⊢
   simp only at h7 ⊢
   rw [← h7]
  exact ⟨e1,iB (by rw [e1]; exact (ch _).1 hok)⟩
 clear g8 hb2 hok
 go_wp2_with fail
 refine (jR o W.heap.size _ w2 H2.out.1 HF.out.2).mono ?_
 rintro e w3 ⟨r,rfl,Bn,wu,hb3⟩
 have H3:Hid (ap w3 W.heap.size r∧Below w.heap.size w w3∧w3.heap[w.heap.size+1]? =some (.cells #[.int .i64 0,.int .i64 0,.slice none 0 0,.slice none 0 0,.slice none 0 0,.slice none 0 0,.slice none 0 0,.slice none 0 0] 32 (0,0))∧r.pure= { p.pure with events:=cA (·.id) (⟨id,false⟩:aB) p.pure.events }):=⟨Bn,H2.out.2.1.trans (hb3.mono H2.out.2.1.size),(hb3.block _ (Array.getElem?_eq_some_iff.1 H2.out.2.2.1).1).trans H2.out.2.2.1,wu.trans HF.out.1⟩
 clear Bn wu hb3
 go_wp2_with (refine wpList_store_row rfl 32 (Operand.tmp 4) (Operand.tmp 27) rfl (w.heap.size+1) _ _ (af.cells r) rfl rfl H3.out.2.2.1 (by kernel_rfl) rfl (by kernel_rfl) ?_)
 refine bodyPost_ret (v:= .tuple #[.agg (af.cells r),.bool true]) (bL Tryz.results37 _ _ (w.heap.size+1) _ _ _ _ (by rfl) (setRow_heap _ _ _ _ _ _ H3.out.2.2.1) Tryz.underlying32 rfl (by kernel_rfl)) rfl ?_
 rw [HN.out]
 exact ⟨r,rfl,(H3.out.1.lower (by omega)).same fun b hb=>setRow_other _ _ _ _ (by have:=(H3.out.1.lt b hb).1; omega),H3.out.2.2.2,below_setRow H3.out.2.1 (by omega) _⟩
end Go.Proofs.YtkbcplnlehdjfaaGreat
