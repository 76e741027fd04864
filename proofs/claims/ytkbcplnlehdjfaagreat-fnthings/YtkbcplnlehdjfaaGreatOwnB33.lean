/- What the proof leans on, part 33: TkBuf, TkBoard. -/
import Derived.Test.YtkbcplnlehdjfaaGreatOwnB2
import Derived.Test.YtkbcplnlehdjfaaGreatOwnB19
import Derived.Test.YtkbcplnlehdjfaaGreatOwnB24
import Derived.Test.YtkbcplnlehdjfaaGreatOwnB32
import Derived.Laws.Rows
import Derived.Deep.Cut
import Derived.Deep.LoopGhost
set_option maxRecDepth 100000
set_option maxHeartbeats 8000000

namespace Go.Proofs.YtkbcplnlehdjfaaGreat
open Go.RowKit Go.Maps
attribute [local go_sem ↓] Go.wp_at_zero Go.wp_at_succ
theorem uJ {p:aE} {y:ci} (h:aQ p) (hy:y∈p.ae):y.max≤5:=by
 have h1:=(cK h.ae y hy).2
 unfold ct at h1
 simp only [Bool.and_eq_true] at h1
 exact (bz.1 h1.1).2
theorem CD (q:af) (n base:Nat) (x:ao) (now:Int) (o:dN) (w:World) (h:ap w base q) (hb:base≤w.heap.size) (hr:aQ q.pure) (hx:q.procs[n]? =some x) (hs:x.state=1) (hn:q.next≤999999990) (eu:0≤now∧now≤1000000000) (ho:kc o=true) (hk:o.1=8):
  Calls Tryz.prog 235 #[.agg q.cells,.int .i64 n,.agg (j9 o),.int .i64 now] w (jH w base q (lc o now x.id q.pure)):=by
 obtain ⟨-,f1,f2,f3,f4⟩:=dv ho
 have hM:=bz.1 f2
 obtain ⟨k,N,M,s⟩:=o
 simp only at hk hM f1 f3 f4
 subst hk
 have HR:Hid (aQ q.pure∧q.procs[n]? =some x∧x.state=1∧q.next≤999999990∧(0≤now∧now≤1000000000)∧(-1≤M∧M≤1000)):=⟨hr,hx,hs,hn,eu,hM⟩
 have HF:Hid (q.procs.length≤6∧q.aj.length≤5∧q.events.length≤5∧q.ag.length≤5∧q.ae.length≤5∧q.ai.length≤5):=dW hr
 clear f2 hr hx hs hn eu hM ho
 have S:=aA (FO.start (o:=(8,N,M,s)) h hb)
 clear h hb
 go_enter Tryz.func235,Tryz.ntmps235
 go_upto_region 1 with fail
 generalize ((w.alloc (.cells q.cells 32)).alloc (.cells (j9 (8,N,M,s)) 134)).alloc (.cells ar 32)=A at *
 obtain ⟨-,o1,-,-⟩:=S.out.op.cells
 simp only at o1
 have hpf:=ef (num:=fun x:au=>x.id) N q.ae 0
 have hcall:=lr q N A (by have:=HF.out; omega) S.out.fr.own.at
 generalize place (q.ae.map (fun x=>x.id)) N 0=z at *
 go_wp2_with (refine eT 4 w.heap.size q.cells S.out.fr.box ?_)
 refine hcall.mono ?_
 clear hcall
 rintro e A2 ⟨rfl,hb2⟩
 replace S:=aA (S.out.reads hb2)
 clear hb2 o1
 have hfm:=lJ (num:=fun x:ci=>x.id) (je:=fun x:au=>x.id) (g:=fun x:au=>x.toci) (fun _=>rfl) (id:=N) q.ae
 rcases hpf with ⟨hz,hf⟩ | ⟨m,y,hz,hm,hid,hf⟩
 ·subst hz
  rw [hf] at hfm
  have HE:Hid (lc (8,N,M,s) now x.id q.pure=bu 3 x.id q.pure):=by show lc (8,N,M,s) now x.id q.pure=_; unfold lc; rw [show cg (fun x:ci=>x.id) N q.pure.ae=none from hfm]
  clear hf hfm
  have hcall:=bB (n:=n) 3 S.out.fr.own S.out.low HR.out.1 HR.out.2.1 (by rw [HR.out.2.2.1]; decide)
  go_wp2_with (refine eT 4 w.heap.size q.cells S.out.fr.box ?_)
  refine hcall.mono ?_
  clear hcall
  rintro e A2 ⟨q2,rfl,hp,ht⟩
  replace S:=aA (S.out.call ht)
  have HP:Hid (q2.pure=_):=hp
  clear hp ht
  go_wp2_with (refine ec 8 21 (w.heap.size+2) q2.cells S.out.an ?_)
  refine gZ Tryz.results235 (w.heap.size+2) q2.cells S.out.an ?_
  exact ⟨q2,rfl,HP.out.trans HE.out.symm,S.out.done _⟩
 rw [hf] at hfm
 rw [Nat.zero_add] at hz
 subst hz
 have dz:decide ((m:Int) < 0)=false:=decide_eq_false (by omega)
 have HM:Hid (q.ae[m]? =some y∧y.id=N∧cg (fun x:ci=>x.id) N q.pure.ae=some y.toci):=⟨hm,hid,hfm⟩
 have hml:=(List.getElem?_eq_some_iff.1 hm).1
 have j0:(0:Int)≤(m:Int):=by omega
 have j1:(m:Int) < (q.ae.length:Int):=by omega
 clear hm hid hf hfm hml
 obtain ⟨ga,iE,hat⟩:=iA S.out.fr.own.at.2.2.2.2.1 HM.out.1
 have m6:=S.out.fr.box.cells.2.2.2.2.2.2.1
 rw [iE] at m6
 have d0:=hat.1
 have d1:=hat.2.1
 have d2:=hat.2.2
 have HG:Hid (q.am=some ⟨ga,0,none⟩):=iE
 clear hat iE
 have h5:=(Below.refl A2.heap.size A2).alloc (Nat.le_refl _) (.cells #[.int .i64 y.id,.int .i64 y.max,.slice y.ak y.items.length y.aq] 144)
 have BX:Hid ((A2.alloc (.cells #[.int .i64 y.id,.int .i64 y.max,.slice y.ak y.items.length y.aq] 144)).heap[A2.heap.size]? =some (.cells #[.int .i64 y.id,.int .i64 y.max,.slice y.ak y.items.length y.aq] 144 (0,0))∧w.heap.size+3≤A2.heap.size):=⟨heap_alloc_new _ _,S.out.fr.sz.2.1⟩
 replace S:=aA (S.out.reads h5)
 clear h5
 go_upto_region 5 with fail
 generalize A2.alloc (.cells #[.int .i64 y.id,.int .i64 y.max,.slice y.ak y.items.length y.aq] 144)=B at *
 generalize A2.heap.size=X at *
 clear m6 d0 d1 d2 dz
 obtain ⟨o0,o1,-,-⟩:=S.out.op.cells
 simp only at o0 o1
 have hcall:=ij q 6 N B (by have:=HF.out; omega) S.out.fr.own.at
 go_wp2_with (refine eT 4 w.heap.size q.cells S.out.fr.box ?_)
 refine hcall.mono ?_
 clear hcall o0 o1
 rintro e A3 ⟨⟨z,rfl,gV⟩,hb2⟩
 replace BX:=aA (And.intro ((hb2.block X (Array.getElem?_eq_some_iff.1 BX.out.1).1).trans BX.out.1) BX.out.2)
 replace S:=aA (S.out.reads hb2)
 clear hb2
 have IB:Hid (bw s=true):=f3
 clear f1 f3 f4
 rcases pp gV with ⟨hz,hw⟩ | ⟨i,v,hz,hi,hw⟩
 ·have HW:Hid (jl 6 N q.pure.procs=none):=hw
  have dz:decide (z≥0)=false:=decide_eq_false (by omega)
  clear gV hz hw
  have HU:Hid (lc (8,N,M,s) now x.id q.pure=if (y.items.length:Int)=y.max then mX 5 (8,N,M,s) now x.id q.pure else bu 0 x.id (cV N (y.items ++ [s]) q.pure)):=by show lc (8,N,M,s) now x.id q.pure=_; unfold lc; rw [show cg (fun x:ci=>x.id) N q.pure.ae=some y.toci from HM.out.2.2]; dsimp only; rw [HW.out]
  have x1:A3.cell? ⟨X,1,none⟩=some (.int .i64 y.max):=by simp [World.cell?,BX.out.1]
  have x2:A3.cell? ⟨X,2,none⟩=some (.slice y.ak y.items.length y.aq):=by simp [World.cell?,BX.out.1]
  by_cases hfl:(y.items.length:Int)=y.max
  ·have HE:Hid (lc (8,N,M,s) now x.id q.pure=mX 5 (8,N,M,s) now x.id q.pure):=HU.out.trans (if_pos hfl)
   have e1:((y.items.length:Int) == y.max)=true:=by simp [hfl]
   clear hfl
   have hcall:=oR q n base x 5 now (8,N,M,s) A3 S.out.fr.own S.out.low HR.out.1 HR.out.2.1 (by rw [HR.out.2.2.1]; decide) (by have:=HR.out.2.2.2.1; omega) HR.out.2.2.2.2.1 HR.out.2.2.2.2.2
   go_wp2_with (first | (refine eT 4 w.heap.size q.cells S.out.fr.box ?_) | (refine wpList_load_row rfl 134 (.tmp 6) rfl (w.heap.size+1) (by rfl) 134 (j9 (8,N,M,s)) (0,0) _ S.out.op Tryz.underlying134 rfl (by kernel_rfl) ?_))
   refine hcall.mono ?_
   clear hcall
   rintro e A2 ⟨q2,rfl,hp,ht⟩
   replace S:=aA (S.out.call ht)
   have HP:Hid (q2.pure=_):=hp
   clear hp ht
   go_wp2_with (refine ec 8 71 (w.heap.size+2) q2.cells S.out.an ?_)
   refine gZ Tryz.results235 (w.heap.size+2) q2.cells S.out.an ?_
   exact ⟨q2,rfl,HP.out.trans HE.out.symm,S.out.done _⟩
  have HE:Hid (lc (8,N,M,s) now x.id q.pure=bu 0 x.id (cV N (y.items ++ [s]) q.pure)):=HU.out.trans (if_neg hfl)
  have e1:((y.items.length:Int) == y.max)=false:=by simp [hfl]
  have HN:Hid (¬ (y.items.length:Int)=y.max):=hfl
  clear hfl HU
  go_upto_region 7 with fail
  clear e1 dz x1 x2
  replace S:=aA (S.out.reads (Below.refl _ _).drew)
  replace BX:Hid (A3.drew.heap[X]? =some (.cells #[.int .i64 y.id,.int .i64 y.max,.slice y.ak y.items.length y.aq] 144 (0,0))∧w.heap.size+3≤X):=BX.out
  refine wp_region_held_drew (S:=fun w'=>av w' w.heap.size q∧oo w' (w.heap.size+1) (8,N,M,s)∧w'.heap[X]? =some (.cells #[.int .i64 y.id,.int .i64 y.max,.slice y.ak y.items.length y.aq] 144 (0,0))) (by kernel_rfl) ⟨S.out.fr.box,S.out.op,BX.out.1⟩ (fun hHeld=> ?_)
  generalize A3.drew=V2 at *
  refine tk 0 (v:= ?_) ?_ hHeld ?_; rotate_left; (intro w0 hS0; have q0:=hS0.1.cells.2.2.2.2.2.2.1; rw [HG.out] at q0; have q3:=hS0.2.1.cells.2.2.2; have q4:w0.cell? ⟨X,2,none⟩=some (.slice y.ak y.items.length y.aq):=(by simp [World.cell?,hS0.2.2]); try simp only at q3; go_simp; try with_reducible rfl); simp only [pt,sb,s0,s1]
  refine tk 1 (v:= ?_) ?_ hHeld ?_; rotate_left; (intro w0 hS0; have q0:=hS0.1.cells.2.2.2.2.2.2.1; rw [HG.out] at q0; have q3:=hS0.2.1.cells.2.2.2; have q4:w0.cell? ⟨X,2,none⟩=some (.slice y.ak y.items.length y.aq):=(by simp [World.cell?,hS0.2.2]); try simp only at q3; go_simp; try with_reducible rfl); simp only [pt,sb,s0,s1]
  refine tk 2 (v:= ?_) ?_ hHeld ?_; rotate_left; (intro w0 hS0; have q0:=hS0.1.cells.2.2.2.2.2.2.1; rw [HG.out] at q0; have q3:=hS0.2.1.cells.2.2.2; have q4:w0.cell? ⟨X,2,none⟩=some (.slice y.ak y.items.length y.aq):=(by simp [World.cell?,hS0.2.2]); try simp only at q3; go_simp; try with_reducible rfl); simp only [pt,sb,s0,s1]
  refine tk 4 (v:= ?_) ?_ hHeld ?_; rotate_left; (intro w0 hS0; have q0:=hS0.1.cells.2.2.2.2.2.2.1; rw [HG.out] at q0; have q3:=hS0.2.1.cells.2.2.2; have q4:w0.cell? ⟨X,2,none⟩=some (.slice y.ak y.items.length y.aq):=(by simp [World.cell?,hS0.2.2]); try simp only at q3; go_simp; try with_reducible rfl); simp only [pt,sb,s0,s1]
  refine tk 5 (v:= ?_) ?_ hHeld ?_; rotate_left; (intro w0 hS0; have q0:=hS0.1.cells.2.2.2.2.2.2.1; rw [HG.out] at q0; have q3:=hS0.2.1.cells.2.2.2; have q4:w0.cell? ⟨X,2,none⟩=some (.slice y.ak y.items.length y.aq):=(by simp [World.cell?,hS0.2.2]); try simp only at q3; go_simp; try with_reducible rfl); simp only [pt,sb,s0,s1]
  refine tk 7 (v:= ?_) ?_ hHeld ?_; rotate_left; (intro w0 hS0; have q0:=hS0.1.cells.2.2.2.2.2.2.1; rw [HG.out] at q0; have q3:=hS0.2.1.cells.2.2.2; have q4:w0.cell? ⟨X,2,none⟩=some (.slice y.ak y.items.length y.aq):=(by simp [World.cell?,hS0.2.2]); try simp only at q3; go_simp; try with_reducible rfl); simp only [pt,sb,s0,s1]
  refine tk 8 (v:= ?_) ?_ hHeld ?_; rotate_left; (intro w0 hS0; have q0:=hS0.1.cells.2.2.2.2.2.2.1; rw [HG.out] at q0; have q3:=hS0.2.1.cells.2.2.2; have q4:w0.cell? ⟨X,2,none⟩=some (.slice y.ak y.items.length y.aq):=(by simp [World.cell?,hS0.2.2]); try simp only at q3; go_simp; try with_reducible rfl); simp only [pt,sb,s0,s1]
  clear hHeld
  have hbz:w.heap.size+3≤V2.heap.size:=S.out.fr.sz.2.1
  have lW:=(Array.getElem?_eq_some_iff.1 BX.out.1).1
  have hS: ∀ W,Below V2.heap.size V2 W→av W w.heap.size q∧oo W (w.heap.size+1) (8,N,M,s)∧W.heap[X]? =some (.cells #[.int .i64 y.id,.int .i64 y.max,.slice y.ak y.items.length y.aq] 144 (0,0)):=fun W hb=>⟨S.out.fr.box.below hb,(hb.block _ (by omega)).trans S.out.op,(hb.block _ lW).trans BX.out.1⟩
  have hil:y.items.length≤5:=by have h5:=(ji (o:=(8,N,M,s)) HR.out.1 HM.out.2.2).2.2.1; have h6:=uJ HR.out.1 (List.mem_map.2 ⟨y,List.mem_of_getElem? HM.out.1,rfl⟩); have h7:y.toci.items=y.items:=rfl; have h8:y.toci.max=y.max:=rfl; omega
  have wg:Hid (∀ (W:World) (g:Nat),Below V2.heap.size V2 W→W.heap[g]? =some (.cells #[] 9 (0,0))→V2.heap.size≤g→ ∃ a5 c5 w5,(Builtin.append_ #[59,59] 59 #[.slice (some ⟨g,0,none⟩) 0 0,.slice y.ak y.items.length y.aq]).run Tryz.prog W= .ok (.slice a5 y.items.length c5) w5∧w5.ownsRow V2.heap.size 9 1 (.slice a5 y.items.length c5) y.items.length (bT.flat y.items)∧Below V2.heap.size V2 w5∧ ∀ h,V2.heap.size≤h→h≠g→h < W.heap.size→w5.heap[h]? =W.heap[h]?):=fun W g hb hg hge=>by
   obtain ⟨a5,c5,w5,hap,oe,A7,-⟩:=tO W V2.heap.size g hg hge y.ak y.items y.aq (lj (S.out.fr.own.below hb).at.2.2.2.2.1 HM.out.1) (by omega) hb.size
   exact ⟨a5,c5,w5,hap,oe,hb.grown A7 hb.size fun c e=>by cases e; exact hge,fun h _ hn hl=>A7.block h hl (fun e=>hn (by cases e; rfl))⟩
  have bA: ∀ (W:World) (c:Obj),Below V2.heap.size V2 W→Below V2.heap.size V2 (W.alloc c):=fun W c hb=>hb.alloc hb.size _
  refine wpAnyH_ready (rs:= [3,9]) (by kernel_rfl) (by simp) ?_
  refine AllReadyH.cons rfl (fun K hK=> ?_) (AllReadyH.cons rfl (fun K hK=> ?_) AllReadyH.nil)
  focus
   have b1:Below V2.heap.size V2 (V2.alloc (.cells #[] 9)):=bA _ _ (Below.refl _ _)
   simp only [List.getElem_toArray,List.getElem_cons_zero,List.getElem_cons_succ]
   rw [if_pos (by rfl)]
   go_wp2_with fail
   refine hK.out _ _ (hS _ b1) (fun hHeld=> ?_)
   clear hK K hHeld
   try simp only [pt,sb,s0,s1]
   have b7:Below V2.heap.size V2 ((V2.alloc (.cells #[] 9)).alloc (.cells #[.string s] 9)):=bA _ _ b1
   refine wpAnyH_ready (rs:= [6,9]) (by kernel_rfl) (by simp) ?_
   refine AllReadyH.cons rfl (fun K hK=> ?_) (AllReadyH.cons rfl (fun K hK=> ?_) AllReadyH.nil)
   focus
    clear b7
    obtain ⟨a5,c5,w5,hap,oe,iJ,-⟩:=wg.out _ _ b1 (heap_alloc_new _ _) (Nat.le_refl _)
    simp only [List.getElem_toArray,List.getElem_cons_zero,List.getElem_cons_succ]
    rw [if_pos (by rfl)]
    refine cM _ _ _ rfl _ _ _ w5 rfl rfl hap ?_
    refine hK.out _ _ (hS _ iJ) (fun hHeld=> ?_)
    clear hK K hHeld
    try simp only [pt,sb,s0,s1]
    refine wpAnyH_ready (rs:= [9]) (by kernel_rfl) (by simp) ?_
    refine AllReadyH.cons rfl (fun K hK=> ?_) AllReadyH.nil
    simp only [List.getElem_toArray,List.getElem_cons_zero,List.getElem_cons_succ]
    rw [if_pos (by rfl)]
    go_wp2_with fail
    refine hK.out _ _ (hS _ (bA _ _ iJ)) (fun hHeld=> ?_)
    clear hK K hHeld
    try simp only [pt,sb,s0,s1]
    have qJ:Hid ((w5.alloc (.cells #[.string s] 9)).ownsRow V2.heap.size 9 1 (.slice a5 y.items.length c5) y.items.length (bT.flat y.items)∧(w5.alloc (.cells #[.string s] 9)).heap[w5.heap.size]? =some (.cells #[.string s] 9 (0,0))∧Below V2.heap.size V2 (w5.alloc (.cells #[.string s] 9))):=⟨cR oe ((Below.refl _ _).alloc (Nat.le_refl _) _),heap_alloc_new _ _,bA _ _ iJ⟩
    clear hap oe iJ b1 bA hS
    generalize w5.alloc (.cells #[.string s] 9)=w6 at *
    generalize w5.heap.size=gx at *
   rotate_left
   focus
    obtain ⟨a5,c5,w6,om,qH,jQ,zU⟩:=wg.out _ _ b7 ((heap_alloc_old _ _ (by simp)).trans (heap_alloc_new _ _)) (Nat.le_refl _)
    simp only [List.getElem_toArray,List.getElem_cons_zero,List.getElem_cons_succ]
    rw [if_pos (by rfl)]
    go_wp2_with fail
    refine hK.out _ _ (hS _ b7) (fun hHeld=> ?_)
    clear hK K hHeld
    try simp only [pt,sb,s0,s1]
    refine wpAnyH_ready (rs:= [6]) (by kernel_rfl) (by simp) ?_
    refine AllReadyH.cons rfl (fun K hK=> ?_) AllReadyH.nil
    simp only [List.getElem_toArray,List.getElem_cons_zero,List.getElem_cons_succ]
    rw [if_pos (by rfl)]
    refine cM _ _ _ rfl _ _ _ w6 rfl rfl om ?_
    refine hK.out _ _ (hS _ jQ) (fun hHeld=> ?_)
    clear hK K hHeld
    try simp only [pt,sb,s0,s1]
    have qJ:Hid (w6.ownsRow V2.heap.size 9 1 (.slice a5 y.items.length c5) y.items.length (bT.flat y.items)∧w6.heap[(V2.heap.size+1)]? =some (.cells #[.string s] 9 (0,0))∧Below V2.heap.size V2 w6):=⟨qH,(zU _ (by omega) (by omega) (by simp <;> omega)).trans (by have h5:=heap_alloc_new (V2.alloc (.cells #[] 9)) (.cells #[.string s] 9); simpa using h5),jQ⟩
    clear om qH jQ zU b1 b7 bA hS
  rotate_left 2
  focus
   have b7:Below V2.heap.size V2 (V2.alloc (.cells #[.string s] 9)):=bA _ _ (Below.refl _ _)
   simp only [List.getElem_toArray,List.getElem_cons_zero,List.getElem_cons_succ]
   rw [if_pos (by rfl)]
   go_wp2_with fail
   refine hK.out _ _ (hS _ b7) (fun hHeld=> ?_)
   clear hK K hHeld
   try simp only [pt,sb,s0,s1]
   have b1:Below V2.heap.size V2 ((V2.alloc (.cells #[.string s] 9)).alloc (.cells #[] 9)):=bA _ _ b7
   refine wpAnyH_ready (rs:= [3]) (by kernel_rfl) (by simp) ?_
   refine AllReadyH.cons rfl (fun K hK=> ?_) AllReadyH.nil
   simp only [List.getElem_toArray,List.getElem_cons_zero,List.getElem_cons_succ]
   rw [if_pos (by rfl)]
   go_wp2_with fail
   refine hK.out _ _ (hS _ b1) (fun hHeld=> ?_)
   clear hK K hHeld
   try simp only [pt,sb,s0,s1]
   obtain ⟨a5,c5,w6,om,qH,jQ,zU⟩:=wg.out ((V2.alloc (.cells #[.string s] 9)).alloc (.cells #[] 9)) (V2.heap.size+1) b1 (heap_alloc2_new _ _ _) (by omega)
   refine wpAnyH_ready (rs:= [6]) (by kernel_rfl) (by simp) ?_
   refine AllReadyH.cons rfl (fun K hK=> ?_) AllReadyH.nil
   simp only [List.getElem_toArray,List.getElem_cons_zero,List.getElem_cons_succ]
   rw [if_pos (by rfl)]
   refine cM _ _ _ rfl _ _ _ w6 rfl rfl om ?_
   refine hK.out _ _ (hS _ jQ) (fun hHeld=> ?_)
   clear hK K hHeld
   try simp only [pt,sb,s0,s1]
   have qJ:Hid (w6.ownsRow V2.heap.size 9 1 (.slice a5 y.items.length c5) y.items.length (bT.flat y.items)∧w6.heap[V2.heap.size]? =some (.cells #[.string s] 9 (0,0))∧Below V2.heap.size V2 w6):=⟨qH,(zU _ (by omega) (by omega) (by simp <;> omega)).trans ((heap_alloc_old _ _ (by simp)).trans (heap_alloc_new _ _)),jQ⟩
   clear om qH jQ zU b1 b7 bA hS
  all_goals
   obtain ⟨a7,c7,w7,gT,mP,xI,-⟩:=ou w6 V2.heap.size a5 c5 y.items qJ.out.1 _ [s] 1 (jO qJ.out.2.1) (by simp only [List.length_cons,List.length_nil]; omega) qJ.out.2.2.size
   have mI:(y.items ++ [s]).length=y.items.length+1:=by rw [List.length_append]; rfl
   simp only [List.length_cons,List.length_nil,Nat.zero_add] at gT mP
   have gh:Below V2.heap.size V2 w7:=qJ.out.2.2.grown xI qJ.out.2.2.size fun c e=>(cf qJ.out.1 (di e)).1
   rw [← mI] at gT mP
   obtain ⟨s1,⟨u,c⟩,f⟩:=mB (n:=m) S.out.fr.own (aI.dI gh) HM.out.1 HG.out (cq mP S.out.low) (fun g hg=> .inr (cf mP hg).1)
   rw [mI] at gT s1
   refine wpAnyH_ready (rs:= [10]) (by kernel_rfl) (by simp) ?_
   refine AllReadyH.cons rfl (fun K hK=> ?_) AllReadyH.nil
   simp only [List.getElem_toArray,List.getElem_cons_zero,List.getElem_cons_succ]
   rw [if_pos (by rfl)]
   refine cM _ _ _ rfl _ _ _ w7 rfl rfl gT ?_
   refine hK.out _ _ ⟨S.out.fr.box.below gh,(gh.block _ (by omega)).trans S.out.op,(gh.block _ lW).trans BX.out.1⟩ (fun hHeld=> ?_)
   clear hK K hHeld
   try simp only [pt,sb]
   have wj:av w7 w.heap.size q∧oo w7 (w.heap.size+1) (8,N,M,s)∧w7.heap[X]? =some (.cells #[.int .i64 y.id,.int .i64 y.max,.slice y.ak y.items.length y.aq] 144 (0,0)):=⟨S.out.fr.box.below gh,(gh.block _ (by omega)).trans S.out.op,(gh.block _ lW).trans BX.out.1⟩
   replace S:=aA (S.out.call s1)
   clear gT mP xI gh qJ wg s1
   refine tk 11 (v:= ?_) ?_ wj ?_; rotate_left; (intro w0 hS0; have q0:=hS0.1.cells.2.2.2.2.2.2.1; rw [HG.out] at q0; have q3:=hS0.2.1.cells.2.2.2; have q4:w0.cell? ⟨X,2,none⟩=some (.slice y.ak y.items.length y.aq):=(by simp [World.cell?,hS0.2.2]); try simp only at q3; go_simp; try with_reducible rfl); simp only [pt,sb,s0,s1]
   refine tk 12 (v:= ?_) ?_ wj ?_; rotate_left; (intro w0 hS0; have q0:=hS0.1.cells.2.2.2.2.2.2.1; rw [HG.out] at q0; have q3:=hS0.2.1.cells.2.2.2; have q4:w0.cell? ⟨X,2,none⟩=some (.slice y.ak y.items.length y.aq):=(by simp [World.cell?,hS0.2.2]); try simp only at q3; go_simp; try with_reducible rfl); simp only [pt,sb,s0,s1]
   refine wpAnyH_ready (rs:= [13]) (by kernel_rfl) (by simp) ?_
   refine AllReadyH.cons rfl (fun K hK=> ?_) AllReadyH.nil
   have uQ:(w7.setCell ⟨ga,m * 3+2,none⟩ (.slice a7 (y.items.length+1) c7)).heap[X]? =some (.cells #[.int .i64 y.id,.int .i64 y.max,.slice y.ak y.items.length y.aq] 144 (0,0)):=(aH (fun e=> ?_)).trans wj.2.2
   rotate_left
   ·have h5:=(S.out.fr.lo ga (gD (.inr <| .inr <| .inr <| .inr <| .inl <| (by rw [HG.out]; simp [blk])))).2; have:=BX.out.2; omega
   simp only [List.getElem_toArray,List.getElem_cons_zero,List.getElem_cons_succ]
   rw [if_pos (by rfl)]
   go_wp2_with fail
   refine hK.out _ _ ⟨S.out.fr.box,S.out.op,uQ⟩ (fun hHeld=> ?_)
   clear hK K hHeld
   refine wpAnyH_done (by kernel_rfl) ?_ _
   clear c f u wj uQ lW hbz
   go_upto_region 13 with fail
   generalize w7.setCell ⟨ga,m * 3+2,none⟩ (.slice a7 (y.items.length+1) c7)=C at *
   have CK:Hid (∃ q1:af,q1= { q with ae:=q.ae.set m { y with items:=(y.items ++ [s]),ak:=a7,aq:=c7 } } ∧q1.pure=cV N (y.items ++ [s]) q.pure∧q1.cells=q.cells∧aQ q1.pure∧q1.procs[n]? =some x):=by
    have hq:({ q with ae:=q.ae.set m { y with items:=(y.items ++ [s]),ak:=a7,aq:=c7 } } :af).pure=cV N (y.items ++ [s]) q.pure:=oN HR.out.1.ae HM.out.1 HM.out.2.1
    have hr2:aQ (cV N (y.items ++ [s]) q.pure):=by
     refine gN HR.out.1 (fun z hz hk=> ?_) (fun t0 ht=> ?_)
     ·have:=HN.out; have h5:=(ji (o:=(8,N,M,s)) HR.out.1 HM.out.2.2).2.2.1; have h7:y.toci.items=y.items:=rfl; have h8:y.toci.max=y.max:=rfl; rw [only HR.out.1.ae HM.out.2.2 hz hk,mI]; rw [h7] at h5; push_cast; omega
     ·exact (List.mem_append.1 ht).elim (fun ht=>(ji (o:=(8,N,M,s)) HR.out.1 HM.out.2.2).2.2.2 t0 ht) (fun ht=>by simp only [List.mem_cons,List.not_mem_nil,or_false] at ht; rw [ht]; exact IB.out)
    exact ⟨_,rfl,hq,by unfold af.cells; simp,by rw [hq]; exact hr2,HR.out.2.1⟩
   obtain ⟨q1,hq1,hq⟩:=CK.out
   rw [← hq1] at S
   have HQ:=aA hq
   clear hq1 hq CK
   have hcall:=bB (n:=n) 0 S.out.fr.own S.out.low HQ.out.2.2.1 HQ.out.2.2.2 (by rw [HR.out.2.2.1]; decide)
   rw [HQ.out.1,HQ.out.2.1] at hcall
   go_wp2_with (refine eT 4 w.heap.size q.cells S.out.fr.box ?_)
   refine hcall.mono ?_
   clear hcall
   rintro e A2 ⟨q2,rfl,hp,ht⟩
   replace S:=aA (S.out.call ht)
   have HP:Hid (q2.pure=_):=hp
   clear hp ht
   go_wp2_with (refine ec 8 74 (w.heap.size+2) q2.cells S.out.an ?_)
   refine gZ Tryz.results235 (w.heap.size+2) q2.cells S.out.an ?_
   exact ⟨q2,rfl,HP.out.trans HE.out.symm,S.out.done _⟩
 have HW:Hid (jl 6 N q.pure.procs=some v.toaD∧q.procs[i]? =some v∧v.state=6):=⟨hw,hi,(ft hw).2.1⟩
 subst hz
 have dz:decide ((i:Int)≥0)=true:=decide_eq_true (by omega)
 clear gV hw hi BX
 have HE:Hid (lc (8,N,M,s) now x.id q.pure=bu 0 x.id (gF (lG s) q.pure v.toaD)):=by show lc (8,N,M,s) now x.id q.pure=_; unfold lc; rw [show cg (fun x:ci=>x.id) N q.pure.ae=some y.toci from HM.out.2.2]; dsimp only; rw [HW.out.1]
 obtain ⟨-,-,-,o3⟩:=S.out.op.cells
 simp only at o3
 obtain ⟨gp,l9,-⟩:=cn S.out.fr.own.at.1 HW.out.2.1
 have m2:=S.out.fr.box.cells.2.2.1
 have k1:(i:Int) < (q.procs.length:Int):=by have:=(List.getElem?_eq_some_iff.1 HW.out.2.1).1; omega
 have k0:(0:Int)≤(i:Int):=by omega
 rw [l9] at m2
 obtain ⟨s1,⟨u,c⟩,f⟩:=eY (n:=i) (j:=9) (v:= .string s) (y:= { v with got:=s }) S.out.fr.own HW.out.2.1 l9 ⟨rfl,rfl,rfl⟩ (by decide) rfl
 replace S:=aA (S.out.call s1)
 clear s1 l9
 go_upto_region 10 with fail
 generalize A3.setCell ⟨gp,i * 12+9,none⟩ (.string s)=E at *
 clear m2 c f u k0 k1 dz o3
 obtain ⟨qg,hqg,g1,g2,g3,g4⟩:=kg HR.out.1 HW.out.2.1 IB.out
 rw [← hqg] at S
 have hcall:=lP (n:=i) S.out.fr.own S.out.low g3 g4 (by show ¬ v.state=0; rw [HW.out.2.2]; decide) (by rw [hqg]; have:=HR.out.2.2.2.1; show q.next≤_; omega)
 rw [g1,g2,show ({ v with got:=s } :ao).toaD=lG s v.toaD from rfl,Bz] at hcall
 clear hqg g1 g2 g3 g4
 go_wp2_with (refine eT 4 w.heap.size q.cells S.out.fr.box ?_)
 refine hcall.mono ?_
 clear hcall
 rintro e E2 ⟨q2,rfl,hp,ht⟩
 replace S:=aA (S.out.call ht)
 obtain ⟨hr2,x2,hx2,sw⟩:=qp HR.out.1 HR.out.2.1 HR.out.2.2.1 HW.out.2.1 (by rw [HW.out.2.2]; decide) (by rw [HW.out.2.2]; decide) (.inr ⟨_,IB.out,rfl⟩) (by have:=HR.out.2.2.2.1; omega) hp
 have S2:=aA S.out.put
 go_upto_region 13 with (refine ec 4 59 (w.heap.size) q2.cells S.out.fr.box ?_)
 generalize E2.setRow w.heap.size q2.cells=E3 at *
 clear S
 have S:=S2
 clear S2
 have hcall:=bB (n:=n) 0 S.out.fr.own S.out.low hr2 hx2 (by rw [show x2.state=x.state from congrArg aD.state sw,HR.out.2.2.1]; decide)
 rw [show x2.id=x.id from congrArg aD.id sw,hp,← HE.out] at hcall
 clear hp ht hr2 hx2 sw
 go_wp2_with (refine eT 4 w.heap.size q2.cells S.out.fr.box ?_)
 refine hcall.mono ?_
 clear hcall
 rintro e E32 ⟨q3,rfl,hp,ht⟩
 replace S:=aA (S.out.call ht)
 have HP:Hid (q3.pure=_):=hp
 clear hp ht
 go_wp2_with (refine ec 8 74 (w.heap.size+2) q3.cells S.out.an ?_)
 refine gZ Tryz.results235 (w.heap.size+2) q3.cells S.out.an ?_
 exact ⟨q3,rfl,HP.out,S.out.done _⟩
theorem Cl (q:af) (n base:Nat) (x:ao) (now:Int) (o:dN) (w:World) (h:ap w base q) (hb:base≤w.heap.size) (hr:aQ q.pure) (hx:q.procs[n]? =some x) (hs:x.state=1) (hn:q.next≤999999990) (eu:0≤now∧now≤1000000000) (ho:kc o=true) (hk:o.1=12):
  Calls Tryz.prog 236 #[.agg q.cells,.int .i64 n,.agg (j9 o),.int .i64 now] w (jH w base q (dC o now x.id q.pure)):=by
 obtain ⟨-,f1,f2,f3,f4⟩:=dv ho
 have hM:=bz.1 f2
 obtain ⟨k,N,M,s⟩:=o
 simp only at hk hM f1 f3 f4
 subst hk
 have HR:Hid (aQ q.pure∧q.procs[n]? =some x∧x.state=1∧q.next≤999999990∧(0≤now∧now≤1000000000)∧(-1≤M∧M≤1000)):=⟨hr,hx,hs,hn,eu,hM⟩
 have HF:Hid (q.procs.length≤6∧q.aj.length≤5∧q.events.length≤5∧q.ag.length≤5∧q.ae.length≤5∧q.ai.length≤5):=dW hr
 clear f2 hr hx hs hn eu hM ho
 have S:=aA (FO.start (o:=(12,N,M,s)) h hb)
 clear h hb
 go_enter Tryz.func236,Tryz.ntmps236
 go_upto_region 1 with fail
 generalize ((w.alloc (.cells q.cells 32)).alloc (.cells (j9 (12,N,M,s)) 134)).alloc (.cells ar 32)=A at *
 obtain ⟨-,o1,-,-⟩:=S.out.op.cells
 simp only at o1
 have hpf:=ef (num:=fun x:az=>x.id) N q.ag 0
 have hcall:=mg q N A (by have:=HF.out; omega) S.out.fr.own.at
 generalize place (q.ag.map (fun x=>x.id)) N 0=z at *
 go_wp2_with (refine eT 4 w.heap.size q.cells S.out.fr.box ?_)
 refine hcall.mono ?_
 clear hcall
 rintro e A2 ⟨rfl,hb2⟩
 replace S:=aA (S.out.reads hb2)
 clear hb2 o1
 rcases hpf with ⟨hz,hf⟩ | ⟨m,y,hz,hm,hid,hf⟩
 ·subst hz
  have HE:Hid (dC (12,N,M,s) now x.id q.pure=bu 3 x.id q.pure):=by show dC (12,N,M,s) now x.id q.pure=_; unfold dC; rw [show cg (fun x:az=>x.id) N q.pure.ag=none from hf]
  clear hf
  have hcall:=bB (n:=n) 3 S.out.fr.own S.out.low HR.out.1 HR.out.2.1 (by rw [HR.out.2.2.1]; decide)
  go_wp2_with (refine eT 4 w.heap.size q.cells S.out.fr.box ?_)
  refine hcall.mono ?_
  clear hcall
  rintro e A2 ⟨q2,rfl,hp,ht⟩
  replace S:=aA (S.out.call ht)
  have HP:Hid (q2.pure=_):=hp
  clear hp ht
  go_wp2_with (refine ec 8 19 (w.heap.size+2) q2.cells S.out.an ?_)
  refine gZ Tryz.results236 (w.heap.size+2) q2.cells S.out.an ?_
  exact ⟨q2,rfl,HP.out.trans HE.out.symm,S.out.done _⟩
 rw [Nat.zero_add] at hz
 subst hz
 have dz:decide ((m:Int) < 0)=false:=decide_eq_false (by omega)
 have HM:Hid (q.ag[m]? =some y∧y.id=N∧cg (fun x:az=>x.id) N q.pure.ag=some y):=⟨hm,hid,hf⟩
 have hml:=(List.getElem?_eq_some_iff.1 hm).1
 have j0:(0:Int)≤(m:Int):=by omega
 have j1:(m:Int) < (q.ag.length:Int):=by omega
 clear hm hid hf hml
 obtain ⟨o0,-,-,-⟩:=S.out.op.cells
 simp only at o0
 have ht:=(sX (o:=(12,N,M,s)) HR.out.1 HM.out.2.2).2
 have HG1:=aA (kg HR.out.1 HR.out.2.1 ht)
 clear ht
 go_upto_region 17 with fail
 clear dz o0
 replace S:=aA (S.out.reads (Below.refl _ _).drew)
 refine eD (fun w1=>w1=A2.drew) 11 (by kernel_rfl) rfl ?_
 generalize A2.drew=B at *
 obtain ⟨ga,iE,hat⟩:=jr S.out.fr.own.at.2.2.2.1 HM.out.1
 have m5:=S.out.fr.box.cells.2.2.2.2.2.1
 rw [iE] at m5
 have d1:=hat.2.1
 have d2:=hat.2.2
 have HG:Hid (q.ax=some ⟨ga,0,none⟩):=iE
 clear hat iE
 obtain ⟨gp,l9,-⟩:=cn S.out.fr.own.at.1 HR.out.2.1
 have m2:=S.out.fr.box.cells.2.2.1
 have k1:(n:Int) < (q.procs.length:Int):=by have:=(List.getElem?_eq_some_iff.1 HR.out.2.1).1; omega
 have k0:(0:Int)≤(n:Int):=by omega
 rw [l9] at m2
 obtain ⟨s1,⟨u,c⟩,f⟩:=eY (n:=n) (j:=9) (v:= .string y.text) (y:= { x with got:=y.text }) S.out.fr.own HR.out.2.1 l9 ⟨rfl,rfl,rfl⟩ (by decide) rfl
 replace S:=aA (S.out.call s1)
 clear s1 l9
 iterate 11 (refine ly 12 (v:= ?_) (some _) rfl rfl (by kernel_rfl) (fun _ _ _ h=>h) (bV (by kernel_rfl) ?_) ?_; rotate_left; (intro w0 hS0; subst hS0; go_simp; try with_reducible rfl); simp only [pt,sb,s0,s1])
 refine fL rfl (by kernel_rfl) (by kernel_rfl) (by kernel_rfl) ?_
 intro w1 cm
 rw [cm]
 clear cm w1
 go_simp
 generalize B.setCell ⟨gp,n * 12+9,none⟩ (.string y.text)=C at *
 clear m2 m5 d1 d2 c f u k0 k1
 obtain ⟨q1,hq1,hq⟩:=HG1.out
 have HB:Hid (q1.ag[m]? =some y∧q1.next=q.next∧q1.ax=q.ax):=by rw [hq1]; exact ⟨HM.out.1,rfl,rfl⟩
 rw [← hq1] at S
 have HQ:=aA hq
 clear hq1 hq HG1
 obtain ⟨ga2,iE,hat⟩:=jr S.out.fr.own.at.2.2.2.1 HB.out.1
 rw [HB.out.2.2,HG.out] at iE
 cases iE
 have d1:=hat.2.1
 clear hat
 have m5:=S.out.fr.box.cells.2.2.2.2.2.1
 rw [HG.out] at m5
 cases hu:y.shown
 ·rw [hu] at d1
  have HE:Hid (dC (12,N,M,s) now x.id q.pure=mX 7 (12,N,M,s) now x.id (ez y.text x.id q.pure)):=by show dC (12,N,M,s) now x.id q.pure=_; unfold dC; rw [show cg (fun x:az=>x.id) N q.pure.ag=some y from HM.out.2.2]; simp [hu]
  clear hu
  have hcall:=oR q1 n base { x with got:=y.text } 7 now (12,N,M,s) C S.out.fr.own S.out.low HQ.out.2.2.1 HQ.out.2.2.2 (by show ¬ x.state=0; rw [HR.out.2.2.1]; decide) (by have:=HR.out.2.2.2.1; rw [HB.out.2.1]; omega) HR.out.2.2.2.2.1 HR.out.2.2.2.2.2
  rw [HQ.out.1,HQ.out.2.1] at hcall
  go_wp2_with (first | (refine eT 4 w.heap.size q.cells S.out.fr.box ?_) | (refine wpList_load_row rfl 134 (.tmp 6) rfl (w.heap.size+1) (by rfl) 134 (j9 (12,N,M,s)) (0,0) _ S.out.op Tryz.underlying134 rfl (by kernel_rfl) ?_))
  refine hcall.mono ?_
  clear hcall
  rintro e A2 ⟨q2,rfl,hp,ht⟩
  replace S:=aA (S.out.call ht)
  have HP:Hid (q2.pure=_):=hp
  clear hp ht
  go_wp2_with (refine ec 8 92 (w.heap.size+2) q2.cells S.out.an ?_)
  refine gZ Tryz.results236 (w.heap.size+2) q2.cells S.out.an ?_
  exact ⟨q2,rfl,HP.out.trans HE.out.symm,S.out.done _⟩
 ·rw [hu] at d1
  have HE:Hid (dC (12,N,M,s) now x.id q.pure=bu 0 x.id (ez y.text x.id q.pure)):=by show dC (12,N,M,s) now x.id q.pure=_; unfold dC; rw [show cg (fun x:az=>x.id) N q.pure.ag=some y from HM.out.2.2]; simp [hu]
  clear hu
  have hcall:=bB (n:=n) 0 S.out.fr.own S.out.low HQ.out.2.2.1 HQ.out.2.2.2 (by show ¬ x.state=0; rw [HR.out.2.2.1]; decide)
  rw [HQ.out.1,HQ.out.2.1] at hcall
  go_wp2_with (refine eT 4 w.heap.size q.cells S.out.fr.box ?_)
  refine hcall.mono ?_
  clear hcall
  rintro e A2 ⟨q2,rfl,hp,ht⟩
  replace S:=aA (S.out.call ht)
  have HP:Hid (q2.pure=_):=hp
  clear hp ht
  go_wp2_with (refine ec 8 95 (w.heap.size+2) q2.cells S.out.an ?_)
  refine gZ Tryz.results236 (w.heap.size+2) q2.cells S.out.an ?_
  exact ⟨q2,rfl,HP.out.trans HE.out.symm,S.out.done _⟩
theorem AS (q:af) (n base:Nat) (x:ao) (now:Int) (o:dN) (w:World) (h:ap w base q) (hb:base≤w.heap.size) (hr:aQ q.pure) (hx:q.procs[n]? =some x) (hs:x.state=1) (hn:q.next≤999999990) (eu:0≤now∧now≤1000000000) (ho:kc o=true) (hk:o.1=11):
  Calls Tryz.prog 236 #[.agg q.cells,.int .i64 n,.agg (j9 o),.int .i64 now] w (jH w base q (dC o now x.id q.pure)):=by
 obtain ⟨-,f1,f2,f3,f4⟩:=dv ho
 have hM:=bz.1 f2
 obtain ⟨k,N,M,s⟩:=o
 simp only at hk hM f1 f3 f4
 subst hk
 have HR:Hid (aQ q.pure∧q.procs[n]? =some x∧x.state=1∧q.next≤999999990∧(0≤now∧now≤1000000000)∧(-1≤M∧M≤1000)):=⟨hr,hx,hs,hn,eu,hM⟩
 have HF:Hid (q.procs.length≤6∧q.aj.length≤5∧q.events.length≤5∧q.ag.length≤5∧q.ae.length≤5∧q.ai.length≤5):=dW hr
 clear f2 hr hx hs hn eu hM ho
 have S:=aA (FO.start (o:=(11,N,M,s)) h hb)
 clear h hb
 go_enter Tryz.func236,Tryz.ntmps236
 go_upto_region 1 with fail
 generalize ((w.alloc (.cells q.cells 32)).alloc (.cells (j9 (11,N,M,s)) 134)).alloc (.cells ar 32)=A at *
 obtain ⟨-,o1,-,-⟩:=S.out.op.cells
 simp only at o1
 have hpf:=ef (num:=fun x:az=>x.id) N q.ag 0
 have hcall:=mg q N A (by have:=HF.out; omega) S.out.fr.own.at
 generalize place (q.ag.map (fun x=>x.id)) N 0=z at *
 go_wp2_with (refine eT 4 w.heap.size q.cells S.out.fr.box ?_)
 refine hcall.mono ?_
 clear hcall
 rintro e A2 ⟨rfl,hb2⟩
 replace S:=aA (S.out.reads hb2)
 clear hb2 o1
 rcases hpf with ⟨hz,hf⟩ | ⟨m,y,hz,hm,hid,hf⟩
 ·subst hz
  have HE:Hid (dC (11,N,M,s) now x.id q.pure=bu 3 x.id q.pure):=by show dC (11,N,M,s) now x.id q.pure=_; unfold dC; rw [show cg (fun x:az=>x.id) N q.pure.ag=none from hf]
  clear hf
  have hcall:=bB (n:=n) 3 S.out.fr.own S.out.low HR.out.1 HR.out.2.1 (by rw [HR.out.2.2.1]; decide)
  go_wp2_with (refine eT 4 w.heap.size q.cells S.out.fr.box ?_)
  refine hcall.mono ?_
  clear hcall
  rintro e A2 ⟨q2,rfl,hp,ht⟩
  replace S:=aA (S.out.call ht)
  have HP:Hid (q2.pure=_):=hp
  clear hp ht
  go_wp2_with (refine ec 8 19 (w.heap.size+2) q2.cells S.out.an ?_)
  refine gZ Tryz.results236 (w.heap.size+2) q2.cells S.out.an ?_
  exact ⟨q2,rfl,HP.out.trans HE.out.symm,S.out.done _⟩
 rw [Nat.zero_add] at hz
 subst hz
 have dz:decide ((m:Int) < 0)=false:=decide_eq_false (by omega)
 have HM:Hid (q.ag[m]? =some y∧y.id=N∧cg (fun x:az=>x.id) N q.pure.ag=some y):=⟨hm,hid,hf⟩
 have hml:=(List.getElem?_eq_some_iff.1 hm).1
 have j0:(0:Int)≤(m:Int):=by omega
 have j1:(m:Int) < (q.ag.length:Int):=by omega
 clear hm hid hf hml
 obtain ⟨o0,-,-,-⟩:=S.out.op.cells
 simp only at o0
 have HE:Hid (dC (11,N,M,s) now x.id q.pure=bu 0 x.id (ib N false rM q.pure)):=by show dC (11,N,M,s) now x.id q.pure=_; unfold dC; rw [show cg (fun x:az=>x.id) N q.pure.ag=some y from HM.out.2.2]; rfl
 obtain ⟨ga,iE,hat⟩:=jr S.out.fr.own.at.2.2.2.1 HM.out.1
 have m5:=S.out.fr.box.cells.2.2.2.2.2.1
 rw [iE] at m5
 have HG:Hid (q.ax=some ⟨ga,0,none⟩):=iE
 clear hat iE
 obtain ⟨s1,⟨u,c⟩,f⟩:=ll (n:=m) (j:=1) (v:= .bool false) (y:= { y with shown:=false }) S.out.fr.own HM.out.1 HG.out (by decide) rfl
 replace S:=aA (S.out.call s1)
 clear s1
 go_upto_region 15 with fail
 generalize A2.setCell ⟨ga,m * 3+1,none⟩ (.bool false)=C at *
 clear m5 c f u
 have m5:=S.out.fr.box.cells.2.2.2.2.2.1
 rw [HG.out] at m5
 obtain ⟨s1,⟨u,c⟩,f⟩:=ll (n:=m) (j:=2) (v:= .string ⟨#[]⟩) (x:= { y with shown:=false }) (y:= { y with shown:=false,text:=rM }) S.out.fr.own (by show (q.ag.set m _)[m]? =_; rw [List.getElem?_set_self (List.getElem?_eq_some_iff.1 HM.out.1).1]) HG.out (by decide) rfl
 replace S:=aA (S.out.call s1)
 clear s1
 simp only [List.set_set] at S
 go_upto_region 20 with fail
 generalize C.setCell ⟨ga,m * 3+2,none⟩ (.string ⟨#[]⟩)=D at *
 clear m5 c f u dz j0 j1
 have CK:Hid (∃ q1:af,q1= { q with ag:=q.ag.set m { y with shown:=false,text:=rM } } ∧q1.pure=ib N false rM q.pure∧q1.cells=q.cells∧aQ q1.pure∧q1.procs[n]? =some x∧q1.next=q.next):=by
  have hq:({ q with ag:=q.ag.set m { y with shown:=false,text:=rM } } :af).pure=ib N false rM q.pure:=by show ({ q.pure with ag:=q.ag.set m { y with shown:=false,text:=rM } } :aE)=_; unfold ib; rw [jF (num:=fun x:az=>x.id) (db HR.out.1.ag).2 HM.out.1 HM.out.2.1]; rfl
  exact ⟨_,rfl,hq,by unfold af.cells; simp,by rw [hq]; exact kA HR.out.1 jX (.inr oB),HR.out.2.1,rfl⟩
 obtain ⟨q1,hq1,hq⟩:=CK.out
 rw [← hq1] at S
 have HQ:=aA hq
 clear hq1 hq CK
 have hcall:=bB (n:=n) 0 S.out.fr.own S.out.low HQ.out.2.2.1 HQ.out.2.2.2.1 (by rw [HR.out.2.2.1]; decide)
 rw [HQ.out.1,HQ.out.2.1] at hcall
 go_wp2_with (refine eT 4 w.heap.size q.cells S.out.fr.box ?_)
 refine hcall.mono ?_
 clear hcall
 rintro e A2 ⟨q2,rfl,hp,ht⟩
 replace S:=aA (S.out.call ht)
 have HP:Hid (q2.pure=_):=hp
 clear hp ht
 go_wp2_with (refine ec 8 95 (w.heap.size+2) q2.cells S.out.an ?_)
 refine gZ Tryz.results236 (w.heap.size+2) q2.cells S.out.an ?_
 exact ⟨q2,rfl,HP.out.trans HE.out.symm,S.out.done _⟩
theorem CA (q:af) (n base:Nat) (x:ao) (now:Int) (o:dN) (w:World) (h:ap w base q) (hb:base≤w.heap.size) (hr:aQ q.pure) (hx:q.procs[n]? =some x) (hs:x.state=1) (hn:q.next≤999999990) (eu:0≤now∧now≤1000000000) (ho:kc o=true) (hk:o.1=10):
  Calls Tryz.prog 236 #[.agg q.cells,.int .i64 n,.agg (j9 o),.int .i64 now] w (jH w base q (dC o now x.id q.pure)):=by
 obtain ⟨-,f1,f2,f3,f4⟩:=dv ho
 have hM:=bz.1 f2
 obtain ⟨k,N,M,s⟩:=o
 simp only at hk hM f1 f3 f4
 subst hk
 have HR:Hid (aQ q.pure∧q.procs[n]? =some x∧x.state=1∧q.next≤999999990∧(0≤now∧now≤1000000000)∧(-1≤M∧M≤1000)):=⟨hr,hx,hs,hn,eu,hM⟩
 have HF:Hid (q.procs.length≤6∧q.aj.length≤5∧q.events.length≤5∧q.ag.length≤5∧q.ae.length≤5∧q.ai.length≤5):=dW hr
 clear f2 hr hx hs hn eu hM ho
 have S:=aA (FO.start (o:=(10,N,M,s)) h hb)
 clear h hb
 go_enter Tryz.func236,Tryz.ntmps236
 go_upto_region 1 with fail
 generalize ((w.alloc (.cells q.cells 32)).alloc (.cells (j9 (10,N,M,s)) 134)).alloc (.cells ar 32)=A at *
 obtain ⟨-,o1,-,-⟩:=S.out.op.cells
 simp only at o1
 have hpf:=ef (num:=fun x:az=>x.id) N q.ag 0
 have hcall:=mg q N A (by have:=HF.out; omega) S.out.fr.own.at
 generalize place (q.ag.map (fun x=>x.id)) N 0=z at *
 go_wp2_with (refine eT 4 w.heap.size q.cells S.out.fr.box ?_)
 refine hcall.mono ?_
 clear hcall
 rintro e A2 ⟨rfl,hb2⟩
 replace S:=aA (S.out.reads hb2)
 clear hb2 o1
 rcases hpf with ⟨hz,hf⟩ | ⟨m,y,hz,hm,hid,hf⟩
 ·subst hz
  have HE:Hid (dC (10,N,M,s) now x.id q.pure=bu 3 x.id q.pure):=by show dC (10,N,M,s) now x.id q.pure=_; unfold dC; rw [show cg (fun x:az=>x.id) N q.pure.ag=none from hf]
  clear hf
  have hcall:=bB (n:=n) 3 S.out.fr.own S.out.low HR.out.1 HR.out.2.1 (by rw [HR.out.2.2.1]; decide)
  go_wp2_with (refine eT 4 w.heap.size q.cells S.out.fr.box ?_)
  refine hcall.mono ?_
  clear hcall
  rintro e A2 ⟨q2,rfl,hp,ht⟩
  replace S:=aA (S.out.call ht)
  have HP:Hid (q2.pure=_):=hp
  clear hp ht
  go_wp2_with (refine ec 8 19 (w.heap.size+2) q2.cells S.out.an ?_)
  refine gZ Tryz.results236 (w.heap.size+2) q2.cells S.out.an ?_
  exact ⟨q2,rfl,HP.out.trans HE.out.symm,S.out.done _⟩
 rw [Nat.zero_add] at hz
 subst hz
 have dz:decide ((m:Int) < 0)=false:=decide_eq_false (by omega)
 have HM:Hid (q.ag[m]? =some y∧y.id=N∧cg (fun x:az=>x.id) N q.pure.ag=some y):=⟨hm,hid,hf⟩
 have hml:=(List.getElem?_eq_some_iff.1 hm).1
 have j0:(0:Int)≤(m:Int):=by omega
 have j1:(m:Int) < (q.ag.length:Int):=by omega
 clear hm hid hf hml
 obtain ⟨o0,-,-,-⟩:=S.out.op.cells
 simp only at o0
 have HE:Hid (dC (10,N,M,s) now x.id q.pure=bu 0 x.id (ff (lG s) 7 N (ib N true s q.pure))):=by show dC (10,N,M,s) now x.id q.pure=_; unfold dC; rw [show cg (fun x:az=>x.id) N q.pure.ag=some y from HM.out.2.2]; rfl
 obtain ⟨ga,iE,hat⟩:=jr S.out.fr.own.at.2.2.2.1 HM.out.1
 have m5:=S.out.fr.box.cells.2.2.2.2.2.1
 rw [iE] at m5
 have HG:Hid (q.ax=some ⟨ga,0,none⟩):=iE
 clear hat iE
 obtain ⟨s1,⟨u,c⟩,f⟩:=ll (n:=m) (j:=1) (v:= .bool true) (y:= { y with shown:=true }) S.out.fr.own HM.out.1 HG.out (by decide) rfl
 replace S:=aA (S.out.call s1)
 clear s1
 go_upto_region 7 with fail
 generalize A2.setCell ⟨ga,m * 3+1,none⟩ (.bool true)=C at *
 clear m5 c f u
 obtain ⟨-,-,-,o3⟩:=S.out.op.cells
 simp only at o3
 have m5:=S.out.fr.box.cells.2.2.2.2.2.1
 rw [HG.out] at m5
 obtain ⟨s1,⟨u,c⟩,f⟩:=ll (n:=m) (j:=2) (v:= .string s) (x:= { y with shown:=true }) (y:= { y with shown:=true,text:=s }) S.out.fr.own (by show (q.ag.set m _)[m]? =_; rw [List.getElem?_set_self (List.getElem?_eq_some_iff.1 HM.out.1).1]) HG.out (by decide) rfl
 replace S:=aA (S.out.call s1)
 clear s1
 simp only [List.set_set] at S
 go_upto_region 8 with fail
 generalize C.setCell ⟨ga,m * 3+2,none⟩ (.string s)=D at *
 clear m5 c f u dz j0 j1 o3
 have CK:Hid (∃ q1:af,q1= { q with ag:=q.ag.set m { y with shown:=true,text:=s } } ∧q1.pure=ib N true s q.pure∧q1.cells=q.cells∧aQ q1.pure∧q1.procs[n]? =some x∧q1.next=q.next):=by
  have hq:({ q with ag:=q.ag.set m { y with shown:=true,text:=s } } :af).pure=ib N true s q.pure:=by show ({ q.pure with ag:=q.ag.set m { y with shown:=true,text:=s } } :aE)=_; unfold ib; rw [jF (num:=fun x:az=>x.id) (db HR.out.1.ag).2 HM.out.1 HM.out.2.1]; rfl
  exact ⟨_,rfl,hq,by unfold af.cells; simp,by rw [hq]; exact kA HR.out.1 f3 (.inl rfl),HR.out.2.1,rfl⟩
 obtain ⟨q1,hq1,hq⟩:=CK.out
 rw [← hq1] at S
 have HQ:=aA hq
 clear hq1 hq CK
 have hcall:=ij q1 7 N D (by have:=(dW HQ.out.2.2.1).1; omega) S.out.fr.own.at
 rw [HQ.out.2.1] at hcall
 obtain ⟨-,o1,-,-⟩:=S.out.op.cells
 simp only at o1
 go_wp2_with (refine eT 4 w.heap.size q.cells S.out.fr.box ?_)
 refine hcall.mono ?_
 clear hcall o1
 rintro e D2 ⟨⟨z,rfl,gV⟩,hb2⟩
 replace S:=aA (S.out.reads hb2)
 clear hb2
 have SB:=aA (S.out.sync HQ.out.2.1)
 have IB:Hid (bw s=true):=f3
 have HI:=aA (If.start (f:=lG s) (n:=n) (x:=x.toaD) HQ.out.2.2.1 (mj HQ.out.2.2.2.1) (by have:=HR.out.2.2.2.1; rw [HQ.out.2.2.2.2]; exact this) gV)
 rw [HQ.out.1] at HI
 clear gV S f1 f3 f4
 go_wp2_with fail
 go_loopg [10] ((ib N true s q.pure).procs.filter (ie 7 N)).length (fun k b wr=> ∃ (qk:af) (z:Int),b= .int .i64 z∧Hid (If (lG s) 7 N (ff (lG s) 7 N (ib N true s q.pure)) n x.toaD k qk z∧FO w base q qk qk (10,N,M,s) wr))
 case atStart=>exact ⟨q1,z,rfl,HI.out,SB.out⟩
 case round=>
  obtain ⟨qk,z,rfl,HK⟩:=hrel
  have S:=aA HK.out.2
  rcases pp HK.out.1.best with ⟨hz,hw⟩ | ⟨i,v,hz,hi,hw⟩
  ·have dz:decide (z≥0)=false:=decide_eq_false (by omega)
   obtain ⟨x2,hx2,sw⟩:=tQ HK.out.1.pos
   have HT:Hid (bu 0 x2.id qk.pure=dC (10,N,M,s) now x.id q.pure):=by show bu 0 x2.id qk.pure=_; rw [HE.out,← HK.out.1.same,qO hw,show x2.id=x.id from congrArg aD.id sw]
   have hcall:=bB (n:=n) 0 S.out.fr.own S.out.low HK.out.1.r hx2 (by rw [show x2.state=x.state from congrArg aD.state sw,HR.out.2.2.1]; decide)
   clear hz hw hx2 sw
   go_wp2_with (refine eT 4 w.heap.size qk.cells S.out.fr.box ?_)
   refine hcall.mono ?_
   clear hcall
   rintro e A2 ⟨q2,rfl,hp,ht⟩
   replace S:=aA (S.out.call ht)
   have HP:Hid (q2.pure=_):=hp
   clear hp ht
   go_wp2_with (refine ec 8 95 (w.heap.size+2) q2.cells S.out.an ?_)
   refine gZ Tryz.results236 (w.heap.size+2) q2.cells S.out.an ?_
   exact ⟨q2,rfl,HP.out.trans HT.out,S.out.done _⟩
  subst hz
  have dz:decide ((i:Int)≥0)=true:=decide_eq_true (by omega)
  have HW:Hid (jl 7 N qk.pure.procs=some v.toaD∧qk.procs[i]? =some v∧v.state=7):=⟨hw,hi,(ft hw).2.1⟩
  clear hw hi
  obtain ⟨-,-,-,o3⟩:=S.out.op.cells
  simp only at o3
  obtain ⟨gp,l9,-⟩:=cn S.out.fr.own.at.1 HW.out.2.1
  have m2:=S.out.fr.box.cells.2.2.1
  have k1:(i:Int) < (qk.procs.length:Int):=by have:=(List.getElem?_eq_some_iff.1 HW.out.2.1).1; omega
  have k0:(0:Int)≤(i:Int):=by omega
  rw [l9] at m2
  obtain ⟨s1,⟨u,c⟩,f⟩:=eY (n:=i) (j:=9) (v:= .string s) (y:= { v with got:=s }) S.out.fr.own HW.out.2.1 l9 ⟨rfl,rfl,rfl⟩ (by decide) rfl
  replace S:=aA (S.out.call s1)
  clear s1 l9
  go_upto_region 12 with fail
  generalize wr.setCell ⟨gp,i * 12+9,none⟩ (.string s)=E at *
  clear m2 c f u k0 k1 dz o3
  obtain ⟨qg,hqg,g1,g2,g3,g4⟩:=kg HK.out.1.r HW.out.2.1 IB.out
  rw [← hqg] at S
  have hcall:=lP (n:=i) S.out.fr.own S.out.low g3 g4 (by show ¬ v.state=0; rw [HW.out.2.2]; decide) (by rw [hqg]; have:=HK.out.1.nx; show qk.next≤_; omega)
  rw [g1,g2,show ({ v with got:=s } :ao).toaD=lG s v.toaD from rfl,Bz] at hcall
  clear hqg g1 g2 g3 g4
  go_wp2_with (refine eT 4 w.heap.size qk.cells S.out.fr.box ?_)
  refine hcall.mono ?_
  clear hcall
  rintro e E2 ⟨q2,rfl,hp,ht⟩
  replace S:=aA (S.out.call ht)
  have HJ:=aA (HK.out.1.step (q2:=q2) HR.out.2.2.1 ⟨by decide,by decide⟩ (.inr ⟨_,IB.out,rfl⟩) HW.out.1 hp)
  clear hp ht
  have S2:=aA S.out.put
  go_upto_region 10 with (refine ec 4 55 (w.heap.size) q2.cells S.out.fr.box ?_)
  generalize E2.setRow w.heap.size q2.cells=E3 at *
  clear S
  have S:=S2
  clear S2
  obtain ⟨-,o1,-,-⟩:=S.out.op.cells
  simp only at o1
  have hcall:=ij q2 7 N E3 (by have:=(dW HJ.out.2.2.1).1; omega) S.out.fr.own.at
  go_wp2_with (refine eT 4 w.heap.size q2.cells S.out.fr.box ?_)
  refine hcall.mono ?_
  clear hcall o1
  rintro e E4 ⟨⟨z2,rfl,gV⟩,hb2⟩
  replace S:=aA (S.out.reads hb2)
  clear hb2
  have HB:=aA (HJ.out.2.2.2 z2 gV)
  clear gV
  go_wp2_with fail
  go_roundg (gk - 1)
  case rel=>exact ⟨q2,z2,rfl,HB.out,S.out⟩
  case measure=>have:=HJ.out.1; omega
end Go.Proofs.YtkbcplnlehdjfaaGreat
