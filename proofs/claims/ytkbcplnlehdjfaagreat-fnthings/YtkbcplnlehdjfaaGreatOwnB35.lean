/- What the proof leans on, part 35: TkTake. -/
import Derived.Test.YtkbcplnlehdjfaaGreatOwnB19
import Derived.Test.YtkbcplnlehdjfaaGreatOwnB33
import Derived.Laws.Rows
import Derived.Deep.Cut
set_option maxRecDepth 100000
set_option maxHeartbeats 8000000

namespace Go.Proofs.YtkbcplnlehdjfaaGreat
open Go.RowKit Go.Maps
attribute [local go_sem ↓] Go.wp_at_zero Go.wp_at_succ
theorem yY (N:Int) (l k:List ByteArray) (p:aE):cV N l (cV N k p)=cV N l p:=by
 unfold cV jP
 simp only [List.map_map]
 congr 1
 refine List.map_congr_left fun z _=> ?_
 simp only [Function.comp_def]
 by_cases h:z.id=N <;> simp [h]
theorem Ig {W:World} {base ga gp:Nat} {q:af} (h:ap W base q) (iE:q.am=some ⟨ga,0,none⟩) (l9:q.aN=some ⟨gp,0,none⟩):ga≠gp:=by
 have h1:=h.nodup
 unfold af.blocks at h1
 obtain ⟨-,-,h3⟩:=List.nodup_append.1 h1
 exact fun e=>h3 gp (by rw [l9]; simp [blk]) ga (by simp only [List.mem_append]; exact .inr (.inr (.inr (.inr (.inl (by rw [iE]; simp [blk])))))) e.symm
theorem C0 (q:af) (n base:Nat) (x:ao) (now:Int) (o:dN) (w:World) (h:ap w base q) (hb:base≤w.heap.size) (hr:aQ q.pure) (hx:q.procs[n]? =some x) (hs:x.state=1) (hn:q.next≤999999990) (eu:0≤now∧now≤1000000000) (ho:kc o=true) (hk:o.1=9):
  Calls Tryz.prog 235 #[.agg q.cells,.int .i64 n,.agg (j9 o),.int .i64 now] w (jH w base q (ka o now x.id q.pure)):=by
 obtain ⟨-,f1,f2,f3,f4⟩:=dv ho
 have hM:=bz.1 f2
 obtain ⟨k,N,M,s⟩:=o
 simp only at hk hM f1 f3 f4
 subst hk
 have HR:Hid (aQ q.pure∧q.procs[n]? =some x∧x.state=1∧q.next≤999999990∧(0≤now∧now≤1000000000)∧(-1≤M∧M≤1000)):=⟨hr,hx,hs,hn,eu,hM⟩
 have HF:Hid (q.procs.length≤6∧q.aj.length≤5∧q.events.length≤5∧q.ag.length≤5∧q.ae.length≤5∧q.ai.length≤5):=dW hr
 clear f2 hr hx hs hn eu hM ho
 have S:=aA (FO.start (o:=(9,N,M,s)) h hb)
 clear h hb
 go_enter Tryz.func235,Tryz.ntmps235
 go_upto_region 1 with fail
 generalize ((w.alloc (.cells q.cells 32)).alloc (.cells (j9 (9,N,M,s)) 134)).alloc (.cells ar 32)=A at *
 obtain ⟨-,o1,-,-⟩:=S.out.op.cells
 simp only at o1
 have hpf:=ef (num:=fun x:au=>x.id) N q.ae 0
 have hcall:=lr q N A (by have:=HF.out; omega) S.out.fr.own.at
 generalize place (q.ae.map (fun x=>x.id)) N 0=z at *
 go_wp2_with (refine eT 4 w.heap.size q.cells S.out.fr.box ?_)
 refine hcall.mono ?_
 clear hcall
 rintro e A2 ⟨rfl,hb2⟩
 replace S:=aA (S.out.reads hb2)
 clear hb2 o1
 have hfm:=lJ (num:=fun x:ci=>x.id) (je:=fun x:au=>x.id) (g:=fun x:au=>x.toci) (fun _=>rfl) (id:=N) q.ae
 rcases hpf with ⟨hz,hf⟩ | ⟨m,y,hz,hm,hid,hf⟩
 ·subst hz
  rw [hf] at hfm
  have HE:Hid (ka (9,N,M,s) now x.id q.pure=bu 3 x.id q.pure):=by show ka (9,N,M,s) now x.id q.pure=_; unfold ka; rw [show cg (fun x:ci=>x.id) N q.pure.ae=none from hfm]
  clear hf hfm
  have hcall:=bB (n:=n) 3 S.out.fr.own S.out.low HR.out.1 HR.out.2.1 (by rw [HR.out.2.2.1]; decide)
  go_wp2_with (refine eT 4 w.heap.size q.cells S.out.fr.box ?_)
  refine hcall.mono ?_
  clear hcall
  rintro e A2 ⟨q2,rfl,hp,ht⟩
  replace S:=aA (S.out.call ht)
  have HP:Hid (q2.pure=_):=hp
  clear hp ht
  go_wp2_with (refine ec 8 21 (w.heap.size+2) q2.cells S.out.an ?_)
  refine gZ Tryz.results235 (w.heap.size+2) q2.cells S.out.an ?_
  exact ⟨q2,rfl,HP.out.trans HE.out.symm,S.out.done _⟩
 rw [hf] at hfm
 rw [Nat.zero_add] at hz
 subst hz
 have dz:decide ((m:Int) < 0)=false:=decide_eq_false (by omega)
 have HM:Hid (q.ae[m]? =some y∧y.id=N∧cg (fun x:ci=>x.id) N q.pure.ae=some y.toci):=⟨hm,hid,hfm⟩
 have hml:=(List.getElem?_eq_some_iff.1 hm).1
 have j0:(0:Int)≤(m:Int):=by omega
 have j1:(m:Int) < (q.ae.length:Int):=by omega
 clear hm hid hf hfm hml
 obtain ⟨ga,iE,hat⟩:=iA S.out.fr.own.at.2.2.2.2.1 HM.out.1
 have m6:=S.out.fr.box.cells.2.2.2.2.2.2.1
 rw [iE] at m6
 have d0:=hat.1
 have d1:=hat.2.1
 have d2:=hat.2.2
 have HG:Hid (q.am=some ⟨ga,0,none⟩):=iE
 clear hat iE
 have h5:=(Below.refl A2.heap.size A2).alloc (Nat.le_refl _) (.cells #[.int .i64 y.id,.int .i64 y.max,.slice y.ak y.items.length y.aq] 144)
 have BX:Hid ((A2.alloc (.cells #[.int .i64 y.id,.int .i64 y.max,.slice y.ak y.items.length y.aq] 144)).heap[A2.heap.size]? =some (.cells #[.int .i64 y.id,.int .i64 y.max,.slice y.ak y.items.length y.aq] 144 (0,0))∧w.heap.size+3≤A2.heap.size):=⟨heap_alloc_new _ _,S.out.fr.sz.2.1⟩
 replace S:=aA (S.out.reads h5)
 clear h5
 go_upto_region 5 with fail
 generalize A2.alloc (.cells #[.int .i64 y.id,.int .i64 y.max,.slice y.ak y.items.length y.aq] 144)=B at *
 generalize A2.heap.size=X at *
 clear m6 d0 d1 d2 dz
 obtain ⟨o0,-,-,-⟩:=S.out.op.cells
 simp only at o0
 have x2:B.cell? ⟨X,2,none⟩=some (.slice y.ak y.items.length y.aq):=by simp [World.cell?,BX.out.1]
 have HF4:=aA (f4 (by decide) (by decide) (by decide))
 clear f1 f3 f4
 cases hit:y.items with
 | nil=>
  rw [hit] at x2
  have HE:Hid (ka (9,N,M,s) now x.id q.pure=mX 6 (9,N,M,s) now x.id (ez rM x.id q.pure)):=by show ka (9,N,M,s) now x.id q.pure=_; unfold ka; rw [show cg (fun x:ci=>x.id) N q.pure.ae=some y.toci from HM.out.2.2]; dsimp only; rw [show y.toci.items= [] from hit]
  clear BX hit
  go_upto_region 15 with fail
  clear x2 o0
  obtain ⟨gp,l9,-⟩:=cn S.out.fr.own.at.1 HR.out.2.1
  have m2:=S.out.fr.box.cells.2.2.1
  have k1:(n:Int) < (q.procs.length:Int):=by have:=(List.getElem?_eq_some_iff.1 HR.out.2.1).1; omega
  have k0:(0:Int)≤(n:Int):=by omega
  rw [l9] at m2
  obtain ⟨s1,⟨u,c⟩,f⟩:=eY (n:=n) (j:=9) (v:= .string ⟨#[]⟩) (y:= { x with got:=rM }) S.out.fr.own HR.out.2.1 l9 ⟨rfl,rfl,rfl⟩ (by decide) rfl
  replace S:=aA (S.out.call s1)
  clear s1 l9
  go_upto_region 16 with fail
  generalize B.setCell ⟨gp,n * 12+9,none⟩ (.string ⟨#[]⟩)=C at *
  clear m2 c f u k0 k1
  obtain ⟨q1,hq1,hq⟩:=kg HR.out.1 HR.out.2.1 jX
  have HB:Hid (q1.next=q.next):=by rw [hq1]; exact rfl
  rw [← hq1] at S
  have HQ:=aA hq
  clear hq1 hq
  have hcall:=oR q1 n base { x with got:=rM } 6 now (9,N,M,s) C S.out.fr.own S.out.low HQ.out.2.2.1 HQ.out.2.2.2 (by show ¬ x.state=0; rw [HR.out.2.2.1]; decide) (by have:=HR.out.2.2.2.1; rw [HB.out]; omega) HR.out.2.2.2.2.1 HR.out.2.2.2.2.2
  rw [HQ.out.1,HQ.out.2.1] at hcall
  go_wp2_with (first | (refine eT 4 w.heap.size q.cells S.out.fr.box ?_) | (refine wpList_load_row rfl 134 (.tmp 6) rfl (w.heap.size+1) (by rfl) 134 (j9 (9,N,M,s)) (0,0) _ S.out.op Tryz.underlying134 rfl (by kernel_rfl) ?_))
  refine hcall.mono ?_
  clear hcall
  rintro e A2 ⟨q2,rfl,hp,ht⟩
  replace S:=aA (S.out.call ht)
  have HP:Hid (q2.pure=_):=hp
  clear hp ht
  go_wp2_with (refine ec 8 88 (w.heap.size+2) q2.cells S.out.an ?_)
  refine gZ Tryz.results235 (w.heap.size+2) q2.cells S.out.an ?_
  exact ⟨q2,rfl,HP.out.trans HE.out.symm,S.out.done _⟩
 | cons t0 r=>
  have tI:Hid (y.items=t0 :: r∧bw t0=true∧(∀ u∈r,bw u=true)∧y.items.length≤5∧(y.items.length:Int)≤y.max):=by
   have h5:=(ji (o:=(9,N,M,s)) HR.out.1 HM.out.2.2).2.2; have h6:=uJ HR.out.1 (List.mem_map.2 ⟨y,List.mem_of_getElem? HM.out.1,rfl⟩)
   have h7:y.toci.items=y.items:=rfl
   have h8:y.toci.max=y.max:=rfl
   rw [h7] at h5
   exact ⟨hit,h5.2 t0 (by rw [hit]; simp),fun u hu=>h5.2 u (by rw [hit]; simp [hu]),by omega,by rw [← h8]; exact h5.1⟩
  have il:(0:Int) < (y.items.length:Int):=by rw [hit]; simp
  have il3:0 < y.items.length:=by rw [hit]; simp
  have il4: ¬ y.items.length=0:=by omega
  have il2:((y.items.length:Int) == 0)=false:=by rw [hit]; simp; omega
  clear hit
  go_upto_region 17 with fail
  clear x2 o0 il2
  replace BX:Hid (B.drew.heap[X]? =some (.cells #[.int .i64 y.id,.int .i64 y.max,.slice y.ak y.items.length y.aq] 144 (0,0))∧w.heap.size+3≤X):=BX.out
  replace S:=aA (S.out.reads (Below.refl _ _).drew)
  refine eD (fun w1=>w1=B.drew) 9 (by kernel_rfl) rfl ?_
  generalize B.drew=C at *
  have HG1:=aA (kg HR.out.1 HR.out.2.1 tI.out.2.1)
  have x2:C.cell? ⟨X,2,none⟩=some (.slice y.ak y.items.length y.aq):=by simp [World.cell?,BX.out.1]
  obtain ⟨gi,hgi,x3⟩:=zl (lj S.out.fr.own.at.2.2.2.2.1 HM.out.1) (show y.items[0]? =some t0 by rw [tI.out.1]; rfl)
  rw [hgi] at x2
  obtain ⟨gp,l9,-⟩:=cn S.out.fr.own.at.1 HR.out.2.1
  have m2:=S.out.fr.box.cells.2.2.1
  have k1:(n:Int) < (q.procs.length:Int):=by have:=(List.getElem?_eq_some_iff.1 HR.out.2.1).1; omega
  have k0:(0:Int)≤(n:Int):=by omega
  rw [l9] at m2
  have ud:Hid (q.aN=some ⟨gp,0,none⟩):=l9
  obtain ⟨s1,⟨u,c⟩,f⟩:=eY (n:=n) (j:=9) (v:= .string t0) (y:= { x with got:=t0 }) S.out.fr.own HR.out.2.1 l9 ⟨rfl,rfl,rfl⟩ (by decide) rfl
  have lW:(C.setCell ⟨gp,n * 12+9,none⟩ (.string t0)).heap[X]? =some (.cells #[.int .i64 y.id,.int .i64 y.max,.slice y.ak y.items.length y.aq] 144 (0,0)):=(aH (fun e=>by have h5:=(S.out.fr.lo gp (gD (.inl (by rw [l9]; simp [blk])))).2; have:=BX.out.2; omega)).trans BX.out.1
  replace S:=aA (S.out.call s1)
  replace BX:=aA (And.intro lW BX.out.2)
  clear s1 l9 hgi lW
  iterate 9 (refine ly 10 (v:= ?_) (some _) rfl rfl (by kernel_rfl) (fun _ _ _ h=>h) (bV (by kernel_rfl) ?_) ?_; rotate_left; (intro w0 hS0; subst hS0; go_simp; try with_reducible rfl); simp only [pt,sb,s0,s1])
  refine fL rfl (by kernel_rfl) (by kernel_rfl) (by kernel_rfl) ?_
  intro w1 cm
  rw [cm]
  clear cm w1
  go_simp
  generalize C.setCell ⟨gp,n * 12+9,none⟩ (.string t0)=D at *
  clear m2 x2 x3 c f u k0 k1 il il3 il4
  obtain ⟨q1,hq1,hq⟩:=HG1.out
  have HB:Hid (q1.ae=q.ae∧q1.next=q.next∧q1.am=q.am∧q1.pure.ae=q.pure.ae∧q1.aN=q.aN):=by rw [hq1]; exact ⟨rfl,rfl,rfl,rfl,rfl⟩
  rw [← hq1] at S
  have HQ:=aA hq
  clear hq1 hq HG1
  go_upto_region 18 with fail
  replace S:=aA (S.out.reads (Below.refl _ _).drew)
  replace BX:Hid (D.drew.heap[X]? =some (.cells #[.int .i64 y.id,.int .i64 y.max,.slice y.ak y.items.length y.aq] 144 (0,0))∧w.heap.size+3≤X):=BX.out
  refine wp_region_held_drew (S:=fun w'=>av w' w.heap.size q∧w'.heap[X]? =some (.cells #[.int .i64 y.id,.int .i64 y.max,.slice y.ak y.items.length y.aq] 144 (0,0))) (by kernel_rfl) ⟨S.out.fr.box,BX.out.1⟩ (fun hHeld=> ?_)
  generalize D.drew=V2 at *
  have il:(1:Int)≤(y.items.length:Int):=by rw [tI.out.1]; simp; omega
  have ic:(y.items.length:Int)≤(y.aq:Int):=by have h5:y.items.length≤y.aq:=nV (S.out.fr.own.eE y (by rw [HB.out.1]; exact List.mem_of_getElem? HM.out.1)); omega
  have ic2:(1:Int)≤(y.aq:Int):=by omega
  obtain ⟨TA,hTA⟩: ∃ TA:Option Addr,(if y.aq=1 then y.ak else Option.map (fun x:Addr=>(⟨x.block,x.off+1,none⟩:Addr)) y.ak)=TA:=⟨_,rfl⟩
  refine tk 0 (v:= ?_) ?_ hHeld ?_; rotate_left; (intro w0 hS0; have q0:=hS0.1.cells.2.2.2.2.2.2.1; rw [HG.out] at q0; have q4:w0.cell? ⟨X,2,none⟩=some (.slice y.ak y.items.length y.aq):=(by simp [World.cell?,hS0.2]); go_simp; try with_reducible rfl); simp only [pt,sb,s0,s1]
  refine tk 1 (v:= ?_) ?_ hHeld ?_; rotate_left; (intro w0 hS0; have q0:=hS0.1.cells.2.2.2.2.2.2.1; rw [HG.out] at q0; have q4:w0.cell? ⟨X,2,none⟩=some (.slice y.ak y.items.length y.aq):=(by simp [World.cell?,hS0.2]); go_simp; try with_reducible rfl); simp only [pt,sb,s0,s1]
  refine tk 2 (v:= ?_) ?_ hHeld ?_; rotate_left; (intro w0 hS0; have q0:=hS0.1.cells.2.2.2.2.2.2.1; rw [HG.out] at q0; have q4:w0.cell? ⟨X,2,none⟩=some (.slice y.ak y.items.length y.aq):=(by simp [World.cell?,hS0.2]); go_simp; try with_reducible rfl); simp only [pt,sb,s0,s1]
  refine tk 4 (v:= ?_) ?_ hHeld ?_; rotate_left; (intro w0 hS0; have q0:=hS0.1.cells.2.2.2.2.2.2.1; rw [HG.out] at q0; have q4:w0.cell? ⟨X,2,none⟩=some (.slice y.ak y.items.length y.aq):=(by simp [World.cell?,hS0.2]); go_simp; try with_reducible rfl); simp only [pt,sb,s0,s1]
  refine tk 5 (v:= ?_) ?_ hHeld ?_; rotate_left; (intro w0 hS0; have q0:=hS0.1.cells.2.2.2.2.2.2.1; rw [HG.out] at q0; have q4:w0.cell? ⟨X,2,none⟩=some (.slice y.ak y.items.length y.aq):=(by simp [World.cell?,hS0.2]); go_simp; try with_reducible rfl); simp only [pt,sb,s0,s1]
  refine tk 6 (v:= ?_) ?_ hHeld ?_; rotate_left; (intro w0 hS0; have q0:=hS0.1.cells.2.2.2.2.2.2.1; rw [HG.out] at q0; have q4:w0.cell? ⟨X,2,none⟩=some (.slice y.ak y.items.length y.aq):=(by simp [World.cell?,hS0.2]); go_simp; try with_reducible rfl); simp only [pt,sb,s0,s1]
  clear hHeld il ic ic2
  have GO:Hid (q1.ae[m]? =some y):=by rw [HB.out.1]; exact HM.out.1
  have lW:=(Array.getElem?_eq_some_iff.1 BX.out.1).1
  have hS: ∀ W,Below V2.heap.size V2 W→av W w.heap.size q∧W.heap[X]? =some (.cells #[.int .i64 y.id,.int .i64 y.max,.slice y.ak y.items.length y.aq] 144 (0,0)):=fun W hb=>⟨S.out.fr.box.below hb,(hb.block _ lW).trans BX.out.1⟩
  have b1:Below V2.heap.size V2 (V2.alloc (.cells #[] 9)):=(Below.refl _ _).alloc (Nat.le_refl _) _
  refine wpAnyH_ready (rs:= [3]) (by kernel_rfl) (by simp) ?_
  refine AllReadyH.cons rfl (fun K hK=> ?_) AllReadyH.nil
  simp only [List.getElem_toArray,List.getElem_cons_zero,List.getElem_cons_succ]
  rw [if_pos (by rfl)]
  go_wp2_with fail
  refine hK.out _ _ (hS _ b1) (fun hHeld=> ?_)
  clear hK K hHeld
  try simp only [pt,sb,s0,s1]
  have hlr:y.items.length - 1=r.length:=by rw [tI.out.1]; rfl
  have pI:y.items.drop 1=r:=by rw [tI.out.1]; rfl
  have hsrc:=vg (c:=y.aq) (nV (S.out.fr.own.eE y (List.mem_of_getElem? GO.out))) (lj (S.out.fr.own.below b1).at.2.2.2.2.1 GO.out)
  rw [hTA] at hsrc
  obtain ⟨a7,c7,w7,hap,mP,xI,-⟩:=ou (V2.alloc (.cells #[] 9)) V2.heap.size (some ⟨V2.heap.size,0,none⟩) 0 [] (i6 (heap_alloc_new _ _) (Nat.le_refl _)) TA (y.items.drop 1) (y.aq - 1) hsrc (by rw [List.length_drop]; have:=tI.out.2.2.2.1; show 0+_≤_; omega) b1.size
  clear hsrc hTA
  have gh:Below V2.heap.size V2 w7:=b1.grown xI b1.size fun c e=>by cases e; exact Nat.le_refl _
  rw [List.length_drop,hlr] at hap mP
  simp only [List.length_nil,Nat.zero_add,List.nil_append,pI] at hap mP
  rw [← hlr] at hap
  obtain ⟨s1,⟨u,c⟩,f⟩:=mB (n:=m) S.out.fr.own (aI.dI gh) GO.out (HB.out.2.2.1.trans HG.out) (cq mP S.out.low) (fun g hg=> .inr (cf mP hg).1)
  rw [← hlr] at s1
  have HLR:Hid (y.items.length - 1=r.length):=hlr
  clear hlr
  refine wpAnyH_ready (rs:= [7]) (by kernel_rfl) (by simp) ?_
  refine AllReadyH.cons rfl (fun K hK=> ?_) AllReadyH.nil
  simp only [List.getElem_toArray,List.getElem_cons_zero,List.getElem_cons_succ]
  rw [if_pos (by rfl)]
  refine cM _ _ _ rfl _ _ _ w7 rfl rfl hap ?_
  refine hK.out _ _ ⟨S.out.fr.box.below gh,(gh.block _ lW).trans BX.out.1⟩ (fun hHeld=> ?_)
  clear hK K hHeld
  try simp only [pt,sb]
  have wj:av w7 w.heap.size q∧w7.heap[X]? =some (.cells #[.int .i64 y.id,.int .i64 y.max,.slice y.ak y.items.length y.aq] 144 (0,0)):=⟨S.out.fr.box.below gh,(gh.block _ lW).trans BX.out.1⟩
  replace S:=aA (S.out.call s1)
  clear hap mP xI gh s1 b1 hS
  refine tk 8 (v:= ?_) ?_ wj ?_; rotate_left; (intro w0 hS0; have q0:=hS0.1.cells.2.2.2.2.2.2.1; rw [HG.out] at q0; have q4:w0.cell? ⟨X,2,none⟩=some (.slice y.ak y.items.length y.aq):=(by simp [World.cell?,hS0.2]); go_simp; try with_reducible rfl); simp only [pt,sb,s0,s1]
  refine tk 9 (v:= ?_) ?_ wj ?_; rotate_left; (intro w0 hS0; have q0:=hS0.1.cells.2.2.2.2.2.2.1; rw [HG.out] at q0; have q4:w0.cell? ⟨X,2,none⟩=some (.slice y.ak y.items.length y.aq):=(by simp [World.cell?,hS0.2]); go_simp; try with_reducible rfl); simp only [pt,sb,s0,s1]
  have uQ:(w7.setCell ⟨ga,m * 3+2,none⟩ (.slice a7 (y.items.length - 1) c7)).heap[X]? =some (.cells #[.int .i64 y.id,.int .i64 y.max,.slice y.ak y.items.length y.aq] 144 (0,0)):=(aH (fun e=>by have h5:=(S.out.fr.lo ga (gD (.inr <| .inr <| .inr <| .inr <| .inl <| by rw [HG.out]; simp [blk]))).2; have:=BX.out.2; omega)).trans wj.2
  refine wpAnyH_ready (rs:= [10]) (by kernel_rfl) (by simp) ?_
  refine AllReadyH.cons rfl (fun K hK=> ?_) AllReadyH.nil
  simp only [List.getElem_toArray,List.getElem_cons_zero,List.getElem_cons_succ]
  rw [if_pos (by rfl)]
  go_wp2_with fail
  refine hK.out _ _ ⟨S.out.fr.box,uQ⟩ (fun hHeld=> ?_)
  clear hK K hHeld
  refine wpAnyH_done (by kernel_rfl) ?_ _
  clear c f u wj lW uQ
  go_upto_region 19 with fail
  generalize w7.setCell ⟨ga,m * 3+2,none⟩ (.slice a7 (y.items.length - 1) c7)=E at *
  obtain ⟨y2,hy2⟩: ∃ y2:au,y2= { y with items:=r,ak:=a7,aq:=c7 } :=⟨_,rfl⟩
  obtain ⟨q2,pv⟩: ∃ q2:af,q2= { q1 with ae:=q1.ae.set m y2 } :=⟨_,rfl⟩
  have ky:Hid (q2.pure=cV N r (ez t0 x.id q.pure)∧q2.cells=q.cells∧aQ q2.pure∧q2.procs[n]? =some { x with got:=t0 } ∧q2.ae[m]? =some y2∧q2.am=some ⟨ga,0,none⟩∧q2.next=q.next∧q2.aN=some ⟨gp,0,none⟩):=by
   have h5:q2.pure=cV N r q1.pure:=by rw [pv,hy2]; exact oN HQ.out.2.2.1.ae GO.out HM.out.2.1
   have h6:aQ (cV N r q1.pure):=gN HQ.out.2.2.1 (fun z hz hk=>by rw [HB.out.2.2.2.1] at hz; rw [only HR.out.1.ae HM.out.2.2 hz hk]; have h7:=tI.out.2.2.2.2; rw [tI.out.1] at h7; have h8:y.toci.max=y.max:=rfl; simp only [List.length_cons] at h7; omega) tI.out.2.2.1
   exact ⟨by rw [h5,HQ.out.1],by rw [pv]; exact Eq.trans (by unfold af.cells; simp) HQ.out.2.1,by rw [h5]; exact h6,by rw [pv]; exact HQ.out.2.2.2,by rw [pv]; show (q1.ae.set m y2)[m]? =_; rw [List.getElem?_set_self (List.getElem?_eq_some_iff.1 GO.out).1],by rw [pv]; exact HB.out.2.2.1.trans HG.out,by rw [pv]; exact HB.out.2.1,by rw [pv]; exact HB.out.2.2.2.2.trans ud.out⟩
  rw [← hy2,← pv] at S
  have HY2:Hid (y2.items=r∧y2.id=N∧y2.max=y.max):=by rw [hy2]; exact ⟨rfl,HM.out.2.1,rfl⟩
  clear pv hy2 HLR pI BX
  have HU:Hid (ka (9,N,M,s) now x.id q.pure=match jl 5 N q2.pure.procs with | none=>bu 0 x.id (cV N r (ez t0 x.id q.pure)) | some v=>bu 0 x.id (gF (fun y=>y) (cV N (r ++ [v.held]) (ez t0 x.id q.pure)) v)):=by show ka (9,N,M,s) now x.id q.pure=_; unfold ka; rw [show cg (fun x:ci=>x.id) N q.pure.ae=some y.toci from HM.out.2.2]; dsimp only; rw [show y.toci.items=t0 :: r from tI.out.1]; dsimp only; rw [show q2.pure.procs=(ez t0 x.id q.pure).procs by rw [ky.out.1]; rfl]; split <;> rename_i h5 <;> rw [h5]
  have hcall:=ij q2 5 N E (by have:=(dW ky.out.2.2.1).1; omega) S.out.fr.own.at
  rw [ky.out.2.1] at hcall
  obtain ⟨-,o1,-,-⟩:=S.out.op.cells
  simp only at o1
  go_wp2_with (refine eT 4 w.heap.size q.cells S.out.fr.box ?_)
  refine hcall.mono ?_
  clear hcall o1
  rintro e E2 ⟨⟨z,rfl,gV⟩,hb2⟩
  replace S:=aA (S.out.reads hb2)
  clear hb2
  rcases pp gV with ⟨hz,hw⟩ | ⟨i,v,hz,hi,hw⟩
  ·have HE:Hid (ka (9,N,M,s) now x.id q.pure=bu 0 x.id (cV N r (ez t0 x.id q.pure))):=by show ka (9,N,M,s) now x.id q.pure=_; rw [HU.out,hw]
   have dz:decide (z≥0)=false:=decide_eq_false (by omega)
   clear gV hz hw HU
   have hcall:=bB (n:=n) 0 S.out.fr.own S.out.low ky.out.2.2.1 ky.out.2.2.2.1 (by show ¬ x.state=0; rw [HR.out.2.2.1]; decide)
   rw [ky.out.1,ky.out.2.1] at hcall
   go_wp2_with (refine eT 4 w.heap.size q.cells S.out.fr.box ?_)
   refine hcall.mono ?_
   clear hcall
   rintro e A2 ⟨q3,rfl,hp,ht⟩
   replace S:=aA (S.out.call ht)
   have HP:Hid (q3.pure=_):=hp
   clear hp ht
   go_wp2_with (refine ec 8 138 (w.heap.size+2) q3.cells S.out.an ?_)
   refine gZ Tryz.results235 (w.heap.size+2) q3.cells S.out.an ?_
   exact ⟨q3,rfl,HP.out.trans HE.out.symm,S.out.done _⟩
  have HE:Hid (ka (9,N,M,s) now x.id q.pure=bu 0 x.id (gF (fun y=>y) (cV N (r ++ [v.held]) (ez t0 x.id q.pure)) v.toaD)):=by show ka (9,N,M,s) now x.id q.pure=_; rw [HU.out,hw]
  have HW:Hid (jl 5 N q2.pure.procs=some v.toaD∧q2.procs[i]? =some v∧v.state=5):=⟨hw,hi,(ft hw).2.1⟩
  subst hz
  have dz:decide ((i:Int)≥0)=true:=decide_eq_true (by omega)
  clear gV hw hi HU
  go_upto_region 21 with fail
  clear dz
  replace S:=aA (S.out.reads (Below.refl _ _).drew)
  obtain ⟨g5,A7,hat⟩:=iA S.out.fr.own.at.2.2.2.2.1 ky.out.2.2.2.2.1
  rw [ky.out.2.2.2.2.2.1] at A7
  cases A7
  obtain ⟨g6,hg6,hap⟩:=cn S.out.fr.own.at.1 HW.out.2.1
  rw [ky.out.2.2.2.2.2.2.2] at hg6
  cases hg6
  have hS0:av E2.drew w.heap.size q∧E2.drew.cell? ⟨gp,i * 12+8,none⟩=some (.string v.held):=⟨S.out.fr.box,hap.2.2.2.2.2.2.2.2.1⟩
  have c8:E2.drew.cell? ⟨ga,m * 3+2,none⟩=some (.slice y2.ak y2.items.length y2.aq):=hat.2.2
  clear hat hap
  refine wp_region_held_drew (S:=fun w'=>av w' w.heap.size q∧w'.cell? ⟨gp,i * 12+8,none⟩=some (.string v.held)) (by kernel_rfl) hS0 (fun hHeld=> ?_)
  generalize E2.drew=V3 at *
  have k1:(i:Int) < (q.procs.length:Int):=by have h5:=(List.getElem?_eq_some_iff.1 HW.out.2.1).1; have h6:=congrArg (fun p:aE=>p.procs.length) ky.out.1; simp only [af.pure,List.length_map,cV,ez,ce] at h6; omega
  have k0:(0:Int)≤(i:Int):=by omega
  refine tk 0 (v:= ?_) ?_ hHeld ?_; rotate_left; (intro w0 hS0; have q0:=hS0.1.cells.2.2.2.2.2.2.1; rw [HG.out] at q0; have q5:=hS0.1.cells.2.2.1; rw [ud.out] at q5; have q7:=hS0.2; go_simp; try with_reducible rfl); simp only [pt,sb,s0,s1]
  refine tk 1 (v:= ?_) ?_ hHeld ?_; rotate_left; (intro w0 hS0; have q0:=hS0.1.cells.2.2.2.2.2.2.1; rw [HG.out] at q0; have q5:=hS0.1.cells.2.2.1; rw [ud.out] at q5; have q7:=hS0.2; go_simp; try with_reducible rfl); simp only [pt,sb,s0,s1]
  refine tk 2 (v:= ?_) ?_ hHeld ?_; rotate_left; (intro w0 hS0; have q0:=hS0.1.cells.2.2.2.2.2.2.1; rw [HG.out] at q0; have q5:=hS0.1.cells.2.2.1; rw [ud.out] at q5; have q7:=hS0.2; go_simp; try with_reducible rfl); simp only [pt,sb,s0,s1]
  refine tk 3 (v:= ?_) ?_ hHeld ?_; rotate_left; (intro w0 hS0; have q0:=hS0.1.cells.2.2.2.2.2.2.1; rw [HG.out] at q0; have q5:=hS0.1.cells.2.2.1; rw [ud.out] at q5; have q7:=hS0.2; go_simp; try with_reducible rfl); simp only [pt,sb,s0,s1]
  refine tk 4 (v:= ?_) ?_ hHeld ?_; rotate_left; (intro w0 hS0; have q0:=hS0.1.cells.2.2.2.2.2.2.1; rw [HG.out] at q0; have q5:=hS0.1.cells.2.2.1; rw [ud.out] at q5; have q7:=hS0.2; go_simp; try with_reducible rfl); simp only [pt,sb,s0,s1]
  refine tk 5 (v:= ?_) ?_ hHeld ?_; rotate_left; (intro w0 hS0; have q0:=hS0.1.cells.2.2.2.2.2.2.1; rw [HG.out] at q0; have q5:=hS0.1.cells.2.2.1; rw [ud.out] at q5; have q7:=hS0.2; go_simp; try with_reducible rfl); simp only [pt,sb,s0,s1]
  refine tk 6 (v:= ?_) ?_ hHeld ?_; rotate_left; (intro w0 hS0; have q0:=hS0.1.cells.2.2.2.2.2.2.1; rw [HG.out] at q0; have q5:=hS0.1.cells.2.2.1; rw [ud.out] at q5; have q7:=hS0.2; go_simp; try with_reducible rfl); simp only [pt,sb,s0,s1]
  refine tk 7 (v:= ?_) ?_ hHeld ?_; rotate_left; (intro w0 hS0; have q0:=hS0.1.cells.2.2.2.2.2.2.1; rw [HG.out] at q0; have q5:=hS0.1.cells.2.2.1; rw [ud.out] at q5; have q7:=hS0.2; go_simp; try with_reducible rfl); simp only [pt,sb,s0,s1]
  refine tk 9 (v:= ?_) ?_ hHeld ?_; rotate_left; (intro w0 hS0; have q0:=hS0.1.cells.2.2.2.2.2.2.1; rw [HG.out] at q0; have q5:=hS0.1.cells.2.2.1; rw [ud.out] at q5; have q7:=hS0.2; go_simp; try with_reducible rfl); simp only [pt,sb,s0,s1]
  refine tk 10 (v:= ?_) ?_ hHeld ?_; rotate_left; (intro w0 hS0; have q0:=hS0.1.cells.2.2.2.2.2.2.1; rw [HG.out] at q0; have q5:=hS0.1.cells.2.2.1; rw [ud.out] at q5; have q7:=hS0.2; go_simp; try with_reducible rfl); simp only [pt,sb,s0,s1]
  refine tk 11 (v:= ?_) ?_ hHeld ?_; rotate_left; (intro w0 hS0; have q0:=hS0.1.cells.2.2.2.2.2.2.1; rw [HG.out] at q0; have q5:=hS0.1.cells.2.2.1; rw [ud.out] at q5; have q7:=hS0.2; go_simp; try with_reducible rfl); simp only [pt,sb,s0,s1]
  refine tk 12 (v:= ?_) ?_ hHeld ?_; rotate_left; (intro w0 hS0; have q0:=hS0.1.cells.2.2.2.2.2.2.1; rw [HG.out] at q0; have q5:=hS0.1.cells.2.2.1; rw [ud.out] at q5; have q7:=hS0.2; go_simp; try with_reducible rfl); simp only [pt,sb,s0,s1]
  refine tk 13 (v:= ?_) ?_ hHeld ?_; rotate_left; (intro w0 hS0; have q0:=hS0.1.cells.2.2.2.2.2.2.1; rw [HG.out] at q0; have q5:=hS0.1.cells.2.2.1; rw [ud.out] at q5; have q7:=hS0.2; go_simp; try with_reducible rfl); simp only [pt,sb,s0,s1]
  refine tk 14 (v:= ?_) ?_ hHeld ?_; rotate_left; (intro w0 hS0; have q0:=hS0.1.cells.2.2.2.2.2.2.1; rw [HG.out] at q0; have q5:=hS0.1.cells.2.2.1; rw [ud.out] at q5; have q7:=hS0.2; go_simp; try with_reducible rfl); simp only [pt,sb,s0,s1]
  clear hHeld k0 k1
  have b1:Below V3.heap.size V3 (V3.alloc (.cells #[.string v.held] 9)):=(Below.refl _ _).alloc (Nat.le_refl _) _
  have iE:=cf S.out.fr.own.ae (g:=ga) (by rw [ky.out.2.2.2.2.2.1]; simp [blk])
  have l9:=cf S.out.fr.own.procs (g:=gp) (by rw [ky.out.2.2.2.2.2.2.2]; simp [blk])
  have cm:av (V3.alloc (.cells #[.string v.held] 9)) w.heap.size q∧(V3.alloc (.cells #[.string v.held] 9)).cell? ⟨gp,i * 12+8,none⟩=some (.string v.held):=⟨S.out.fr.box.below b1,(b1.cell (p:=⟨gp,i * 12+8,none⟩) l9.2).trans hS0.2⟩
  have c9:World.cell? (V3.alloc (.cells #[.string v.held] 9)) ⟨ga,m * 3+2,none⟩=some (.slice y2.ak y2.items.length y2.aq):=(b1.cell (p:=⟨ga,m * 3+2,none⟩) iE.2).trans c8
  refine wpAnyH_ready (rs:= [8,15]) (by kernel_rfl) (by simp) ?_
  refine AllReadyH.cons rfl (fun K hK=> ?_) (AllReadyH.cons rfl (fun K hK=> ?_) AllReadyH.nil)
  focus
   simp only [List.getElem_toArray,List.getElem_cons_zero,List.getElem_cons_succ]
   rw [if_pos (by rfl)]
   go_wp2_with fail
   refine hK.out _ _ hS0 (fun hHeld=> ?_)
   clear hK K hHeld
   try simp only [pt,sb,s0,s1]
   refine wpAnyH_ready (rs:= [15]) (by kernel_rfl) (by simp) ?_
   refine AllReadyH.cons rfl (fun K hK=> ?_) AllReadyH.nil
   simp only [List.getElem_toArray,List.getElem_cons_zero,List.getElem_cons_succ]
   rw [if_pos (by rfl)]
   go_wp2_with fail
   refine hK.out _ _ cm (fun hHeld=> ?_)
   clear hK K hHeld
   try simp only [pt,sb,s0,s1]
  rotate_left
  focus
   simp only [List.getElem_toArray,List.getElem_cons_zero,List.getElem_cons_succ]
   rw [if_pos (by rfl)]
   go_wp2_with fail
   refine hK.out _ _ cm (fun hHeld=> ?_)
   clear hK K hHeld
   try simp only [pt,sb,s0,s1]
   refine wpAnyH_ready (rs:= [8]) (by kernel_rfl) (by simp) ?_
   refine AllReadyH.cons rfl (fun K hK=> ?_) AllReadyH.nil
   simp only [List.getElem_toArray,List.getElem_cons_zero,List.getElem_cons_succ]
   rw [if_pos (by rfl)]
   go_wp2_with fail
   refine hK.out _ _ cm (fun hHeld=> ?_)
   clear hK K hHeld
   try simp only [pt,sb,s0,s1]
  all_goals
   clear c8 c9
   obtain ⟨a8,c8,w8,hap,ho8,hg8,yD⟩:=ou (V3.alloc (.cells #[.string v.held] 9)) base y2.ak y2.aq y2.items ((S.out.fr.own.below b1).eE y2 (List.mem_of_getElem? ky.out.2.2.2.2.1)) _ [v.held] 1 (jO (heap_alloc_new _ _)) (by have h5:=tI.out.2.2.2.1; rw [tI.out.1] at h5; rw [HY2.out.1]; simp only [List.length_cons,List.length_nil] at h5 ⊢; omega) (by have:=b1.size; have:=S.out.low; omega)
   have hkb:aI V3 w8 (blk y2.ak):=aI.grown b1 hg8
   have hl8:(y2.items ++ [v.held]).length=y2.items.length+1:=by rw [List.length_append]; rfl
   simp only [List.length_cons,List.length_nil,Nat.zero_add] at hap ho8
   rw [← hl8] at hap ho8
   obtain ⟨s1,⟨u,c⟩,f⟩:=mB (n:=m) S.out.fr.own hkb ky.out.2.2.2.2.1 ky.out.2.2.2.2.2.1 ho8 (fun g hg=>(yD g hg).imp_right fun e=>by rw [e]; exact b1.size)
   rw [hl8] at hap s1
   have HL8:Hid ((y2.items ++ [v.held]).length=y2.items.length+1):=hl8
   clear hl8
   have iH: ∀ g,g∈blk y2.ak→g∈q2.blocks∧g≠ga∧g≠gp∧ga≠gp:=fun g hg=>IY S.out.fr.own ky.out.2.2.2.2.1 ky.out.2.2.2.2.2.1 ky.out.2.2.2.2.2.2.2 hg
   have hne:ga≠gp:=Ig S.out.fr.own ky.out.2.2.2.2.2.1 ky.out.2.2.2.2.2.2.2
   have hS8:av w8 w.heap.size q∧w8.cell? ⟨gp,i * 12+8,none⟩=some (.string v.held):=⟨(hkb.same _ (av.lt S.out.fr.box) fun hm=>S.out.fr.yO (Nat.le_refl _) (by omega) (iH _ hm).1).trans S.out.fr.box,(World.cell?_of_block (a:=⟨gp,i * 12+8,none⟩) (hkb.same gp l9.2 fun hm=>(iH _ hm).2.2.1 rfl)).trans hS0.2⟩
   refine wpAnyH_ready (rs:= [16]) (by kernel_rfl) (by simp) ?_
   refine AllReadyH.cons rfl (fun K hK=> ?_) AllReadyH.nil
   simp only [List.getElem_toArray,List.getElem_cons_zero,List.getElem_cons_succ]
   rw [if_pos (by rfl)]
   refine cM _ _ _ rfl _ _ _ w8 rfl rfl hap ?_
   refine hK.out _ _ hS8 (fun hHeld=> ?_)
   clear hK K hHeld
   try simp only [pt,sb]
   replace S:=aA (S.out.call s1)
   clear hap ho8 hg8 yD hkb s1 b1 hS0 cm iH iE l9
   refine tk 17 (v:= ?_) ?_ hS8 ?_; rotate_left; (intro w0 hS0; have q0:=hS0.1.cells.2.2.2.2.2.2.1; rw [HG.out] at q0; have q5:=hS0.1.cells.2.2.1; rw [ud.out] at q5; have q7:=hS0.2; go_simp; try with_reducible rfl); simp only [pt,sb,s0,s1]
   refine tk 18 (v:= ?_) ?_ hS8 ?_; rotate_left; (intro w0 hS0; have q0:=hS0.1.cells.2.2.2.2.2.2.1; rw [HG.out] at q0; have q5:=hS0.1.cells.2.2.1; rw [ud.out] at q5; have q7:=hS0.2; go_simp; try with_reducible rfl); simp only [pt,sb,s0,s1]
   have FW:(w8.setCell ⟨ga,m * 3+2,none⟩ (.slice a8 (y2.items.length+1) c8)).cell? ⟨gp,i * 12+8,none⟩=some (.string v.held):=(World.cell?_of_block (a:=⟨gp,i * 12+8,none⟩) (aH hne.symm)).trans hS8.2
   refine wpAnyH_ready (rs:= [19]) (by kernel_rfl) (by simp) ?_
   refine AllReadyH.cons rfl (fun K hK=> ?_) AllReadyH.nil
   simp only [List.getElem_toArray,List.getElem_cons_zero,List.getElem_cons_succ]
   rw [if_pos (by rfl)]
   go_wp2_with fail
   refine hK.out _ _ ⟨S.out.fr.box,FW⟩ (fun hHeld=> ?_)
   clear hK K hHeld
   refine wpAnyH_done (by kernel_rfl) ?_ _
   clear c f u hS8 FW hne
   go_upto_region 22 with fail
   generalize w8.setCell ⟨ga,m * 3+2,none⟩ (.slice a8 (y2.items.length+1) c8)=G at *
   obtain ⟨q3,IJ⟩: ∃ q3:af,q3= { q2 with ae:=q2.ae.set m { y2 with items:=y2.items ++ [v.held],ak:=a8,aq:=c8 } } :=⟨_,rfl⟩
   have Ck:Hid (q3.pure=cV N (r ++ [v.held]) (ez t0 x.id q.pure)∧q3.cells=q.cells∧aQ q3.pure∧q3.procs[n]? =some { x with got:=t0 } ∧q3.procs[i]? =some v∧q3.next=q.next):=by
    have h5:q3.pure=cV N (r ++ [v.held]) q2.pure:=by rw [IJ,← HY2.out.1]; exact oN ky.out.2.2.1.ae ky.out.2.2.2.2.1 HY2.out.2.1
    have h6:cV N (r ++ [v.held]) q2.pure=cV N (r ++ [v.held]) (ez t0 x.id q.pure):=by rw [ky.out.1]; exact yY _ _ _ _
    have h7:aQ (cV N (r ++ [v.held]) (ez t0 x.id q.pure)):=by
     rw [← HQ.out.1]
     refine gN HQ.out.2.2.1 (fun z hz hk=> ?_) (fun u hu=> ?_)
     ·rw [HB.out.2.2.2.1] at hz; rw [only HR.out.1.ae HM.out.2.2 hz hk]; have h7:=tI.out.2.2.2.2; rw [tI.out.1] at h7; have h8:y.toci.max=y.max:=rfl; simp only [List.length_cons,List.length_append,List.length_nil] at h7 ⊢; omega
     ·exact (List.mem_append.1 hu).elim (fun hu=>tI.out.2.2.1 u hu) (fun hu=>by simp only [List.mem_cons,List.not_mem_nil,or_false] at hu; rw [hu]; have h8:=iF (ky.out.2.2.1.proc (iu HW.out.2.1)).2.1; unfold jY at h8; simp only [Bool.and_eq_true] at h8; exact h8.1.1.2)
    exact ⟨by rw [h5,h6],by rw [IJ]; exact Eq.trans (by unfold af.cells; simp) ky.out.2.1,by rw [h5,h6]; exact h7,by rw [IJ]; exact ky.out.2.2.2.1,by rw [IJ]; exact HW.out.2.1,by rw [IJ]; exact ky.out.2.2.2.2.2.2.1⟩
   rw [← IJ] at S
   clear IJ HL8
   have hcall:=lP (n:=i) S.out.fr.own S.out.low Ck.out.2.2.1 Ck.out.2.2.2.2.1 (by rw [HW.out.2.2]; decide) (by rw [Ck.out.2.2.2.2.2]; have:=HR.out.2.2.2.1; omega)
   rw [Ck.out.1,Ck.out.2.1] at hcall
   go_wp2_with (refine eT 4 w.heap.size q.cells S.out.fr.box ?_)
   refine hcall.mono ?_
   clear hcall
   rintro e G2 ⟨q4,rfl,hp,ht⟩
   replace S:=aA (S.out.call ht)
   rw [← Ck.out.1] at hp
   obtain ⟨hr4,x4,hx4,sw⟩:=qp Ck.out.2.2.1 Ck.out.2.2.2.1 HR.out.2.2.1 Ck.out.2.2.2.2.1 (by rw [HW.out.2.2]; decide) (by rw [HW.out.2.2]; decide) (.inl rfl) (by rw [Ck.out.2.2.2.2.2]; have:=HR.out.2.2.2.1; omega) hp
   have S2:=aA S.out.put
   go_upto_region 23 with (refine ec 4 135 (w.heap.size) q4.cells S.out.fr.box ?_)
   generalize G2.setRow w.heap.size q4.cells=G3 at *
   clear S
   have S:=S2
   clear S2
   have hcall:=bB (n:=n) 0 S.out.fr.own S.out.low hr4 hx4 (by rw [show x4.state=x.state by have h5:=congrArg aD.state sw; exact h5,HR.out.2.2.1]; decide)
   rw [show x4.id=x.id by have h5:=congrArg aD.id sw; exact h5,hp,Ck.out.1,← HE.out] at hcall
   clear hp ht hr4 hx4 sw
   go_wp2_with (refine eT 4 w.heap.size q4.cells S.out.fr.box ?_)
   refine hcall.mono ?_
   clear hcall
   rintro e G32 ⟨q5,rfl,hp,ht⟩
   replace S:=aA (S.out.call ht)
   have HP:Hid (q5.pure=_):=hp
   clear hp ht
   go_wp2_with (refine ec 8 138 (w.heap.size+2) q5.cells S.out.an ?_)
   refine gZ Tryz.results235 (w.heap.size+2) q5.cells S.out.an ?_
   exact ⟨q5,rfl,HP.out,S.out.done _⟩
end Go.Proofs.YtkbcplnlehdjfaaGreat
