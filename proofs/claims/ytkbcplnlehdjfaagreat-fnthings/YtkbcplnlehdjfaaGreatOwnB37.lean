/- What the proof leans on, part 37: TkFetch. -/
import Derived.Test.YtkbcplnlehdjfaaGreatOwnB19
import Derived.Test.YtkbcplnlehdjfaaGreatOwnB36
import Derived.Laws.Rows
import Derived.Deep.Cut
set_option maxRecDepth 100000
set_option maxHeartbeats 8000000

namespace Go.Proofs.YtkbcplnlehdjfaaGreat
open Go.RowKit Go.Maps
attribute [local go_sem ↓] Go.wp_at_zero Go.wp_at_succ
theorem BS (q:af) (n base:Nat) (x:ao) (o:dN) (w:World) (h:ap w base q) (hb:base≤w.heap.size) (hr:aQ q.pure) (hx:q.procs[n]? =some x) (hs:x.state=1) (hn:q.next≤999999990) (ho:kc o=true) (hk:o.1=14):
  Calls Tryz.prog 237 #[.agg q.cells,.int .i64 n,.agg (j9 o)] w (jH w base q (gC o x.id q.pure)):=by
 obtain ⟨-,f1,f2,f3,f4⟩:=dv ho
 have hM:=bz.1 f2
 obtain ⟨k,N,M,s⟩:=o
 simp only at hk hM f1 f3 f4
 subst hk
 have HR:Hid (aQ q.pure∧q.procs[n]? =some x∧x.state=1∧q.next≤999999990∧(-1≤M∧M≤1000)):=⟨hr,hx,hs,hn,hM⟩
 have HF:Hid (q.procs.length≤6∧q.aj.length≤5∧q.events.length≤5∧q.ag.length≤5∧q.ae.length≤5∧q.ai.length≤5):=dW hr
 clear f2 hr hx hs hn hM ho
 have S:=aA (FO.start (o:=(14,N,M,s)) h hb)
 clear h hb
 go_enter Tryz.func237,Tryz.ntmps237
 go_upto_region 1 with fail
 generalize ((w.alloc (.cells q.cells 32)).alloc (.cells (j9 (14,N,M,s)) 134)).alloc (.cells ar 32)=A at *
 obtain ⟨-,o1,-,-⟩:=S.out.op.cells
 simp only at o1
 have hpf:=ef (num:=fun x:aM=>x.id) N q.ai 0
 have hcall:=uV q N A (by have:=HF.out; omega) S.out.fr.own.at
 generalize place (q.ai.map (fun x=>x.id)) N 0=z at *
 go_wp2_with (refine eT 3 w.heap.size q.cells S.out.fr.box ?_)
 refine hcall.mono ?_
 clear hcall
 rintro e A2 ⟨rfl,hb2⟩
 replace S:=aA (S.out.reads hb2)
 clear hb2 o1
 have hfm:=lJ (num:=fun x:dS=>x.id) (je:=fun x:aM=>x.id) (g:=fun x:aM=>x.todS) (fun _=>rfl) (id:=N) q.ai
 rcases hpf with ⟨hz,hf⟩ | ⟨m,y,hz,hm,hid,hf⟩
 ·subst hz
  rw [hf] at hfm
  have HE:Hid (gC (14,N,M,s) x.id q.pure=bu 3 x.id q.pure):=by show gC (14,N,M,s) x.id q.pure=_; unfold gC; rw [show cg (fun x:dS=>x.id) N q.pure.ai=none from hfm]
  clear hf hfm
  go_upto_region 2 with fail
  replace S:=aA (S.out.reads (Below.refl _ _).drew)
  refine aT (fun w1=>w1=A2.drew) (by kernel_rfl) rfl ?_
  generalize A2.drew=B at *
  iterate 3 (refine yl (v:= ?_) ?_ ?_; rotate_left; (intro w0 hS0; subst hS0; go_simp; try with_reducible rfl); simp only [pt,sb,s0,s1])
  iterate 10 (refine nl ?_; simp only [pt,sb,s0,s1])
  (refine yl (v:= ?_) ?_ ?_; rotate_left; (intro w0 hS0; subst hS0; go_simp; try with_reducible rfl); simp only [pt,sb,s0,s1])
  refine bk (by kernel_rfl) ?_ _
  intro w1 cm
  rw [cm]
  clear cm w1
  have hcall:=bB (n:=n) 3 S.out.fr.own S.out.low HR.out.1 HR.out.2.1 (by rw [HR.out.2.2.1]; decide)
  go_wp2_with (refine eT 3 w.heap.size q.cells S.out.fr.box ?_)
  refine hcall.mono ?_
  clear hcall
  rintro e A2 ⟨q9,rfl,hp,ht⟩
  replace S:=aA (S.out.call ht)
  have HP:Hid (q9.pure=_):=hp
  clear hp ht
  go_wp2_with (refine ec 6 29 (w.heap.size+2) q9.cells S.out.an ?_)
  refine gZ Tryz.results237 (w.heap.size+2) q9.cells S.out.an ?_
  exact ⟨q9,rfl,HP.out.trans HE.out.symm,S.out.done _⟩
 rw [hf] at hfm
 rw [Nat.zero_add] at hz
 subst hz
 have dz:decide ((m:Int) < 0)=false:=decide_eq_false (by omega)
 have HM:Hid (q.ai[m]? =some y∧y.id=N∧cg (fun x:dS=>x.id) N q.pure.ai=some y.todS):=⟨hm,hid,hfm⟩
 have hml:=(List.getElem?_eq_some_iff.1 hm).1
 have j0:(0:Int)≤(m:Int):=by omega
 have j1:(m:Int) < (q.ai.length:Int):=by omega
 clear hm hid hf hfm hml
 go_upto_region 2 with fail
 replace S:=aA (S.out.reads (Below.refl _ _).drew)
 refine aT (fun w1=>w1=A2.drew) (by kernel_rfl) rfl ?_
 generalize A2.drew=B at *
 obtain ⟨ga,iE,hat⟩:=lm S.out.fr.own.at.2.2.2.2.2 HM.out.1
 have m7:=S.out.fr.box.cells.2.2.2.2.2.2.2
 rw [iE] at m7
 have d0:=hat.1
 have d1:=hat.2.1
 have d2:=hat.2.2.1
 have d3:=hat.2.2.2.1
 have d4:=hat.2.2.2.2
 have HG:Hid (q.aK=some ⟨ga,0,none⟩):=iE
 clear hat iE
 obtain ⟨o0,-,-,-⟩:=S.out.op.cells
 simp only at o0
 iterate 14 (refine yl (v:= ?_) ?_ ?_; rotate_left; (intro w0 hS0; subst hS0; go_simp; try with_reducible rfl); simp only [pt,sb,s0,s1])
 refine bk (by kernel_rfl) ?_ _
 intro w1 cm
 rw [cm]
 clear cm w1 dz
 clear f1 f3 f4
 have tI:Hid ((∀ u∈y.items,bw u=true)∧y.items.length≤5∧(y.items.length:Int)≤y.max∧1≤y.max):=by
  have h5:=nB (o:=(14,N,M,s)) HR.out.1 HM.out.2.2; have h6:=An HR.out.1 (List.mem_map.2 ⟨y,List.mem_of_getElem? HM.out.1,rfl⟩)
  have h7:y.todS.items=y.items:=rfl
  have h8:y.todS.max=y.max:=rfl
  rw [h7] at h5
  rw [h8] at h5 h6
  exact ⟨h5.2.2,by omega,h5.2.1,h5.1⟩
 cases hu:y.out
 rotate_left
 ·rw [hu] at d1
  have HE:Hid (gC (14,N,M,s) x.id q.pure=bu 3 x.id q.pure):=by show gC (14,N,M,s) x.id q.pure=_; unfold gC; rw [show cg (fun x:dS=>x.id) N q.pure.ai=some y.todS from HM.out.2.2]; exact if_pos hu
  have hcall:=bB (n:=n) 3 S.out.fr.own S.out.low HR.out.1 HR.out.2.1 (by rw [HR.out.2.2.1]; decide)
  go_wp2_with (refine eT 3 w.heap.size q.cells S.out.fr.box ?_)
  refine hcall.mono ?_
  clear hcall
  rintro e A2 ⟨q9,rfl,hp,ht⟩
  replace S:=aA (S.out.call ht)
  have HP:Hid (q9.pure=_):=hp
  clear hp ht
  go_wp2_with (refine ec 6 29 (w.heap.size+2) q9.cells S.out.an ?_)
  refine gZ Tryz.results237 (w.heap.size+2) q9.cells S.out.an ?_
  exact ⟨q9,rfl,HP.out.trans HE.out.symm,S.out.done _⟩
 have HO:Hid (y.out=false):=hu
 clear hu
 rw [HO.out] at d1
 have h5:=(Below.refl B.heap.size B).alloc (Nat.le_refl _) (.cells #[.int .i64 y.id,.bool false,.bool y.queue,.int .i64 y.max,.slice y.ak y.items.length y.aq] 61)
 have BX:Hid ((B.alloc (.cells #[.int .i64 y.id,.bool false,.bool y.queue,.int .i64 y.max,.slice y.ak y.items.length y.aq] 61)).heap[B.heap.size]? =some (.cells #[.int .i64 y.id,.bool false,.bool y.queue,.int .i64 y.max,.slice y.ak y.items.length y.aq] 61 (0,0))∧w.heap.size+3≤B.heap.size):=⟨heap_alloc_new _ _,S.out.fr.sz.2.1⟩
 replace S:=aA (S.out.reads h5)
 clear h5
 go_upto_region 5 with fail
 generalize B.alloc (.cells #[.int .i64 y.id,.bool false,.bool y.queue,.int .i64 y.max,.slice y.ak y.items.length y.aq] 61)=C at *
 generalize B.heap.size=X at *
 clear m7 d0 d1 d2 d3 d4 o0
 obtain ⟨o0,-,-,-⟩:=S.out.op.cells
 simp only at o0
 go_upto_region 13 with fail
 clear o0
 obtain ⟨gp,l9,-⟩:=cn S.out.fr.own.at.1 HR.out.2.1
 have m2:=S.out.fr.box.cells.2.2.1
 have k1:(n:Int) < (q.procs.length:Int):=by have:=(List.getElem?_eq_some_iff.1 HR.out.2.1).1; omega
 have k0:(0:Int)≤(n:Int):=by omega
 rw [l9] at m2
 have ud:Hid (q.aN=some ⟨gp,0,none⟩):=l9
 clear l9
 obtain ⟨s1,⟨u,c⟩,f⟩:=eY (n:=n) (j:=9) (v:= .string ⟨#[]⟩) (y:= { x with got:=rM }) S.out.fr.own HR.out.2.1 ud.out ⟨rfl,rfl,rfl⟩ (by decide) rfl
 have lW:(C.setCell ⟨gp,n * 12+9,none⟩ (.string ⟨#[]⟩)).heap[X]? =some (.cells #[.int .i64 y.id,.bool false,.bool y.queue,.int .i64 y.max,.slice y.ak y.items.length y.aq] 61 (0,0)):=(aH (fun e=>by have h5:=(S.out.fr.lo gp (gD (.inl (by rw [ud.out]; simp [blk])))).2; have:=BX.out.2; omega)).trans BX.out.1
 replace S:=aA (S.out.call s1)
 replace BX:=aA (And.intro lW BX.out.2)
 clear s1 lW
 go_upto_region 14 with fail
 generalize C.setCell ⟨gp,n * 12+9,none⟩ (.string ⟨#[]⟩)=D at *
 clear m2 c f u
 have x4:D.cell? ⟨X,4,none⟩=some (.slice y.ak y.items.length y.aq):=by simp [World.cell?,BX.out.1]
 cases hit:y.items with
 | nil=>
  rw [hit] at x4
  have HE:Hid (gC (14,N,M,s) x.id q.pure=bu 1 x.id (ez rM x.id q.pure)):=by show gC (14,N,M,s) x.id q.pure=_; unfold gC; rw [show cg (fun x:dS=>x.id) N q.pure.ai=some y.todS from HM.out.2.2]; dsimp only; rw [if_neg (show ¬ y.out=true by rw [HO.out]; decide),show y.todS.items= [] from hit]
  clear BX hit
  obtain ⟨q1,hq1,hq⟩:=kg HR.out.1 HR.out.2.1 jX
  rw [← hq1] at S
  have HQ:=aA hq
  clear hq1 hq
  have hcall:=bB (n:=n) 1 S.out.fr.own S.out.low HQ.out.2.2.1 HQ.out.2.2.2 (by show ¬ x.state=0; rw [HR.out.2.2.1]; decide)
  rw [HQ.out.1,HQ.out.2.1] at hcall
  go_wp2_with (refine eT 3 w.heap.size q.cells S.out.fr.box ?_)
  refine hcall.mono ?_
  clear hcall
  rintro e A2 ⟨q9,rfl,hp,ht⟩
  replace S:=aA (S.out.call ht)
  have HP:Hid (q9.pure=_):=hp
  clear hp ht
  go_wp2_with (refine ec 6 88 (w.heap.size+2) q9.cells S.out.an ?_)
  refine gZ Tryz.results237 (w.heap.size+2) q9.cells S.out.an ?_
  exact ⟨q9,rfl,HP.out.trans HE.out.symm,S.out.done _⟩
 | cons t0 r=>
  have jA:Hid (y.items=t0 :: r∧bw t0=true∧ ∀ u∈r,bw u=true):=⟨hit,tI.out.1 t0 (by rw [hit]; simp),fun u hu=>tI.out.1 u (by rw [hit]; simp [hu])⟩
  have il:(0:Int) < (y.items.length:Int):=by rw [hit]; simp
  have il3:0 < y.items.length:=by rw [hit]; simp
  have il4: ¬ y.items.length=0:=by omega
  have il2:((y.items.length:Int) == 0)=false:=by rw [hit]; simp; omega
  have HU:Hid (gC (14,N,M,s) x.id q.pure=bu 0 x.id (if y.queue then gU N r (ez t0 x.id q.pure) else ez t0 x.id q.pure)):=by show gC (14,N,M,s) x.id q.pure=_; unfold gC; rw [show cg (fun x:dS=>x.id) N q.pure.ai=some y.todS from HM.out.2.2]; dsimp only; rw [if_neg (show ¬ y.out=true by rw [HO.out]; decide),show y.todS.items=t0 :: r from hit]
  clear hit
  go_upto_region 16 with fail
  clear x4 il2
  replace BX:Hid (D.drew.heap[X]? =some (.cells #[.int .i64 y.id,.bool false,.bool y.queue,.int .i64 y.max,.slice y.ak y.items.length y.aq] 61 (0,0))∧w.heap.size+3≤X):=BX.out
  replace S:=aA (S.out.reads (Below.refl _ _).drew)
  refine eD (fun w1=>w1=D.drew) 9 (by kernel_rfl) rfl ?_
  generalize D.drew=E at *
  have x4:E.cell? ⟨X,4,none⟩=some (.slice y.ak y.items.length y.aq):=by simp [World.cell?,BX.out.1]
  obtain ⟨gi,hgi,x5⟩:=zl (nJ S.out.fr.own.at.2.2.2.2.2 HM.out.1) (show y.items[0]? =some t0 by rw [jA.out.1]; rfl)
  rw [hgi] at x4
  have m2:=S.out.fr.box.cells.2.2.1
  rw [ud.out] at m2
  obtain ⟨s1,⟨u,c⟩,f⟩:=eY (n:=n) (j:=9) (v:= .string t0) (x:= { x with got:=rM }) (y:= { x with got:=t0 }) S.out.fr.own (by show (q.procs.set n _)[n]? =_; rw [List.getElem?_set_self (List.getElem?_eq_some_iff.1 HR.out.2.1).1]) ud.out ⟨rfl,rfl,rfl⟩ (by decide) rfl
  have lW:(E.setCell ⟨gp,n * 12+9,none⟩ (.string t0)).heap[X]? =some (.cells #[.int .i64 y.id,.bool false,.bool y.queue,.int .i64 y.max,.slice y.ak y.items.length y.aq] 61 (0,0)):=(aH (fun e=>by have h5:=(S.out.fr.lo gp (gD (.inl (by rw [ud.out]; simp [blk])))).2; have:=BX.out.2; omega)).trans BX.out.1
  replace S:=aA (S.out.call s1)
  replace BX:=aA (And.intro lW BX.out.2)
  clear s1 lW hgi
  simp only [List.set_set] at S
  iterate 9 (refine ly 10 (v:= ?_) (some _) rfl rfl (by kernel_rfl) (fun _ _ _ h=>h) (bV (by kernel_rfl) ?_) ?_; rotate_left; (intro w0 hS0; subst hS0; go_simp; try with_reducible rfl); simp only [pt,sb,s0,s1])
  refine fL rfl (by kernel_rfl) (by kernel_rfl) (by kernel_rfl) ?_
  intro w1 cm
  rw [cm]
  clear cm w1
  go_simp
  generalize E.setCell ⟨gp,n * 12+9,none⟩ (.string t0)=G at *
  clear m2 x4 x5 c f u k0 k1 il il3 il4
  obtain ⟨q1,hq1,hq⟩:=kg HR.out.1 HR.out.2.1 jA.out.2.1
  have HB:Hid (q1.ai=q.ai∧q1.aK=q.aK∧q1.pure.ai=q.pure.ai):=by rw [hq1]; exact ⟨rfl,rfl,rfl⟩
  rw [← hq1] at S
  have HQ:=aA hq
  clear hq1 hq
  have x2:G.cell? ⟨X,2,none⟩=some (.bool y.queue):=by simp [World.cell?,BX.out.1]
  cases nu:y.queue
  ·rw [nu] at x2
   have HE:Hid (gC (14,N,M,s) x.id q.pure=bu 0 x.id (ez t0 x.id q.pure)):=by show gC (14,N,M,s) x.id q.pure=_; rw [HU.out,nu]; rfl
   clear nu BX HU
   have hcall:=bB (n:=n) 0 S.out.fr.own S.out.low HQ.out.2.2.1 HQ.out.2.2.2 (by show ¬ x.state=0; rw [HR.out.2.2.1]; decide)
   rw [HQ.out.1,HQ.out.2.1] at hcall
   go_wp2_with (refine eT 3 w.heap.size q.cells S.out.fr.box ?_)
   refine hcall.mono ?_
   clear hcall
   rintro e A2 ⟨q9,rfl,hp,ht⟩
   replace S:=aA (S.out.call ht)
   have HP:Hid (q9.pure=_):=hp
   clear hp ht
   go_wp2_with (refine ec 6 112 (w.heap.size+2) q9.cells S.out.an ?_)
   refine gZ Tryz.results237 (w.heap.size+2) q9.cells S.out.an ?_
   exact ⟨q9,rfl,HP.out.trans HE.out.symm,S.out.done _⟩
  rw [nu] at x2
  have HE:Hid (gC (14,N,M,s) x.id q.pure=bu 0 x.id (gU N r (ez t0 x.id q.pure))):=by show gC (14,N,M,s) x.id q.pure=_; rw [HU.out,nu]; rfl
  clear nu HU
  go_upto_region 18 with fail
  clear x2
  replace S:=aA (S.out.reads (Below.refl _ _).drew)
  replace BX:Hid (G.drew.heap[X]? =some (.cells #[.int .i64 y.id,.bool false,.bool y.queue,.int .i64 y.max,.slice y.ak y.items.length y.aq] 61 (0,0))∧w.heap.size+3≤X):=BX.out
  refine wp_region_held_drew (S:=fun w'=>av w' w.heap.size q∧w'.heap[X]? =some (.cells #[.int .i64 y.id,.bool false,.bool y.queue,.int .i64 y.max,.slice y.ak y.items.length y.aq] 61 (0,0))) (by kernel_rfl) ⟨S.out.fr.box,BX.out.1⟩ (fun hHeld=> ?_)
  generalize G.drew=V2 at *
  have GO:Hid (q1.ai[m]? =some y):=by rw [HB.out.1]; exact HM.out.1
  have il:(1:Int)≤(y.items.length:Int):=by rw [jA.out.1]; simp; omega
  have ic:(y.items.length:Int)≤(y.aq:Int):=by have h5:y.items.length≤y.aq:=nV (S.out.fr.own.eR y (List.mem_of_getElem? GO.out)); omega
  have ic2:(1:Int)≤(y.aq:Int):=by omega
  obtain ⟨TA,hTA⟩: ∃ TA:Option Addr,(if y.aq=1 then y.ak else Option.map (fun x:Addr=>(⟨x.block,x.off+1,none⟩:Addr)) y.ak)=TA:=⟨_,rfl⟩
  refine tk 0 (v:= ?_) ?_ hHeld ?_; rotate_left; (intro w0 hS0; have q0:=hS0.1.cells.2.2.2.2.2.2.2; rw [HG.out] at q0; have q4:w0.cell? ⟨X,4,none⟩=some (.slice y.ak y.items.length y.aq):=(by simp [World.cell?,hS0.2]); go_simp; try with_reducible rfl); simp only [pt,sb,s0,s1]
  refine tk 1 (v:= ?_) ?_ hHeld ?_; rotate_left; (intro w0 hS0; have q0:=hS0.1.cells.2.2.2.2.2.2.2; rw [HG.out] at q0; have q4:w0.cell? ⟨X,4,none⟩=some (.slice y.ak y.items.length y.aq):=(by simp [World.cell?,hS0.2]); go_simp; try with_reducible rfl); simp only [pt,sb,s0,s1]
  refine tk 2 (v:= ?_) ?_ hHeld ?_; rotate_left; (intro w0 hS0; have q0:=hS0.1.cells.2.2.2.2.2.2.2; rw [HG.out] at q0; have q4:w0.cell? ⟨X,4,none⟩=some (.slice y.ak y.items.length y.aq):=(by simp [World.cell?,hS0.2]); go_simp; try with_reducible rfl); simp only [pt,sb,s0,s1]
  refine tk 4 (v:= ?_) ?_ hHeld ?_; rotate_left; (intro w0 hS0; have q0:=hS0.1.cells.2.2.2.2.2.2.2; rw [HG.out] at q0; have q4:w0.cell? ⟨X,4,none⟩=some (.slice y.ak y.items.length y.aq):=(by simp [World.cell?,hS0.2]); go_simp; try with_reducible rfl); simp only [pt,sb,s0,s1]
  refine tk 5 (v:= ?_) ?_ hHeld ?_; rotate_left; (intro w0 hS0; have q0:=hS0.1.cells.2.2.2.2.2.2.2; rw [HG.out] at q0; have q4:w0.cell? ⟨X,4,none⟩=some (.slice y.ak y.items.length y.aq):=(by simp [World.cell?,hS0.2]); go_simp; try with_reducible rfl); simp only [pt,sb,s0,s1]
  refine tk 6 (v:= ?_) ?_ hHeld ?_; rotate_left; (intro w0 hS0; have q0:=hS0.1.cells.2.2.2.2.2.2.2; rw [HG.out] at q0; have q4:w0.cell? ⟨X,4,none⟩=some (.slice y.ak y.items.length y.aq):=(by simp [World.cell?,hS0.2]); go_simp; try with_reducible rfl); simp only [pt,sb,s0,s1]
  clear hHeld il ic ic2
  have lW:=(Array.getElem?_eq_some_iff.1 BX.out.1).1
  have hS: ∀ W,Below V2.heap.size V2 W→av W w.heap.size q∧W.heap[X]? =some (.cells #[.int .i64 y.id,.bool false,.bool y.queue,.int .i64 y.max,.slice y.ak y.items.length y.aq] 61 (0,0)):=fun W hb=>⟨S.out.fr.box.below hb,(hb.block _ lW).trans BX.out.1⟩
  have b1:Below V2.heap.size V2 (V2.alloc (.cells #[] 9)):=(Below.refl _ _).alloc (Nat.le_refl _) _
  refine wpAnyH_ready (rs:= [3]) (by kernel_rfl) (by simp) ?_
  refine AllReadyH.cons rfl (fun K hK=> ?_) AllReadyH.nil
  simp only [List.getElem_toArray,List.getElem_cons_zero,List.getElem_cons_succ]
  rw [if_pos (by rfl)]
  go_wp2_with fail
  refine hK.out _ _ (hS _ b1) (fun hHeld=> ?_)
  clear hK K hHeld
  try simp only [pt,sb,s0,s1]
  have hlr:y.items.length - 1=r.length:=by rw [jA.out.1]; rfl
  have pI:y.items.drop 1=r:=by rw [jA.out.1]; rfl
  have hsrc:=vg (c:=y.aq) (nV (S.out.fr.own.eR y (List.mem_of_getElem? GO.out))) (nJ (S.out.fr.own.below b1).at.2.2.2.2.2 GO.out)
  rw [hTA] at hsrc
  obtain ⟨a7,c7,w7,hap,mP,xI,-⟩:=ou (V2.alloc (.cells #[] 9)) V2.heap.size (some ⟨V2.heap.size,0,none⟩) 0 [] (i6 (heap_alloc_new _ _) (Nat.le_refl _)) TA (y.items.drop 1) (y.aq - 1) hsrc (by rw [List.length_drop]; have:=tI.out.2.1; show 0+_≤_; omega) b1.size
  clear hsrc hTA
  have gh:Below V2.heap.size V2 w7:=b1.grown xI b1.size fun c e=>by cases e; exact Nat.le_refl _
  rw [List.length_drop,hlr] at hap mP
  simp only [List.length_nil,Nat.zero_add,List.nil_append,pI] at hap mP
  rw [← hlr] at hap
  obtain ⟨s1,⟨u,c⟩,f⟩:=pg (n:=m) S.out.fr.own (aI.dI gh) GO.out (HB.out.2.1.trans HG.out) (cq mP S.out.low) (fun g hg=> .inr (cf mP hg).1)
  rw [← hlr] at s1
  have HLR:Hid (y.items.length - 1=r.length):=hlr
  clear hlr
  refine wpAnyH_ready (rs:= [7]) (by kernel_rfl) (by simp) ?_
  refine AllReadyH.cons rfl (fun K hK=> ?_) AllReadyH.nil
  simp only [List.getElem_toArray,List.getElem_cons_zero,List.getElem_cons_succ]
  rw [if_pos (by rfl)]
  refine cM _ _ _ rfl _ _ _ w7 rfl rfl hap ?_
  refine hK.out _ _ ⟨S.out.fr.box.below gh,(gh.block _ lW).trans BX.out.1⟩ (fun hHeld=> ?_)
  clear hK K hHeld
  try simp only [pt,sb]
  have wj:av w7 w.heap.size q∧w7.heap[X]? =some (.cells #[.int .i64 y.id,.bool false,.bool y.queue,.int .i64 y.max,.slice y.ak y.items.length y.aq] 61 (0,0)):=⟨S.out.fr.box.below gh,(gh.block _ lW).trans BX.out.1⟩
  replace S:=aA (S.out.call s1)
  clear hap mP xI gh s1 b1 hS
  refine tk 8 (v:= ?_) ?_ wj ?_; rotate_left; (intro w0 hS0; have q0:=hS0.1.cells.2.2.2.2.2.2.2; rw [HG.out] at q0; have q4:w0.cell? ⟨X,4,none⟩=some (.slice y.ak y.items.length y.aq):=(by simp [World.cell?,hS0.2]); go_simp; try with_reducible rfl); simp only [pt,sb,s0,s1]
  refine tk 9 (v:= ?_) ?_ wj ?_; rotate_left; (intro w0 hS0; have q0:=hS0.1.cells.2.2.2.2.2.2.2; rw [HG.out] at q0; have q4:w0.cell? ⟨X,4,none⟩=some (.slice y.ak y.items.length y.aq):=(by simp [World.cell?,hS0.2]); go_simp; try with_reducible rfl); simp only [pt,sb,s0,s1]
  have uQ:(w7.setCell ⟨ga,m * 5+4,none⟩ (.slice a7 (y.items.length - 1) c7)).heap[X]? =some (.cells #[.int .i64 y.id,.bool false,.bool y.queue,.int .i64 y.max,.slice y.ak y.items.length y.aq] 61 (0,0)):=(aH (fun e=>by have h5:=(S.out.fr.lo ga (gD (.inr <| .inr <| .inr <| .inr <| .inr <| by rw [HG.out]; simp [blk]))).2; have:=BX.out.2; omega)).trans wj.2
  refine wpAnyH_ready (rs:= [10]) (by kernel_rfl) (by simp) ?_
  refine AllReadyH.cons rfl (fun K hK=> ?_) AllReadyH.nil
  simp only [List.getElem_toArray,List.getElem_cons_zero,List.getElem_cons_succ]
  rw [if_pos (by rfl)]
  go_wp2_with fail
  refine hK.out _ _ ⟨S.out.fr.box,uQ⟩ (fun hHeld=> ?_)
  clear hK K hHeld
  refine wpAnyH_done (by kernel_rfl) ?_ _
  clear c f u wj lW uQ
  go_upto_region 19 with fail
  generalize w7.setCell ⟨ga,m * 5+4,none⟩ (.slice a7 (y.items.length - 1) c7)=J at *
  obtain ⟨q2,pv⟩: ∃ q2:af,q2= { q1 with ai:=q1.ai.set m { y with items:=r,ak:=a7,aq:=c7 } } :=⟨_,rfl⟩
  have ky:Hid (q2.pure=gU N r (ez t0 x.id q.pure)∧q2.cells=q.cells∧aQ q2.pure∧q2.procs[n]? =some { x with got:=t0 }):=by
   have h5:q2.pure=gU N r q1.pure:=by rw [pv]; exact sq HQ.out.2.2.1.ai GO.out HM.out.2.1
   have h6:aQ (gU N r q1.pure):=jj HQ.out.2.2.1 (fun z hz hk=>by rw [HB.out.2.2] at hz; rw [only HR.out.1.ai HM.out.2.2 hz hk]; have h7:=tI.out.2.2.1; rw [jA.out.1] at h7; have h8:y.todS.max=y.max:=rfl; simp only [List.length_cons] at h7; omega) jA.out.2.2
   exact ⟨by rw [h5,HQ.out.1],by rw [pv]; exact Eq.trans (by unfold af.cells; simp) HQ.out.2.1,by rw [h5]; exact h6,by rw [pv]; exact HQ.out.2.2.2⟩
  rw [← pv] at S
  clear pv HLR pI BX
  have hcall:=bB (n:=n) 0 S.out.fr.own S.out.low ky.out.2.2.1 ky.out.2.2.2 (by show ¬ x.state=0; rw [HR.out.2.2.1]; decide)
  rw [ky.out.1,ky.out.2.1] at hcall
  go_wp2_with (refine eT 3 w.heap.size q.cells S.out.fr.box ?_)
  refine hcall.mono ?_
  clear hcall
  rintro e A2 ⟨q9,rfl,hp,ht⟩
  replace S:=aA (S.out.call ht)
  have HP:Hid (q9.pure=_):=hp
  clear hp ht
  go_wp2_with (refine ec 6 112 (w.heap.size+2) q9.cells S.out.an ?_)
  refine gZ Tryz.results237 (w.heap.size+2) q9.cells S.out.an ?_
  exact ⟨q9,rfl,HP.out.trans HE.out.symm,S.out.done _⟩
end Go.Proofs.YtkbcplnlehdjfaaGreat
