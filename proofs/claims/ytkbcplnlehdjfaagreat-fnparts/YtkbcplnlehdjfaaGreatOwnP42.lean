/- What the proof leans on, part 42. -/
import Derived.Test.YtkbcplnlehdjfaaGreatOwnP39
set_option maxRecDepth 100000
set_option maxHeartbeats 8000000
open Go renaming heap_alloc_new->Kj,wpAnyH_ready->KW
open Go.AllReadyH renaming cons->KX,nil->KY
open Go.Proofs.Tryz renaming prog->J3,results237->L0
open Go.RowKit.Below renaming refl->Kp
open List renaming getElem_cons_succ->K1,getElem_cons_zero->K0,getElem_toArray->KZ,length_cons->Lg,length_nil->K4,mem_cons->Kt,not_mem_nil->Ku
open Nat renaming le_refl->Ki,zero_add->Li

namespace Go.Proofs.YtkbcplnlehdjfaaGreat
open Go.RowKit Go.Maps
attribute [local go_sem ↓] Go.wp_at_zero Go.wp_at_succ
theorem An {p:aE} {y:dS} (h:aQ p) (hy:y∈p.ai):y.max≤5:=by
 have h1:=(cK h.ai y hy).2;unfold dj at h1;simp only [Bool.and_eq_true] at h1;exact (bz.1 h1.1.1).2
theorem Av (q:af) (n base:Nat) (x:ao) (o:dN) (w:World) (h:ap w base q) (hb:base≤w.heap.size) (hr:aQ q.pure) (hx:q.L8[n]? =some x) (hs:x.Md=1) (hn:q.next≤999999990) (ho:kc o=true) (hk:o.1=13):
  Calls J3 237 #[.agg q.cells,.int .i64 n,.agg (j9 o)] w (jH w base q (ig o x.id q.pure)):=by
 obtain ⟨-,f1,f2,f3,f4⟩:=dv ho;have hM:=bz.1 f2;obtain ⟨k,N,M,s⟩:=o;simp only at hk hM f1 f3 f4;subst hk;have HR:Hid (aQ q.pure∧q.L8[n]? =some x∧x.Md=1∧q.next≤999999990∧(-1≤M∧M≤1000)):=⟨hr,hx,hs,hn,hM⟩
 have HF:=aA (dW hr);clear f2 hr hx hs hn hM ho;have S:=aA (FO.start (o:=(13,N,M,s)) h hb);clear h hb
 go_enter Tryz.func237,Tryz.ntmps237
 go_upto_region 1 with fail;generalize ((w.alloc (.cells q.cells 32)).alloc (.cells (j9 (13,N,M,s)) 134)).alloc (.cells ar 32)=A at *;obtain ⟨-,o1,-,-⟩:=S.I.op.cells;simp only at o1;have hpf:=ef (num:=fun x:aM=>x.id) N q.ai 0;have Mb:=uV q N A (by have:=HF.I; omega) S.I.fr.own.at;generalize place (q.ai.map (fun x=>x.id)) N 0=z at *;go_wp2_with (refine eT 3 S.I.fr.box ?_);refine Mb.mono ?_;clear Mb;rintro e A2 ⟨rfl,hb2⟩;replace S:=aA (S.I.reads hb2);clear hb2 o1;have hfm:=lJ (num:=fun x:dS=>x.id) (je:=fun x:aM=>x.id) (g:=fun x:aM=>x.todS) (fun _=>rfl) (id:=N) q.ai;rcases hpf with ⟨hz,hf⟩ | ⟨m,y,hz,hm,hid,hf⟩
 ·subst hz
  rw [hf] at hfm;have HE:Hid (ig (13,N,M,s) x.id q.pure=bu 3 x.id q.pure):=by show ig (13,N,M,s) x.id q.pure=_; unfold ig; rw [show cg (fun x:dS=>x.id) N q.pure.ai=none from hfm]
  clear hf hfm;go_upto_region 2 with fail;replace S:=aA (S.I.reads (Kp _ _).drew);refine aT (fun w1=>w1=A2.drew) (by kernel_rfl) rfl ?_;generalize A2.drew=B at *
  iterate 3 (refine PI ?_ (hy:=fun w0 hS0=>by subst hS0; go_simp; try with_reducible rfl))
  iterate 10 (refine nl ?_; simp only [pt,sb,s0,s1])
  (refine PI ?_ (hy:=fun w0 hS0=>by subst hS0; go_simp; try with_reducible rfl))
  refine bk (by kernel_rfl) ?_ _;intro w1 cm;rw [cm];clear cm w1;have Mb:=bB (n:=n) 3 S.I.fr.own S.I.low HR.I.1 HR.I.2.1 (by rw [HR.I.2.2.1]; decide);go_wp2_with (refine eT 3 S.I.fr.box ?_);refine Mb.mono ?_;clear Mb;rintro e A2 ⟨q9,rfl,hp,ht⟩;replace S:=aA (S.I.call ht);have HP:Hid (q9.pure=_):=hp;clear hp ht;go_wp2_with (refine ec 6 29 q9.cells S.I.an ?_);refine gZ L0 S.I.an ?_;exact ⟨q9,rfl,HP.I.trans HE.I.symm,S.I.done _⟩
 rw [hf] at hfm;rw [Li] at hz;subst hz;have dz:decide ((m:Int) < 0)=false:=decide_eq_false (by omega);have HM:Hid (q.ai[m]? =some y∧y.id=N∧cg (fun x:dS=>x.id) N q.pure.ai=some y.todS):=⟨hm,hid,hfm⟩
 have hml:=(List.getElem?_eq_some_iff.1 hm).1;have j0:(0:Int)≤(m:Int):=by omega
 have j1:(m:Int) < (q.ai.length:Int):=by omega
 clear hm hid hf hfm hml;go_upto_region 2 with fail;replace S:=aA (S.I.reads (Kp _ _).drew);refine aT (fun w1=>w1=A2.drew) (by kernel_rfl) rfl ?_;generalize A2.drew=B at *;obtain ⟨ga,iE,hat⟩:=lm S.I.fr.own.at.2.2.2.2.2 HM.I.1;have m7:=S.I.fr.box.cells.2.2.2.2.2.2.2;rw [iE] at m7;have d0:=hat.1;have d1:=hat.2.1;have d2:=hat.2.2.1;have d3:=hat.2.2.2.1;have d4:=hat.2.2.2.2;have HG:Hid (q.aK=some ⟨ga,0,none⟩):=iE;clear hat iE;obtain ⟨o0,-,-,-⟩:=S.I.op.cells;simp only at o0
 iterate 14 (refine PI ?_ (hy:=fun w0 hS0=>by subst hS0; go_simp; try with_reducible rfl))
 refine bk (by kernel_rfl) ?_ _;intro w1 cm;rw [cm];clear cm w1 dz;have IB:Hid (bw s=true):=f3;clear f1 f3 f4;have tI:Hid ((∀ u∈y.Ma,bw u=true)∧y.Ma.length≤5∧(y.Ma.length:Int)≤y.max∧1≤y.max):=by
  have h5:=nB (o:=(13,N,M,s)) HR.I.1 HM.I.2.2; have h6:=An HR.I.1 (List.mem_map.2 ⟨y,List.mem_of_getElem? HM.I.1,rfl⟩);have h7:y.todS.Ma=y.Ma:=rfl;have h8:y.todS.max=y.max:=rfl;rw [h7] at h5;rw [h8] at h5 h6;exact ⟨h5.2.2,by omega,h5.2.1,h5.1⟩
 cases hu:y.I
 ·rw [hu] at d1
  have HE:Hid (ig (13,N,M,s) x.id q.pure=bu 3 x.id q.pure):=by show ig (13,N,M,s) x.id q.pure=_; unfold ig; rw [show cg (fun x:dS=>x.id) N q.pure.ai=some y.todS from HM.I.2.2]; exact if_pos hu
  have Mb:=bB (n:=n) 3 S.I.fr.own S.I.low HR.I.1 HR.I.2.1 (by rw [HR.I.2.2.1]; decide);go_wp2_with (refine eT 3 S.I.fr.box ?_);refine Mb.mono ?_;clear Mb;rintro e A2 ⟨q9,rfl,hp,ht⟩;replace S:=aA (S.I.call ht);have HP:Hid (q9.pure=_):=hp;clear hp ht;go_wp2_with (refine ec 6 29 q9.cells S.I.an ?_);refine gZ L0 S.I.an ?_;exact ⟨q9,rfl,HP.I.trans HE.I.symm,S.I.done _⟩
 have HO:Hid (y.I=true):=hu;clear hu;rw [HO.I] at d1;have h5:=(Kp B.heap.size B).alloc (Ki _) (.cells #[.int .i64 y.id,.bool true,.bool y.Mf,.int .i64 y.max,.slice y.ak y.Ma.length y.aq] 61);have BX:Hid ((B.alloc (.cells #[.int .i64 y.id,.bool true,.bool y.Mf,.int .i64 y.max,.slice y.ak y.Ma.length y.aq] 61)).heap[B.heap.size]? =some (.cells #[.int .i64 y.id,.bool true,.bool y.Mf,.int .i64 y.max,.slice y.ak y.Ma.length y.aq] 61 (0,0))∧w.heap.size+3≤B.heap.size):=⟨Kj _ _,S.I.fr.sz.2.1⟩
 replace S:=aA (S.I.reads h5);clear h5;go_upto_region 5 with fail;generalize B.alloc (.cells #[.int .i64 y.id,.bool true,.bool y.Mf,.int .i64 y.max,.slice y.ak y.Ma.length y.aq] 61)=C at *;generalize B.heap.size=X at *;clear m7 d0 d1 d2 d3 d4 o0;obtain ⟨o0,-,-,-⟩:=S.I.op.cells;simp only at o0;have x2:C.cell? ⟨X,2,none⟩=some (.bool y.Mf):=by simp [World.cell?,BX.I.1]
 have x3:C.cell? ⟨X,3,none⟩=some (.int .i64 y.max):=by simp [World.cell?,BX.I.1]
 have x4:C.cell? ⟨X,4,none⟩=some (.slice y.ak y.Ma.length y.aq):=by simp [World.cell?,BX.I.1]
 cases nu:y.Mf
 ·rw [nu] at x2
  have HE:Hid (ig (13,N,M,s) x.id q.pure=bu 0 x.id (gU N [s] q.pure)):=by show ig (13,N,M,s) x.id q.pure=_; unfold ig; rw [show cg (fun x:dS=>x.id) N q.pure.ai=some y.todS from HM.I.2.2]; dsimp only; rw [if_neg (show ¬ y.I=false by rw [HO.I]; decide),if_pos nu]
  clear nu BX;go_upto_region 7 with fail;clear x2 x3 x4 o0;have m7:=S.I.fr.box.cells.2.2.2.2.2.2.2;rw [HG.I] at m7;obtain ⟨-,-,-,o3⟩:=S.I.op.cells;simp only at o3;have b1:Below C.heap.size C (C.alloc (.cells #[.string s] 9)):=(Kp _ _).alloc (Ki _) _;have mP:World.ownsRow (C.alloc (.cells #[.string s] 9)) C.heap.size 9 1 (.slice (some ⟨C.heap.size,0,none⟩) [s].length 1) [s].length (bT.flat [s]):=IN _ _;have m8:World.cell? (C.alloc (.cells #[.string s] 9)) ⟨w.heap.size,7,none⟩=some (.slice (some ⟨ga,0,none⟩) q.ai.length q.aV):=(b1.cell (p:=⟨w.heap.size,7,none⟩) (av.lt S.I.fr.box)).trans m7;obtain ⟨s1,⟨u,c⟩,f⟩:=pg (n:=m) S.I.fr.own (aI.dI b1) HM.I.1 HG.I (cq mP S.I.low) (fun g hg=> .inr (cf mP hg).1);replace S:=aA (S.I.call s1);clear s1 mP;simp only [Lg,K4,Li] at S c f;go_upto_region 8 with fail;generalize World.setCell (C.alloc (.cells #[.string s] 9)) ⟨ga,m * 5+4,none⟩ (.slice (some ⟨C.heap.size,0,none⟩) 1 1)=E at *;clear m7 m8 c f u o3 b1;generalize C.heap.size=gx at *;have CK:Hid (∃ q1:af,q1= { q with ai:=q.ai.set m { y with Ma:= [s],ak:=(some ⟨gx,0,none⟩),aq:=1 } } ∧q1.pure=gU N [s] q.pure∧q1.cells=q.cells∧aQ q1.pure∧q1.L8[n]? =some x):=by
   have hq:({ q with ai:=q.ai.set m { y with Ma:= [s],ak:=(some ⟨gx,0,none⟩),aq:=1 } } :af).pure=gU N [s] q.pure:=sq HR.I.1.ai HM.I.1 HM.I.2.1;have hr2:aQ (gU N [s] q.pure):=by
    refine jj HR.I.1 (fun z hz hk=> ?_) (fun t0 ht=> ?_)
    ·rw [only HR.I.1.ai HM.I.2.2 hz hk]; exact tI.I.2.2.2
    ·simp only [Kt,Ku,or_false] at ht; rw [ht]; exact IB.I
   exact ⟨_,rfl,hq,by unfold af.cells; simp,by rw [hq]; exact hr2,HR.I.2.1⟩
  obtain ⟨q1,hq1,hq⟩:=CK.I;rw [← hq1] at S;have HQ:=aA hq;clear hq1 hq CK;have Mb:=bB (n:=n) 0 S.I.fr.own S.I.low HQ.I.2.2.1 HQ.I.2.2.2 (by rw [HR.I.2.2.1]; decide);rw [HQ.I.1,HQ.I.2.1] at Mb;go_wp2_with (refine eT 3 S.I.fr.box ?_);refine Mb.mono ?_;clear Mb;rintro e A2 ⟨q9,rfl,hp,ht⟩;replace S:=aA (S.I.call ht);have HP:Hid (q9.pure=_):=hp;clear hp ht;go_wp2_with (refine ec 6 51 q9.cells S.I.an ?_);refine gZ L0 S.I.an ?_;exact ⟨q9,rfl,HP.I.trans HE.I.symm,S.I.done _⟩
 rw [nu] at x2;have HU:Hid (ig (13,N,M,s) x.id q.pure=if (y.Ma.length:Int)=y.max then bu 1 x.id q.pure else bu 0 x.id (gU N (y.Ma ++ [s]) q.pure)):=by show ig (13,N,M,s) x.id q.pure=_; unfold ig; rw [show cg (fun x:dS=>x.id) N q.pure.ai=some y.todS from HM.I.2.2]; dsimp only; rw [if_neg (show ¬ y.I=false by rw [HO.I]; decide),if_neg (show ¬ y.Mf=false by rw [nu]; decide)]
 have CK:Hid (y.Mf=true):=nu;clear nu;by_cases hfl:(y.Ma.length:Int)=y.max
 ·have HE:Hid (ig (13,N,M,s) x.id q.pure=bu 1 x.id q.pure):=HU.I.trans (if_pos hfl)
  have e1:((y.Ma.length:Int) == y.max)=true:=by simp [hfl]
  clear hfl;have Mb:=bB (n:=n) 1 S.I.fr.own S.I.low HR.I.1 HR.I.2.1 (by rw [HR.I.2.2.1]; decide);go_wp2_with (refine eT 3 S.I.fr.box ?_);refine Mb.mono ?_;clear Mb;rintro e A2 ⟨q9,rfl,hp,ht⟩;replace S:=aA (S.I.call ht);have HP:Hid (q9.pure=_):=hp;clear hp ht;go_wp2_with (refine ec 6 60 q9.cells S.I.an ?_);refine gZ L0 S.I.an ?_;exact ⟨q9,rfl,HP.I.trans HE.I.symm,S.I.done _⟩
 have HE:Hid (ig (13,N,M,s) x.id q.pure=bu 0 x.id (gU N (y.Ma ++ [s]) q.pure)):=HU.I.trans (if_neg hfl);have e1:((y.Ma.length:Int) == y.max)=false:=by simp [hfl]
 have HN:Hid (¬ (y.Ma.length:Int)=y.max):=hfl;clear hfl HU;go_upto_region 11 with fail;clear e1 x2 x3 x4 o0;replace S:=aA (S.I.reads (Kp _ _).drew);replace BX:Hid (C.drew.heap[X]? =some (.cells #[.int .i64 y.id,.bool true,.bool y.Mf,.int .i64 y.max,.slice y.ak y.Ma.length y.aq] 61 (0,0))∧w.heap.size+3≤X):=BX.I;refine wp_region_held_drew (S:=fun w'=>av w' w.heap.size q∧oo w' (w.heap.size+1) (13,N,M,s)∧w'.heap[X]? =some (.cells #[.int .i64 y.id,.bool true,.bool y.Mf,.int .i64 y.max,.slice y.ak y.Ma.length y.aq] 61 (0,0))) (by kernel_rfl) ⟨S.I.fr.box,S.I.op,BX.I.1⟩ (fun hHeld=> ?_);generalize C.drew=V2 at *;refine tt 0 hHeld ?_ (hy:=fun w0 hS0=>by have q0:=hS0.1.cells.2.2.2.2.2.2.2; rw [HG.I] at q0; have q3:=hS0.2.1.cells.2.2.2; have q4:w0.cell? ⟨X,4,none⟩=some (.slice y.ak y.Ma.length y.aq):=(by simp [World.cell?,hS0.2.2]); try simp only at q3; go_simp; try with_reducible rfl);refine tt 1 hHeld ?_ (hy:=fun w0 hS0=>by have q0:=hS0.1.cells.2.2.2.2.2.2.2; rw [HG.I] at q0; have q3:=hS0.2.1.cells.2.2.2; have q4:w0.cell? ⟨X,4,none⟩=some (.slice y.ak y.Ma.length y.aq):=(by simp [World.cell?,hS0.2.2]); try simp only at q3; go_simp; try with_reducible rfl);refine tt 2 hHeld ?_ (hy:=fun w0 hS0=>by have q0:=hS0.1.cells.2.2.2.2.2.2.2; rw [HG.I] at q0; have q3:=hS0.2.1.cells.2.2.2; have q4:w0.cell? ⟨X,4,none⟩=some (.slice y.ak y.Ma.length y.aq):=(by simp [World.cell?,hS0.2.2]); try simp only at q3; go_simp; try with_reducible rfl);refine tt 4 hHeld ?_ (hy:=fun w0 hS0=>by have q0:=hS0.1.cells.2.2.2.2.2.2.2; rw [HG.I] at q0; have q3:=hS0.2.1.cells.2.2.2; have q4:w0.cell? ⟨X,4,none⟩=some (.slice y.ak y.Ma.length y.aq):=(by simp [World.cell?,hS0.2.2]); try simp only at q3; go_simp; try with_reducible rfl);refine tt 5 hHeld ?_ (hy:=fun w0 hS0=>by have q0:=hS0.1.cells.2.2.2.2.2.2.2; rw [HG.I] at q0; have q3:=hS0.2.1.cells.2.2.2; have q4:w0.cell? ⟨X,4,none⟩=some (.slice y.ak y.Ma.length y.aq):=(by simp [World.cell?,hS0.2.2]); try simp only at q3; go_simp; try with_reducible rfl);refine tt 7 hHeld ?_ (hy:=fun w0 hS0=>by have q0:=hS0.1.cells.2.2.2.2.2.2.2; rw [HG.I] at q0; have q3:=hS0.2.1.cells.2.2.2; have q4:w0.cell? ⟨X,4,none⟩=some (.slice y.ak y.Ma.length y.aq):=(by simp [World.cell?,hS0.2.2]); try simp only at q3; go_simp; try with_reducible rfl);refine tt 8 hHeld ?_ (hy:=fun w0 hS0=>by have q0:=hS0.1.cells.2.2.2.2.2.2.2; rw [HG.I] at q0; have q3:=hS0.2.1.cells.2.2.2; have q4:w0.cell? ⟨X,4,none⟩=some (.slice y.ak y.Ma.length y.aq):=(by simp [World.cell?,hS0.2.2]); try simp only at q3; go_simp; try with_reducible rfl);clear hHeld;have hbz:w.heap.size+3≤V2.heap.size:=S.I.fr.sz.2.1;have lW:=(Array.getElem?_eq_some_iff.1 BX.I.1).1;have hS: ∀ W,Below V2.heap.size V2 W→av W w.heap.size q∧oo W (w.heap.size+1) (13,N,M,s)∧W.heap[X]? =some (.cells #[.int .i64 y.id,.bool true,.bool y.Mf,.int .i64 y.max,.slice y.ak y.Ma.length y.aq] 61 (0,0)):=fun W hb=>⟨S.I.fr.box.below hb,(hb.block _ (by omega)).trans S.I.op,(hb.block _ lW).trans BX.I.1⟩
 have hil:y.Ma.length≤5:=tI.I.2.1;have wg:Hid (∀ (W:World) (g:Nat),Below V2.heap.size V2 W→W.heap[g]? =some (.cells #[] 9 (0,0))→V2.heap.size≤g→ ∃ a5 c5 w5,(Builtin.append_ #[59,59] 59 #[.slice (some ⟨g,0,none⟩) 0 0,.slice y.ak y.Ma.length y.aq]).run J3 W= .ok (.slice a5 y.Ma.length c5) w5∧w5.ownsRow V2.heap.size 9 1 (.slice a5 y.Ma.length c5) y.Ma.length (bT.flat y.Ma)∧Below V2.heap.size V2 w5∧ ∀ h,V2.heap.size≤h→h≠g→h < W.heap.size→w5.heap[h]? =W.heap[h]?):=fun W g hb hg hge=>by
  obtain ⟨a5,c5,w5,hap,oe,A7,-⟩:=tO W V2.heap.size g hg hge y.ak y.Ma y.aq (nJ (S.I.fr.own.below hb).at.2.2.2.2.2 HM.I.1) (by omega) hb.size;exact ⟨a5,c5,w5,hap,oe,hb.grown A7 hb.size fun c e=>by cases e; exact hge,fun h _ hn hl=>A7.block h hl (fun e=>hn (by cases e; rfl))⟩
 have bA: ∀ (W:World) (c:Obj),Below V2.heap.size V2 W→Below V2.heap.size V2 (W.alloc c):=fun W c hb=>hb.alloc hb.size _
 refine KW (rs:= [3,9]) (by kernel_rfl) (by simp) ?_;refine KX rfl (fun K hK=> ?_) (KX rfl (fun K hK=> ?_) KY)
 focus
  have b1:Below V2.heap.size V2 (V2.alloc (.cells #[] 9)):=bA _ _ (Kp _ _);simp only [KZ,K0,K1];rw [if_pos (by rfl)];go_wp2_with fail;refine hK.out _ _ (hS _ b1) (fun hHeld=> ?_);clear hK K hHeld
  try simp only [pt,sb,s0,s1]
  have b7:Below V2.heap.size V2 ((V2.alloc (.cells #[] 9)).alloc (.cells #[.string s] 9)):=bA _ _ b1;refine KW (rs:= [6,9]) (by kernel_rfl) (by simp) ?_;refine KX rfl (fun K hK=> ?_) (KX rfl (fun K hK=> ?_) KY)
  focus
   clear b7;obtain ⟨a5,c5,w5,hap,oe,iJ,-⟩:=wg.I _ _ b1 (Kj _ _) (Ki _);simp only [KZ,K0,K1];rw [if_pos (by rfl)];refine cM _ _ _ rfl _ _ _ w5 rfl rfl hap ?_;refine hK.out _ _ (hS _ iJ) (fun hHeld=> ?_);clear hK K hHeld
   try simp only [pt,sb,s0,s1]
   refine L7 9 (fun K hK=> ?_);go_wp2_with fail;refine hK.out _ _ (hS _ (bA _ _ iJ)) (fun hHeld=> ?_);clear hK K hHeld
   try simp only [pt,sb,s0,s1]
   have qJ:Hid ((w5.alloc (.cells #[.string s] 9)).ownsRow V2.heap.size 9 1 (.slice a5 y.Ma.length c5) y.Ma.length (bT.flat y.Ma)∧(w5.alloc (.cells #[.string s] 9)).heap[w5.heap.size]? =some (.cells #[.string s] 9 (0,0))∧Below V2.heap.size V2 (w5.alloc (.cells #[.string s] 9))):=⟨cR oe ((Kp _ _).alloc (Ki _) _),Kj _ _,bA _ _ iJ⟩
   clear hap oe iJ b1 bA hS;generalize w5.alloc (.cells #[.string s] 9)=w6 at *;generalize w5.heap.size=gx at *
  rotate_left
  focus
   obtain ⟨a5,c5,w6,om,qH,jQ,zU⟩:=wg.I _ _ b7 ((PU (by simp)).trans (Kj _ _)) (Ki _);simp only [KZ,K0,K1];rw [if_pos (by rfl)];go_wp2_with fail;refine hK.out _ _ (hS _ b7) (fun hHeld=> ?_);clear hK K hHeld
   try simp only [pt,sb,s0,s1]
   refine L7 6 (fun K hK=> ?_);refine cM _ _ _ rfl _ _ _ w6 rfl rfl om ?_;refine hK.out _ _ (hS _ jQ) (fun hHeld=> ?_);clear hK K hHeld
   try simp only [pt,sb,s0,s1]
   have qJ:Hid (w6.ownsRow V2.heap.size 9 1 (.slice a5 y.Ma.length c5) y.Ma.length (bT.flat y.Ma)∧w6.heap[(V2.heap.size+1)]? =some (.cells #[.string s] 9 (0,0))∧Below V2.heap.size V2 w6):=⟨qH,(zU _ (by omega) (by omega) (by simp <;> omega)).trans (by have h5:=Kj (V2.alloc (.cells #[] 9)) (.cells #[.string s] 9); simpa using h5),jQ⟩
   clear om qH jQ zU b1 b7 bA hS
 rotate_left 2
 focus
  have b7:Below V2.heap.size V2 (V2.alloc (.cells #[.string s] 9)):=bA _ _ (Kp _ _);simp only [KZ,K0,K1];rw [if_pos (by rfl)];go_wp2_with fail;refine hK.out _ _ (hS _ b7) (fun hHeld=> ?_);clear hK K hHeld
  try simp only [pt,sb,s0,s1]
  have b1:Below V2.heap.size V2 ((V2.alloc (.cells #[.string s] 9)).alloc (.cells #[] 9)):=bA _ _ b7;refine L7 3 (fun K hK=> ?_);go_wp2_with fail;refine hK.out _ _ (hS _ b1) (fun hHeld=> ?_);clear hK K hHeld
  try simp only [pt,sb,s0,s1]
  obtain ⟨a5,c5,w6,om,qH,jQ,zU⟩:=wg.I ((V2.alloc (.cells #[.string s] 9)).alloc (.cells #[] 9)) (V2.heap.size+1) b1 (heap_alloc2_new _ _ _) (by omega);refine L7 6 (fun K hK=> ?_);refine cM _ _ _ rfl _ _ _ w6 rfl rfl om ?_;refine hK.out _ _ (hS _ jQ) (fun hHeld=> ?_);clear hK K hHeld
  try simp only [pt,sb,s0,s1]
  have qJ:Hid (w6.ownsRow V2.heap.size 9 1 (.slice a5 y.Ma.length c5) y.Ma.length (bT.flat y.Ma)∧w6.heap[V2.heap.size]? =some (.cells #[.string s] 9 (0,0))∧Below V2.heap.size V2 w6):=⟨qH,(zU _ (by omega) (by omega) (by simp <;> omega)).trans ((PU (by simp)).trans (Kj _ _)),jQ⟩
  clear om qH jQ zU b1 b7 bA hS
 all_goals
  obtain ⟨a7,c7,w7,gT,mP,xI,-⟩:=ou w6 V2.heap.size a5 c5 y.Ma qJ.I.1 _ [s] 1 (jO qJ.I.2.1) (by simp only [Lg,K4]; omega) qJ.I.2.2.size;have mI:(y.Ma ++ [s]).length=y.Ma.length+1:=by rw [List.length_append]; rfl
  simp only [Lg,K4,Li] at gT mP;have gh:Below V2.heap.size V2 w7:=qJ.I.2.2.grown xI qJ.I.2.2.size fun c e=>(cf qJ.I.1 (di e)).1
  rw [← mI] at gT mP;obtain ⟨s1,⟨u,c⟩,f⟩:=pg (n:=m) S.I.fr.own (aI.dI gh) HM.I.1 HG.I (cq mP S.I.low) (fun g hg=> .inr (cf mP hg).1);rw [mI] at gT s1;refine L7 10 (fun K hK=> ?_);refine cM _ _ _ rfl _ _ _ w7 rfl rfl gT ?_;refine hK.out _ _ ⟨S.I.fr.box.below gh,(gh.block _ (by omega)).trans S.I.op,(gh.block _ lW).trans BX.I.1⟩ (fun hHeld=> ?_);clear hK K hHeld
  try simp only [pt,sb]
  have wj:av w7 w.heap.size q∧oo w7 (w.heap.size+1) (13,N,M,s)∧w7.heap[X]? =some (.cells #[.int .i64 y.id,.bool true,.bool y.Mf,.int .i64 y.max,.slice y.ak y.Ma.length y.aq] 61 (0,0)):=⟨S.I.fr.box.below gh,(gh.block _ (by omega)).trans S.I.op,(gh.block _ lW).trans BX.I.1⟩
  replace S:=aA (S.I.call s1);clear gT mP xI gh qJ wg s1;refine tt 11 wj ?_ (hy:=fun w0 hS0=>by have q0:=hS0.1.cells.2.2.2.2.2.2.2; rw [HG.I] at q0; have q3:=hS0.2.1.cells.2.2.2; have q4:w0.cell? ⟨X,4,none⟩=some (.slice y.ak y.Ma.length y.aq):=(by simp [World.cell?,hS0.2.2]); try simp only at q3; go_simp; try with_reducible rfl);refine tt 12 wj ?_ (hy:=fun w0 hS0=>by have q0:=hS0.1.cells.2.2.2.2.2.2.2; rw [HG.I] at q0; have q3:=hS0.2.1.cells.2.2.2; have q4:w0.cell? ⟨X,4,none⟩=some (.slice y.ak y.Ma.length y.aq):=(by simp [World.cell?,hS0.2.2]); try simp only at q3; go_simp; try with_reducible rfl);refine KW (rs:= [13]) (by kernel_rfl) (by simp) ?_;refine KX rfl (fun K hK=> ?_) KY;have uQ:(w7.setCell ⟨ga,m * 5+4,none⟩ (.slice a7 (y.Ma.length+1) c7)).heap[X]? =some (.cells #[.int .i64 y.id,.bool true,.bool y.Mf,.int .i64 y.max,.slice y.ak y.Ma.length y.aq] 61 (0,0)):=(aH (fun e=> ?_)).trans wj.2.2;rotate_left
  ·have h5:=(S.I.fr.lo ga (gD (.inr <| .inr <| .inr <| .inr <| .inr <| (by rw [HG.I]; simp [blk])))).2; have:=BX.I.2; omega
  simp only [KZ,K0,K1];rw [if_pos (by rfl)];go_wp2_with fail;refine hK.out _ _ ⟨S.I.fr.box,S.I.op,uQ⟩ (fun hHeld=> ?_);clear hK K hHeld;refine wpAnyH_done (by kernel_rfl) ?_ _;clear c f u wj uQ lW hbz;go_upto_region 12 with fail;generalize w7.setCell ⟨ga,m * 5+4,none⟩ (.slice a7 (y.Ma.length+1) c7)=C at *;have CK:Hid (∃ q1:af,q1= { q with ai:=q.ai.set m { y with Ma:=(y.Ma ++ [s]),ak:=a7,aq:=c7 } } ∧q1.pure=gU N (y.Ma ++ [s]) q.pure∧q1.cells=q.cells∧aQ q1.pure∧q1.L8[n]? =some x):=by
   have hq:({ q with ai:=q.ai.set m { y with Ma:=(y.Ma ++ [s]),ak:=a7,aq:=c7 } } :af).pure=gU N (y.Ma ++ [s]) q.pure:=sq HR.I.1.ai HM.I.1 HM.I.2.1;have hr2:aQ (gU N (y.Ma ++ [s]) q.pure):=by
    refine jj HR.I.1 (fun z hz hk=> ?_) (fun t0 ht=> ?_)
    ·rw [only HR.I.1.ai HM.I.2.2 hz hk,mI]; have:=HN.I; have h7:=tI.I.2.2.1; have h8:y.todS.max=y.max:=rfl; push_cast; omega
    ·exact (List.mem_append.1 ht).elim (fun ht=>tI.I.1 t0 ht) (fun ht=>by simp only [Kt,Ku,or_false] at ht; rw [ht]; exact IB.I)
   exact ⟨_,rfl,hq,by unfold af.cells; simp,by rw [hq]; exact hr2,HR.I.2.1⟩
  obtain ⟨q1,hq1,hq⟩:=CK.I;rw [← hq1] at S;have HQ:=aA hq;clear hq1 hq CK;have Mb:=bB (n:=n) 0 S.I.fr.own S.I.low HQ.I.2.2.1 HQ.I.2.2.2 (by rw [HR.I.2.2.1]; decide);rw [HQ.I.1,HQ.I.2.1] at Mb;go_wp2_with (refine eT 3 S.I.fr.box ?_);refine Mb.mono ?_;clear Mb;rintro e A2 ⟨q9,rfl,hp,ht⟩;replace S:=aA (S.I.call ht);have HP:Hid (q9.pure=_):=hp;clear hp ht;go_wp2_with (refine ec 6 76 q9.cells S.I.an ?_);refine gZ L0 S.I.an ?_;exact ⟨q9,rfl,HP.I.trans HE.I.symm,S.I.done _⟩
end Go.Proofs.YtkbcplnlehdjfaaGreat
