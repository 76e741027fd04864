/- What the proof leans on, part 12. -/
import Derived.Test.YtnlbiglljiopmaaGreatDoorOwnT11
import Derived.Stop.Asserts
set_option linter.unusedVariables false
set_option maxRecDepth 100000
set_option maxHeartbeats 8000000
open Go.Proofs.Tryz
open Go renaming World->w_,Value->v_,Calls->k_,Addr->d_,TypeId->T_,below_setRow->q_
open Go.Ending renaming returned->r_
open Go.IntKind renaming i64->j_
open Go.Obj renaming cells->c_
open Go.RowKit renaming Below->B_
open Go.Value renaming int->i_,slice->s_,bool->b_,string->t_,agg->a_,pointer->p_,tuple->u_
open Option renaming some->o_,none->n_
open Array renaming getElem?_eq_some_iff->J2
open Bool renaming and_eq_true->J7,and_false->PP
open Go renaming block_lt_of_cell->Le,frozen_of_row->Ko,heap_alloc_new->Kj,setRow_heap->KU,setRow_other->KH,wpAnyH_done->K3,wpList_load_row->LS,wp_at_succ->Kd,wp_at_zero->Kc,wp_region_held_drew->Kr
open Go.IntKind renaming wrap_i64->K8
open Go.Proofs.Tryz renaming prog->J3
open Go.RowKit.Below renaming refl->Kp
open Go.World renaming cell?_of_block->J1
open List renaming getElem?_eq_getElem->Kz,getElem?_eq_some_iff->Lj,length_cons->Lg,length_drop->Ql,length_filter_le->Qq,length_nil->K4,mem_append->Kg,mem_cons->Kt,mem_cons_of_mem->LB,mem_filter->L2,mem_filterMap->Lq,mem_map->Lr,mem_of_getElem?->KA,mem_singleton->KB,not_mem_nil->Ku,take_length->LQ
open Nat renaming le_refl->Ki,le_trans->LG,lt_of_lt_of_le->Kn,zero_add->Li
open Option renaming map_eq_some_iff->Kw,map_some->J9

namespace Go.Proofs.YtnlbiglljiopmaaGreatDoor
section
open Go.RowKit Go.Maps
structure Mov (o base:Nat) (S:aZ) (w:w_) (S':aZ) (w':w_):Prop where
 at':cJ w' base o S'
 kept:aI w w' (S.al o)
 new: ∀ b∈S'.al o,b < w.heap.size→b∈S.al o
def afU (g:Nat) (S S':aZ):Prop:= ∀ x,(x,g)∈S.lp→ ∃ x',(x',g)∈S'.lp∧x'.id=x.id∧x'.pc=x.pc∧x'.prog=x.prog∧x'.Md=x.Md
section
variable {o base g d:Nat} {S S1 S2:aZ} {w w1 w2:w_}
theorem afU.refl:afU g S S:=fun x hx=>⟨x,hx,rfl,rfl,rfl,rfl⟩
theorem afU.of (h:S1.lp=S.lp):afU g S S1:=fun x hx=>⟨x,by rw [h]; exact hx,rfl,rfl,rfl,rfl⟩
theorem afU.trans (h:afU g S S1) (h2:afU g S1 S2):afU g S S2:=fun x hx=>by
 obtain ⟨y,hy,a1,a2,a3,a4⟩:=h x hx;obtain ⟨z,hz,b1,b2,b3,b4⟩:=h2 y hy;exact ⟨z,hz,b1.trans a1,b2.trans a2,b3.trans a3,b4.trans a4⟩
theorem Mov.refl (h:cJ w base o S):Mov o base S w S w:=⟨h,aI.refl _ _,fun _ hb _=>hb⟩
theorem Mov.below (h:cJ w base o S) (hb:B_ w.heap.size w w1):Mov o base S w S w1:=⟨h.below hb,aI.dI hb,fun _ hb _=>hb⟩
theorem Mov.trans (h:Mov o base S w S1 w1) (h2:Mov o base S1 w1 S2 w2):Mov o base S w S2 w2:=
 ⟨h2.at',⟨h2.kept.os.trans h.kept.os,h2.kept.tape.trans h.kept.tape,h2.kept.output.trans h.kept.output,LG h.kept.size h2.kept.size,fun b hb hn=>(h2.kept.same b (Kn hb h.kept.size) fun hm=>hn (h.new b hm hb)).trans (h.kept.same b hb hn)⟩,fun b hb hl=>h.new b (h2.new b hb (Kn hl h.kept.size)) hl⟩
theorem cJ.lows (h:cJ w base o S): ∀ c∈S.al o,base≤c:=fun c hc=>by
 simp only [aZ.al,aZ.boxes,aZ.kids,Kt,Kg] at hc;rcases hc with rfl | ((hc | hc | hc | hc | hc | hc) | hc | hc | hc)
 ·exact h.low
 ·exact h.L8.low c (Kt.2 hc)
 ·exact h.aj.low c (Kt.2 hc)
 ·exact h.L9.low c (Kt.2 hc)
 ·exact h.ag.low c (Kt.2 hc)
 ·exact h.ae.low c (Kt.2 hc)
 ·exact h.ai.low c (Kt.2 hc)
 ·obtain ⟨r,hr,hk⟩:=Lq.1 hc
  exact ((h.eI r hr).lt hk).1
 ·obtain ⟨r,hr,hk⟩:=Lq.1 hc
  exact ((h.eE r hr).lt hk).1
 ·obtain ⟨r,hr,hk⟩:=Lq.1 hc
  exact ((h.eR r hr).lt hk).1
theorem Mov.cd (h:Mov o base S w S1 w1) (h0:cJ w base o S) (hb:base≤w.heap.size):B_ base w w1:=h.kept.below hb h0.lows
def dgV (o g:Nat) (op:dN) (now:Int):Array v_:= #[dt o,dt g,i_ j_ op.1,i_ j_ op.2.1,i_ j_ op.2.2.1,t_ op.2.2.2,i_ j_ now]
structure afb (w:w_) (base o d g:Nat) (S:aZ) (op:dN) (now:Int):Prop where
 at':cJ w base o S
 box:w.heap[d]? =o_ (c_ (dgV o g op now) 167)
 I:d∉S.al o
 low:base≤w.heap.size
theorem afb.move {op:dN} {now:Int} (h:afb w base o d g S op now) (hm:Mov o base S w S1 w1):afb w1 base o d g S1 op now:=by
 have hl:=(J2.1 h.box).1;exact ⟨hm.at',(hm.kept.same d hl h.I).trans h.box,fun hd=>h.I (hm.new d hd hl),LG h.low hm.kept.size⟩
theorem agb {op:dN} {now:Int} (h:w.heap[d]? =o_ (c_ (dgV o g op now) 167)):w.cell? ⟨d,0,n_⟩=o_ (p_ (o_ ⟨o,0,n_⟩))∧w.cell? ⟨d,1,n_⟩=o_ (p_ (o_ ⟨g,0,n_⟩))∧w.cell? ⟨d,2,n_⟩=o_ (i_ j_ op.1)∧w.cell? ⟨d,3,n_⟩=o_ (i_ j_ op.2.1)∧w.cell? ⟨d,4,n_⟩=o_ (i_ j_ op.2.2.1)∧w.cell? ⟨d,5,n_⟩=o_ (t_ op.2.2.2)∧w.cell? ⟨d,6,n_⟩=o_ (i_ j_ now):=by
 simp [World.cell?,h,dgV,dt]
theorem ahk {f:ao→ao} {nx:Int} (hf: ∀ x,(f x).aY=x.aY):(S.ju g f nx).al o=S.al o:=by
 have e1:(S.ju g f nx).boxes=S.boxes:=by simp only [aZ.boxes,aZ.ju,qb]
 have e2:(S.ju g f nx).kids=S.kids:=by simp only [aZ.kids,aZ.ju,GW (f:=f) fun x=>(by show (f x).aY.map (·.block)=x.aY.map (·.block); rw [hf x])]
 unfold aZ.al;rw [e1,e2]
theorem Mov.ju {f:ao→ao} {nx:Int} {x:ao} (h:cJ w base o S) (hf: ∀ x,(f x).id=x.id∧(f x).prog=x.prog∧(f x).aY=x.aY∧(f x).bH=x.bH) (hx:(x,g)∈S.lp) (hc:w1.heap[g]? =o_ (c_ (aX (f x)) 100)) (ho:fa w1 o { S.q with next:=nx }) (hk:aI w w1 [g,o]):Mov o base S w (S.ju g f nx) w1:=by
 have bR:g∈S.lp.map (·.2):=Lr.2 ⟨_,hx,rfl⟩;refine ⟨h.SA hf (fun p hp e=> ?_) bR ho fun b hb h5 h6=>hk.same b (h.lt b (LB _ hb)) (by simp [h5,h6]),hk.mono fun b hb=> ?_,fun b hb _=> ?_⟩
 ·have e5:=h.L8.one hp hx e
  subst e5;exact hc
 ·simp only [Kt,Ku,or_false] at hb
  rcases hb with rfl | rfl
  ·exact aZ.agr (aZ.ago (LB _ bR))
  ·simp [aZ.al]
 ·rw [ahk fun x=>(hf x).2.2.1] at hb
  exact hb
theorem afU.ju {f:ao→ao} {nx:Int} {g2:Nat} (hf:g2=g→ ∀ x,(f x).id=x.id∧(f x).pc=x.pc∧(f x).prog=x.prog∧(f x).Md=x.Md):afU g S (S.ju g2 f nx):=fun x hx=>by
 by_cases e:g2=g
 ·subst e
  exact ⟨f x,yy.2 ⟨(x,g2),hx,by simp⟩,hf rfl x⟩
 ·exact ⟨x,yy.2 ⟨(x,g),hx,by rw [if_neg fun e2:g=g2=>e e2.symm]⟩,rfl,rfl,rfl,rfl⟩
end
end
section
open Go.RowKit Go.Maps
attribute [local go_sem ↓] Kc Kd
theorem BS (q:af) (n base:Nat) (x:ao) (o:dN) (w:w_) (h:ap w base q) (hb:base≤w.heap.size) (hr:aQ q.pure) (hx:q.L8[n]? =o_ x) (hs:x.Md=1) (hn:q.next≤999999990) (ho:kc o=true) (hk:o.1=14):
  k_ J3 108 #[a_ q.cells,i_ j_ n,a_ (j9 o)] w (jH w base q (gC o x.id q.pure)):=by
 obtain ⟨-,f1,f2,f3,f4⟩:=dv ho;have hM:=bz.1 f2;obtain ⟨k,N,M,s⟩:=o;simp only at hk hM f1 f3 f4;subst hk;have HR:Hid (aQ q.pure∧q.L8[n]? =o_ x∧x.Md=1∧q.next≤999999990∧(-1≤M∧M≤1000)):=⟨hr,hx,hs,hn,hM⟩
 have HF:=aA (dW hr);clear f2 hr hx hs hn hM ho;have S:=aA (Xf.start (o:=(14,N,M,s)) h hb);clear h hb
 go_enter func108,ntmps108
 go_upto_region 1 with fail;generalize ((w.alloc (c_ q.cells 38)).alloc (c_ (j9 (14,N,M,s)) 165)).alloc (c_ ar 38)=A at *;obtain ⟨-,o1,-,-⟩:=S.I.op.cells;simp only at o1;have hpf:=ef (num:=fun x:aM=>x.id) N q.ai 0;have Mb:=uV q N A ZcY S.I.fr.own.at;generalize place (q.ai.map (fun x=>x.id)) N 0=z at *;go_wp2_with (refine eT 3 S.I.fr.box ?_);refine Mb.mono ?_;clear Mb;rintro e A2 ⟨rfl,hb2⟩;replace S:=aA (S.I.reads hb2);clear hb2 o1;have hfm:=lJ (num:=fun x:dS=>x.id) (je:=fun x:aM=>x.id) (g:=fun x:aM=>x.todS) (fun _=>rfl) (id:=N) q.ai;rcases hpf with ⟨hz,hf⟩ | ⟨m,y,hz,hm,hid,hf⟩
 ·subst hz
  rw [hf] at hfm;have HE:Hid (gC (14,N,M,s) x.id q.pure=bu 3 x.id q.pure):=by show gC (14,N,M,s) x.id q.pure=_; unfold gC; rw [show cg (fun x:dS=>x.id) N q.pure.ai=n_ from hfm]
  exact Zco
 rw [hf] at hfm;rw [Li] at hz;subst hz;have afO:decide ((m:Int) < 0)=false:=decide_eq_false (by omega);have HM:Hid (q.ai[m]? =o_ y∧y.id=N∧cg (fun x:dS=>x.id) N q.pure.ai=o_ y.todS):=⟨hm,hid,hfm⟩
 have hml:=(Lj.1 hm).1;have j0:(0:Int)≤(m:Int):=by omega
 have j1:(m:Int) < (q.ai.length:Int):=by omega
 clear hm hid hf hfm hml;go_upto_region 2 with fail;replace S:=aA (S.I.reads (Kp _ _).drew);refine aT (fun w1=>w1=A2.drew) ZcR rfl ?_;generalize A2.drew=B at *;obtain ⟨Y5,iE,hat⟩:=lm S.I.fr.own.at.2.2.2.2.2 HM.I.1;have m7:=S.I.fr.box.cells.2.2.2.2.2.2.2;rw [iE] at m7;have d0:=hat.1;have d1:=hat.2.1;have d2:=hat.2.2.1;have d3:=hat.2.2.2.1;have d4:=hat.2.2.2.2;have HG:Hid (q.aK=o_ ⟨Y5,0,n_⟩):=iE;clear hat iE;obtain ⟨o0,-,-,-⟩:=S.I.op.cells;simp only at o0
 iterate 14 (refine agj ?_)
 refine bk ZcR ?_ _;intro w1 cm;rw [cm];clear cm w1 afO;clear f1 f3 f4;have tI:Hid ((∀ u∈y.Ma,bw u=true)∧y.Ma.length≤5∧(y.Ma.length:Int)≤y.max∧1≤y.max):=by
  have h5:=nB (o:=(14,N,M,s)) HR.I.1 HM.I.2.2; have h6:=An HR.I.1 (Lr.2 ⟨y,KA HM.I.1,rfl⟩);exact Zbo
 cases hu:y.I;rotate_left
 ·rw [hu] at d1
  have HE:Hid (gC (14,N,M,s) x.id q.pure=bu 3 x.id q.pure):=by show gC (14,N,M,s) x.id q.pure=_; unfold gC; rw [show cg (fun x:dS=>x.id) N q.pure.ai=o_ y.todS from HM.I.2.2]; exact if_pos hu
  exact mt
 have HO:Hid (y.I=false):=hu;clear hu;rw [HO.I] at d1;have h5:=(Kp B.heap.size B).alloc (Ki _) (c_ #[i_ j_ y.id,b_ false,b_ y.Mf,i_ j_ y.max,s_ y.ak y.Ma.length y.aq] 116);have afa:Hid ((B.alloc (c_ #[i_ j_ y.id,b_ false,b_ y.Mf,i_ j_ y.max,s_ y.ak y.Ma.length y.aq] 116)).heap[B.heap.size]? =o_ (c_ #[i_ j_ y.id,b_ false,b_ y.Mf,i_ j_ y.max,s_ y.ak y.Ma.length y.aq] 116)∧w.heap.size+3≤B.heap.size):=⟨Kj _ _,S.I.fr.sz.2.1⟩
 replace S:=aA (S.I.reads h5);clear h5;go_upto_region 5 with fail;generalize B.alloc (c_ #[i_ j_ y.id,b_ false,b_ y.Mf,i_ j_ y.max,s_ y.ak y.Ma.length y.aq] 116)=C at *;generalize B.heap.size=X at *;clear m7 d0 d1 d2 d3 d4 o0;obtain ⟨o0,-,-,-⟩:=S.I.op.cells;simp only at o0;go_upto_region 13 with fail;clear o0;obtain ⟨gp,l9,-⟩:=cn S.I.fr.own.at.1 HR.I.2.1;have m2:=S.I.fr.box.cells.2.2.1;have k1:(n:Int) < (q.L8.length:Int):=by have:=(Lj.1 HR.I.2.1).1; omega
 have k0:(0:Int)≤(n:Int):=by omega
 rw [l9] at m2;have ud:Hid (q.aN=o_ ⟨gp,0,n_⟩):=l9;clear l9;obtain ⟨s1,⟨u,c⟩,f⟩:=eY (n:=n) (j:=9) (v:=t_ ⟨#[]⟩) (y:= { x with got:=rM }) S.I.fr.own HR.I.2.1 ud.I ⟨rfl,rfl,rfl⟩ (by decide) rfl;have lW:(C.setCell ⟨gp,n * 12+9,n_⟩ (t_ ⟨#[]⟩)).heap[X]? =o_ (c_ #[i_ j_ y.id,b_ false,b_ y.Mf,i_ j_ y.max,s_ y.ak y.Ma.length y.aq] 116):=(aH (fun e=>by have h5:=(S.I.fr.lo gp (gD (.inl (by rw [ud.I]; simp [blk])))).2; have:=afa.I.2; omega)).trans afa.I.1;replace S:=aA (S.I.call s1);replace afa:=aA (And.intro lW afa.I.2);clear s1 lW;go_upto_region 14 with fail;generalize C.setCell ⟨gp,n * 12+9,n_⟩ (t_ ⟨#[]⟩)=D at *;clear m2 c f u;have x4:D.cell? ⟨X,4,n_⟩=o_ (s_ y.ak y.Ma.length y.aq):=by simp [World.cell?,afa.I.1]
 cases hit:y.Ma with
 | nil=>
  rw [hit] at x4;have HE:Hid (gC (14,N,M,s) x.id q.pure=bu 1 x.id (ez rM x.id q.pure)):=by show gC (14,N,M,s) x.id q.pure=_; unfold gC; rw [show cg (fun x:dS=>x.id) N q.pure.ai=o_ y.todS from HM.I.2.2]; dsimp only; rw [if_neg (show ¬ y.I=true by rw [HO.I]; decide),show y.todS.Ma= [] from hit]
  clear afa hit;obtain ⟨q1,hq1,hq⟩:=kg HR.I.1 HR.I.2.1 jX;rw [← hq1] at S;have HQ:=aA hq;clear hq1 hq;have Mb:=bB (n:=n) 1 S.I.fr.own S.I.low HQ.I.2.2.1 HQ.I.2.2.2 Zc2;rw [HQ.I.1,HQ.I.2.1] at Mb;go_wp2_with (refine eT 3 S.I.fr.box ?_);refine Mb.mono ?_;clear Mb;rintro e A2 ⟨q9,rfl,hp,ht⟩;replace S:=aA (S.I.call ht);have HP:Hid (q9.pure=_):=hp;clear hp ht;go_wp2_with (refine ec 6 88 q9.cells S.I.an ?_);exact y_
 | cons t0 r=>
  have jA:Hid (y.Ma=t0 :: r∧bw t0=true∧ ∀ u∈r,bw u=true):=⟨hit,tI.I.1 t0 (by rw [hit]; simp),fun u hu=>tI.I.1 u (by rw [hit]; simp [hu])⟩
  have il:(0:Int) < (y.Ma.length:Int):=by rw [hit]; simp
  have il3:0 < y.Ma.length:=by rw [hit]; simp
  have il4: ¬ y.Ma.length=0:=by omega
  have il2:((y.Ma.length:Int) == 0)=false:=by rw [hit]; simp; omega
  have HU:Hid (gC (14,N,M,s) x.id q.pure=bu 0 x.id (if y.Mf then gU N r (ez t0 x.id q.pure) else ez t0 x.id q.pure)):=by show gC (14,N,M,s) x.id q.pure=_; unfold gC; rw [show cg (fun x:dS=>x.id) N q.pure.ai=o_ y.todS from HM.I.2.2]; dsimp only; rw [if_neg (show ¬ y.I=true by rw [HO.I]; decide),show y.todS.Ma=t0 :: r from hit]
  clear hit;go_upto_region 16 with fail;clear x4 il2;replace afa:Hid (D.drew.heap[X]? =o_ (c_ #[i_ j_ y.id,b_ false,b_ y.Mf,i_ j_ y.max,s_ y.ak y.Ma.length y.aq] 116)∧w.heap.size+3≤X):=afa.I;replace S:=aA (S.I.reads (Kp _ _).drew);refine eD (fun w1=>w1=D.drew) 9 ZcR rfl ?_;generalize D.drew=E at *;have x4:E.cell? ⟨X,4,n_⟩=o_ (s_ y.ak y.Ma.length y.aq):=by simp [World.cell?,afa.I.1]
  obtain ⟨abo,hgi,x5⟩:=zl (nJ S.I.fr.own.at.2.2.2.2.2 HM.I.1) (show y.Ma[0]? =o_ t0 by rw [jA.I.1]; rfl);rw [hgi] at x4;have m2:=S.I.fr.box.cells.2.2.1;rw [ud.I] at m2;obtain ⟨s1,⟨u,c⟩,f⟩:=eY (n:=n) (j:=9) (v:=t_ t0) (x:= { x with got:=rM }) (y:= { x with got:=t0 }) S.I.fr.own (by show (q.L8.set n _)[n]? =_; rw [List.getElem?_set_self (Lj.1 HR.I.2.1).1]) ud.I ⟨rfl,rfl,rfl⟩ (by decide) rfl;have lW:(E.setCell ⟨gp,n * 12+9,n_⟩ (t_ t0)).heap[X]? =o_ (c_ #[i_ j_ y.id,b_ false,b_ y.Mf,i_ j_ y.max,s_ y.ak y.Ma.length y.aq] 116):=(aH (fun e=>by have h5:=(S.I.fr.lo gp (gD (.inl (by rw [ud.I]; simp [blk])))).2; have:=afa.I.2; omega)).trans afa.I.1;replace S:=aA (S.I.call s1);replace afa:=aA (And.intro lW afa.I.2);clear s1 lW hgi;simp only [List.set_set] at S
  iterate 9 (refine ly 10 (v:= ?_) (o_ _) rfl rfl ZcR (fun _ _ _ h=>h) (bV ZcR ?_) ?_; rotate_left; (intro w0 hS0; subst hS0; go_simp; try with_reducible rfl); simp only [pt,sb,s0,s1])
  refine fL rfl ZcR ZcR ZcR ?_;intro w1 cm;rw [cm];clear cm w1
  go_simp
  generalize E.setCell ⟨gp,n * 12+9,n_⟩ (t_ t0)=G at *;clear m2 x4 x5 c f u k0 k1 il il3 il4;obtain ⟨q1,hq1,hq⟩:=kg HR.I.1 HR.I.2.1 jA.I.2.1;have HB:Hid (q1.ai=q.ai∧q1.aK=q.aK∧q1.pure.ai=q.pure.ai):=by rw [hq1]; exact ⟨rfl,rfl,rfl⟩
  rw [← hq1] at S;have HQ:=aA hq;clear hq1 hq;have x2:G.cell? ⟨X,2,n_⟩=o_ (b_ y.Mf):=by simp [World.cell?,afa.I.1]
  cases nu:y.Mf
  ·rw [nu] at x2
   have HE:Hid (gC (14,N,M,s) x.id q.pure=bu 0 x.id (ez t0 x.id q.pure)):=by show gC (14,N,M,s) x.id q.pure=_; rw [HU.I,nu]; rfl
   clear nu afa HU;have Mb:=bB (n:=n) 0 S.I.fr.own S.I.low HQ.I.2.2.1 HQ.I.2.2.2 Zc2;rw [HQ.I.1,HQ.I.2.1] at Mb;exact Zcu
  rw [nu] at x2;have HE:Hid (gC (14,N,M,s) x.id q.pure=bu 0 x.id (gU N r (ez t0 x.id q.pure))):=by show gC (14,N,M,s) x.id q.pure=_; rw [HU.I,nu]; rfl
  clear nu HU;go_upto_region 18 with fail;clear x2;replace S:=aA (S.I.reads (Kp _ _).drew);replace afa:Hid (G.drew.heap[X]? =o_ (c_ #[i_ j_ y.id,b_ false,b_ y.Mf,i_ j_ y.max,s_ y.ak y.Ma.length y.aq] 116)∧w.heap.size+3≤X):=afa.I;refine Kr (S:=fun w'=>av w' w.heap.size q∧w'.heap[X]? =o_ (c_ #[i_ j_ y.id,b_ false,b_ y.Mf,i_ j_ y.max,s_ y.ak y.Ma.length y.aq] 116)) ZcR ⟨S.I.fr.box,afa.I.1⟩ (fun hHeld=> ?_);generalize G.drew=V2 at *;have GO:Hid (q1.ai[m]? =o_ y):=by rw [HB.I.1]; exact HM.I.1
  have il:(1:Int)≤(y.Ma.length:Int):=by rw [jA.I.1]; simp; omega
  have af5:(y.Ma.length:Int)≤(y.aq:Int):=by have h5:y.Ma.length≤y.aq:=nV (S.I.fr.own.eR y (KA GO.I)); omega
  have ic2:(1:Int)≤(y.aq:Int):=by omega
  obtain ⟨afs,hTA⟩: ∃ afs:Option d_,(if y.aq=1 then y.ak else Option.map (fun x:d_=>(⟨x.block,x.off+1,n_⟩:d_)) y.ak)=afs:=⟨_,rfl⟩
  refine zq9w 0 hHeld ?_;refine zq9w 1 hHeld ?_;refine zq9w 2 hHeld ?_;refine zq9w 4 hHeld ?_;refine zq9w 5 hHeld ?_;refine zq9w 6 hHeld ?_;clear hHeld il af5 ic2;have lW:=(J2.1 afa.I.1).1;have hS: ∀ W,B_ V2.heap.size V2 W→av W w.heap.size q∧W.heap[X]? =o_ (c_ #[i_ j_ y.id,b_ false,b_ y.Mf,i_ j_ y.max,s_ y.ak y.Ma.length y.aq] 116):=fun W hb=>⟨S.I.fr.box.below hb,(hb.block _ lW).trans afa.I.1⟩
  have b1:B_ V2.heap.size V2 (V2.alloc (c_ #[] 9)):=(Kp _ _).alloc (Ki _) _;refine L7 3 (fun K hK=> ?_);go_wp2_with fail;refine hK.out _ _ (hS _ b1) (fun hHeld=> ?_);clear hK K hHeld
  try simp only [pt,sb,s0,s1]
  have hlr:y.Ma.length - 1=r.length:=by rw [jA.I.1]; rfl
  have pI:y.Ma.drop 1=r:=by rw [jA.I.1]; rfl
  have hsrc:=vg (c:=y.aq) (nV (S.I.fr.own.eR y (KA GO.I))) (nJ (S.I.fr.own.below b1).at.2.2.2.2.2 GO.I);rw [hTA] at hsrc;obtain ⟨a7,c7,w7,hap,mP,xI,-⟩:=ou (V2.alloc (c_ #[] 9)) V2.heap.size (o_ ⟨V2.heap.size,0,n_⟩) 0 [] (i6 (Kj _ _) (Ki _)) afs (y.Ma.drop 1) (y.aq - 1) hsrc (by rw [Ql]; have:=tI.I.2.1; show 0+_≤_; omega) b1.size;clear hsrc hTA;have gh:B_ V2.heap.size V2 w7:=b1.grown xI b1.size fun c e=>by cases e; exact Ki _
  rw [Ql,hlr] at hap mP;simp only [K4,Li,List.nil_append,pI] at hap mP;rw [← hlr] at hap;obtain ⟨s1,⟨u,c⟩,f⟩:=pg (n:=m) S.I.fr.own (aI.dI gh) GO.I (HB.I.2.1.trans HG.I) (cq mP S.I.low) (fun g hg=> .inr (cf mP hg).1);rw [← hlr] at s1;have HLR:Hid (y.Ma.length - 1=r.length):=hlr;clear hlr;refine L7 7 (fun K hK=> ?_);refine cM _ _ _ rfl _ _ _ w7 rfl rfl hap ?_;refine hK.out _ _ ⟨S.I.fr.box.below gh,(gh.block _ lW).trans afa.I.1⟩ (fun hHeld=> ?_);clear hK K hHeld
  try simp only [pt,sb]
  have wj:av w7 w.heap.size q∧w7.heap[X]? =o_ (c_ #[i_ j_ y.id,b_ false,b_ y.Mf,i_ j_ y.max,s_ y.ak y.Ma.length y.aq] 116):=⟨S.I.fr.box.below gh,(gh.block _ lW).trans afa.I.1⟩
  replace S:=aA (S.I.call s1);clear hap mP xI gh s1 b1 hS;refine zq9w 8 wj ?_;refine zq9w 9 wj ?_;have uQ:(w7.setCell ⟨Y5,m * 5+4,n_⟩ (s_ a7 (y.Ma.length - 1) c7)).heap[X]? =o_ (c_ #[i_ j_ y.id,b_ false,b_ y.Mf,i_ j_ y.max,s_ y.ak y.Ma.length y.aq] 116):=(aH (fun e=>by have h5:=(S.I.fr.lo Y5 (gD (.inr <| .inr <| .inr <| .inr <| .inr <| by rw [HG.I]; simp [blk]))).2; have:=afa.I.2; omega)).trans wj.2;refine L7 10 (fun K hK=> ?_);go_wp2_with fail;refine hK.out _ _ ⟨S.I.fr.box,uQ⟩ (fun hHeld=> ?_);clear hK K hHeld;refine K3 ZcR ?_ _;clear c f u wj lW uQ;go_upto_region 19 with fail;generalize w7.setCell ⟨Y5,m * 5+4,n_⟩ (s_ a7 (y.Ma.length - 1) c7)=J at *;obtain ⟨q2,pv⟩: ∃ q2:af,q2= { q1 with ai:=q1.ai.set m { y with Ma:=r,ak:=a7,aq:=c7 } } :=⟨_,rfl⟩
  have ky:Hid (q2.pure=gU N r (ez t0 x.id q.pure)∧q2.cells=q.cells∧aQ q2.pure∧q2.L8[n]? =o_ { x with got:=t0 }):=by
   have h5:q2.pure=gU N r q1.pure:=by rw [pv]; exact sq HQ.I.2.2.1.ai GO.I HM.I.2.1
   have h6:aQ (gU N r q1.pure):=jj HQ.I.2.2.1 (fun z hz hk=>by rw [HB.I.2.2] at hz; rw [only HR.I.1.ai HM.I.2.2 hz hk]; have h7:=tI.I.2.2.1; rw [jA.I.1] at h7; have h8:y.todS.max=y.max:=rfl; simp only [Lg] at h7; omega) jA.I.2.2;exact ⟨by rw [h5,HQ.I.1],by rw [pv]; exact Eq.trans (by unfold af.cells; simp) HQ.I.2.1,by rw [h5]; exact h6,by rw [pv]; exact HQ.I.2.2.2⟩
  rw [← pv] at S;clear pv HLR pI afa;have Mb:=bB (n:=n) 0 S.I.fr.own S.I.low ky.I.2.2.1 ky.I.2.2.2 Zc2;rw [ky.I.1,ky.I.2.1] at Mb;exact Zcu
def age (st on:Int) (l:List (ao × Nat)):List (ao × Nat):=l.filter fun p=>ie st on p.1.toaD
theorem agD {st on:Int} {x:aD} :ie st on x=true↔x.Md=st∧x.on=on:=by simp [ie]
theorem ahT (st on:Int) (l:List (ao × Nat)) (p:ao × Nat):age st on (l ++ [p])=age st on l ++ (if ie st on p.1.toaD=true then [p] else []):=by
 simp only [age,List.filter_append,List.filter_cons,List.filter_nil]
theorem ah9 {st on:Int} (l:List (ao × Nat)):(li (age st on l)).map (fun p=>p.1.toaD)=jl st on (l.map fun p=>p.1.toaD):=by
 rw [vj];unfold jl age;rw [List.filter_map];rfl
theorem agK (o d g base:Nat) (S:aZ) (op:dN) (now st:Int) (w:w_) (h:afb w base o d g S op now) (hf:S.Fits):
  k_ J3 208 #[p_ (o_ ⟨d,0,n_⟩),i_ j_ st] w fun e w'=>e=r_ (u_ #[qz ((li (age st op.2.1 S.lp)).map (·.2)),b_ (decide (0 < (age st op.2.1 S.lp).length))])∧B_ w.heap.size w w':=by
 obtain ⟨i0,hi,e0⟩:=Kw.1 sQ;simp only [Prod.mk.injEq] at e0;have HI:Hid (Tryz.prog.info? 161=o_ i0∧i0.zero=o_ (p_ n_)∧i0.size=1∧i0.bytes=8):=⟨hi,e0⟩
 have hl:S.lp.length≤1048576:=hf.dl;have H:Hid (Shelf aX (fun x:ao=>x.id) 100 w base S.q.bp S.lp∧(∀ p∈RW (fun x:ao=>x.id) S.lp,(Lit.int j_ p.1).wf=true)∧w.heap[d]? =o_ (c_ (dgV o g op now) 167)):=⟨h.at'.L8,hf.Jl,h.box⟩
 have HLR:Hid ((age st op.2.1 S.lp).length≤1048576):=LG (Qq _ _) hl;have c0:=(agb h.box).1;have c2:w.cell? ⟨o,2,n_⟩=o_ (i_ j_ 6):=h.at'.opn.cell 2;have c3:w.cell? ⟨o,3,n_⟩=o_ (.map (o_ S.q.bp)):=h.at'.opn.cell 3;have HK:Hid ((RW (fun x:ao=>x.id) S.lp).length=S.lp.length):=bZ S.lp;obtain ⟨lp,hlp⟩: ∃ lp,lp=S.lp:=⟨_,rfl⟩
 obtain ⟨q,hq⟩: ∃ q,q=S.q:=⟨_,rfl⟩
 obtain ⟨on,hon⟩: ∃ on,on=op.2.1:=⟨_,rfl⟩
 have c3d:=fun (W:w_) (hb:W.heap[d]? =o_ (c_ (dgV o g op now) 167))=>(agb hb).2.2.2.1
 rw [← hon] at c3d HLR ⊢;rw [← hlp] at hl H HLR HK ⊢;rw [← hq] at H c3;clear h hf hi e0 hlp hq hon
 go_enter func208,ntmps208
 go_wp2_with fail;refine (mq 6 q.bp (RW (fun x:ao=>x.id) lp) w H.I.1.map Zc4 H.I.2.1).mono ?_;rintro e w2 ⟨a,cap,rfl,hown,hb2⟩;obtain ⟨a',cap',hv,hrow⟩:=cr hown;cases hv;have HR:Hid (Row w2 a ((RW (fun x:ao=>x.id) lp).map fun p=>dt p.2)):=hrow;have HO:Hid (Shelf aX (fun x:ao=>x.id) 100 w2 base q.bp lp∧B_ w.heap.size w w2∧w2.heap[d]? =o_ (c_ (dgV o g op now) 167)):=⟨H.I.1.below hb2,hb2,(hb2.block _ (J2.1 H.I.2.2).1).trans H.I.2.2⟩
 rw [HK.I];clear hown hrow hb2 c2 c3 c0;go_wp2_with fail
 go_loopw [6,18] (fun l i wr=> ∃ (k n:Nat),k≤lp.length∧n≤k∧i=i_ j_ k∧ ∃ a' cap',l=s_ a' n cap'∧Hid (n=(age st on (lp.take k)).length∧wr.ownsRow w2.heap.size 161 1 (s_ a' n cap') n ((age st on (lp.take k)).map fun p=>dt p.2)∧B_ w2.heap.size w2 wr)) (fun _ i _=>lp.length - (intOf i).toNat)
 case atStart=>exact ⟨0,0,Nat.zero_le _,Ki _,rfl,n_,0,rfl,⟨rfl,World.ownsRow_nil _ _ _ _,Kp _ _⟩⟩
 case round=>
  obtain ⟨k,n,hk,hn,rfl,a',cap',rfl,HA⟩:=hrel;by_cases hlt:k < lp.length
  ·have qE:(0:Int)≤(k:Int):=by omega
   have i1:(k:Int) < (lp.length:Int):=by omega
   obtain ⟨p,hp⟩: ∃ p,lp[k]? =o_ p:=⟨_,Kz hlt⟩
   obtain ⟨g',ha,hc⟩:=(HR.I.below HA.I.2.2) k (dt p.2) Zc9;subst ha;unfold dt at hc;have HP:Hid (lp[k]? =o_ p):=hp;have lW:wr.heap[p.2]? =o_ (c_ (aX p.1) 100):=(HO.I.1.below HA.I.2.2).box p (KA hp);obtain ⟨-,-,-,s3,-,-,-,s7,-⟩:=bo lW;have s9:=c3d wr ((HA.I.2.2.block _ (J2.1 HO.I.2.2).1).trans HO.I.2.2);have kT:=HA.I.2.2.size;have HA2:Hid (n=(age st on (lp.take k)).length∧wr.drew.ownsRow w2.heap.size 161 1 (s_ a' n cap') n ((age st on (lp.take k)).map fun p=>dt p.2)∧B_ w2.heap.size w2 wr.drew):=⟨HA.I.1,HA.I.2.1,HA.I.2.2.drew⟩
   clear hp lW;by_cases hs:ie st on p.1.toaD=true
   ·have hs2:=agD.1 hs
    have e1:(p.1.Md == st)=true:=by simp [hs2.1]
    have e2:(p.1.on == on)=true:=by simp [hs2.2]
    have SC:Hid ((age st on (lp.take (k+1)))=(age st on (lp.take k)) ++ [p]):=by show _=_; rw [cj HP.I,ahT,if_pos hs]
    clear hs hs2;go_wp2_with fail;refine aT (fun w'=>w'=wr.drew) ZcR rfl ?_
    iterate 18 (refine agj ?_)
    refine bk ZcR ?_ _;intro w1 cm;subst cm
    revert HA2
    generalize wr.drew=W;intro HA2;have hsz4:=HA2.I.2.2.size;go_wp2_with (at_builtin; refine wpList_append_own_at _ rfl _ _ 195 rfl w2.heap.size 161 i0 (p_ n_) 1 8 underlying195 HI.I.1 HI.I.2.1 HI.I.2.2.1 HI.I.2.2.2 rfl (by decide) (s_ a' n cap') n ((age st on (lp.take k)).map fun p=>dt p.2) rfl (HA2.I.2.1.alloc _) ⟨W.heap.size,0,n_⟩ 1 1 [p_ (o_ ⟨p.2,0,n_⟩)] (by rfl) rfl (World.news_of_block (cs:= #[p_ (o_ ⟨p.2,0,n_⟩)]) (t:=161) (fr:=(0,0)) (Kj W _)) Zc5 ZcV (by omega) ZcS ?_; intro v' w5 hown' hgrow hnil jV; obtain ⟨a5,im,rfl,-⟩:=cr hown'; have HN:Hid (n+1=(age st on (lp.take (k+1))).length∧w5.ownsRow w2.heap.size 161 1 (s_ a5 (n+1) im) (n+1) ((age st on (lp.take (k+1))).map fun p=>dt p.2)∧B_ w2.heap.size w2 w5):=⟨by rw [SC.I,List.length_append,← HA2.I.1]; rfl,by rw [SC.I,List.map_append]; exact hown',(HA2.I.2.2.alloc hsz4 _).grown hgrow ZcS (fun q hq=>(HA2.I.2.1.lt q hq).1)⟩; clear hown' hgrow hnil jV);exact Zay
   ·have SC:Hid ((age st on (lp.take (k+1)))=(age st on (lp.take k))):=by show _=_; rw [cj HP.I,ahT,if_neg hs,List.append_nil]
    have hs2: ¬ (p.1.Md=st∧p.1.on=on):=fun e=>hs (agD.2 e)
    by_cases Ix:p.1.Md=st
    ·have e1:(p.1.Md == st)=true:=by simp [Ix]
     have e2:(p.1.on == on)=false:=by simpa using fun e=>hs2 ⟨Ix,e⟩
     clear hs hs2 Ix;go_wp2_with fail;refine aT (fun w'=>w'=wr.drew) ZcR rfl ?_
     iterate 18 (refine agj ?_)
     exact ZaA
    ·have e1:(p.1.Md == st)=false:=by simpa using Ix
     clear hs hs2 Ix;go_wp2_with fail;refine aT (fun w'=>w'=wr.drew) ZcR rfl ?_
     iterate 7 (refine agj ?_)
     iterate 10 (refine nl ?_; simp only [pt,sb,s0,s1])
     iterate 1 (refine agj ?_)
     exact ZaA
  ·have i1: ¬ (k:Int) < (lp.length:Int):=by omega
   have HE:Hid (n=(age st on lp).length∧Row wr a' ((age st on lp).map fun p=>dt p.2)):=by
    have h5:=HA.I;rw [List.take_of_length_le (by omega)] at h5;exact Zbp
   have cy:Hid (B_ w.heap.size w wr):=HO.I.2.1.trans (HA.I.2.2.mono HO.I.2.1.size);go_wp2_with fail;rw [HE.I.1];refine (wn a' (age st on lp) cap' wr HLR.I HE.I.2 (fun p hp=>(HO.I.1.below HA.I.2.2).box p (L2.1 hp).1)).mono ?_;rintro e w3 ⟨rfl,hb3⟩;have oh:Hid (B_ w.heap.size w w3):=cy.I.trans (hb3.mono cy.I.size);clear hb3;go_wp2;go_ret2;exact ⟨rfl,oh.I⟩
structure WkJ (now:Int) (base:Nat) (w:w_) (afH:aZ) (o k:Nat) (S:aZ) (wr:w_):Prop where
 at':cJ wr base o S
 fits:S.Fits
 wk:af9 now S.pure
 same:gj now S.pure=gj now afH.pure
 cnt:(lF now S.pure.L8).length=k
 short: ∀ p∈S.lp,p.1.prog.length≤1048576
 mv:Mov o base afH w S wr
def WdEnd (o base:Nat) (S:aZ) (now:Int) (w:w_) (e:Ending) (w':w_):Prop:= ∃ S2:aZ,e=r_ (b_ (cv now 0 1000000000 && decide (S.q.next≤999999980)))∧S2.Fits∧((cv now 0 1000000000 && decide (S.q.next≤999999980))=true→S2.pure=gj now S.pure)∧Mov o base S w S2 w'
theorem aiS {w w':w_} {base o g:Nat} {S:aZ} {x:ao} {nx c n:Int} (hx:(x,g)∈S.lp) (h:cJ w' base o (S.ju g (pF nx c) n)) (hk:aI w w' [g,o]):Mov o base S w (S.ju g (pF nx c) n) w':=by
 refine ⟨h,hk.mono fun b hb=> ?_,fun b hb _=> ?_⟩
 ·simp only [Kt,Ku,or_false] at hb
  rcases hb with rfl | rfl
  ·exact aZ.agr (aZ.ago (LB _ (Lr.2 ⟨_,hx,rfl⟩)))
  ·simp [aZ.al]
 ·rw [ahk (f:=pF nx c) fun _=>rfl] at hb
  exact hb
theorem ajo (o base:Nat) (S:aZ) (now:Int) (w:w_) (h:cJ w base o S) (lY:base≤w.heap.size) (hf:S.Fits) (hr:aQ S.pure):
  k_ J3 87 #[p_ (o_ ⟨o,0,n_⟩),i_ j_ now] w fun e w'=>WdEnd o base S now w e w':=by
 have c1:w.cell? ⟨o,1,n_⟩=o_ (i_ j_ S.q.next):=h.opn.cell 1;have H:Hid (cJ w base o S∧S.Fits∧aQ S.pure∧base≤w.heap.size):=⟨h,hf,hr,lY⟩
 clear h hf hr lY
 go_enter func87,ntmps87
 by_cases h1:now < 0
 ·skip
  exact W_
 by_cases h2:1000000000 < now
 ·skip
  exact W_
 by_cases h3:999999980 < S.q.next
 ·skip
  have HV:Hid ((cv now 0 1000000000 && decide (S.q.next≤999999980))=false):=by show _=_; rw [decide_eq_false (by omega),PP]
  go_wp2;go_ret;exact ⟨S,al HV.I.symm,H.I.2.1,(fun e=>by rw [HV.I] at e; cases e),Mov.refl H.I.1⟩
 have HV:Hid ((cv now 0 1000000000 && decide (S.q.next≤999999980))=true):=by show _=_; rw [bz.2 ⟨by omega,by omega⟩,decide_eq_true (by omega)]; rfl
 have HK:Hid (WkJ now base w S o (lF now S.pure.L8).length S w):=⟨H.I.1,H.I.2.1,af9.of H.I.2.2.1 (by show S.q.next≤_; omega),rfl,rfl,fun p hp=>St H.I.2.2.1 hp,Mov.refl H.I.1⟩
 go_wp2_with fail;clear c1 h1 h2 h3
 go_loopg [] (lF now S.pure.L8).length (fun k wr=> ∃ S1:aZ,Hid (WkJ now base w S o k S1 wr))
 case atStart=>exact ⟨S,HK.I⟩
 case round=>
  obtain ⟨S1,HO⟩:=hrel;have hlq:S1.lp.length≤6:=by have h5:=HO.I.wk.low; simpa [aZ.pure] using h5
  have HL:Hid (S1.lp.length≤1048576∧(Qx now S1.lp).length≤1048576):=⟨by omega,LG (Qq _ _) (by omega)⟩
  clear hlq;go_wp2_with fail;refine (Sz o S1.q S1.lp now base wr HO.I.at'.opn HO.I.at'.L8 HL.I.1 HO.I.fits.Jl).mono ?_;rintro e w2 ⟨⟨a,cap,rfl,hrw⟩,hb2⟩;have HB:Hid (Row w2 a ((Qx now S1.lp).map fun p=>dt p.2)∧B_ wr.heap.size wr w2):=⟨hrw,hb2⟩
  clear hrw hb2;go_wp2_with fail;refine (Sd a (Qx now S1.lp) cap w2 HL.I.2 HB.I.1 (fun p hp=>(HO.I.at'.L8.below HB.I.2).box p (L2.1 hp).1)).mono ?_;rintro e w3 ⟨rfl,hb3⟩;have H3:Hid (B_ wr.heap.size wr w3):=HB.I.2.trans (hb3.mono HB.I.2.size);have HN:Hid ((oa RY (Qx now S1.lp)).map (fun p=>p.1.toaD)=lZ now S1.pure.L8):=Sy HO.I.wk.kW;clear hb3 HB;cases hbd:oa RY (Qx now S1.lp) with
  | none=>
   have e0:(Qx now S1.lp).length=0:=by rw [CZ RY hbd]; rfl
   have HD:Hid (lZ now S1.pure.L8=n_):=by have h5:=HN.I; rw [hbd] at h5; exact h5.symm
   have d0:decide (0 < (Qx now S1.lp).length)=false:=decide_eq_false (by omega);rw [d0];clear hbd e0 d0;simp only [qz,Option.map_none];go_wp2;go_ret;exact ⟨S1,al HV.I.symm,HO.I.fits,fun _=>by rw [← HO.I.same]; exact (Co HD.I).symm,HO.I.mv.trans (Mov.below HO.I.at' H3.I)⟩
  | some r=>
   obtain ⟨x,g⟩:=r;have hmd:=Fg RY hbd;have hm:(x,g)∈S1.lp∧og now x.toaD=true:=L2.1 hmd;have d0:decide (0 < (Qx now S1.lp).length)=true:=decide_eq_true (List.length_pos_of_mem hmd);have HD:Hid (lZ now S1.pure.L8=o_ x.toaD∧(x,g)∈S1.lp):=⟨by have h5:=HN.I; rw [hbd] at h5; exact h5.symm,hm.1⟩
   have hst:=(RZ.1 hm.2).1;have hop:=HO.I.wk.op x.toaD (Lr.2 ⟨(x,g),hm.1,rfl⟩) hst;have hro:=HO.I.wk.room;have ai2:=HO.I.at'.below H3.I;have s3:=(bo (ai2.L8.box (x,g) hm.1)).2.2.2.1;have hbs:base≤w3.heap.size:=by have:=HO.I.mv.kept.size; have:=H3.I.size; have:=H.I.2.2.2; omega
   have Mb:=fun code=>ahO o g base S1 x code w3 ai2 hbs hm.1 (by have h5:S1.pure.next=S1.q.next:=rfl; omega) (by have h5:S1.pure.next=S1.q.next:=rfl; omega) hop (HO.I.short _ hm.1)
   rw [d0];clear hbd hmd hm d0 hst hop hro ai2 hbs HN;simp only [qz,dt,J9];cases e2:(x.Md == 2)
   ·skip
    replace Mb:=Mb 2;have HCO:Hid (mL x.toaD=2):=by show mL x.toaD=_; unfold mL; rw [if_neg (by simpa using e2)]
    go_wp2_with fail;clear s3 e2;refine Mb.mono ?_;clear Mb;rintro e w4 ⟨rfl,Ss,hb4⟩;have HP:Hid ((S1.ju g (pF S1.q.next 2) (gf S1.q.next x.toaD)).pure=gu S1.pure x.toaD):=by
     have h5:=aZ.Sb (nx:=gf S1.q.next x.toaD) (f:=pF S1.q.next 2) (f':=iY S1.q.next 2) HO.I.wk.kW (fun p hp hpg=>HO.I.at'.L8.one hp HD.I.2 hpg) HD.I.2 (fun _=>rfl);refine h5.trans ?_;unfold gu;rw [HCO.I];rfl
    have HI:Hid (WkJ now base w S o (lF now (S1.ju g (pF S1.q.next 2) (gf S1.q.next x.toaD)).pure.L8).length (S1.ju g (pF S1.q.next 2) (gf S1.q.next x.toaD)) w4∧(lF now (S1.ju g (pF S1.q.next 2) (gf S1.q.next x.toaD)).pure.L8).length < gk):=by
     exact F_
    clear Ss hb4;go_wp2_with fail
    go_roundg (lF now (S1.ju g (pF S1.q.next 2) (gf S1.q.next x.toaD)).pure.L8).length
    case rel=>exact ⟨_,HI.I.1⟩
    case measure=>exact HI.I.2
   ·skip
    replace Mb:=Mb 0;have HCO:Hid (mL x.toaD=0):=by show mL x.toaD=_; unfold mL; rw [if_pos (by simpa using e2)]
    go_wp2_with fail;clear s3 e2;refine Mb.mono ?_;clear Mb;rintro e w4 ⟨rfl,Ss,hb4⟩;have HP:Hid ((S1.ju g (pF S1.q.next 0) (gf S1.q.next x.toaD)).pure=gu S1.pure x.toaD):=by
     have h5:=aZ.Sb (nx:=gf S1.q.next x.toaD) (f:=pF S1.q.next 0) (f':=iY S1.q.next 0) HO.I.wk.kW (fun p hp hpg=>HO.I.at'.L8.one hp HD.I.2 hpg) HD.I.2 (fun _=>rfl);refine h5.trans ?_;unfold gu;rw [HCO.I];rfl
    have HI:Hid (WkJ now base w S o (lF now (S1.ju g (pF S1.q.next 0) (gf S1.q.next x.toaD)).pure.L8).length (S1.ju g (pF S1.q.next 0) (gf S1.q.next x.toaD)) w4∧(lF now (S1.ju g (pF S1.q.next 0) (gf S1.q.next x.toaD)).pure.L8).length < gk):=by
     exact F_
    clear Ss hb4;go_wp2_with fail
    go_roundg (lF now (S1.ju g (pF S1.q.next 0) (gf S1.q.next x.toaD)).pure.L8).length
    case rel=>exact ⟨_,HI.I.1⟩
    case measure=>exact HI.I.2
theorem opP_1 {now:Int} {x:aD} {o:dN} {p:aE} (h:o.1=1):lX now x o p=GY x o p:=by unfold lX; simp [h]
theorem opP_2 {now:Int} {x:aD} {o:dN} {p:aE} (h:o.1=2):lX now x o p=kC 2 0 rM (now+o.2.1) x.id p:=by unfold lX; simp [h]
theorem opP_3 {now:Int} {x:aD} {o:dN} {p:aE} (h:o.1=3):lX now x o p=mh o now x.id p:=by unfold lX; simp [h]
theorem opP_4 {now:Int} {x:aD} {o:dN} {p:aE} (h:o.1=4):lX now x o p=gJ o x.id p:=by unfold lX; simp [h]
theorem opP_5 {now:Int} {x:aD} {o:dN} {p:aE} (h:o.1=5):lX now x o p=dE o now x.id p:=by unfold lX; simp [h]
theorem opP_6 {now:Int} {x:aD} {o:dN} {p:aE} (h:o.1=6):lX now x o p=dE o now x.id p:=by unfold lX; simp [h]
theorem opP_7 {now:Int} {x:aD} {o:dN} {p:aE} (h:o.1=7):lX now x o p=dE o now x.id p:=by unfold lX; simp [h]
theorem opP_8 {now:Int} {x:aD} {o:dN} {p:aE} (h:o.1=8):lX now x o p=lc o now x.id p:=by unfold lX; simp [h]
theorem opP_9 {now:Int} {x:aD} {o:dN} {p:aE} (h:o.1=9):lX now x o p=ka o now x.id p:=by unfold lX; simp [h]
theorem opP_10 {now:Int} {x:aD} {o:dN} {p:aE} (h:o.1=10):lX now x o p=dC o now x.id p:=by unfold lX; simp [h]
theorem opP_11 {now:Int} {x:aD} {o:dN} {p:aE} (h:o.1=11):lX now x o p=dC o now x.id p:=by unfold lX; simp [h]
theorem opP_12 {now:Int} {x:aD} {o:dN} {p:aE} (h:o.1=12):lX now x o p=dC o now x.id p:=by unfold lX; simp [h]
theorem opP_13 {now:Int} {x:aD} {o:dN} {p:aE} (h:o.1=13):lX now x o p=ig o x.id p:=by unfold lX; simp [h]
theorem opP_14 {now:Int} {x:aD} {o:dN} {p:aE} (h:o.1=14):lX now x o p=gC o x.id p:=by unfold lX; simp [h]
theorem opP_15 {now:Int} {x:aD} {o:dN} {p:aE} (h:o.1=15):lX now x o p=jU o x.id p:=by unfold lX; simp [h]
theorem opP_16 {now:Int} {x:aD} {o:dN} {p:aE} (h:o.1=16):lX now x o p=lg o x.id p:=by unfold lX; simp [h]
theorem opP_17 {now:Int} {x:aD} {o:dN} {p:aE} (h:o.1=17):lX now x o p= { p with L8:=ce x.id (fun y=> { y with pc:=0 }) p.L8 } :=by unfold lX; simp [h]
theorem nR (w:w_) (o:Obj):(w.alloc o).heap.size=w.heap.size+1:=by simp
theorem Fr.more {w W:w_} {M M2 base:Nat} {q0 z q:af} (h:Fr w M base q0 z q W) (hq: ∀ g∈q.Mc,g∈q0.Mc) (hM:M≤M2∧M2≤W.heap.size):Fr w M2 base q0 z q W:=⟨h.box,h.own,h.kept,fun g hg=> .inl (hq g hg),h.lo,by have:=h.sz; omega,hM.2,h.sz.2.2⟩
theorem G6 (q:af) (n base:Nat) (x:ao) (now:Int) (w:w_) (h:ap w base q) (hb:base≤w.heap.size) (hr:aQ q.pure) (hx:q.L8[n]? =o_ x) (hs:x.Md=1) (hn:q.next≤999999990) (eu:0≤now∧now≤1000000000):
  k_ J3 60 #[a_ q.cells,i_ j_ n,i_ j_ now] w (jH w base q (lX now x.toaD (opAt x.toaD) q.pure)):=by
 have ho:=(AW (now:=now) hr (iu hx) hs hn eu).1;have k1:=(hr.proc (iu hx)).2.1;have hop:=iT k1 (by rw [show x.toaD.Md=1 from hs]; decide);have hlen:x.prog.length≤20:=by have h5:=iF k1; unfold jY at h5; simp only [J7] at h5; exact (lK h5.1.1.1.2).2
 obtain ⟨k,hk⟩: ∃ k:Nat,x.pc=(k:Int):=⟨x.pc.toNat,by have:=hop.1; omega⟩
 have hkl:k < x.prog.length:=by have:=hop.2; have e:x.toaD.pc=x.pc:=rfl; omega
 have hoa:x.prog[k]? =o_ (opAt x.toaD):=by unfold opAt; rw [show x.toaD.pc.toNat=k by rw [show x.toaD.pc=(k:Int) from hk]; rfl,Kz hkl]; rfl
 have hl:x.left=x.toaD.left:=rfl;have hlb:(opAt x.toaD).1=1→0≤x.left∧x.left < (opAt x.toaD).2.1:=fun e=>by
  rw [fG,J7] at k1;have h3:=k1.2;unfold bO at h3;rw [if_neg (by rw [show x.toaD.Md=1 from hs]; decide),if_pos hs] at h3;simp only [J7] at h3;have h4:=h3.1.1.1.2;unfold jJ at h4;rw [if_pos e] at h4;simp only [J7,decide_eq_true_eq] at h4;exact h4
 generalize opAt x.toaD=o at *;have HR:Hid (aQ q.pure∧q.L8[n]? =o_ x∧x.Md=1∧q.next≤999999990∧(0≤now∧now≤1000000000)∧kc o=true∧x.prog[k]? =o_ o∧(o.1=1→0≤x.left∧x.left < o.2.1)):=⟨hr,hx,hs,hn,eu,ho,hoa,hlb⟩
 have b1:=dT w (c_ q.cells 38) (c_ ar 38);have h2:=cZ w (c_ q.cells 38) (c_ ar 38);have S:Hid (Fr w (w.heap.size+2) base q q q ((w.alloc (c_ q.cells 38)).alloc (c_ ar 38))∧((w.alloc (c_ q.cells 38)).alloc (c_ ar 38)).heap[w.heap.size+1]? =o_ (c_ ar 38)∧((w.alloc (c_ q.cells 38)).alloc (c_ ar 38)).heap.size=w.heap.size+2):=⟨Fr.start h hb h2.1 b1 ⟨by omega,by have:=(J2.1 h2.2).1; omega⟩,h2.2,by rw [nR,nR]⟩
 have j0:(0:Int)≤(n:Int):=by omega
 have j1:(n:Int) < (q.L8.length:Int):=by have:=(Lj.1 hx).1; omega
 have j2:(0:Int)≤(k:Int):=by omega
 have Xg:(k:Int) < (x.prog.length:Int):=by omega
 obtain ⟨n0,n1⟩:=eu;have HK:Hid (x.pc=(k:Int)):=hk;clear h hb hr hx hs hn b1 h2 ho hop hlen hkl hoa hlb hl hk k1
 go_enter func60,ntmps60
 go_upto_region 1 with fail;generalize (w.alloc (c_ q.cells 38)).alloc (c_ ar 38)=A at *;obtain ⟨gs,ha,hat⟩:=cn S.I.1.own.at.1 HR.I.2.1;have m2:=S.I.1.box.cells.2.2.1;rw [ha] at m2;obtain ⟨d0,d1,d2,d3,d4,d5,d6,d7,d8,d9,tH,tS⟩:=hat;have HA:Hid (q.aN=o_ ⟨gs,0,n_⟩):=ha;clear ha;have h5:=(Kp A.heap.size A).alloc (Ki _) (c_ x.row 100);have hxb:=Kj A (c_ x.row 100);have hsz:=S.I.2.2;rw [hsz] at hxb;have h6:=S.I.1.reads h5;have S2:=aA (And.intro h6.1 (And.intro ((h6.2 (w.heap.size+1) (by omega)).trans S.I.2.1) (And.intro hxb (show (A.alloc (c_ x.row 100)).heap.size=w.heap.size+3 by rw [nR,hsz]))));have HSZ:Hid (A.heap.size=w.heap.size+2):=hsz;clear h5 h6 hxb hsz S;go_upto_region 2 with fail;rw [HSZ.I];generalize A.alloc (c_ x.row 100)=B at *;clear m2 d0 d1 d2 d3 d4 d5 d6 d7 d8 d9 tH tS HSZ;obtain ⟨-,-,x2,-,x4,x5,-⟩:=bo (x:=x) S2.I.2.2.1;rw [HK.I] at x4;obtain ⟨afz,hgq,hoc⟩:=Kind.bU.at (K:=fk) ⟨lA S2.I.1.own.at.1 HR.I.2.1,by simp [fk]⟩ HR.I.2.2.2.2.2.2.1;rw [hgq] at x2;have o0:=hoc 0 _ rfl;have o1:=hoc 1 _ rfl;have o2:=hoc 2 _ rfl;have o3:=hoc 3 _ rfl;rw [show fk.n=4 from rfl] at o0 o1 o2 o3;simp only [Nat.add_zero] at o0;have h5:=(Kp B.heap.size B).alloc (Ki _) (c_ (j9 o) 165);have hob:=Kj B (c_ (j9 o) 165);have hsz:=S2.I.2.2.2;rw [hsz] at hob;have h6:=S2.I.1.reads h5;have S:=aA (And.intro (h6.1.more (M2:=w.heap.size+4) (fun g hg=>hg) ⟨by omega,by rw [nR,hsz]; omega⟩) (And.intro ((h6.2 (w.heap.size+1) (by omega)).trans S2.I.2.1) (And.intro ((h5.block (w.heap.size+2) (by omega)).trans S2.I.2.2.1) hob)));have HSZ:Hid (B.heap.size=w.heap.size+3):=hsz;clear h5 h6 hob hsz S2 hgq hoc;unfold j9 at S;go_upto_region 3 with fail;rw [HSZ.I];generalize B.alloc (c_ #[i_ j_ o.1,i_ j_ o.2.1,i_ j_ o.2.2.1,t_ o.2.2.2] 165)=C at *;clear o0 o1 o2 o3 x2 x4 x5 j2 Xg HSZ;have HO:Hid (oo C (w.heap.size+3) o):=S.I.2.2.2;obtain ⟨-,-,-,-,-,x5,-⟩:=bo (x:=x) S.I.2.2.1;obtain ⟨f0,f1,f2,f3,f4⟩:=dv HR.I.2.2.2.2.2.1;have hM:=bz.1 f2;obtain ⟨kd,N,M,s⟩:=o;simp only at f0 f1 hM;obtain ⟨o0,o1,o2,o3⟩:=HO.I.cells;simp only at o0 o1 o2 o3;clear f2 f3 f4;have zN:Hid (kd=1∨kd=2∨kd=3∨kd=4∨kd=5∨kd=6∨kd=7∨kd=8∨kd=9∨kd=10∨kd=11∨kd=12∨kd=13∨kd=14∨kd=15∨kd=16∨kd=17):=by show _∨_; omega
 clear f0;rcases zN.I with rfl | rfl | rfl | rfl | rfl | rfl | rfl | rfl | rfl | rfl | rfl | rfl | rfl | rfl | rfl | rfl | rfl
 focus
  have hlb:=HR.I.2.2.2.2.2.2.2 rfl;simp only at hlb;have hN:=f1 (by decide);clear f1 zN;have HE:=aA (opP_1 (now:=now) (x:=x.toaD) (o:=(1,N,M,s)) (p:=q.pure) rfl);have IC:Hid (lX now x.toaD (1,N,M,s) q.pure=if (if x.left=0 then N else x.left)=1 then bu 0 x.id q.pure else { q.pure with L8:=ce x.id (fun y=> { y with left:=(if x.left=0 then N else x.left) - 1 }) q.pure.L8 }):=HE.I;clear HE;obtain ⟨lf,hlf⟩: ∃ lf:Int,lf=if x.left=0 then N else x.left:=⟨_,rfl⟩
  rw [← hlf] at IC;have hlb2:1≤lf∧lf≤1000:=by rw [hlf]; split <;> omega
  have HL:Hid (1≤lf∧lf≤1000):=hlb2;go_upto_region 5 with fail;clear o0;have hgo: ∀ e0:Bool,(x.left == 0)=e0→lf=if e0 then N else x.left:=fun e0 he=>by rw [hlf]; subst he; by_cases h7:x.left=0 <;> simp [h7]
  cases e0:(x.left == 0)
  ·have hv:=hgo _ e0
   simp only [Bool.false_eq_true,if_false] at hv;clear hgo hlf hlb hlb2 hN;by_cases h1:lf=1
   ·have e1:(x.left == 1)=true:=by rw [← hv]; simp [h1]
    exact Zcg
   have e1:(x.left == 1)=false:=by rw [← hv]; simp [h1]
   have HE:Hid (lX now x.toaD (1,N,M,s) q.pure= { q.pure with L8:=ce x.id (fun y=> { y with left:=lf - 1 }) q.pure.L8 }):=IC.I.trans (if_neg h1);have hw:IntKind.wrap j_ (x.left - 1)=x.left - 1:=by rw [K8]; have:=HL.I; omega
   have HV:Hid (lf=x.left):=hv;obtain ⟨s1,⟨u,c⟩,f⟩:=eY (n:=n) (j:=5) (v:=i_ j_ (x.left - 1)) (y:= { x with left:=x.left - 1 }) S.I.1.own HR.I.2.1 HA.I ⟨rfl,rfl,rfl⟩ (by decide) rfl;have m2:=S.I.1.box.cells.2.2.1;rw [HA.I] at m2;have h5:=S.I.1.call s1;have H5:=aA (And.intro h5.1 ((h5.2 (w.heap.size+1) (by omega) (by omega)).trans S.I.2.1));clear h1 hv IC s1 h5;go_upto_region 11 with fail;generalize C.setCell ⟨gs,n * 12+5,n_⟩ (i_ j_ (x.left - 1))=D at *;clear m2 c f u hw;have HP:Hid (({ q with L8:=q.L8.set n { x with left:=x.left - 1 } } :af).pure= { q.pure with L8:=ce x.id (fun y=> { y with left:=lf - 1 }) q.pure.L8 }):=by rw [HV.I]; exact g7 (nx:=q.next) HR.I.1.kW HR.I.2.1 rfl
   exact ZcF
  ·have hv:=hgo _ e0
   simp only [if_true] at hv;clear hgo hlf hlb hlb2 hN;by_cases h1:lf=1
   ·have e1:(N == 1)=true:=by rw [← hv]; simp [h1]
    exact Zcg
   have e1:(N == 1)=false:=by rw [← hv]; simp [h1]
   have HE:Hid (lX now x.toaD (1,N,M,s) q.pure= { q.pure with L8:=ce x.id (fun y=> { y with left:=lf - 1 }) q.pure.L8 }):=IC.I.trans (if_neg h1);have hw:IntKind.wrap j_ (N - 1)=N - 1:=by rw [K8]; have:=HL.I; omega
   have HV:Hid (lf=N):=hv;obtain ⟨s1,⟨u,c⟩,f⟩:=eY (n:=n) (j:=5) (v:=i_ j_ (N - 1)) (y:= { x with left:=N - 1 }) S.I.1.own HR.I.2.1 HA.I ⟨rfl,rfl,rfl⟩ (by decide) rfl;have m2:=S.I.1.box.cells.2.2.1;rw [HA.I] at m2;have h5:=S.I.1.call s1;have H5:=aA (And.intro h5.1 ((h5.2 (w.heap.size+1) (by omega) (by omega)).trans S.I.2.1));clear h1 hv IC s1 h5;go_upto_region 11 with fail;generalize C.setCell ⟨gs,n * 12+5,n_⟩ (i_ j_ (N - 1))=D at *;clear m2 c f u hw;have HP:Hid (({ q with L8:=q.L8.set n { x with left:=N - 1 } } :af).pure= { q.pure with L8:=ce x.id (fun y=> { y with left:=lf - 1 }) q.pure.L8 }):=by rw [HV.I]; exact g7 (nx:=q.next) HR.I.1.kW HR.I.2.1 rfl
   exact ZcF
 focus
  have hN:=f1 (by decide);have HE:=aA (opP_2 (now:=now) (x:=x.toaD) (o:=(2,N,M,s)) (p:=q.pure) rfl);have Mb:=sT q n base x 2 0 N now ⟨#[]⟩ C S.I.1.own ZcW HR.I.1 HR.I.2.1 Zdh HR.I.2.2.2.2.1 ⟨by omega,hN.2⟩;rw [show kZ now N=now+N by unfold kZ; rw [if_pos (by omega)]] at Mb;clear f1 zN hN hM;go_wp2_with (refine eT 3 S.I.1.box ?_);refine Mb.mono ?_;clear Mb;rintro e D ⟨q2,rfl,hp2,ht⟩;have h5:=S.I.1.call ht;have H5:=aA (And.intro h5.1 ((h5.2 (w.heap.size+1) (by omega) (by omega)).trans S.I.2.1));have HP:Hid (q2.pure=_):=hp2;clear hp2 ht h5;go_wp2_with (refine ec 6 51 q2.cells H5.I.2 ?_);exact h_
 focus
  have HE:=aA (opP_3 (now:=now) (x:=x.toaD) (o:=(3,N,M,s)) (p:=q.pure) rfl);have Mb:=CR q n base x now (3,N,M,s) C S.I.1.own ZcW HR.I.1 HR.I.2.1 HR.I.2.2.1 HR.I.2.2.2.1 HR.I.2.2.2.2.1 HR.I.2.2.2.2.2.1 rfl;clear f1 zN hM;go_wp2_with (first | (refine eT 3 S.I.1.box ?_) | (refine LS rfl 165 (.tmp 8) rfl (w.heap.size+3) (by rfl) 165 (j9 (3,N,M,s)) (0,0) _ S.I.2.2.2 underlying165 rfl ZcR ?_));exact Zb9
 focus
  have HE:=aA (opP_4 (now:=now) (x:=x.toaD) (o:=(4,N,M,s)) (p:=q.pure) rfl);have Mb:=zE q n base x now (4,N,M,s) C S.I.1.own ZcW HR.I.1 HR.I.2.1 HR.I.2.2.1 HR.I.2.2.2.1 HR.I.2.2.2.2.1 HR.I.2.2.2.2.2.1 rfl;clear f1 zN hM;go_wp2_with (first | (refine eT 3 S.I.1.box ?_) | (refine LS rfl 165 (.tmp 8) rfl (w.heap.size+3) (by rfl) 165 (j9 (4,N,M,s)) (0,0) _ S.I.2.2.2 underlying165 rfl ZcR ?_));exact Zb9
 focus
  have HE:=aA (opP_5 (now:=now) (x:=x.toaD) (o:=(5,N,M,s)) (p:=q.pure) rfl);have Mb:=Ey q n base x now (5,N,M,s) C S.I.1.own ZcW HR.I.1 HR.I.2.1 HR.I.2.2.1 HR.I.2.2.2.1 HR.I.2.2.2.2.1 HR.I.2.2.2.2.2.1 rfl;clear f1 zN hM;go_wp2_with (first | (refine eT 3 S.I.1.box ?_) | (refine LS rfl 165 (.tmp 8) rfl (w.heap.size+3) (by rfl) 165 (j9 (5,N,M,s)) (0,0) _ S.I.2.2.2 underlying165 rfl ZcR ?_));exact Zb9
 focus
  have HE:=aA (opP_6 (now:=now) (x:=x.toaD) (o:=(6,N,M,s)) (p:=q.pure) rfl);have Mb:=Ab q n base x now (6,N,M,s) C S.I.1.own ZcW HR.I.1 HR.I.2.1 HR.I.2.2.1 HR.I.2.2.2.1 HR.I.2.2.2.2.1 HR.I.2.2.2.2.2.1 rfl;clear f1 zN hM;go_wp2_with (first | (refine eT 3 S.I.1.box ?_) | (refine LS rfl 165 (.tmp 8) rfl (w.heap.size+3) (by rfl) 165 (j9 (6,N,M,s)) (0,0) _ S.I.2.2.2 underlying165 rfl ZcR ?_));exact Zb9
 focus
  have HE:=aA (opP_7 (now:=now) (x:=x.toaD) (o:=(7,N,M,s)) (p:=q.pure) rfl);have Mb:=BE q n base x now (7,N,M,s) C S.I.1.own ZcW HR.I.1 HR.I.2.1 HR.I.2.2.1 HR.I.2.2.2.1 HR.I.2.2.2.2.1 HR.I.2.2.2.2.2.1 rfl;clear f1 zN hM;go_wp2_with (first | (refine eT 3 S.I.1.box ?_) | (refine LS rfl 165 (.tmp 8) rfl (w.heap.size+3) (by rfl) 165 (j9 (7,N,M,s)) (0,0) _ S.I.2.2.2 underlying165 rfl ZcR ?_));exact Zb9
 focus
  have HE:=aA (opP_8 (now:=now) (x:=x.toaD) (o:=(8,N,M,s)) (p:=q.pure) rfl);have Mb:=CD q n base x now (8,N,M,s) C S.I.1.own ZcW HR.I.1 HR.I.2.1 HR.I.2.2.1 HR.I.2.2.2.1 HR.I.2.2.2.2.1 HR.I.2.2.2.2.2.1 rfl;clear f1 zN hM;go_wp2_with (first | (refine eT 3 S.I.1.box ?_) | (refine LS rfl 165 (.tmp 8) rfl (w.heap.size+3) (by rfl) 165 (j9 (8,N,M,s)) (0,0) _ S.I.2.2.2 underlying165 rfl ZcR ?_));exact Zcr
 focus
  have HE:=aA (opP_9 (now:=now) (x:=x.toaD) (o:=(9,N,M,s)) (p:=q.pure) rfl);have Mb:=C0 q n base x now (9,N,M,s) C S.I.1.own ZcW HR.I.1 HR.I.2.1 HR.I.2.2.1 HR.I.2.2.2.1 HR.I.2.2.2.2.1 HR.I.2.2.2.2.2.1 rfl;clear f1 zN hM;go_wp2_with (first | (refine eT 3 S.I.1.box ?_) | (refine LS rfl 165 (.tmp 8) rfl (w.heap.size+3) (by rfl) 165 (j9 (9,N,M,s)) (0,0) _ S.I.2.2.2 underlying165 rfl ZcR ?_));exact Zcr
 focus
  have HE:=aA (opP_10 (now:=now) (x:=x.toaD) (o:=(10,N,M,s)) (p:=q.pure) rfl);have Mb:=CA q n base x now (10,N,M,s) C S.I.1.own ZcW HR.I.1 HR.I.2.1 HR.I.2.2.1 HR.I.2.2.2.1 HR.I.2.2.2.2.1 HR.I.2.2.2.2.2.1 rfl;clear f1 zN hM;go_wp2_with (first | (refine eT 3 S.I.1.box ?_) | (refine LS rfl 165 (.tmp 8) rfl (w.heap.size+3) (by rfl) 165 (j9 (10,N,M,s)) (0,0) _ S.I.2.2.2 underlying165 rfl ZcR ?_));exact Zcf
 focus
  have HE:=aA (opP_11 (now:=now) (x:=x.toaD) (o:=(11,N,M,s)) (p:=q.pure) rfl);have Mb:=AS q n base x now (11,N,M,s) C S.I.1.own ZcW HR.I.1 HR.I.2.1 HR.I.2.2.1 HR.I.2.2.2.1 HR.I.2.2.2.2.1 HR.I.2.2.2.2.2.1 rfl;clear f1 zN hM;go_wp2_with (first | (refine eT 3 S.I.1.box ?_) | (refine LS rfl 165 (.tmp 8) rfl (w.heap.size+3) (by rfl) 165 (j9 (11,N,M,s)) (0,0) _ S.I.2.2.2 underlying165 rfl ZcR ?_));exact Zcf
 focus
  have HE:=aA (opP_12 (now:=now) (x:=x.toaD) (o:=(12,N,M,s)) (p:=q.pure) rfl);have Mb:=Cl q n base x now (12,N,M,s) C S.I.1.own ZcW HR.I.1 HR.I.2.1 HR.I.2.2.1 HR.I.2.2.2.1 HR.I.2.2.2.2.1 HR.I.2.2.2.2.2.1 rfl;clear f1 zN hM;go_wp2_with (first | (refine eT 3 S.I.1.box ?_) | (refine LS rfl 165 (.tmp 8) rfl (w.heap.size+3) (by rfl) 165 (j9 (12,N,M,s)) (0,0) _ S.I.2.2.2 underlying165 rfl ZcR ?_));exact Zcf
 focus
  have HE:=aA (opP_13 (now:=now) (x:=x.toaD) (o:=(13,N,M,s)) (p:=q.pure) rfl);have Mb:=Av q n base x (13,N,M,s) C S.I.1.own ZcW HR.I.1 HR.I.2.1 HR.I.2.2.1 HR.I.2.2.2.1 HR.I.2.2.2.2.2.1 rfl;clear f1 zN hM;go_wp2_with (first | (refine eT 3 S.I.1.box ?_) | (refine LS rfl 165 (.tmp 8) rfl (w.heap.size+3) (by rfl) 165 (j9 (13,N,M,s)) (0,0) _ S.I.2.2.2 underlying165 rfl ZcR ?_));exact Zcs
 focus
  have HE:=aA (opP_14 (now:=now) (x:=x.toaD) (o:=(14,N,M,s)) (p:=q.pure) rfl);have Mb:=BS q n base x (14,N,M,s) C S.I.1.own ZcW HR.I.1 HR.I.2.1 HR.I.2.2.1 HR.I.2.2.2.1 HR.I.2.2.2.2.2.1 rfl;clear f1 zN hM;go_wp2_with (first | (refine eT 3 S.I.1.box ?_) | (refine LS rfl 165 (.tmp 8) rfl (w.heap.size+3) (by rfl) 165 (j9 (14,N,M,s)) (0,0) _ S.I.2.2.2 underlying165 rfl ZcR ?_));exact Zcs
 focus
  have HE:=aA (opP_15 (now:=now) (x:=x.toaD) (o:=(15,N,M,s)) (p:=q.pure) rfl);have Mb:=BU q n base x (15,N,M,s) C S.I.1.own ZcW HR.I.1 HR.I.2.1 HR.I.2.2.1 HR.I.2.2.2.1 HR.I.2.2.2.2.2.1 rfl;clear f1 zN hM;go_wp2_with (first | (refine eT 3 S.I.1.box ?_) | (refine LS rfl 165 (.tmp 8) rfl (w.heap.size+3) (by rfl) 165 (j9 (15,N,M,s)) (0,0) _ S.I.2.2.2 underlying165 rfl ZcR ?_));exact Zct
 focus
  have HE:=aA (opP_16 (now:=now) (x:=x.toaD) (o:=(16,N,M,s)) (p:=q.pure) rfl);have Mb:=C9 q n base x (16,N,M,s) C S.I.1.own ZcW HR.I.1 HR.I.2.1 HR.I.2.2.1 HR.I.2.2.2.1 HR.I.2.2.2.2.2.1 rfl;clear f1 zN hM;go_wp2_with (first | (refine eT 3 S.I.1.box ?_) | (refine LS rfl 165 (.tmp 8) rfl (w.heap.size+3) (by rfl) 165 (j9 (16,N,M,s)) (0,0) _ S.I.2.2.2 underlying165 rfl ZcR ?_));exact Zct
 have HE:=aA (opP_17 (now:=now) (x:=x.toaD) (o:=(17,N,M,s)) (p:=q.pure) rfl);clear f1 zN hM;obtain ⟨s1,⟨u,c⟩,f⟩:=eY (n:=n) (j:=4) (v:=i_ j_ 0) (y:= { x with pc:=0 }) S.I.1.own HR.I.2.1 HA.I ⟨rfl,rfl,rfl⟩ (by decide) rfl;have m2:=S.I.1.box.cells.2.2.1;rw [HA.I] at m2;have h5:=S.I.1.call s1;have H5:=aA (And.intro h5.1 ((h5.2 (w.heap.size+1) (by omega) (by omega)).trans S.I.2.1));clear s1 h5;go_upto_region 34 with fail;generalize C.setCell ⟨gs,n * 12+4,n_⟩ (i_ j_ 0)=D at *;clear m2 c f u;have HP:Hid (({ q with L8:=q.L8.set n { x with pc:=0 } } :af).pure= { q.pure with L8:=ce x.id (fun y=> { y with pc:=0 }) q.pure.L8 }):=g7 (nx:=q.next) HR.I.1.kW HR.I.2.1 rfl;go_wp2_with (first | (refine eT 3 H5.I.1.box ?_) | (refine ec 6 99 q.cells H5.I.2 ?_));exact TZ
def aku (f:aD→aD) (o base g:Nat) (S:aZ) (st on:Int) (w:w_) (e:Ending) (w':w_):Prop:=
 (jl st on S.pure.L8=n_∧e=r_ (b_ false)∧B_ w.heap.size w w')∨ ∃ y S',jl st on S.pure.L8=o_ y∧e=r_ (b_ true)∧Mov o base S w S' w'∧S'.pure=gF f S.pure y∧afU g S S'
structure aij (g:Nat) (S:aZ) (st:Int):Prop where
 right:aQ S.pure
 room:S.q.next+1≤1000000000
 st: ¬ st=0∧ ¬ st=1
 up: ∀ x,(x,g)∈S.lp→x.Md=1
section
variable {g:Nat} {S:aZ} {st on:Int}
theorem aij.best (h:aij g S st):(li (age st on S.lp)=n_∧(age st on S.lp).length=0∧jl st on S.pure.L8=n_)∨ ∃ x c,li (age st on S.lp)=o_ (x,c)∧0 < (age st on S.lp).length∧jl st on S.pure.L8=o_ x.toaD∧(x,c)∈S.lp∧ ¬ c=g∧(0≤x.pc∧x.pc < x.prog.length)∧x.prog.length≤1048576:=by
 have e:=ah9 (st:=st) (on:=on) S.lp;cases hb:li (age st on S.lp) with
 | none=>
  refine .inl ⟨rfl,?_,?_⟩
  ·rcases hl:age st on S.lp with _ | ⟨z,r⟩
   ·rfl
   ·obtain ⟨y,h5,-⟩:=ql (l:=age st on S.lp) (k:=(age st on S.lp).length) (by rw [hl]; simp) (Ki _)
    rw [LQ,hb] at h5;cases h5
  ·rw [hb] at e
   exact e.symm
 | some r=>
  obtain ⟨x,c⟩:=r;rw [hb] at e;have h1:jl st on S.pure.L8=o_ x.toaD:=e.symm;obtain ⟨y,h5,hm⟩: ∃ y,li (age st on S.lp)=o_ y∧y∈age st on S.lp:=by
   rcases hl:age st on S.lp with _ | ⟨z,r⟩
   ·rw [hl] at hb; cases hb
   ·have h6:=ql (l:=age st on S.lp) (k:=(age st on S.lp).length) (by rw [hl]; simp) (Ki _)
    rw [LQ,hl] at h6;exact h6
  rw [hb] at h5;cases h5;have hx:=L2.1 hm;have hs:=agD.1 hx.2;have hs0: ¬ x.toaD.Md=0:=fun e2=>h.st.1 (hs.1.symm.trans e2)
  have hp:=(h.right.proc (Lr.2 ⟨(x,c),hx.1,rfl⟩)).2.1;exact .inr ⟨x,c,rfl,List.length_pos_of_mem hm,h1,hx.1,fun e2=>h.st.2 (hs.1.symm.trans (h.up x (by rw [← e2]; exact hx.1))),iT hp hs0,St h.right hx.1⟩
theorem aij.low (h:aij g S st):0≤S.q.next∧S.q.next≤1000000000:=by
 have h1:=bz.1 h.right.next;have h2:=h.room;have h3:S.pure.next=S.q.next:=rfl;omega
end
theorem agv {S:aZ} (h:aQ S.pure):S.pure.L8.Pairwise (fun x y=>x.id < y.id):=h.kW
theorem ahv (o d g base:Nat) (S:aZ) (op:dN) (now st:Int) (w:w_) (h:afb w base o d g S op now) (hk:aij g S st):
  k_ J3 202 #[p_ (o_ ⟨d,0,n_⟩),i_ j_ st] w fun e w'=>aku (fun y=>y) o base g S st op.2.1 w e w':=by
 have H:Hid (afb w base o d g S op now∧aij g S st):=⟨h,hk⟩
 clear h hk
 go_enter func202,ntmps202
 go_wp2_with fail;refine (agK o d g base S op now st w H.I.1 (iB H.I.2.right)).mono ?_;rintro e w2 ⟨rfl,hb2⟩;have H2:Hid (B_ w.heap.size w w2):=hb2;rcases H.I.2.best (on:=op.2.1) with ⟨b1,b2,b3⟩ | ⟨x,c,b1,b2,b3,hx,hc,hpc,hl⟩
 ·exact Zau
 ·have HE:Hid (jl st op.2.1 S.pure.L8=o_ x.toaD∧(x,c)∈S.lp∧ ¬ c=g):=⟨b3,hx,hc⟩
  have d0:decide (0 < (age st op.2.1 S.lp).length)=true:=decide_eq_true b2;have hm2:=Mov.below H.I.1.at' hb2;have c0:=(agb (H.I.1.move hm2).box).1;have Mb:=ahO o c base S x 0 w2 hm2.at' (H.I.1.move hm2).low hx H.I.2.low.1 H.I.2.low.2 hpc hl;rw [d0,b1];clear d0 b1 b2 b3 hb2 hx hc hpc hl hm2;simp only [qz,dt,J9];go_wp2_with fail;refine Mb.mono ?_;clear Mb c0;rintro e w3 ⟨rfl,hat,hkp⟩;have HF:Hid (Mov o base S w (S.ju c (pF S.q.next 0) (gf S.q.next x.toaD)) w3∧(S.ju c (pF S.q.next 0) (gf S.q.next x.toaD)).pure=gF (fun y=>y) S.pure x.toaD):=by
   have hm2:=Mov.below H.I.1.at' H2.I;refine ⟨hm2.trans ⟨hat,hkp.mono fun b hb=> ?_,fun b hb _=> ?_⟩,?_⟩
   ·simp only [Kt,Ku,or_false] at hb
    rcases hb with rfl | rfl
    ·exact aZ.agr (aZ.ago (LB _ (Lr.2 ⟨_,HE.I.2.1,rfl⟩)))
    ·simp [aZ.al]
   ·rw [ahk (f:=pF S.q.next 0) fun y=>rfl] at hb
    exact hb
   ·exact aZ.Sb (nx:=gf S.q.next x.toaD) (f:=pF S.q.next 0) (f':=iY S.q.next 0) (agv H.I.2.right) (fun p hp hpg=>H.I.1.at'.L8.one hp HE.I.2.1 hpg) HE.I.2.1 (fun _=>rfl)
  clear hat hkp;go_wp2;go_ret;exact .inr ⟨_,_,HE.I.1,rfl,HF.I.1,HF.I.2,afU.ju fun e=>absurd e HE.I.2.2⟩
def agF (t:ByteArray) (x:ao):ao:=⟨lG t x.toaD,x.aY,x.bH⟩
theorem Mov.got {o base c:Nat} {S:aZ} {x:ao} {t:ByteArray} {w:w_} (h:cJ w base o S) (hx:(x,c)∈S.lp):Mov o base S w (S.ju c (agF t) S.q.next) (w.setCell ⟨c,9,n_⟩ (t_ t)):=by
 have ha:=h.apart (aZ.ago (LB _ (Lr.2 ⟨_,hx,rfl⟩)));exact Mov.ju h (fun _=>⟨rfl,rfl,rfl,rfl⟩) hx (cx (i:=9) (v:=t_ t) (h.L8.box _ hx)) ((aH ha.1).trans h.opn) (aI.cell.mono (by simp))
theorem agW {base o c:Nat} {S:aZ} {x:ao} {t:ByteArray} {w:w_} (h:cJ w base o S) (hr:aQ S.pure) (hx:(x,c)∈S.lp):(S.ju c (agF t) S.q.next).pure=ez t x.id S.pure:=
 aZ.Sb (nx:=S.q.next) (f:=agF t) (f':=lG t) (agv hr) (fun _ hp hpg=>h.L8.one hp hx hpg) hx (fun _=>rfl)
theorem ahA (o d g base:Nat) (S:aZ) (op:dN) (now st:Int) (w:w_) (h:afb w base o d g S op now) (hk:aij g S st):
  k_ J3 205 #[p_ (o_ ⟨d,0,n_⟩),i_ j_ st] w fun e w'=>aku (lG op.2.2.2) o base g S st op.2.1 w e w':=by
 have H:Hid (afb w base o d g S op now∧aij g S st):=⟨h,hk⟩
 clear h hk
 go_enter func205,ntmps205
 go_wp2_with fail;refine (agK o d g base S op now st w H.I.1 (iB H.I.2.right)).mono ?_;rintro e w2 ⟨rfl,hb2⟩;have H2:Hid (B_ w.heap.size w w2):=hb2;rcases H.I.2.best (on:=op.2.1) with ⟨b1,b2,b3⟩ | ⟨x,c,b1,b2,b3,hx,hc,hpc,hl⟩
 ·exact Zau
 ·have HE:Hid (jl st op.2.1 S.pure.L8=o_ x.toaD∧(x,c)∈S.lp∧ ¬ c=g):=⟨b3,hx,hc⟩
  have d0:decide (0 < (age st op.2.1 S.lp).length)=true:=decide_eq_true b2;have hm2:=Mov.below H.I.1.at' hb2;have hm3:=Mov.got (t:=op.2.2.2) hm2.at' hx;have hx3:(agF op.2.2.2 x,c)∈(S.ju c (agF op.2.2.2) S.q.next).lp:=yy.2 ⟨(x,c),hx,by simp⟩;have HM:Hid (Mov o base S w (S.ju c (agF op.2.2.2) S.q.next) (w2.setCell ⟨c,9,n_⟩ (t_ op.2.2.2))∧(agF op.2.2.2 x,c)∈(S.ju c (agF op.2.2.2) S.q.next).lp):=⟨hm2.trans hm3,hx3⟩
  have c5:=(agb (H.I.1.move hm2).box).2.2.2.2.2.1;have c9:=(bo (hm2.at'.L8.box _ hx)).2.2.2.2.2.2.2.2.2.1;have f9:w2.frozen? ⟨c,9,n_⟩=false:=Ko _ _ _ _ _ (hm2.at'.L8.box _ hx);have c0:=(agb (H.I.1.move HM.I.1).box).1;have Mb:=ahO o c base (S.ju c (agF op.2.2.2) S.q.next) (agF op.2.2.2 x) 0 _ hm3.at' (H.I.1.move HM.I.1).low hx3 H.I.2.low.1 H.I.2.low.2 hpc hl;rw [d0,b1];clear d0 b1 b2 b3 hb2 hx hc hpc hl hm2 hm3 hx3;simp only [qz,dt,J9];go_wp2_with fail;refine Mb.mono ?_;clear Mb c0 c5 c9 f9;rintro e w3 ⟨rfl,hat,hkp⟩;obtain ⟨S2,hS2⟩: ∃ S2,S2=(S.ju c (agF op.2.2.2) S.q.next).ju c (pF S.q.next 0) (gf S.q.next x.toaD):=⟨_,rfl⟩
  have HF:Hid (Mov o base S w S2 w3∧S2.pure=gF (lG op.2.2.2) S.pure x.toaD∧afU g S S2):=by
   rw [hS2];have hr2:(S.ju c (agF op.2.2.2) S.q.next).pure.L8.Pairwise (fun x y=>x.id < y.id):=by
    rw [agW H.I.1.at' H.I.2.right HE.I.2.1];exact rW (f:=lG op.2.2.2) (fun _=>rfl) (agv H.I.2.right)
   refine ⟨HM.I.1.trans ⟨hat,hkp.mono fun b hb=> ?_,fun b hb _=> ?_⟩,?_,(afU.ju fun e=>absurd e HE.I.2.2).trans (afU.ju fun e=>absurd e HE.I.2.2)⟩
   ·simp only [Kt,Ku,or_false] at hb
    rcases hb with rfl | rfl
    ·exact aZ.agr (aZ.ago (LB _ (Lr.2 ⟨_,HM.I.2,rfl⟩)))
    ·simp [aZ.al]
   ·have e5:=ahk (o:=o) (g:=c) (S:=S.ju c (agF op.2.2.2) S.q.next) (f:=pF S.q.next 0) (nx:=gf S.q.next x.toaD) fun y=>rfl
    rw [← e5];exact hb
   ·refine (aZ.Sb (nx:=gf S.q.next x.toaD) (f:=pF S.q.next 0) (f':=iY S.q.next 0) hr2 (fun p hp hpg=>HM.I.1.at'.L8.one hp HM.I.2 hpg) HM.I.2 (fun _=>rfl)).trans ?_
    rw [agW H.I.1.at' H.I.2.right HE.I.2.1]
    show ({ S.pure with next:=gf S.q.next x.toaD,L8:=ce x.id (iY S.q.next 0) (ce x.id (lG op.2.2.2) S.pure.L8) } :aE)=_
    rw [pm (f:=lG op.2.2.2) fun _=>rfl];rfl
  clear hat hkp;go_wp2;go_ret;exact .inr ⟨_,_,HE.I.1,rfl,HF.I.1,HF.I.2.1,HF.I.2.2⟩
theorem zx (p:af) (now:Int) (w:w_) (hf:p.Fit) (hs: ∀ x∈p.L8,x.dX) (h:af.At w p) (hr:aQ p.pure) (hn:p.next≤999999980) (eu:0≤now∧now≤1000000000):
  k_ J3 23 #[a_ p.cells,i_ j_ now] w fun e w'=> ∃ q:af,e=r_ (a_ q.cells)∧q.pure=mS now p.pure∧ap w' w.heap.size q∧B_ w.heap.size w w':=by
 have b1:=dT w (c_ p.cells 38) (c_ ar 38);have h2:=cZ w (c_ p.cells 38) (c_ ar 38);have hA:af.At ((w.alloc (c_ p.cells 38)).alloc (c_ ar 38)) p:=h.below b1;have S:Hid (av ((w.alloc (c_ p.cells 38)).alloc (c_ ar 38)) w.heap.size p∧B_ w.heap.size w ((w.alloc (c_ p.cells 38)).alloc (c_ ar 38))∧((w.alloc (c_ p.cells 38)).alloc (c_ ar 38)).heap[w.heap.size+1]? =o_ (c_ ar 38)):=⟨h2.1,b1,h2.2⟩
 have HR:Hid (aQ p.pure∧p.next≤999999980∧(0≤now∧now≤1000000000)∧p.Fit∧(∀ x∈p.L8,x.dX)):=⟨hr,hn,eu,hf,hs⟩
 have Mb:=fR p _ hf hs hA;clear h b1 h2 hA hr hn eu hf hs
 go_enter func23,ntmps23
 go_upto_region 1 with fail;generalize (w.alloc (c_ p.cells 38)).alloc (c_ ar 38)=A at *;go_wp2_with (refine eT 2 S.I.1 ?_);refine Mb.mono ?_;clear Mb;rintro e af8 ⟨q,rfl,hown,gn,hb1⟩;have hsz:=(J2.1 S.I.2.2).1;replace S:Hid (B_ w.heap.size w af8∧af8.heap[w.heap.size+1]? =o_ (c_ ar 38)∧w.heap.size+1 < A.heap.size∧A.heap.size≤af8.heap.size):=⟨S.I.2.1.trans (hb1.mono S.I.2.1.size),(hb1.block _ hsz).trans S.I.2.2,hsz,hb1.size⟩
 have Pv: ∀ x∈q.L8,x.prog.length≤1048576:=fun x hx=>by
  have h5:x.toaD∈p.pure.L8:=by rw [← gn]; exact Lr.2 ⟨x,hx,rfl⟩
  obtain ⟨y,hy,e⟩:=Lr.1 h5;have h6:=(HR.I.2.2.2.2 y hy).1;have h7:y.prog=x.prog:=congrArg aD.prog e;rw [← h7]; exact h6
 have Mb:=ti q now A.heap.size af8 hown hb1.size (by rw [gn]; exact af9.of HR.I.1 HR.I.2.1) Pv;rw [gn] at Mb;clear hsz hown gn hb1 Pv;go_wp2_with fail;refine Mb.mono ?_;clear Mb;rintro e A2 ⟨q2,rfl,hp2,DU,hb2⟩;have h5:=(Kp A2.heap.size A2).alloc (Ki _) (c_ q2.cells 38);replace S:Hid (B_ w.heap.size w A2∧A2.heap[w.heap.size+1]? =o_ (c_ ar 38)∧w.heap.size+1 < A.heap.size∧ap A2 A.heap.size q2∧q2.pure=gj now p.pure∧A.heap.size≤A2.heap.size):=⟨S.I.1.trans (hb2.mono (by have:=S.I.2.2.1; omega)),(hb2.block _ S.I.2.2.1).trans S.I.2.1,S.I.2.2.1,DU,hp2,LG S.I.2.2.2 hb2.size⟩
 clear hp2 DU hb2 h5;go_upto_region 2 with (refine ec 5 10 q2.cells (Kj _ _) ?_);have lW:B_ A2.heap.size A2 ((A2.alloc (c_ ar 38)).setRow A2.heap.size q2.cells):=q_ ((Kp _ _).alloc (Ki _) _) (Ki _) _;replace S:Hid (B_ w.heap.size w ((A2.alloc (c_ ar 38)).setRow A2.heap.size q2.cells)∧((A2.alloc (c_ ar 38)).setRow A2.heap.size q2.cells).heap[w.heap.size+1]? =o_ (c_ ar 38)∧w.heap.size+1 < A.heap.size∧ap ((A2.alloc (c_ ar 38)).setRow A2.heap.size q2.cells) A.heap.size q2∧q2.pure=gj now p.pure∧av ((A2.alloc (c_ ar 38)).setRow A2.heap.size q2.cells) A2.heap.size q2∧A.heap.size≤A2.heap.size∧A2.heap.size < ((A2.alloc (c_ ar 38)).setRow A2.heap.size q2.cells).heap.size∧(∀ g∈q2.Mc,g < A2.heap.size)):=⟨S.I.1.trans (lW.mono S.I.1.size),(lW.block _ (by have:=S.I.2.2; omega)).trans S.I.2.1,S.I.2.2.1,S.I.2.2.2.1.below lW,S.I.2.2.2.2.1,KU _ _ _ _ _ _ (Kj _ _),S.I.2.2.2.2.2,by simp,fun g hg=>(S.I.2.2.2.1.lt g hg).2⟩
 clear lW;generalize (A2.alloc (c_ ar 38)).setRow A2.heap.size q2.cells=B at *;generalize A2.heap.size=X at *;have HW:=aA (ru (now:=now) HR.I.1 (by have h5:=HR.I.2.1; have e:p.pure.next=p.next:=rfl; omega));have HWR:Hid (aQ q2.pure):=by show aQ q2.pure; rw [S.I.2.2.2.2.1]; exact HW.I.1
 have Mb:=ij q2 1 0 B (by have:=(dW HWR.I).1; omega) S.I.2.2.2.1.at;go_wp2_with (refine eT 5 S.I.2.2.2.2.2.1 ?_);refine Mb.mono ?_;clear Mb;rintro e B2 ⟨⟨z,rfl,gV⟩,hb2⟩;replace S:Hid (B_ w.heap.size w B2∧B2.heap[w.heap.size+1]? =o_ (c_ ar 38)∧w.heap.size+1 < A.heap.size∧ap B2 A.heap.size q2∧q2.pure=gj now p.pure∧av B2 X q2∧A.heap.size≤X∧X < B2.heap.size∧(∀ g∈q2.Mc,g < X)):=⟨S.I.1.trans (hb2.mono S.I.1.size),(hb2.block _ (by have:=S.I.2.2; omega)).trans S.I.2.1,S.I.2.2.1,S.I.2.2.2.1.below hb2,S.I.2.2.2.2.1,S.I.2.2.2.2.2.1.below hb2,S.I.2.2.2.2.2.2.1,by have:=hb2.size; have:=S.I.2.2.2.2.2.2.2.1; omega,S.I.2.2.2.2.2.2.2.2⟩
 clear hb2;rcases pp gV with ⟨hz,hw⟩ | ⟨i,v,hz,hi,hw⟩
 ·have afO:decide (z < 0)=true:=decide_eq_true hz
  have HE:Hid (q2.pure=mS now p.pure):=by show q2.pure=_; unfold mS; rw [← S.I.2.2.2.2.1,hw]
  clear gV hz hw;go_wp2_with (first | (refine eT 5 S.I.2.2.2.2.2.1 ?_) | (refine ec 4 15 q2.cells S.I.2.1 ?_));refine gZ results23 S.I.2.1 ?_;exact ⟨q2,rfl,HE.I,(S.I.2.2.2.1.lower (by have:=S.I.2.2.1; omega)).same fun g hg=>KH _ _ _ _ (by have:=(S.I.2.2.2.1.lt g hg).1; have:=S.I.2.2.1; omega),q_ S.I.1 (by omega) _⟩
 subst hz;have afO:decide ((i:Int) < 0)=false:=decide_eq_false (by omega);have hm:=ft hw;have HE:Hid (lX now v.toaD (opAt v.toaD) q2.pure=mS now p.pure):=by show lX now v.toaD (opAt v.toaD) q2.pure=_; unfold mS; rw [← S.I.2.2.2.2.1,hw]
 have Mb:=G6 q2 i A.heap.size v now B2 S.I.2.2.2.1 (by have:=S.I.2.2.2.2.2.2; omega) HWR.I hi hm.2.1 (by have h5:=HW.I.2.2; have h6:q2.next=(gj now p.pure).next:=congrArg aE.next S.I.2.2.2.2.1; have h7:=HR.I.2.1; have e:p.pure.next=p.next:=rfl; omega) HR.I.2.2.1;rw [HE.I] at Mb;clear gV hi hw hm;go_wp2_with (refine eT 5 S.I.2.2.2.2.2.1 ?_);refine Mb.mono ?_;clear Mb afO;rintro e B3 ⟨q3,rfl,wu,ht⟩;have S3:Hid (B_ w.heap.size w B3∧B3.heap[w.heap.size+1]? =o_ (c_ ar 38)∧ap B3 A.heap.size q3∧q3.pure=mS now p.pure∧w.heap.size+1 < A.heap.size):=by
  have hlt:=S.I.2.2.1;have hbb:=S.I.2.2.2.2.2.2;have hlo: ∀ g∈q2.Mc,A.heap.size≤g:=fun g hg=>(S.I.2.2.2.1.lt g hg).1
  exact ⟨S.I.1.trans ((ht.kept.below (by omega) hlo).mono (by omega)),(ht.kept.same _ (by omega) (fun hm=>by have:=hlo _ hm; omega)).trans S.I.2.1,ht.own,wu,hlt⟩
 clear wu ht S;go_wp2_with (refine ec 4 19 q3.cells S3.I.2.1 ?_);refine gZ results23 S3.I.2.1 ?_;exact ⟨q3,rfl,S3.I.2.2.2.1,(S3.I.2.2.1.lower (by have:=S3.I.2.2.2.2; omega)).same fun g hg=>KH _ _ _ _ ZdM,q_ S3.I.1 (by omega) _⟩
theorem vu (p:af) (now:Int) (w:w_) (hf:p.Fit) (hs: ∀ x∈p.L8,x.dX) (h:af.At w p):
  k_ J3 6 #[a_ p.cells,i_ j_ now] w fun e w'=>gI w (hZ p.pure now) e w':=by
 have b1:=dT w (c_ p.cells 38) (c_ ar 38);have h2:=cZ w (c_ p.cells 38) (c_ ar 38);have S:Hid (av ((w.alloc (c_ p.cells 38)).alloc (c_ ar 38)) w.heap.size p∧af.At ((w.alloc (c_ p.cells 38)).alloc (c_ ar 38)) p∧B_ w.heap.size w ((w.alloc (c_ p.cells 38)).alloc (c_ ar 38))∧((w.alloc (c_ p.cells 38)).alloc (c_ ar 38)).heap[w.heap.size+1]? =o_ (c_ ar 38)):=⟨h2.1,h.below b1,b1,h2.2⟩
 have fl:Hid (p.Fit∧ ∀ x∈p.L8,x.dX):=⟨hf,hs⟩
 clear h hf hs b1 h2
 go_enter func6,ntmps6
 go_upto_region 1 with fail;generalize (w.alloc (c_ p.cells 38)).alloc (c_ ar 38)=A at *;have Mb:=eV p A fl.I.1 fl.I.2 S.I.2.1;go_wp2_with (refine eT 2 S.I.1 ?_);refine Mb.mono ?_;clear Mb;rintro e af8 ⟨rfl,hb⟩;replace S:Hid (av (af8) w.heap.size p∧af.At (af8) p∧B_ w.heap.size w (af8)∧(af8).heap[w.heap.size+1]? =o_ (c_ ar 38)):=⟨S.I.1.below hb,S.I.2.1.below hb,S.I.2.2.1.trans (hb.mono S.I.2.2.1.size),(hb.block _ (J2.1 S.I.2.2.2).1).trans S.I.2.2.2⟩
 clear hb;cases h4:bK p.pure
 ·have HN:Hid (hZ p.pure now=n_):=by show hZ _ _=n_; simp [hZ,h4]
  clear h4;exact Zar
 have H4:Hid (bK p.pure=true):=h4;clear h4;have Mb:=dx now 0 1000000000 af8;go_wp2_with fail;refine Mb.mono ?_;clear Mb;rintro e A2 ⟨rfl,rfl⟩;cases h5:cv now 0 1000000000
 ·have HN:Hid (hZ p.pure now=n_):=by show hZ _ _=n_; simp [hZ,h5]
  clear h5;exact Zar
 have H5:Hid (cv now 0 1000000000=true):=h5;clear h5;have Mb:=uy p A2;unfold af.cells at Mb;obtain ⟨m0,m1,m2,m3,m4,m5,m6,m7⟩:=S.I.1.cells;go_wp2_with fail;clear m0 m1 m2 m3 m4 m5 m6 m7;refine Mb.mono ?_;clear Mb;rintro e A3 ⟨rfl,hb⟩;replace S:Hid (av (A3) w.heap.size p∧af.At (A3) p∧B_ w.heap.size w (A3)∧(A3).heap[w.heap.size+1]? =o_ (c_ ar 38)):=⟨S.I.1.below hb,S.I.2.1.below hb,S.I.2.2.1.trans (hb.mono S.I.2.2.1.size),(hb.block _ (J2.1 S.I.2.2.2).1).trans S.I.2.2.2⟩
 clear hb;by_cases h6:p.next≤999999980;rotate_left
 ·have HN:Hid (hZ p.pure now=n_):=by show hZ _ _=n_; have h7:decide (p.pure.next≤999999980)=false:=decide_eq_false h6; simp only [hZ,h7,PP]; rfl
  have d6:decide (p.next≤999999980)=false:=decide_eq_false h6;clear h6;exact Zar
 have HN:Hid (hZ p.pure now=o_ (mS now p.pure)):=by show hZ _ _=o_ _; have h7:decide (p.pure.next≤999999980)=true:=decide_eq_true h6; simp only [hZ,H4.I,H5.I,h7,Bool.and_true]; rfl
 have d6:decide (p.next≤999999980)=true:=decide_eq_true h6;have Mb:=zx p now A3 fl.I.1 fl.I.2 S.I.2.1 ((ch _).1 H4.I) h6 (bz.1 H5.I);clear h6;go_wp2_with (refine eT 2 S.I.1 ?_);refine Mb.mono ?_;clear Mb d6;rintro e afT ⟨q,rfl,hp,ho,hb⟩;have hlt:=(J2.1 S.I.2.2.2).1;have S3:Hid (B_ w.heap.size w afT∧afT.heap[w.heap.size+1]? =o_ (c_ ar 38)∧ap afT A3.heap.size q∧q.pure=mS now p.pure∧w.heap.size+1 < A3.heap.size):=⟨S.I.2.2.1.trans (hb.mono S.I.2.2.1.size),(hb.block _ hlt).trans S.I.2.2.2,ho,hp,hlt⟩
 clear hp ho hb hlt S;go_wp2_with (refine ec 4 22 q.cells S3.I.2.1 ?_);refine mG results6 (b_ true) S3.I.2.1 ?_;rw [HN.I];exact ⟨q,rfl,(S3.I.2.2.1.lower (by have:=S3.I.2.2.2.2; omega)).same fun g hg=>KH _ _ _ _ ZdM,S3.I.2.2.2.1,q_ S3.I.1 (by omega) _⟩
end
section
open Go.RowKit Go.Maps
section
variable {w w1:w_} {base o c:Nat} {S:aZ}
theorem Mov.sem {x x':bD} (F:bD→bD) (h:cJ w base o S) (hx:(x,c)∈S.ls) (hb:w1.heap[c]? =o_ (c_ (eH x') 105)) (hF:x'=F x) (hid:x'.id=x.id) (hk:aI w w1 [c]): ∃ S',Mov o base S w S' w1∧S'.pure= { S.pure with aj:=jP (·.id) x.id F S.pure.aj } ∧S'.lp=S.lp∧S'.q=S.q:=by
 have hc:c∈S.boxes:=aZ.ahS (LB _ (Lr.2 ⟨_,hx,rfl⟩));have ha:=h.sem hx hb hid fun b hb2 hne=>hk.same b (h.lt b hb2) (by simpa using hne)
 refine ⟨_,⟨ha,hk.mono fun b hb2=> ?_,fun b hb2 _=> ?_⟩,?_,rfl,rfl⟩
 ·rw [KB.1 hb2]
  exact aZ.agr hc
 ·have e1:({ S with ls:=sU c (fun _=>x') S.ls } :aZ).boxes=S.boxes:=by simp only [aZ.boxes,qb]
  exact ZbR
 ·show ({ S.pure with aj:=(sU c (fun _=>x') S.ls).map (·.1) } :aE)=_
  rw [h.aj.ah2 (f:=fun y=>y) (nb:=fun y:bD=>y.id) (F:=F) (fun _=>rfl) hx hF];rfl
theorem Mov.event {x x':aB} (F:aB→aB) (h:cJ w base o S) (hx:(x,c)∈S.le) (hb:w1.heap[c]? =o_ (c_ (cG x') 109)) (hF:x'=F x) (hid:x'.id=x.id) (hk:aI w w1 [c]): ∃ S',Mov o base S w S' w1∧S'.pure= { S.pure with L9:=jP (·.id) x.id F S.pure.L9 } ∧S'.lp=S.lp∧S'.q=S.q:=by
 have hc:c∈S.boxes:=aZ.agZ (LB _ (Lr.2 ⟨_,hx,rfl⟩));have ha:=h.event hx hb hid fun b hb2 hne=>hk.same b (h.lt b hb2) (by simpa using hne)
 refine ⟨_,⟨ha,hk.mono fun b hb2=> ?_,fun b hb2 _=> ?_⟩,?_,rfl,rfl⟩
 ·rw [KB.1 hb2]
  exact aZ.agr hc
 ·have e1:({ S with le:=sU c (fun _=>x') S.le } :aZ).boxes=S.boxes:=by simp only [aZ.boxes,qb]
  exact ZbR
 ·show ({ S.pure with L9:=(sU c (fun _=>x') S.le).map (·.1) } :aE)=_
  rw [h.L9.ah2 (f:=fun y=>y) (nb:=fun y:aB=>y.id) (F:=F) (fun _=>rfl) hx hF];rfl
theorem Mov.ajl {x x':az} (F:az→az) (h:cJ w base o S) (hx:(x,c)∈S.lb) (hb:w1.heap[c]? =o_ (c_ (cI x') 112)) (hF:x'=F x) (hid:x'.id=x.id) (hk:aI w w1 [c]): ∃ S',Mov o base S w S' w1∧S'.pure= { S.pure with ag:=jP (·.id) x.id F S.pure.ag } ∧S'.lp=S.lp∧S'.q=S.q:=by
 have hc:c∈S.boxes:=aZ.ag0 (LB _ (Lr.2 ⟨_,hx,rfl⟩));have ha:=h.ajl hx hb hid fun b hb2 hne=>hk.same b (h.lt b hb2) (by simpa using hne)
 refine ⟨_,⟨ha,hk.mono fun b hb2=> ?_,fun b hb2 _=> ?_⟩,?_,rfl,rfl⟩
 ·rw [KB.1 hb2]
  exact aZ.agr hc
 ·have e1:({ S with lb:=sU c (fun _=>x') S.lb } :aZ).boxes=S.boxes:=by simp only [aZ.boxes,qb]
  exact ZbR
 ·show ({ S.pure with ag:=(sU c (fun _=>x') S.lb).map (·.1) } :aE)=_
  rw [h.ag.ah2 (f:=fun y=>y) (nb:=fun y:az=>y.id) (F:=F) (fun _=>rfl) hx hF];rfl
theorem Mov.buffer {x x':au} (F:ci→ci) (h:cJ w base o S) (hx:(x,c)∈S.lf) (hb:w1.heap[c]? =o_ (c_ (bQ x') 114)) (hm:aC.cO w1 base x') (hF:x'.toci=F x.toci) (hid:x'.id=x.id) (hk:aI w w1 (c :: blk x.ak)) (hn: ∀ b∈blk x'.ak,b∈blk x.ak∨w.heap.size≤b): ∃ S',Mov o base S w S' w1∧S'.pure= { S.pure with ae:=jP (·.id) x.id F S.pure.ae } ∧S'.lp=S.lp∧S'.q=S.q∧(x',c)∈S'.lf:=by
 have hc:c∈S.boxes:=aZ.F9 (LB _ (Lr.2 ⟨_,hx,rfl⟩));have iH: ∀ b∈blk x.ak,b∈S.kids:=fun b hb2=>by
  unfold aZ.kids;simp only [Kg];exact .inr (.inl (Lq.2 ⟨_,hx,fZ.1 hb2⟩))
 have ha:=h.buffer hx hb hm hid (fun b hb2 hne hni=>hk.same b (h.lt b hb2) (by simp [hne,hni])) (fun b hb2=>(hn b hb2).imp_right fun h5 h6=>Nat.not_lt.2 h5 (h.lt b h6));refine ⟨_,⟨ha.1,hk.mono fun b hb2=> ?_,fun b hb2 hl=> ?_⟩,?_,rfl,rfl,show (x',c)∈sU c (fun _=>x') S.lf from yy.2 ⟨(x,c),hx,by simp⟩⟩
 ·exact Zb7
 ·exact ZbD
 ·show ({ S.pure with ae:=(sU c (fun _=>x') S.lf).map (·.1.toci) } :aE)=_
  rw [h.ae.ah2 (f:=fun y:au=>y.toci) (nb:=fun y:ci=>y.id) (F:=F) (fun _=>rfl) hx hF];rfl
theorem Mov.port {x x':aM} (F:dS→dS) (h:cJ w base o S) (hx:(x,c)∈S.lq) (hb:w1.heap[c]? =o_ (c_ (cW x') 116)) (hm:aU.cO w1 base x') (hF:x'.todS=F x.todS) (hid:x'.id=x.id) (hk:aI w w1 (c :: blk x.ak)) (hn: ∀ b∈blk x'.ak,b∈blk x.ak∨w.heap.size≤b): ∃ S',Mov o base S w S' w1∧S'.pure= { S.pure with ai:=jP (·.id) x.id F S.pure.ai } ∧S'.lp=S.lp∧S'.q=S.q∧(x',c)∈S'.lq:=by
 have hc:c∈S.boxes:=aZ.agV (LB _ (Lr.2 ⟨_,hx,rfl⟩));have iH: ∀ b∈blk x.ak,b∈S.kids:=fun b hb2=>by
  unfold aZ.kids;simp only [Kg];exact .inr (.inr (Lq.2 ⟨_,hx,fZ.1 hb2⟩))
 have ha:=h.port hx hb hm hid (fun b hb2 hne hni=>hk.same b (h.lt b hb2) (by simp [hne,hni])) (fun b hb2=>(hn b hb2).imp_right fun h5 h6=>Nat.not_lt.2 h5 (h.lt b h6));refine ⟨_,⟨ha.1,hk.mono fun b hb2=> ?_,fun b hb2 hl=> ?_⟩,?_,rfl,rfl,show (x',c)∈sU c (fun _=>x') S.lq from yy.2 ⟨(x,c),hx,by simp⟩⟩
 ·exact Zb7
 ·exact ZbD
 ·show ({ S.pure with ai:=(sU c (fun _=>x') S.lq).map (·.1.todS) } :aE)=_
  rw [h.ai.ah2 (f:=fun y:aM=>y.todS) (nb:=fun y:dS=>y.id) (F:=F) (fun _=>rfl) hx hF];rfl
end
def agz (b:d_):v_:= .iface 325 (p_ (o_ b))
structure Ers (w:w_) (base:Nat) (E:d_ × d_ × d_):Prop where
 past:w.cell? ⟨0,0,n_⟩=o_ (agz E.1)
 non:w.cell? ⟨2,0,n_⟩=o_ (agz E.2.1)
 not:w.cell? ⟨3,0,n_⟩=o_ (agz E.2.2)
 low:4≤base
 ety:w.cell? ⟨1,0,n_⟩=o_ (.iface 285 (a_ #[p_ (o_ ⟨4,206,n_⟩)]))
 bx: ∀ b,b=E.1∨b=E.2.1∨b=E.2.2→b.block < base∧ ∃ cs t,w.heap[b.block]? =o_ (c_ cs t)
 ne:E.1≠E.2.1∧E.1≠E.2.2∧E.2.1≠E.2.2
theorem Ers.below {w w':w_} {base:Nat} {E:d_ × d_ × d_} (h:Ers w base E) (hb:B_ base w w'):Ers w' base E:=by
 have hl:=h.low;exact ⟨(J1 (hb.block 0 (by omega))).trans h.past,(J1 (hb.block 2 (by omega))).trans h.non,(J1 (hb.block 3 (by omega))).trans h.not,hl,(J1 (hb.block 1 (by omega))).trans h.ety,fun b h5=>⟨(h.bx b h5).1,by obtain ⟨cs,t,h6⟩:=(h.bx b h5).2; exact ⟨cs,t,(hb.block b.block (h.bx b h5).1).trans h6⟩⟩,h.ne⟩
def aiB (E:d_ × d_ × d_) (c:Int):v_:=if c=0 then .nilIface else if c= -1 then agz E.1 else if c=3 then agz E.2.1 else if c=1 then agz E.2.2 else .iface 211 (a_ #[i_ j_ (c - 10)])
theorem agG {S:aZ} {g:Nat} {x:ao} {f:ao→ao} {nx:Int} (hx:(x,g)∈S.lp):g∈(S.ju g f nx).lp.map (·.2):=by
 show g∈(sU g f S.lp).map (·.2)
 rw [qb];exact Lr.2 ⟨_,hx,rfl⟩
def agf (E:d_ × d_ × d_) (o base g:Nat) (S:aZ) (r:aE × Int) (w:w_) (e:Ending) (w':w_):Prop:= ∃ S',e=r_ (aiB E r.2)∧Mov o base S w S' w'∧S'.pure=r.1∧(r.2= -1∧g∈S'.lp.map (·.2)∨afU g S S')
structure Job (w:w_) (base o d g:Nat) (E:d_ × d_ × d_) (S:aZ) (x:ao) (op:dN) (now:Int):Prop where
 dg:afb w base o d g S op now
 er:Ers w base E
 hx:(x,g)∈S.lp
 right:aQ S.pure
 up:x.Md=1
 room:S.q.next≤999999990
 ok:kc op=true
 op:op=opAt x.toaD
 now:0≤now∧now≤1000000000
section
variable {w:w_} {base o d g:Nat} {E:d_ × d_ × d_} {S:aZ} {x:ao} {op:dN} {now:Int}
theorem Job.wk (h:Job w base o d g E S x op now) (st:Int) (hs: ¬ st=0∧ ¬ st=1:=by decide):aij g S st:=
 ⟨h.right,by have:=h.room; omega,hs,fun y hy=>by rw [show y=x from congrArg Prod.fst (h.dg.at'.L8.one hy h.hx rfl)]; exact h.up⟩
theorem Job.nx (h:Job w base o d g E S x op now):0≤S.q.next∧S.q.next≤1000000000:=(h.wk 2).low
theorem Job.box (h:Job w base o d g E S x op now):w.heap[g]? =o_ (c_ (aX x) 100):=h.dg.at'.L8.box _ h.hx
theorem Job.ae9 (h:Job w base o d g E S x op now):o≠g:=(h.dg.at'.apart (aZ.ago (LB _ (Lr.2 ⟨_,h.hx,rfl⟩)))).1
theorem Job.dg' (h:Job w base o d g E S x op now):d≠g:=fun e=>h.dg.I (e ▸ aZ.agr (aZ.ago (LB _ (Lr.2 ⟨_,h.hx,rfl⟩))))
theorem Job.below {w1:w_} (h:Job w base o d g E S x op now) (hb:B_ w.heap.size w w1):Job w1 base o d g E S x op now:=
 ⟨h.dg.move (Mov.below h.dg.at' hb),h.er.below ((Mov.below h.dg.at' hb).cd h.dg.at' h.dg.low),h.hx,h.right,h.up,h.room,h.ok,h.op,h.now⟩
theorem agf.pre {w1 w2:w_} {S1:aZ} {r:aE × Int} {e:Ending} (h:agf E o base g S1 r w1 e w2) (hm:Mov o base S w S1 w1) (hk:afU g S S1):agf E o base g S r w e w2:=by
 obtain ⟨S',h1,h2,h3,h4⟩:=h;exact ⟨S',h1,hm.trans h2,h3,h4.imp_right fun h5=>hk.trans h5⟩
theorem agf.same {c:Int} {w1:w_} (h:Job w base o d g E S x op now) (hb:B_ w.heap.size w w1):agf E o base g S (S.pure,c) w (r_ (aiB E c)) w1:=⟨S,rfl,Mov.below h.dg.at' hb,rfl,.inr afU.refl⟩
theorem Job.ju {f:ao→ao} {f':aD→aD} {nx:Int} {w1:w_} (h:Job w base o d g E S x op now) (hf: ∀ y:ao,f y=⟨f' y.toaD,y.aY,y.bH⟩) (hf2: ∀ y,(f' y).id=y.id∧(f' y).prog=y.prog) (hc:w1.heap[g]? =o_ (c_ (aX (f x)) 100)) (ho:fa w1 o { S.q with next:=nx }) (hk:aI w w1 [g,o]):Mov o base S w (S.ju g f nx) w1∧(S.ju g f nx).pure= { S.pure with next:=nx,L8:=ce x.id f' S.pure.L8 } :=by
 refine ⟨Mov.ju h.dg.at' (fun y=>by rw [hf y]; exact ⟨(hf2 _).1,(hf2 _).2,rfl,rfl⟩) h.hx hc ho hk,?_⟩;exact aZ.Sb (agv h.right) (fun p hp hpg=>h.dg.at'.L8.one hp h.hx hpg) h.hx (fun y=>by rw [hf y])
end
end
section
open Go.RowKit Go.Maps
attribute [local go_sem ↓] Kc Kd
variable {w:w_} {base o d g H fn b:Nat} {E:d_ × d_ × d_} {S:aZ} {x:ao} {op:dN} {now m n:Int}
abbrev agn (fn d:Nat):v_:= .func (.func fn) #[p_ (o_ ⟨d,0,n_⟩)] #[]
abbrev ahD (H:Nat):Array v_:= #[p_ (o_ ⟨H,0,n_⟩),p_ (o_ ⟨H+1,0,n_⟩),p_ (o_ ⟨H+1+1,0,n_⟩)]
structure ag1 (w:w_) (H b:Nat) (n:Int) (v:v_):Prop where
 sh:w.cell? ⟨H,1,n_⟩=o_ (.map (o_ b))
 id:w.cell? ⟨H+1,0,n_⟩=o_ (i_ j_ n)
 fn:w.cell? ⟨H+1+1,0,n_⟩=o_ v
abbrev wbW (w:w_) (m n:Int) (b:Nat) (v:v_) (t1 t2 t3:T_):w_:=((w.alloc (c_ #[i_ j_ m,.map (o_ b)] t1)).alloc (c_ #[i_ j_ n] t2)).alloc (c_ #[v] t3)
theorem agm (w:w_) (m n:Int) (b:Nat) (v:v_) (t1 t2 t3:T_):ag1 (wbW w m n b v t1 t2 t3) w.heap.size b n v∧B_ w.heap.size w (wbW w m n b v t1 t2 t3):=by
 refine ⟨⟨?_,?_,?_⟩,(((Kp _ _).alloc (Ki _) _).alloc (by simp) _).alloc ZcS _⟩
 ·rw [World.cell?_alloc_lt _ _ _ ZcS,World.cell?_alloc_lt _ _ _ (by simp),World.cell?_alloc_at _ _ _ _ (by simp)]
  rfl
 ·rw [World.cell?_alloc_lt _ _ _ (by simp),World.cell?_alloc_at _ _ _ _ (by simp)]
  rfl
 ·rw [World.cell?_alloc_at _ _ _ _ (by simp)]
  rfl
theorem ahV:k_ J3 164 #[a_ #[i_ j_ m,.map (o_ b)],i_ j_ n,agn fn d] w fun e w'=>e=r_ (.func (.func 201) #[] (ahD w.heap.size))∧w'=wbW w m n b (agn fn d) 134 2 246:=by
 go_enter func164,ntmps164
 go_wp2;go_ret;exact ⟨rfl,rfl⟩
theorem ahF {f:bD→aE × Int} (J:Job w base o d g E S x op now) (hB:ag1 w H S.q.bs op.2.1 (agn fn d)) (hk: ¬ op.1=17) (hF: ∀ args W,(callFunc fn args).run J3 W= .ok (.enter fn args) W) (hX: ∀ s c,(s,c)∈S.ls→s.id=op.2.1→k_ J3 fn #[p_ (o_ ⟨d,0,n_⟩),p_ (o_ ⟨c,0,n_⟩)] w fun e w'=>agf E o base g S (f s) w e w'):
  k_ J3 201 (ahD H) w fun e w'=>agf E o base g S (agh S.pure (cg (·.id) op.2.1 S.pure.aj) f) w e w':=by
 obtain ⟨c1,c2,c3⟩:=hB;have gn:=J.er.non;have hlk:=J.dg.at'.aj.map.look underlying132 ZcR (xX (bz.2 ((dv J.ok).2.1 hk))) true;have HJ:=aA J;rcases agQ (l:=S.ls) (num:=fun x:bD=>x.id) (f:=fun x:bD=>x) (nb:=fun y:bD=>y.id) (fun _=>rfl) op.2.1 with ⟨h1,h2⟩ | ⟨s,c,h3,h4,h1,h2⟩
 ·have h2:cg (·.id) op.2.1 S.pure.aj=n_:=h2
  rw [h1] at hlk;rw [h2];clear h1 h2 hX J hF;simp only [agh]
  go_enter func201,ntmps201
  exact Zad
 ·have h2:cg (·.id) op.2.1 S.pure.aj=o_ s:=h2
  rw [h1] at hlk;rw [h2];simp only [qz,dt] at hlk;have HX:=aA (hX s c h3 h4);clear h1 h2 h3 h4 hX J gn;simp only [agh]
  go_enter func201,ntmps201
  exact x_
theorem ag3:k_ J3 167 #[a_ #[i_ j_ m,.map (o_ b)],i_ j_ n,agn fn d] w fun e w'=>e=r_ (.func (.func 203) #[] (ahD w.heap.size))∧w'=wbW w m n b (agn fn d) 139 2 248:=by
 go_enter func167,ntmps167
 go_wp2;go_ret;exact ⟨rfl,rfl⟩
theorem agY {f:aB→aE × Int} (J:Job w base o d g E S x op now) (hB:ag1 w H S.q.be op.2.1 (agn fn d)) (hk: ¬ op.1=17) (hF: ∀ args W,(callFunc fn args).run J3 W= .ok (.enter fn args) W) (hX: ∀ s c,(s,c)∈S.le→s.id=op.2.1→k_ J3 fn #[p_ (o_ ⟨d,0,n_⟩),p_ (o_ ⟨c,0,n_⟩)] w fun e w'=>agf E o base g S (f s) w e w'):
  k_ J3 203 (ahD H) w fun e w'=>agf E o base g S (agh S.pure (cg (·.id) op.2.1 S.pure.L9) f) w e w':=by
 obtain ⟨c1,c2,c3⟩:=hB;have gn:=J.er.non;have hlk:=J.dg.at'.L9.map.look underlying137 ZcR (xX (bz.2 ((dv J.ok).2.1 hk))) true;have HJ:=aA J;rcases agQ (l:=S.le) (num:=fun x:aB=>x.id) (f:=fun x:aB=>x) (nb:=fun y:aB=>y.id) (fun _=>rfl) op.2.1 with ⟨h1,h2⟩ | ⟨s,c,h3,h4,h1,h2⟩
 ·have h2:cg (·.id) op.2.1 S.pure.L9=n_:=h2
  rw [h1] at hlk;rw [h2];clear h1 h2 hX J hF;simp only [agh]
  go_enter func203,ntmps203
  exact Zad
 ·have h2:cg (·.id) op.2.1 S.pure.L9=o_ s:=h2
  rw [h1] at hlk;rw [h2];simp only [qz,dt] at hlk;have HX:=aA (hX s c h3 h4);clear h1 h2 h3 h4 hX J gn;simp only [agh]
  go_enter func203,ntmps203
  exact x_
theorem ag2:k_ J3 174 #[a_ #[i_ j_ m,.map (o_ b)],i_ j_ n,agn fn d] w fun e w'=>e=r_ (.func (.func 209) #[] (ahD w.heap.size))∧w'=wbW w m n b (agn fn d) 144 2 252:=by
 go_enter func174,ntmps174
 go_wp2;go_ret;exact ⟨rfl,rfl⟩
theorem agX {f:az→aE × Int} (J:Job w base o d g E S x op now) (hB:ag1 w H S.q.bb op.2.1 (agn fn d)) (hk: ¬ op.1=17) (hF: ∀ args W,(callFunc fn args).run J3 W= .ok (.enter fn args) W) (hX: ∀ s c,(s,c)∈S.lb→s.id=op.2.1→k_ J3 fn #[p_ (o_ ⟨d,0,n_⟩),p_ (o_ ⟨c,0,n_⟩)] w fun e w'=>agf E o base g S (f s) w e w'):
  k_ J3 209 (ahD H) w fun e w'=>agf E o base g S (agh S.pure (cg (·.id) op.2.1 S.pure.ag) f) w e w':=by
 obtain ⟨c1,c2,c3⟩:=hB;have gn:=J.er.non;have hlk:=J.dg.at'.ag.map.look underlying142 ZcR (xX (bz.2 ((dv J.ok).2.1 hk))) true;have HJ:=aA J;rcases agQ (l:=S.lb) (num:=fun x:az=>x.id) (f:=fun x:az=>x) (nb:=fun y:az=>y.id) (fun _=>rfl) op.2.1 with ⟨h1,h2⟩ | ⟨s,c,h3,h4,h1,h2⟩
 ·have h2:cg (·.id) op.2.1 S.pure.ag=n_:=h2
  rw [h1] at hlk;rw [h2];clear h1 h2 hX J hF;simp only [agh]
  go_enter func209,ntmps209
  exact Zad
 ·have h2:cg (·.id) op.2.1 S.pure.ag=o_ s:=h2
  rw [h1] at hlk;rw [h2];simp only [qz,dt] at hlk;have HX:=aA (hX s c h3 h4);clear h1 h2 h3 h4 hX J gn;simp only [agh]
  go_enter func209,ntmps209
  exact x_
theorem ahj:k_ J3 171 #[a_ #[i_ j_ m,.map (o_ b)],i_ j_ n,agn fn d] w fun e w'=>e=r_ (.func (.func 204) #[] (ahD w.heap.size))∧w'=wbW w m n b (agn fn d) 149 2 250:=by
 go_enter func171,ntmps171
 go_wp2;go_ret;exact ⟨rfl,rfl⟩
theorem ahb {f:ci→aE × Int} (J:Job w base o d g E S x op now) (hB:ag1 w H S.q.bf op.2.1 (agn fn d)) (hk: ¬ op.1=17) (hF: ∀ args W,(callFunc fn args).run J3 W= .ok (.enter fn args) W) (hX: ∀ s c,(s,c)∈S.lf→s.id=op.2.1→k_ J3 fn #[p_ (o_ ⟨d,0,n_⟩),p_ (o_ ⟨c,0,n_⟩)] w fun e w'=>agf E o base g S (f s.toci) w e w'):
  k_ J3 204 (ahD H) w fun e w'=>agf E o base g S (agh S.pure (cg (·.id) op.2.1 S.pure.ae) f) w e w':=by
 obtain ⟨c1,c2,c3⟩:=hB;have gn:=J.er.non;have hlk:=J.dg.at'.ae.map.look underlying147 ZcR (xX (bz.2 ((dv J.ok).2.1 hk))) true;have HJ:=aA J;rcases agQ (l:=S.lf) (num:=fun x:au=>x.id) (f:=fun x:au=>x.toci) (nb:=fun y:ci=>y.id) (fun _=>rfl) op.2.1 with ⟨h1,h2⟩ | ⟨s,c,h3,h4,h1,h2⟩
 ·have h2:cg (·.id) op.2.1 S.pure.ae=n_:=h2
  rw [h1] at hlk;rw [h2];clear h1 h2 hX J hF;simp only [agh]
  go_enter func204,ntmps204
  exact Zad
 ·have h2:cg (·.id) op.2.1 S.pure.ae=o_ s.toci:=h2
  rw [h1] at hlk;rw [h2];simp only [qz,dt] at hlk;have HX:=aA (hX s c h3 h4);clear h1 h2 h3 h4 hX J gn;simp only [agh]
  go_enter func204,ntmps204
  exact x_
theorem ahy:k_ J3 178 #[a_ #[i_ j_ m,.map (o_ b)],i_ j_ n,agn fn d] w fun e w'=>e=r_ (.func (.func 210) #[] (ahD w.heap.size))∧w'=wbW w m n b (agn fn d) 154 2 254:=by
 go_enter func178,ntmps178
 go_wp2;go_ret;exact ⟨rfl,rfl⟩
theorem ahn {f:dS→aE × Int} (J:Job w base o d g E S x op now) (hB:ag1 w H S.q.bq op.2.1 (agn fn d)) (hk: ¬ op.1=17) (hF: ∀ args W,(callFunc fn args).run J3 W= .ok (.enter fn args) W) (hX: ∀ s c,(s,c)∈S.lq→s.id=op.2.1→k_ J3 fn #[p_ (o_ ⟨d,0,n_⟩),p_ (o_ ⟨c,0,n_⟩)] w fun e w'=>agf E o base g S (f s.todS) w e w'):
  k_ J3 210 (ahD H) w fun e w'=>agf E o base g S (agh S.pure (cg (·.id) op.2.1 S.pure.ai) f) w e w':=by
 obtain ⟨c1,c2,c3⟩:=hB;have gn:=J.er.non;have hlk:=J.dg.at'.ai.map.look underlying152 ZcR (xX (bz.2 ((dv J.ok).2.1 hk))) true;have HJ:=aA J;rcases agQ (l:=S.lq) (num:=fun x:aM=>x.id) (f:=fun x:aM=>x.todS) (nb:=fun y:dS=>y.id) (fun _=>rfl) op.2.1 with ⟨h1,h2⟩ | ⟨s,c,h3,h4,h1,h2⟩
 ·have h2:cg (·.id) op.2.1 S.pure.ai=n_:=h2
  rw [h1] at hlk;rw [h2];clear h1 h2 hX J hF;simp only [agh]
  go_enter func210,ntmps210
  exact Zad
 ·have h2:cg (·.id) op.2.1 S.pure.ai=o_ s.todS:=h2
  rw [h1] at hlk;rw [h2];simp only [qz,dt] at hlk;have HX:=aA (hX s c h3 h4);clear h1 h2 h3 h4 hX J gn;simp only [agh]
  go_enter func210,ntmps210
  exact x_
theorem ahE:k_ J3 181 #[a_ #[i_ j_ m,.map (o_ b)],i_ j_ n,agn fn d] w fun e w'=>e=r_ (.func (.func 211) #[] (ahD w.heap.size))∧w'=wbW w m n b (agn fn d) 129 2 256:=by
 go_enter func181,ntmps181
 go_wp2;go_ret;exact ⟨rfl,rfl⟩
theorem ahm {f:aD→aE × Int} (J:Job w base o d g E S x op now) (hB:ag1 w H S.q.bp op.2.1 (agn fn d)) (hk: ¬ op.1=17) (hF: ∀ args W,(callFunc fn args).run J3 W= .ok (.enter fn args) W) (hX: ∀ s c,(s,c)∈S.lp→s.id=op.2.1→k_ J3 fn #[p_ (o_ ⟨d,0,n_⟩),p_ (o_ ⟨c,0,n_⟩)] w fun e w'=>agf E o base g S (f s.toaD) w e w'):
  k_ J3 211 (ahD H) w fun e w'=>agf E o base g S (agh S.pure (cg (·.id) op.2.1 S.pure.L8) f) w e w':=by
 obtain ⟨c1,c2,c3⟩:=hB;have gn:=J.er.non;have hlk:=J.dg.at'.L8.map.look underlying127 ZcR (xX (bz.2 ((dv J.ok).2.1 hk))) true;have HJ:=aA J;rcases agQ (l:=S.lp) (num:=fun x:ao=>x.id) (f:=fun x:ao=>x.toaD) (nb:=fun y:aD=>y.id) (fun _=>rfl) op.2.1 with ⟨h1,h2⟩ | ⟨s,c,h3,h4,h1,h2⟩
 ·have h2:cg (·.id) op.2.1 S.pure.L8=n_:=h2
  rw [h1] at hlk;rw [h2];clear h1 h2 hX J hF;simp only [agh]
  go_enter func211,ntmps211
  exact Zad
 ·have h2:cg (·.id) op.2.1 S.pure.L8=o_ s.toaD:=h2
  rw [h1] at hlk;rw [h2];simp only [qz,dt] at hlk;have HX:=aA (hX s c h3 h4);clear h1 h2 h3 h4 hX J gn;simp only [agh]
  go_enter func211,ntmps211
  exact x_
variable {w:w_} {base o d g:Nat} {E:d_ × d_ × d_} {S:aZ} {x:ao} {op:dN} {now:Int}
def ahi (v:Int) (y:ao):ao:=⟨aiA v y.toaD,y.aY,y.bH⟩
theorem akl (J:Job w base o d g E S x op now) (hk:op.1=1):
  k_ J3 162 #[p_ (o_ ⟨d,0,n_⟩)] w fun e w'=>agf E o base g S (runT x.toaD op S.pure) w e w':=by
 obtain ⟨-,c1,-,c3,-,-,-⟩:=agb J.dg.box;have c5:=(bo J.box).2.2.2.2.2.1;have f5:w.frozen? ⟨g,5,n_⟩=false:=Ko _ _ _ _ _ J.box;have hn:=(dv J.ok).2.1 (by omega);obtain ⟨n0,n1⟩:=hn;have hr:=(aia (J.right.proc (Lr.2 ⟨_,J.hx,rfl⟩)).2.1 J.up).2.2;rw [← J.op] at hr;have hr:=hr hk;have l0:0≤x.left:=hr.1;have l1:x.left < op.2.1:=hr.2;have gp:=J.er.past;have HJ:Hid (Job w base o d g E S x op now):=J;have H1:=fun v:v_=>cx (i:=5) (v:=v) J.box
 have HE: ∀ v:Int,∀ w1:w_,w1.heap[g]? =o_ (c_ (aX (ahi v x)) 100)→aI w w1 [g] →Hid (Mov o base S w (S.ju g (ahi v) S.q.next) w1∧(S.ju g (ahi v) S.q.next).pure= { S.pure with L8:=ce x.id (aiA v) S.pure.L8 }):=fun v w1 h1 h2=>
  HJ.I.ju (f:=ahi v) (f':=aiA v) (nx:=S.q.next) (fun _=>rfl) (fun _=>⟨rfl,rfl⟩) h1 ((h2.same o (HJ.I.dg.at'.lt o (by simp)) (by simpa using HJ.I.ae9)).trans HJ.I.dg.at'.opn) (h2.mono (by simp))
 clear hr;by_cases hl:x.left=0
 ·have e0:(x.left == 0)=true:=by simp [hl]
  have c5b:(w.setCell ⟨g,5,n_⟩ (i_ j_ op.2.1)).cell? ⟨g,5,n_⟩=o_ (i_ j_ op.2.1):=(bo (x:=ahi op.2.1 x) (H1 (i_ j_ op.2.1))).2.2.2.2.2.1;have f5b:(w.setCell ⟨g,5,n_⟩ (i_ j_ op.2.1)).frozen? ⟨g,5,n_⟩=false:=Ko _ _ _ _ _ (H1 (i_ j_ op.2.1));have k2:((w.setCell ⟨g,5,n_⟩ (i_ j_ op.2.1)).setCell ⟨g,5,n_⟩ (i_ j_ (op.2.1 - 1))).heap[g]? =o_ (c_ (aX (ahi (op.2.1 - 1) x)) 100 (0,0)):=cx (i:=5) (v:=i_ j_ (op.2.1 - 1)) (H1 (i_ j_ op.2.1));have HF:=HE (op.2.1 - 1) _ k2 (aI.cell.trans aI.cell);have gpb:=(J.er.below (HF.I.1.cd J.dg.at' J.dg.low)).past;have hv:agO x.toaD op=op.2.1:=by unfold agO; rw [if_pos (show x.toaD.left=0 from hl)]
  have c5c:((w.setCell ⟨g,5,n_⟩ (i_ j_ op.2.1)).setCell ⟨g,5,n_⟩ (i_ j_ (op.2.1 - 1))).cell? ⟨g,5,n_⟩=o_ (i_ j_ (op.2.1 - 1)):=(bo k2).2.2.2.2.2.1;unfold runT;rw [hv];clear k2 hv HE H1 J gp;by_cases h1:op.2.1=1
  ·rw [if_pos h1]
   have p1: ¬ 0 < op.2.1 - 1:=by omega
   clear h1
   go_enter func162,ntmps162
   go_wp2;go_ret;exact ⟨S.ju g (ahi (op.2.1 - 1)) S.q.next,rfl,HF.I.1,HF.I.2,.inr (afU.ju fun _ _=>⟨rfl,rfl,rfl,rfl⟩)⟩
  ·rw [if_neg h1]
   have p1:0 < op.2.1 - 1:=by omega
   clear h1
   go_enter func162,ntmps162
   go_wp2;go_ret;exact ⟨S.ju g (ahi (op.2.1 - 1)) S.q.next,rfl,HF.I.1,HF.I.2,.inl ⟨rfl,agG HJ.I.hx⟩⟩
 ·have e0:(x.left == 0)=false:=by simp [hl]
  have k2:(w.setCell ⟨g,5,n_⟩ (i_ j_ (x.left - 1))).heap[g]? =o_ (c_ (aX (ahi (x.left - 1) x)) 100 (0,0)):=H1 (i_ j_ (x.left - 1));have c5c:(w.setCell ⟨g,5,n_⟩ (i_ j_ (x.left - 1))).cell? ⟨g,5,n_⟩=o_ (i_ j_ (x.left - 1)):=(bo k2).2.2.2.2.2.1;have HF:=HE (x.left - 1) _ k2 aI.cell;have gpb:=(J.er.below (HF.I.1.cd J.dg.at' J.dg.low)).past;have hv:agO x.toaD op=x.left:=by unfold agO; rw [if_neg (show ¬ x.toaD.left=0 from hl)]
  unfold runT;rw [hv];clear k2 hv HE H1 J gp;by_cases h1:x.left=1
  ·rw [if_pos h1]
   have p1: ¬ 0 < x.left - 1:=by omega
   clear h1
   go_enter func162,ntmps162
   go_wp2;go_ret;exact ⟨S.ju g (ahi (x.left - 1)) S.q.next,rfl,HF.I.1,HF.I.2,.inr (afU.ju fun _ _=>⟨rfl,rfl,rfl,rfl⟩)⟩
  ·rw [if_neg h1]
   have p1:0 < x.left - 1:=by omega
   clear h1
   go_enter func162,ntmps162
   go_wp2;go_ret;exact ⟨S.ju g (ahi (x.left - 1)) S.q.next,rfl,HF.I.1,HF.I.2,.inl ⟨rfl,agG HJ.I.hx⟩⟩
theorem B5 {s:bD} {c:Nat} (J:Job w base o d g E S x op now) (hs:(s,c)∈S.ls) (hid:s.id=op.2.1):
  k_ J3 165 #[p_ (o_ ⟨d,0,n_⟩),p_ (o_ ⟨c,0,n_⟩)] w fun e w'=>agf E o base g S (aiw op.2.1 S.pure s) w e w':=by
 have hb:=J.dg.at'.aj.box _ hs;have c1:w.cell? ⟨c,1,n_⟩=o_ (i_ j_ s.n):=by simp [World.cell?,hb,eH]
 have f1:w.frozen? ⟨c,1,n_⟩=false:=Ko _ _ _ _ _ hb;have hsr:=(cK J.right.aj s (Lr.2 ⟨_,hs,rfl⟩)).2;simp only [gw,J7] at hsr;obtain ⟨m0,m1⟩:=bz.1 hsr.1;obtain ⟨n0,n1⟩:=bz.1 hsr.2;have HE:Hid (∃ S',Mov o base S w S' (w.setCell ⟨c,1,n_⟩ (i_ j_ (s.n - 1)))∧S'.pure= { S.pure with aj:=jP (·.id) s.id (fun y=> { y with n:=y.n+ -1 }) S.pure.aj } ∧S'.lp=S.lp∧S'.q=S.q):=Mov.sem (fun y=> { y with n:=y.n+ -1 }) J.dg.at' hs (x':= { s with n:=s.n+ -1 }) (cx (i:=1) (v:=i_ j_ (s.n - 1)) hb) rfl rfl aI.cell;have HM:=aA (Mov.refl J.dg.at');rw [hid] at HE;unfold aiw;clear hb J hsr
 go_enter func165,ntmps165
 by_cases h0:s.n=0
 ·have e0:(s.n == 0)=true:=by simp [h0]
  rw [if_pos h0];clear h0;go_wp2;go_ret;exact ⟨_,rfl,HM.I,rfl,.inr afU.refl⟩
 ·have e0:(s.n == 0)=false:=by simp [h0]
  rw [if_neg h0];exact ZaT
variable {w:w_} {base o d g:Nat} {E:d_ × d_ × d_} {S:aZ} {x:ao} {op:dN} {now:Int}
def akx (y:ao):ao:=⟨{ y.toaD with pc:=0 },y.aY,y.bH⟩
theorem ajX (J:Job w base o d g E S x op now):
  k_ J3 184 #[p_ (o_ ⟨d,0,n_⟩)] w fun e w'=>agf E o base g S (aj6 x.toaD S.pure) w e w':=by
 obtain ⟨-,c1,-⟩:=agb J.dg.box;have c4:=(bo J.box).2.2.2.2.1;have f4:w.frozen? ⟨g,4,n_⟩=false:=Ko _ _ _ _ _ J.box;have HF:=aA (J.ju (f:=akx) (f':=fun y=> { y with pc:=0 }) (nx:=S.q.next) (w1:=w.setCell ⟨g,4,n_⟩ (i_ j_ 0)) (fun _=>rfl) (fun _=>⟨rfl,rfl⟩) (cx (i:=4) (v:=i_ j_ 0) J.box) ((aH J.ae9).trans J.dg.at'.opn) (aI.cell.mono (by simp)));have gp:=(J.er.below (HF.I.1.cd J.dg.at' J.dg.low)).past;have HX:=aA J.hx;unfold aj6;clear J
 go_enter func184,ntmps184
 go_wp2;go_ret;exact ⟨S.ju g akx S.q.next,rfl,HF.I.1,HF.I.2,.inl ⟨rfl,agG HX.I⟩⟩
theorem ajp {e0:aB} {c:Nat} (J:Job w base o d g E S x op now) (hs:(e0,c)∈S.le) (hid:e0.id=op.2.1):
  k_ J3 169 #[p_ (o_ ⟨d,0,n_⟩),p_ (o_ ⟨c,0,n_⟩)] w fun e w'=>agf E o base g S (aiJ op.2.1 S.pure e0) w e w':=by
 have hb:=J.dg.at'.L9.box _ hs;have c1:=(kF hb).2;have f1:w.frozen? ⟨c,1,n_⟩=false:=Ko _ _ _ _ _ hb;have HE:=aA (Mov.event (x':= { e0 with up:=false }) (fun y=> { y with up:=false }) J.dg.at' hs (cx (i:=1) (v:=b_ false) hb) rfl rfl aI.cell);rw [hid] at HE;unfold aiJ;clear hb J
 go_enter func169,ntmps169
 exact ZaT
theorem ajv {e0:aB} {c:Nat} (J:Job w base o d g E S x op now) (hs:(e0,c)∈S.le):
  k_ J3 170 #[p_ (o_ ⟨d,0,n_⟩),p_ (o_ ⟨c,0,n_⟩)] w fun e w'=>agf E o base g S (ahQ S.pure e0) w e w':=by
 have c1:=(kF (J.dg.at'.L9.box _ hs)).2;have HJ:=aA J;unfold ahQ;clear J hs
 revert c1
 cases e0.up with
 | true=>
  intro c1
  go_enter func170,ntmps170
  go_wp2;go_ret;exact agf.same (c:=0) HJ.I (Kp _ _)
 | false=>
  intro c1
  go_enter func170,ntmps170
  go_wp2;go_ret;exact agf.same (c:=14) HJ.I (Kp _ _)
theorem ai1 {s:bD} {c:Nat} (J:Job w base o d g E S x op now) (hs:(s,c)∈S.ls) (hid:s.id=op.2.1):
  k_ J3 166 #[p_ (o_ ⟨d,0,n_⟩),p_ (o_ ⟨c,0,n_⟩)] w fun e w'=>agf E o base g S (agx op.2.1 S.pure s) w e w':=by
 have HJ:Hid (Job w base o d g E S x op now∧(s,c)∈S.ls):=⟨J,hs⟩
 clear J hs
 go_enter func166,ntmps166
 go_wp2_with fail;refine (ahv o d g base S op now 3 w HJ.I.1.dg (HJ.I.1.wk 3)).mono ?_;rintro e w2 (⟨b1,rfl,hb2⟩ | ⟨y,S',b1,rfl,hm,hp,hkp⟩)
 ·have HB:=aA hb2
  have hb:=(HJ.I.1.below hb2).dg.at'.aj.box _ HJ.I.2;have c1:w2.cell? ⟨c,1,n_⟩=o_ (i_ j_ s.n):=by simp [World.cell?,hb,eH]
  have c2:w2.cell? ⟨c,2,n_⟩=o_ (i_ j_ s.max):=by simp [World.cell?,hb,eH]
  have f1:w2.frozen? ⟨c,1,n_⟩=false:=Ko _ _ _ _ _ hb;have gn:=(HJ.I.1.below hb2).er.not;have hsr:=(cK HJ.I.1.right.aj s (Lr.2 ⟨_,HJ.I.2,rfl⟩)).2;simp only [gw,J7] at hsr;obtain ⟨m0,m1⟩:=bz.1 hsr.1;obtain ⟨n0,n1⟩:=bz.1 hsr.2;have HE:=aA (Mov.sem (w1:=w2.drew.setCell ⟨c,1,n_⟩ (i_ j_ (s.n+1))) (x':= { s with n:=s.n+1 }) (fun y=> { y with n:=y.n+1 }) (HJ.I.1.below hb2).dg.at' HJ.I.2 (cx (i:=1) (v:=i_ j_ (s.n+1)) hb) rfl rfl ((aI.dI (Kp _ _).drew).trans aI.cell));rw [hid] at HE;have H1:=aA b1;clear hb hsr hb2 b1;by_cases h0:s.n=s.max
  ·have e0:(s.n == s.max)=true:=by simp [h0]
   have H0:=aA h0;clear h0;go_wp2_with fail;refine aT (fun w'=>w'=w2.drew) ZcR rfl ?_
   iterate 9 (refine agj ?_)
   refine bk ZcR ?_ _;intro w1 cm;subst cm;go_wp2;go_ret;rw [show agx op.2.1 S.pure s=(S.pure,1) by unfold agx; rw [H1.I]; simp only [if_pos H0.I]];exact agf.same (c:=1) HJ.I.1 HB.I.drew
  ·have e0:(s.n == s.max)=false:=by simp [h0]
   have H0:=aA h0;go_wp2_with fail;refine aT (fun w'=>w'=w2.drew) ZcR rfl ?_
   iterate 9 (refine agj ?_)
   refine bk ZcR ?_ _;intro w1 cm;subst cm;go_wp2;go_ret;rw [show agx op.2.1 S.pure s=(nZ op.2.1 1 S.pure,0) by unfold agx; rw [H1.I]; simp only [if_neg H0.I]];obtain ⟨S',h5,h6,h7,-⟩:=HE.I;exact ⟨S',rfl,(Mov.below HJ.I.1.dg.at' HB.I).trans h5,h6,.inr (afU.of h7)⟩
 ·have HB:Hid (Mov o base S w S' w2∧S'.pure=gF (fun y=>y) S.pure y∧afU g S S'):=⟨hm,hp,hkp⟩
  have H1:=aA b1;clear hm hp hkp b1;go_wp2;go_ret;rw [show agx op.2.1 S.pure s=(gF (fun y=>y) S.pure y,0) by unfold agx; rw [H1.I]];exact ⟨S',rfl,HB.I.1,HB.I.2.1,.inr HB.I.2.2⟩
theorem eqProc {a b:Nat} {w:w_} {x y:ao} (hx:w.heap[a]? =o_ (c_ (aX x) 100)) (hy:w.heap[b]? =o_ (c_ (aX y) 100)):Sem.run J3 (binOp BinOp.eql 161 (p_ (o_ ⟨a,0,n_⟩)) (p_ (o_ ⟨b,0,n_⟩))) w= .ok (b_ (decide (a=b))) w:=by
 simp only [binOp,go_sem];unfold Op.equal Op.maxDepth;unfold Op.equalIn;simp [go_sem];by_cases h:a=b
 ·subst h
  rw [run_sameAddr_same];simp
 ·rw [run_sameAddr_other w (a:=⟨a,0,n_⟩) (b:=⟨b,0,n_⟩) (by simp) hx hy]
  simp [h]
def aix (y:ao):ao:=⟨j7 y.toaD,y.aY,y.bH⟩
theorem aj4 {y:ao} {c:Nat} (J:Job w base o d g E S x op now) (hs:(y,c)∈S.lp) (hid:y.id=op.2.1):
  k_ J3 183 #[p_ (o_ ⟨d,0,n_⟩),p_ (o_ ⟨c,0,n_⟩)] w fun e w'=>agf E o base g S (aiy op.2.1 x.id S.pure y.toaD) w e w':=by
 have hb:=J.dg.at'.L8.box _ hs;have c3:=(bo hb).2.2.2.1;have gn:=J.er.not;have HJ:Hid (Job w base o d g E S x op now∧(y,c)∈S.lp):=⟨J,hs⟩
 have Mb:=NI c y w hb;unfold aiy;by_cases h0:y.Md=0
 ·have e0:(y.Md == 0)=true:=by simp [h0]
  rw [if_pos (show y.toaD.Md=0 from h0)];clear h0 J hs hb Mb
  go_enter func183,ntmps183
  go_wp2;go_ret;exact agf.same (c:=1) HJ.I.1 (Kp _ _)
 ·have e0:(y.Md == 0)=false:=by simp [h0]
  rw [if_neg (show ¬ y.toaD.Md=0 from h0)];clear h0 J hs hb
  go_enter func183,ntmps183
  go_wp2_with fail;refine Mb.mono ?_;clear Mb c3 e0 gn;rintro e w2 ⟨rfl,hw⟩;have HF:Hid (Mov o base S w (S.ju c aix S.q.next) w2∧(S.ju c aix S.q.next).pure=ot op.2.1 S.pure):=by
   have ha:=HJ.I.1.dg.at'.apart (aZ.ago (LB _ (Lr.2 ⟨_,HJ.I.2,rfl⟩)));rw [hw];refine ⟨Mov.ju HJ.I.1.dg.at' (fun _=>⟨rfl,rfl,rfl,rfl⟩) HJ.I.2 (KU _ _ _ _ _ _ (HJ.I.1.dg.at'.L8.box _ HJ.I.2)) ((KH _ _ _ _ ha.1).trans HJ.I.1.dg.at'.opn) (aI.row.mono (by simp)),?_⟩;rw [← hid];exact aZ.Sb (nx:=S.q.next) (f:=aix) (f':=j7) (agv HJ.I.1.right) (fun p hp hpg=>HJ.I.1.dg.at'.L8.one hp HJ.I.2 hpg) HJ.I.2 (fun _=>rfl)
  have c1:=(agb (HJ.I.1.dg.move HF.I.1).box).2.1;have gp:=(HJ.I.1.er.below (HF.I.1.cd HJ.I.1.dg.at' HJ.I.1.dg.low)).past;have hpc:=HF.I.1.at'.L8.box (aix y,c) (yy.2 ⟨(y,c),HJ.I.2,by simp⟩);obtain ⟨z,hz⟩: ∃ z:ao,w2.heap[g]? =o_ (c_ (aX z) 100):=by
   have h5:g∈(S.ju c aix S.q.next).lp.map (·.2):=by
    show g∈(sU c aix S.lp).map (·.2)
    rw [qb];exact Lr.2 ⟨_,HJ.I.1.hx,rfl⟩
   obtain ⟨r,hr,e5⟩:=Lr.1 h5;exact ⟨r.1,by rw [← e5]; exact HF.I.1.at'.L8.box r hr⟩
  have e1:=eqProc hpc hz;clear hw hpc hz;by_cases hcg:c=g
  ·rw [decide_eq_true hcg] at e1
   have hyx:op.2.1=x.id:=by rw [← hid,show y=x from congrArg Prod.fst (HJ.I.1.dg.at'.L8.one HJ.I.2 HJ.I.1.hx hcg)]
   subst hcg;have HY:=aA hyx;clear hyx;go_wp2;go_ret;exact ⟨_,rfl,HF.I.1,(by rw [← HY.I]; exact HF.I.2),.inl ⟨rfl,agG HJ.I.2⟩⟩
  ·rw [decide_eq_false hcg] at e1
   have hyx: ¬ op.2.1=x.id:=fun e=>hcg (congrArg Prod.snd (HJ.I.1.dg.at'.L8.onk HJ.I.2 HJ.I.1.hx (by rw [hid,e])))
   have HN:=aA hcg;exact ZbW
theorem ajb {y:ao} {c:Nat} (J:Job w base o d g E S x op now) (hs:(y,c)∈S.lp) (hid:y.id=op.2.1):
  k_ J3 182 #[p_ (o_ ⟨d,0,n_⟩),p_ (o_ ⟨c,0,n_⟩)] w fun e w'=>agf E o base g S (ahH op.2.1 S.pure y.toaD) w e w':=by
 have hb:=J.dg.at'.L8.box _ hs;have c3:=(bo hb).2.2.2.1;have c0:=(agb J.dg.box).1;have gn:=J.er.not;have HJ:Hid (Job w base o d g E S x op now∧(y,c)∈S.lp):=⟨J,hs⟩
 have Mb:=ajh o c base S y w J.dg.at' hs J.nx.1 J.nx.2;unfold ahH;by_cases h0:y.Md=0
 ·have e0:(y.Md != 0)=false:=by simp [h0]
  rw [if_pos (show y.toaD.Md=0 from h0)];have HN:Hid (¬ c=g):=fun e=>by
   have h5:=J.up;rw [← show y=x from congrArg Prod.fst (J.dg.at'.L8.one hs J.hx e)] at h5;omega
  clear h0 J hs hb
  go_enter func182,ntmps182
  go_wp2_with fail;refine Mb.mono ?_;clear Mb c3 e0 gn c0;rintro e w2 ⟨rfl,hat,hkp⟩;have HF:Hid (Mov o base S w (S.ju c (F2 S.q.next) (S.q.next+1)) w2∧(S.ju c (F2 S.q.next) (S.q.next+1)).pure=py op.2.1 S.pure):=by
   refine ⟨⟨hat,hkp.mono fun b hb=> ?_,fun b hb _=> ?_⟩,?_⟩
   ·simp only [Kt,Ku,or_false] at hb
    rcases hb with rfl | rfl
    ·exact aZ.agr (aZ.ago (LB _ (Lr.2 ⟨_,HJ.I.2,rfl⟩)))
    ·simp [aZ.al]
   ·rw [ahk (f:=F2 S.q.next) fun _=>rfl] at hb
    exact hb
   ·rw [← hid]
    exact aZ.Sb (nx:=S.q.next+1) (f:=F2 S.q.next) (f':=fun y=> { y with Md:=1,RU:=S.q.next }) (agv HJ.I.1.right) (fun p hp hpg=>HJ.I.1.dg.at'.L8.one hp HJ.I.2 hpg) HJ.I.2 (fun _=>rfl)
  clear hat hkp;exact ZbW
 ·have e0:(y.Md != 0)=true:=by simp [h0]
  rw [if_neg (show ¬ y.toaD.Md=0 from h0)];clear h0 J hs hb Mb
  go_enter func182,ntmps182
  go_wp2;go_ret;exact agf.same (c:=1) HJ.I.1 (Kp _ _)
structure aiC (f:aD→aD) (st on:Int) (tgt:aE) (o base g:Nat) (afH:aZ) (w:w_) (k:Nat) (S:aZ) (wr:w_):Prop where
 mv:Mov o base afH w S wr
 VO:afU g afH S
 right:aQ S.pure
 same:ff f st on S.pure=tgt
 cnt:(S.pure.L8.filter (ie st on)).length=k
 room:S.q.next+k≤999999997
section
variable {w w1 w2:w_} {base o d g k:Nat} {E:d_ × d_ × d_} {S S1 S2:aZ} {x:ao} {op:dN} {now st on:Int} {f:aD→aD} {tgt:aE} {y:aD}
theorem aiC.ok (h:aiC f st on tgt o base g S w k S1 w1) (hs: ¬ st=0∧ ¬ st=1) (J:Job w base o d g E S x op now):aij g S1 st:=
 ⟨h.right,by have:=h.room; omega,hs,fun y hy=>by
  obtain ⟨x',hx',-,-,-,h5⟩:=h.VO x J.hx;rw [show y=x' from congrArg Prod.fst (h.mv.at'.L8.one hy hx' rfl),h5];exact J.up⟩
theorem aiC.step (h:aiC f st on tgt o base g S w k S1 w1) (hs: ¬ st=0∧ ¬ st=1) (hf:f=(fun y=>y)∨ ∃ t,bw t=true∧f=lG t) (hb:jl st on S1.pure.L8=o_ y) (hm:Mov o base S1 w1 S2 w2) (hp:S2.pure=gF f S1.pure y) (hk:afU g S1 S2):aiC f st on tgt o base g S w (k - 1) S2 w2∧k - 1 < k:=by
 have h1:=zC (f:=f) h.right hs hb;have h2:=ft hb;have h3:=h.room;have h4:S1.pure.next=S1.q.next:=rfl;have h5:S2.pure.next=S2.q.next:=rfl;have h6:S2.pure.next=gf S1.q.next y:=by rw [hp]; rfl
 have h7:=mU S1.q.next y;have h8:=h.cnt;refine ⟨⟨h.mv.trans hm,h.VO.trans hk,?_,?_,?_,?_⟩,by omega⟩
 ·rw [hp]
  exact i9 h.right h2.1 (by rw [h2.2.1]; exact hs.1) hf (by omega)
 ·rw [hp,← h1.1]
  exact h.same
 ·rw [hp]
  omega
 ·omega
end
variable {w:w_} {base o d g:Nat} {E:d_ × d_ × d_} {S:aZ} {x:ao} {op:dN} {now:Int}
theorem aiv {p:aE} {st on:Int} (h:aQ p):(p.L8.filter (ie st on)).length≤6:=LG (Qq _ _) h.dl
theorem akk {e0:aB} {c:Nat} (J:Job w base o d g E S x op now) (hs:(e0,c)∈S.le) (hid:e0.id=op.2.1):
  k_ J3 168 #[p_ (o_ ⟨d,0,n_⟩),p_ (o_ ⟨c,0,n_⟩)] w fun e w'=>agf E o base g S (aks op.2.1 S.pure e0) w e w':=by
 have hb:=J.dg.at'.L9.box _ hs;have c1:=(kF hb).2;have f1:w.frozen? ⟨c,1,n_⟩=false:=Ko _ _ _ _ _ hb;obtain ⟨S',h5,h6,h7,h8⟩:=Mov.event (x':= { e0 with up:=true }) (fun y=> { y with up:=true }) J.dg.at' hs (cx (i:=1) (v:=b_ true) hb) rfl rfl aI.cell;rw [hid] at h6;have hr:aQ S'.pure:=by rw [h6]; exact kw (b:=true) J.right
 obtain ⟨afL,hK0⟩: ∃ afL,afL=(S'.pure.L8.filter (ie 4 op.2.1)).length:=⟨_,rfl⟩
 have HK:Hid (aiC (fun y=>y) 4 op.2.1 (ff (fun y=>y) 4 op.2.1 (gL op.2.1 true S.pure)) o base g S w afL S' (w.setCell ⟨c,1,n_⟩ (b_ true))):=⟨h5,afU.of h7,hr,by rw [h6]; rfl,hK0.symm,by have:=J.room; have:=aiv (st:=4) (on:=op.2.1) hr; rw [h8]; omega⟩
 have HJ:=aA J;unfold aks;clear hb J h5 h6 h7 h8 hr hK0
 go_enter func168,ntmps168
 go_wp2_with fail;clear c1 f1
 go_loopg [] (afL:Nat) (fun k wr=> ∃ S1:aZ,Hid (aiC (fun y=>y) 4 op.2.1 (ff (fun y=>y) 4 op.2.1 (gL op.2.1 true S.pure)) o base g S w k S1 wr))
 case atStart=>exact ⟨_,HK.I⟩
 case round=>
  obtain ⟨S1,HO⟩:=hrel;go_wp2_with fail;refine (ahv o d g base S1 op now 4 wr (HJ.I.dg.move HO.I.mv) (HO.I.ok (by decide) HJ.I)).mono ?_;rintro e w2 (⟨b1,rfl,hb2⟩ | ⟨y,S2,b1,rfl,hm,hp,hkp⟩)
  ·have HB:Hid (B_ wr.heap.size wr w2∧S1.pure=ff (fun y=>y) 4 op.2.1 (gL op.2.1 true S.pure)):=⟨hb2,by rw [← HO.I.same]; exact (qO b1).symm⟩
   exact ZbA
  ·have HB:=aA (HO.I.step (by decide) (.inl rfl) b1 hm hp hkp)
   exact Zbz
theorem aP {c:Nat} {b:az} (h:w.heap[c]? =o_ (c_ (cI b) 112)):w.cell? ⟨c,1,n_⟩=o_ (b_ b.shown)∧w.cell? ⟨c,2,n_⟩=o_ (t_ b.text):=by simp [World.cell?,h,cI]
theorem aj1 {b:az} {c:Nat} (J:Job w base o d g E S x op now) (hs:(b,c)∈S.lb) (hid:b.id=op.2.1):
  k_ J3 175 #[p_ (o_ ⟨d,0,n_⟩),p_ (o_ ⟨c,0,n_⟩)] w fun e w'=>agf E o base g S (ajf op.2.1 op.2.2.2 S.pure b) w e w':=by
 have hb:=J.dg.at'.ag.box _ hs;have c1:=(aP hb).1;have f1:w.frozen? ⟨c,1,n_⟩=false:=Ko _ _ _ _ _ hb;have hb2:(w.setCell ⟨c,1,n_⟩ (b_ true)).heap[c]? =o_ (c_ (cI { b with shown:=true }) 112):=cx (i:=1) (v:=b_ true) hb;have c2:=(aP hb2).2;have f2:(w.setCell ⟨c,1,n_⟩ (b_ true)).frozen? ⟨c,2,n_⟩=false:=Ko _ _ _ _ _ hb2;have c5:=(agb J.dg.box).2.2.2.2.2.1;obtain ⟨S',h5,h6,h7,h8⟩:=Mov.ajl (x':= { b with shown:=true,text:=op.2.2.2 }) (fun y=> { y with shown:=true,text:=op.2.2.2 }) J.dg.at' hs (cx (i:=2) (v:=t_ op.2.2.2) hb2) rfl rfl (aI.cell.trans aI.cell);rw [hid] at h6;have hpl:=(dv J.ok).2.2.2.1;have hr:aQ S'.pure:=by rw [h6]; exact kA (b:=true) J.right hpl (.inl rfl)
 obtain ⟨afL,hK0⟩: ∃ afL,afL=(S'.pure.L8.filter (ie 7 op.2.1)).length:=⟨_,rfl⟩
 have HK:Hid (aiC (lG op.2.2.2) 7 op.2.1 (ff (lG op.2.2.2) 7 op.2.1 (ib op.2.1 true op.2.2.2 S.pure)) o base g S w afL S' ((w.setCell ⟨c,1,n_⟩ (b_ true)).setCell ⟨c,2,n_⟩ (t_ op.2.2.2))):=⟨h5,afU.of h7,hr,by rw [h6]; rfl,hK0.symm,by have:=J.room; have:=aiv (st:=7) (on:=op.2.1) hr; rw [h8]; omega⟩
 have HP:=aA hpl;have HJ:=aA J;unfold ajf;clear hb J h5 h6 h7 h8 hr hK0 hb2 hpl
 go_enter func175,ntmps175
 go_wp2_with fail;clear c1 f1 c2 f2 c5
 go_loopg [] (afL:Nat) (fun k wr=> ∃ S1:aZ,Hid (aiC (lG op.2.2.2) 7 op.2.1 (ff (lG op.2.2.2) 7 op.2.1 (ib op.2.1 true op.2.2.2 S.pure)) o base g S w k S1 wr))
 case atStart=>exact ⟨_,HK.I⟩
 case round=>
  obtain ⟨S1,HO⟩:=hrel;go_wp2_with fail;refine (ahA o d g base S1 op now 7 wr (HJ.I.dg.move HO.I.mv) (HO.I.ok (by decide) HJ.I)).mono ?_;rintro e w2 (⟨b1,rfl,hb2⟩ | ⟨y,S2,b1,rfl,hm,hp,hkp⟩)
  ·have HB:Hid (B_ wr.heap.size wr w2∧S1.pure=ff (lG op.2.2.2) 7 op.2.1 (ib op.2.1 true op.2.2.2 S.pure)):=⟨hb2,by rw [← HO.I.same]; exact (qO b1).symm⟩
   exact ZbA
  ·have HB:=aA (HO.I.step (by decide) (.inr ⟨_,HP.I,rfl⟩) b1 hm hp hkp)
   exact Zbz
theorem ajB {b:az} {c:Nat} (J:Job w base o d g E S x op now) (hs:(b,c)∈S.lb) (hid:b.id=op.2.1):
  k_ J3 176 #[p_ (o_ ⟨d,0,n_⟩),p_ (o_ ⟨c,0,n_⟩)] w fun e w'=>agf E o base g S (aiG op.2.1 S.pure b) w e w':=by
 have hb:=J.dg.at'.ag.box _ hs;have c1:=(aP hb).1;have f1:w.frozen? ⟨c,1,n_⟩=false:=Ko _ _ _ _ _ hb;have hb2:(w.setCell ⟨c,1,n_⟩ (b_ false)).heap[c]? =o_ (c_ (cI { b with shown:=false }) 112):=cx (i:=1) (v:=b_ false) hb;have c2:=(aP hb2).2;have f2:(w.setCell ⟨c,1,n_⟩ (b_ false)).frozen? ⟨c,2,n_⟩=false:=Ko _ _ _ _ _ hb2;have HE:=aA (Mov.ajl (x':= { b with shown:=false,text:=rM }) (fun y=> { y with shown:=false,text:=rM }) J.dg.at' hs (cx (i:=2) (v:=t_ rM) hb2) rfl rfl (aI.cell.trans aI.cell));rw [hid] at HE;unfold aiG;clear hb hb2 J
 go_enter func176,ntmps176
 exact ZaT
theorem ajG {b:az} {c:Nat} (J:Job w base o d g E S x op now) (hs:(b,c)∈S.lb):
  k_ J3 177 #[p_ (o_ ⟨d,0,n_⟩),p_ (o_ ⟨c,0,n_⟩)] w fun e w'=>agf E o base g S (ain x.id S.pure b) w e w':=by
 have hb:=J.dg.at'.ag.box _ hs;have c2:=(aP hb).2;have c1:=(agb J.dg.box).2.1;have YU:Hid (w.drew.cell? ⟨g,9,n_⟩=o_ (t_ x.got)∧w.drew.frozen? ⟨g,9,n_⟩=false):=⟨(bo J.box).2.2.2.2.2.2.2.2.2.1,Ko _ _ _ _ _ J.box⟩
 have HM:Hid (Mov o base S w (S.ju g (agF b.text) S.q.next) (w.drew.setCell ⟨g,9,n_⟩ (t_ b.text))∧(S.ju g (agF b.text) S.q.next).pure=ez b.text x.id S.pure):=by
  exact Zaz
 have k1:=(aP (HM.I.1.at'.ag.box _ hs)).1;unfold ain;clear hb J hs
 revert k1
 cases b.shown with
 | true=>
  exact AD
 | false=>
  exact AD
variable {w:w_} {base o d g:Nat} {E:d_ × d_ × d_} {S:aZ} {x:ao} {op:dN} {now:Int}
def blockD (nx st on:Int) (held:ByteArray) (Mg:Int) (y:ao):ao:=⟨zb nx st on held Mg y.toaD,y.aY,y.bH⟩
def ai6 (nx Mg:Int) (y:ao):ao:=⟨ahr nx Mg y.toaD,y.aY,y.bH⟩
theorem ah4 {w1:w_} {y:ao} {f:ao→ao} (h:cJ w base o S) (hx:(x,g)∈S.lp) (hk:aI w w1 [g]) (hb:w1.heap[g]? =o_ (c_ (aX y) 100)) (hf: ∀ x,(f x).id=x.id∧(f x).prog=x.prog∧(f x).aY=x.aY∧(f x).bH=x.bH) (hy:f x= { y with RU:=S.q.next }):
  Mov o base S w (S.ju g f (S.q.next+1)) ((w1.setCell ⟨g,11,n_⟩ (i_ j_ S.q.next)).setCell ⟨o,1,n_⟩ (i_ j_ (S.q.next+1))):=by
 have ha:=(h.apart (aZ.ago (LB _ (Lr.2 ⟨_,hx,rfl⟩)))).1;have ho:w1.heap[o]? =_:=(hk.same o (h.lt o (by simp)) (by simpa using ha)).trans h.opn;have DU:(w1.setCell ⟨g,11,n_⟩ (i_ j_ S.q.next)).heap[o]? =_:=(aH ha).trans ho;refine Mov.ju h hf hx ?_ (cx (i:=1) (v:=i_ j_ (S.q.next+1)) DU) (((hk.trans aI.cell).mono (by simp)).trans (aI.cell.mono (by simp)));rw [hy];exact (aH fun e=>ha e.symm).trans (cx (i:=11) (v:=i_ j_ S.q.next) hb)
theorem ahI {w1:w_} {y:ao} (h:cJ w base o S) (hx:(x,g)∈S.lp) (hk:aI w w1 [g]) (hb:w1.heap[g]? =o_ (c_ (aX y) 100)):w1.cell? ⟨o,1,n_⟩=o_ (i_ j_ S.q.next)∧w1.frozen? ⟨o,1,n_⟩=false∧(∃ u,w1.cell? ⟨g,11,n_⟩=o_ u)∧w1.frozen? ⟨g,11,n_⟩=false∧ ¬ o=g:=by
 have ha:=(h.apart (aZ.ago (LB _ (Lr.2 ⟨_,hx,rfl⟩)))).1;have ho:fa w1 o S.q:=(hk.same o (h.lt o (by simp)) (by simpa using ha)).trans h.opn;exact ⟨ho.cell 1,Ko _ _ _ _ _ ho,⟨_,(bo hb).2.2.2.2.2.2.2.2.2.2.2⟩,Ko _ _ _ _ _ hb,ha⟩
theorem ajs (st:Int) (h:afb w base o d g S op now) (hx:(x,g)∈S.lp) (n0:0≤S.q.next) (n1:S.q.next≤1000000000) (m0: -1≤op.2.2.1) (m1:op.2.2.1≤1000) (hm: ¬ op.2.2.1=0) (w0':0≤now) (w1':now≤1000000000):
  k_ J3 131 #[p_ (o_ ⟨d,0,n_⟩),i_ j_ st] w fun e w'=>e=r_ (u_ #[])∧Mov o base S w (S.ju g (blockD S.q.next st op.2.1 op.2.2.2 (kZ now op.2.2.1)) (S.q.next+1)) w':=by
 have hS:=h.box;have hX:=h.at'.L8.box _ hx;have HD:Hid (d≠g):=fun e=>h.I (e ▸ aZ.agr (aZ.ago (LB _ (Lr.2 ⟨_,hx,rfl⟩))))
 have H:Hid (cJ w base o S∧(x,g)∈S.lp):=⟨h.at',hx⟩
 obtain ⟨V,hV⟩: ∃ V,V=w.drew:=⟨_,rfl⟩
 have HV:Hid (aI w V [g]):=by show aI w V [g]; rw [hV]; exact aI.dI (Kp _ w).drew
 have c1:=(agb hS).2.1;have hS:w.drew.heap[d]? =o_ (c_ (dgV o g op now) 167):=hS;have hX:w.drew.heap[g]? =o_ (c_ (aX x) 100):=hX;clear h hx
 go_enter func131,ntmps131
 go_wp2_with fail;refine Kr (S:=fun W=>W.heap[d]? =o_ (c_ (dgV o g op now) 167)) ZcR hS (fun _=> ?_);rw [← hV] at hS hX;rw [← hV];clear hV c1
 ·skip
  refine afJ 0 hS ?_;refine afJ 1 hS ?_;refine afJ 2 hS ?_;refine afJ 3 hS ?_;refine afJ 4 hS ?_;refine afJ 5 hS ?_;refine afJ 6 hS ?_;refine afJ 7 hS ?_;refine afJ 8 hS ?_;refine afJ 9 hS ?_;refine afJ 10 hS ?_;refine afJ 11 hS ?_;refine afJ 12 hS ?_;refine afJ 13 hS ?_;refine afJ 14 hS ?_;refine afJ 15 hS ?_;refine afJ 16 hS ?_;have c3:=(bo hX).2.2.2.1;have f3:V.frozen? ⟨g,3,n_⟩=false:=Ko _ _ _ _ _ hX;refine L7 17 (fun K hK=> ?_);go_wp2;replace hX:(V.setCell ⟨g,3,n_⟩ (i_ j_ st)).heap[g]? =o_ (c_ (aX ({ x with Md:=st } :ao)) 100):=cx (i:=3) (v:=i_ j_ st) hX;replace hS:(V.setCell ⟨g,3,n_⟩ (i_ j_ st)).heap[d]? =o_ (c_ (dgV o g op now) 167):=(aH HD.I).trans hS;refine hK.out _ _ hS (fun _=> ?_);clear hK K c3 f3
  try simp only [pt,sb,s0,s1]
  refine afJ 18 hS ?_;refine afJ 19 hS ?_;have c7:=(bo hX).2.2.2.2.2.2.2.1;have f7:(V.setCell ⟨g,3,n_⟩ (i_ j_ st)).frozen? ⟨g,7,n_⟩=false:=Ko _ _ _ _ _ hX;refine L7 20 (fun K hK=> ?_);go_wp2;replace hX:((V.setCell ⟨g,3,n_⟩ (i_ j_ st)).setCell ⟨g,7,n_⟩ (i_ j_ op.2.1)).heap[g]? =o_ (c_ (aX ({ x with Md:=st,on:=op.2.1 } :ao)) 100):=cx (i:=7) (v:=i_ j_ op.2.1) hX;replace hS:((V.setCell ⟨g,3,n_⟩ (i_ j_ st)).setCell ⟨g,7,n_⟩ (i_ j_ op.2.1)).heap[d]? =o_ (c_ (dgV o g op now) 167):=(aH HD.I).trans hS;refine hK.out _ _ hS (fun _=> ?_);clear hK K c7 f7
  try simp only [pt,sb,s0,s1]
  refine afJ 21 hS ?_;refine afJ 22 hS ?_;have c8:=(bo hX).2.2.2.2.2.2.2.2.1;have f8:((V.setCell ⟨g,3,n_⟩ (i_ j_ st)).setCell ⟨g,7,n_⟩ (i_ j_ op.2.1)).frozen? ⟨g,8,n_⟩=false:=Ko _ _ _ _ _ hX;refine L7 23 (fun K hK=> ?_);go_wp2;replace hX:(((V.setCell ⟨g,3,n_⟩ (i_ j_ st)).setCell ⟨g,7,n_⟩ (i_ j_ op.2.1)).setCell ⟨g,8,n_⟩ (t_ op.2.2.2)).heap[g]? =o_ (c_ (aX ({ x with Md:=st,on:=op.2.1,held:=op.2.2.2 } :ao)) 100):=cx (i:=8) (v:=t_ op.2.2.2) hX;replace hS:(((V.setCell ⟨g,3,n_⟩ (i_ j_ st)).setCell ⟨g,7,n_⟩ (i_ j_ op.2.1)).setCell ⟨g,8,n_⟩ (t_ op.2.2.2)).heap[d]? =o_ (c_ (dgV o g op now) 167):=(aH HD.I).trans hS;refine hK.out _ _ hS (fun _=> ?_);clear hK K c8 f8
  try simp only [pt,sb,s0,s1]
  refine afJ 24 hS ?_;refine afJ 25 hS ?_;have c6:=(bo hX).2.2.2.2.2.2.1;have f6:(((V.setCell ⟨g,3,n_⟩ (i_ j_ st)).setCell ⟨g,7,n_⟩ (i_ j_ op.2.1)).setCell ⟨g,8,n_⟩ (t_ op.2.2.2)).frozen? ⟨g,6,n_⟩=false:=Ko _ _ _ _ _ hX;refine L7 26 (fun K hK=> ?_);go_wp2;replace hX:((((V.setCell ⟨g,3,n_⟩ (i_ j_ st)).setCell ⟨g,7,n_⟩ (i_ j_ op.2.1)).setCell ⟨g,8,n_⟩ (t_ op.2.2.2)).setCell ⟨g,6,n_⟩ (i_ j_ (-1))).heap[g]? =o_ (c_ (aX ({ x with Md:=st,on:=op.2.1,held:=op.2.2.2,Mg:= -1 } :ao)) 100):=cx (i:=6) (v:=i_ j_ (-1)) hX;replace hS:((((V.setCell ⟨g,3,n_⟩ (i_ j_ st)).setCell ⟨g,7,n_⟩ (i_ j_ op.2.1)).setCell ⟨g,8,n_⟩ (t_ op.2.2.2)).setCell ⟨g,6,n_⟩ (i_ j_ (-1))).heap[d]? =o_ (c_ (dgV o g op now) 167):=(aH HD.I).trans hS;refine hK.out _ _ hS (fun _=> ?_);clear hK K c6 f6
  try simp only [pt,sb,s0,s1]
  refine K3 ZcR ?_ _;have HK:Hid (aI w ((((V.setCell ⟨g,3,n_⟩ (i_ j_ st)).setCell ⟨g,7,n_⟩ (i_ j_ op.2.1)).setCell ⟨g,8,n_⟩ (t_ op.2.2.2)).setCell ⟨g,6,n_⟩ (i_ j_ (-1))) [g]):=(((HV.I.trans aI.cell).trans aI.cell).trans aI.cell).trans aI.cell;clear HV
  revert hX hS HK
  generalize ((((V.setCell ⟨g,3,n_⟩ (i_ j_ st)).setCell ⟨g,7,n_⟩ (i_ j_ op.2.1)).setCell ⟨g,8,n_⟩ (t_ op.2.2.2)).setCell ⟨g,6,n_⟩ (i_ j_ (-1)))=U;intro hX hS HK;obtain ⟨q0,q1,q2,q3,q4,q5,q6⟩:=agb hS;by_cases hp:0 < op.2.2.1
  ·have HW:Hid (kZ now op.2.2.1=now+op.2.2.1):=by show kZ now op.2.2.1=_; unfold kZ; rw [if_pos (by omega)]
   have H6:Hid (U.drew.cell? ⟨g,6,n_⟩=o_ (i_ j_ (-1))∧U.drew.frozen? ⟨g,6,n_⟩=false):=⟨(bo hX).2.2.2.2.2.2.1,Ko _ _ _ _ _ hX⟩
   have HX:Hid ((U.drew.setCell ⟨g,6,n_⟩ (i_ j_ (now+op.2.2.1))).heap[g]? =o_ (c_ (aX ({ x with Md:=st,on:=op.2.1,held:=op.2.2.2,Mg:=now+op.2.2.1 } :ao)) 100)∧(U.drew.setCell ⟨g,6,n_⟩ (i_ j_ (now+op.2.2.1))).heap[d]? =o_ (c_ (dgV o g op now) 167)∧aI w (U.drew.setCell ⟨g,6,n_⟩ (i_ j_ (now+op.2.2.1))) [g]):=⟨cx (i:=6) (v:=i_ j_ (now+op.2.2.1)) hX,(aH HD.I).trans hS,(HK.I.trans (aI.dI (Kp _ U).drew)).trans aI.cell⟩
   clear hX hS HK;go_wp2_with fail;refine eD (fun w'=>w'=U.drew) 13 ZcR rfl ?_
   iterate 13 (refine ly 14 (v:= ?_) (o_ _) rfl rfl ZcR (fun _ _ _ h=>h) (bV ZcR ?_) ?_; rotate_left; (intro w0 hS0; subst hS0; go_simp; try with_reducible rfl); simp only [pt,sb,s0,s1])
   refine fL rfl ZcR ZcR ZcR ?_;intro w1 cm;subst cm;clear q0 q1 q2 q3 q4 q5 q6
   revert H6 HX
   generalize U.drew=T;intro H6 HX;obtain ⟨c6,f6⟩:=H6.I;have q0:=(agb HX.I.2.1).1;obtain ⟨l1,l2,l3,l4,l5⟩:=ahI H.I.1 H.I.2 HX.I.2.2 HX.I.1;have Mb:=wE o g S.q.next _ l1 l2 l3 l4 l5 n0 n1;clear l1 l2 l3 l4 l5;go_wp2_with fail;refine Mb.mono ?_;clear Mb c6 f6 q0;rintro e w2 ⟨rfl,rfl⟩;go_wp2
   go_end0
   exact ⟨rfl,ah4 H.I.1 H.I.2 HX.I.2.2 HX.I.1 (fun _=>⟨rfl,rfl,rfl,rfl⟩) (by rw [HW.I]; rfl)⟩
  ·have HW:Hid (kZ now op.2.2.1= -1):=by show kZ now op.2.2.1=_; unfold kZ; rw [if_neg (by omega)]
   have HX:Hid (U.heap[g]? =o_ (c_ (aX ({ x with Md:=st,on:=op.2.1,held:=op.2.2.2,Mg:= -1 } :ao)) 100)∧aI w U [g]):=⟨hX,HK.I⟩
   obtain ⟨l1,l2,l3,l4,l5⟩:=ahI H.I.1 H.I.2 HX.I.2 HX.I.1;have Mb:=wE o g S.q.next _ l1 l2 l3 l4 l5 n0 n1;clear l1 l2 l3 l4 l5 hX hS HK;go_wp2_with fail;refine Mb.mono ?_;clear Mb q0 q1 q2 q3 q4 q5 q6;rintro e w2 ⟨rfl,rfl⟩;go_wp2
   go_end0
   exact ⟨rfl,ah4 H.I.1 H.I.2 HX.I.2 HX.I.1 (fun _=>⟨rfl,rfl,rfl,rfl⟩) (by rw [HW.I]; rfl)⟩
theorem ajz (J:Job w base o d g E S x op now) (hk:op.1=2):
  k_ J3 163 #[p_ (o_ ⟨d,0,n_⟩)] w fun e w'=>agf E o base g S (aiX now x.toaD op S.pure) w e w':=by
 have hn:=(dv J.ok).2.1 (by omega);obtain ⟨m0,m1⟩:=hn;obtain ⟨w0',w1'⟩:=J.now;obtain ⟨n0,n1⟩:=J.nx;have HD:Hid (d≠g):=J.dg';have HJ:=aA J;obtain ⟨V,hV⟩: ∃ V,V=w.drew:=⟨_,rfl⟩
 have HV:Hid (aI w V [g]):=by show aI w V [g]; rw [hV]; exact aI.dI (Kp _ w).drew
 have hS:w.drew.heap[d]? =o_ (c_ (dgV o g op now) 167):=J.dg.box;have hX:w.drew.heap[g]? =o_ (c_ (aX x) 100):=J.box;unfold aiX;clear J
 go_enter func163,ntmps163
 go_wp2_with fail;refine Kr (S:=fun W=>W.heap[d]? =o_ (c_ (dgV o g op now) 167)) ZcR hS (fun _=> ?_);rw [← hV] at hS hX;rw [← hV];clear hV
 ·skip
  refine afJ 0 hS ?_;refine afJ 1 hS ?_;refine afJ 2 hS ?_;refine afJ 3 hS ?_;refine afJ 4 hS ?_;refine afJ 5 hS ?_;refine afJ 6 hS ?_;refine afJ 7 hS ?_;refine afJ 8 hS ?_;refine afJ 9 hS ?_;refine afJ 10 hS ?_;refine afJ 11 hS ?_;refine afJ 12 hS ?_;refine afJ 13 hS ?_;refine afJ 14 hS ?_;refine afJ 15 hS ?_;refine afJ 16 hS ?_;refine afJ 17 hS ?_;refine afJ 18 hS ?_;refine afJ 19 hS ?_;have c3:=(bo hX).2.2.2.1;have f3:V.frozen? ⟨g,3,n_⟩=false:=Ko _ _ _ _ _ hX;refine L7 20 (fun K hK=> ?_);go_wp2;replace hX:(V.setCell ⟨g,3,n_⟩ (i_ j_ 2)).heap[g]? =o_ (c_ (aX ({ x with Md:=2 } :ao)) 100):=cx (i:=3) (v:=i_ j_ 2) hX;replace hS:(V.setCell ⟨g,3,n_⟩ (i_ j_ 2)).heap[d]? =o_ (c_ (dgV o g op now) 167):=(aH HD.I).trans hS;refine hK.out _ _ hS (fun _=> ?_);clear hK K c3 f3
  try simp only [pt,sb,s0,s1]
  refine afJ 21 hS ?_;refine afJ 22 hS ?_;have c6:=(bo hX).2.2.2.2.2.2.1;have f6:(V.setCell ⟨g,3,n_⟩ (i_ j_ 2)).frozen? ⟨g,6,n_⟩=false:=Ko _ _ _ _ _ hX;refine L7 23 (fun K hK=> ?_);go_wp2;replace hX:((V.setCell ⟨g,3,n_⟩ (i_ j_ 2)).setCell ⟨g,6,n_⟩ (i_ j_ (now+op.2.1))).heap[g]? =o_ (c_ (aX ({ x with Md:=2,Mg:=now+op.2.1 } :ao)) 100):=cx (i:=6) (v:=i_ j_ (now+op.2.1)) hX;replace hS:((V.setCell ⟨g,3,n_⟩ (i_ j_ 2)).setCell ⟨g,6,n_⟩ (i_ j_ (now+op.2.1))).heap[d]? =o_ (c_ (dgV o g op now) 167):=(aH HD.I).trans hS;refine hK.out _ _ hS (fun _=> ?_);clear hK K c6 f6
  try simp only [pt,sb,s0,s1]
  refine K3 ZcR ?_ _;have HK:Hid (aI w ((V.setCell ⟨g,3,n_⟩ (i_ j_ 2)).setCell ⟨g,6,n_⟩ (i_ j_ (now+op.2.1))) [g]):=(HV.I.trans aI.cell).trans aI.cell;clear HV
  revert hX hS HK
  generalize ((V.setCell ⟨g,3,n_⟩ (i_ j_ 2)).setCell ⟨g,6,n_⟩ (i_ j_ (now+op.2.1)))=U;intro hX hS HK;have HX:Hid (U.drew.heap[g]? =o_ (c_ (aX ({ x with Md:=2,Mg:=now+op.2.1 } :ao)) 100)∧aI w U.drew [g]):=⟨hX,HK.I.trans (aI.dI (Kp _ U).drew)⟩
  have hS:U.drew.heap[d]? =o_ (c_ (dgV o g op now) 167):=hS;clear hX HK;go_wp2_with fail;refine Kr (S:=fun W=>W.heap[d]? =o_ (c_ (dgV o g op now) 167)) ZcR hS (fun _=> ?_)
  revert HX hS
  generalize U.drew=T;intro HX hS;obtain ⟨l1,l2,l3,l4,l5⟩:=ahI HJ.I.dg.at' HJ.I.hx HX.I.2 HX.I.1;have Mb:=wE o g S.q.next _ l1 l2 l3 l4 l5 n0 n1;clear l1 l2 l3 l4 l5;refine afJ 0 hS ?_;refine afJ 1 hS ?_;refine afJ 2 hS ?_;refine afJ 3 hS ?_;refine afJ 4 hS ?_;refine afJ 5 hS ?_;refine afJ 6 hS ?_;refine afJ 7 hS ?_;refine L7 8 (fun K hK=> ?_);go_wp2_with fail;refine Mb.mono ?_;clear Mb;rintro e w2 ⟨rfl,rfl⟩;have HM:=aA (ah4 (f:=ai6 S.q.next (now+op.2.1)) HJ.I.dg.at' HJ.I.hx HX.I.2 HX.I.1 (fun _=>⟨rfl,rfl,rfl,rfl⟩) rfl);have gp:=(HJ.I.er.below (HM.I.cd HJ.I.dg.at' HJ.I.dg.low)).past;have hS2:=(HJ.I.dg.move HM.I).box;have HP:Hid ((S.ju g (ai6 S.q.next (now+op.2.1)) (S.q.next+1)).pure= { S.pure with next:=S.pure.next+1,L8:=ce x.toaD.id (ahr S.pure.next (now+op.2.1)) S.pure.L8 }):=aZ.Sb (nx:=S.q.next+1) (f:=ai6 S.q.next (now+op.2.1)) (f':=ahr S.q.next (now+op.2.1)) (agv HJ.I.right) (fun p hp hpg=>HJ.I.dg.at'.L8.one hp HJ.I.hx hpg) HJ.I.hx (fun _=>rfl)
  revert HM gp hS2
  generalize ((T.setCell ⟨g,11,n_⟩ (i_ j_ S.q.next)).setCell ⟨o,1,n_⟩ (i_ j_ (S.q.next+1)))=YC;intro HM gp hS2;go_wp2;refine hK.out _ _ hS2 (fun _=> ?_);clear hK K
  try simp only [pt,sb,s0,s1]
  refine K3 ZcR ?_ _;go_wp2;go_ret;exact ⟨_,rfl,HM.I,HP.I,.inl ⟨rfl,agG HJ.I.hx⟩⟩
theorem ajn {W:w_} {base c:Nat} {a:Option d_} {l:List ByteArray} (t:ByteArray) (ho:W.ownsRow base 9 1 (s_ a l.length c) l.length (bT.flat l)) (hl:l.length≤1000) (hb:base≤W.heap.size):
  ∃ a' c' w',(Builtin.append_ #[91,91] 91 #[s_ a l.length c,s_ (o_ ⟨W.heap.size,0,n_⟩) 1 1]).run J3 (W.alloc (c_ #[t_ t] 9))= .ok (s_ a' (l.length+1) c') w'∧w'.ownsRow base 9 1 (s_ a' (l ++ [t]).length c') (l ++ [t]).length (bT.flat (l ++ [t]))∧aI W w' (blk a)∧ ∀ g∈blk a',g∈blk a∨W.heap.size≤g:=by
 have hz:B_ W.heap.size W (W.alloc (c_ #[t_ t] 9)):=(Kp _ _).alloc (Ki _) _;obtain ⟨a',c',w',h1,h2,h3,h4⟩:=ou (W.alloc (c_ #[t_ t] 9)) base a c l (ho.alloc _) (o_ ⟨W.heap.size,0,n_⟩) [t] 1 (jO (Kj _ _)) ZdV (LG hb hz.size);have e:(l ++ [t]).length=l.length+1:=by simp
 rw [e];exact ⟨a',c',w',h1,h2,aI.grown hz h3,fun g hg=>(h4 g hg).imp_right fun h5=>by rw [h5]; exact hz.size⟩
theorem agR {w w1:w_} {base o c m:Nat} {S:aZ} {x:au} {l:List ByteArray} {a:Option d_} (h:cJ w base o S) (hx:(x,c)∈S.lf) (hk:aI w w1 (blk x.ak)) (ho:w1.ownsRow base 9 1 (s_ a l.length m) l.length (bT.flat l)) (hn: ∀ b∈blk a,b∈blk x.ak∨w.heap.size≤b):
  (∃ S',Mov o base S w S' (w1.setCell ⟨c,2,n_⟩ (s_ a l.length m))∧S'.pure=cV x.id l S.pure∧S'.lp=S.lp∧S'.q=S.q∧(({ x with Ma:=l,ak:=a,aq:=m } :au),c)∈S'.lf)∧w1.heap[c]? =o_ (c_ (bQ x) 114):=by
 have hc:=h.apart (aZ.F9 (LB _ (Lr.2 ⟨_,hx,rfl⟩)));have iH: ∀ b∈blk x.ak,b∈S.kids:=fun b hb=>by
  unfold aZ.kids;simp only [Kg];exact .inr (.inl (Lq.2 ⟨_,hx,fZ.1 hb⟩))
 have lW:=h.ae.box _ hx;have hlt:=(J2.1 lW).1;have hb1:w1.heap[c]? =o_ (c_ (bQ x) 114):=(hk.same c hlt fun hm=>hc.2 c (iH c hm) rfl).trans lW;refine ⟨Mov.buffer (x':= { x with Ma:=l,ak:=a,aq:=m }) (fun y=> { y with Ma:=l }) h hx (cx (i:=2) (v:=s_ a l.length m) hb1) (aL ho fun b hb=>aH fun e=> ?_) rfl rfl ((hk.mono (by simp +contextual)).trans (aI.cell.mono (by simp))) hn,hb1⟩;subst e;rcases hn _ hb with h5 | h5
 ·exact hc.2 _ (iH _ h5) rfl
 ·omega
theorem ahu {w w1:w_} {base o c m:Nat} {S:aZ} {x:aM} {l:List ByteArray} {a:Option d_} (h:cJ w base o S) (hx:(x,c)∈S.lq) (hk:aI w w1 (blk x.ak)) (ho:w1.ownsRow base 9 1 (s_ a l.length m) l.length (bT.flat l)) (hn: ∀ b∈blk a,b∈blk x.ak∨w.heap.size≤b):
  (∃ S',Mov o base S w S' (w1.setCell ⟨c,4,n_⟩ (s_ a l.length m))∧S'.pure=gU x.id l S.pure∧S'.lp=S.lp∧S'.q=S.q∧(({ x with Ma:=l,ak:=a,aq:=m } :aM),c)∈S'.lq)∧w1.heap[c]? =o_ (c_ (cW x) 116):=by
 have hc:=h.apart (aZ.agV (LB _ (Lr.2 ⟨_,hx,rfl⟩)));have iH: ∀ b∈blk x.ak,b∈S.kids:=fun b hb=>by
  unfold aZ.kids;simp only [Kg];exact .inr (.inr (Lq.2 ⟨_,hx,fZ.1 hb⟩))
 have lW:=h.ai.box _ hx;have hlt:=(J2.1 lW).1;have hb1:w1.heap[c]? =o_ (c_ (cW x) 116):=(hk.same c hlt fun hm=>hc.2 c (iH c hm) rfl).trans lW;refine ⟨Mov.port (x':= { x with Ma:=l,ak:=a,aq:=m }) (fun y=> { y with Ma:=l }) h hx (cx (i:=4) (v:=s_ a l.length m) hb1) (aL ho fun b hb=>aH fun e=> ?_) rfl rfl ((hk.mono (by simp +contextual)).trans (aI.cell.mono (by simp))) hn,hb1⟩;subst e;rcases hn _ hb with h5 | h5
 ·exact hc.2 _ (iH _ h5) rfl
 ·omega
theorem ah7 (a:Option d_) (n c:Nat) (m:Int) (w:w_):k_ J3 206 #[s_ a n c,i_ j_ m] w fun e w'=>e=r_ (b_ (decide (m≤(n:Int))))∧w'=w:=by
 go_enter func206,ntmps206
 go_wp2;go_ret;exact ⟨rfl,rfl⟩
end
section
open Go.RowKit Go.Extern.Stop Go.Stop Go.Extern
attribute [local go_sem ↓] Kc Kd
def ext (fn:Func):Array v_→Sem v_:=(Extern.find fn).getD fun _=>pure (u_ #[])
theorem ahh (v:v_) (w:w_):(ext Tryz.f185 #[.iface 325 v]).run J3 w= .ok (.iface 285 (a_ #[p_ (o_ ⟨4,325,n_⟩)])) w:=by kernel_rfl
theorem agN (w:w_):(ext Tryz.f299 #[a_ #[p_ (o_ ⟨4,325,n_⟩)]]).run J3 w= .ok (b_ true) w:=by kernel_rfl
theorem agp (v : v_) (w : w_) : (Go.method 474 285 v "Comparable").run J3 w = .ok (299, v) w := by kernel_rfl
theorem aiH:(Tryz.prog.info? 325).map (·.comparable)=o_ true:=by kernel_rfl
theorem aiF:(Tryz.prog.info? 362).map (·.size)=o_ 1:=by kernel_rfl
theorem akz (v:v_) (xT:T_) (w:w_):(Instr.typeAssert (.iface 325 v) xT 287 true).run J3 w= .ok (u_ #[.nilIface,b_ false]) w:=run_typeAssert_lacksB underlying287 ZcR ZcR v xT w
theorem ahK (v:v_) (xT:T_) (w:w_):(Instr.typeAssert (.iface 325 v) xT 290 true).run J3 w= .ok (u_ #[.nilIface,b_ false]) w:=run_typeAssert_lacksB underlying290 ZcR ZcR v xT w
theorem ahs (v:v_) (xT:T_) (w:w_):(Instr.typeAssert (.iface 325 v) xT 291 true).run J3 w= .ok (u_ #[.nilIface,b_ false]) w:=run_typeAssert_lacksB underlying291 ZcR ZcR v xT w
theorem noAsE (v:v_) (xT:T_) (w:w_):(Instr.typeAssert (.iface 325 v) xT 296 true).run J3 w= .ok (u_ #[.nilIface,b_ false]) w:=run_typeAssert_lacksB underlying296 ZcR ZcR v xT w
theorem akC (v:v_) (xT:T_) (w:w_):(Instr.typeAssert (.iface 211 v) xT 287 true).run J3 w= .ok (u_ #[.nilIface,b_ false]) w:=run_typeAssert_lacksB underlying287 ZcR ZcR v xT w
theorem aii (v:v_) (xT:T_) (w:w_):(Instr.typeAssert (.iface 211 v) xT 290 true).run J3 w= .ok (u_ #[.iface 211 v,b_ true]) w:=run_typeAssert_hasB underlying290 ZcR v xT w
theorem ahl (v : v_) (w : w_) : (Go.method 474 211 v "Unwrap").run J3 w = .ok (293, v) w := by kernel_rfl
theorem agE (args:Array v_) (w:w_):(callFunc 185 args).run J3 w=((ext Tryz.f185 args).run J3 w).andThen fun v w'=> .ok (.value v) w':=run_callFunc_extern func185 ZcR ZcR ZcR ZcR args w
theorem agy (args:Array v_) (w:w_):(callFunc 299 args).run J3 w=((ext Tryz.f299 args).run J3 w).andThen fun v w'=> .ok (.value v) w':=run_callFunc_extern func299 ZcR ZcR ZcR ZcR args w
theorem aiE (a:d_) (w:w_):k_ J3 129 #[agz a,agz a] w fun e w'=>e=r_ (b_ true)∧w'=w:=by
 obtain ⟨i,hi,hcmp⟩:=Kw.1 aiH;obtain ⟨j,hj,hjs⟩:=Kw.1 aiF;have h8:=agE;have h32:=agy;have afJ:=ahh;have afF:=agN;have afi:=agp;have heq:=run_eql_iface_ptr_same (P:=J3) w a underlying206 underlying325 hi hcmp hj;exact Zbw
theorem ai8 (b:d_) (w:w_):k_ J3 129 #[.nilIface,agz b] w fun e w'=>e=r_ (b_ false)∧w'=w:=by
 have hn:=run_eql_iface_nil_left (P:=J3) w 325 (p_ (o_ b)) underlying206;unfold agz
 go_enter func129,ntmps129
 go_wp2;go_ret;exact ⟨rfl,rfl⟩
theorem ag7 {a b:d_} {ca cb:Array v_} {ta tb:T_} {w:w_} (hne:a≠b) (ha:w.heap[a.block]? =o_ (c_ ca ta)) (hb:w.heap[b.block]? =o_ (c_ cb tb)):k_ J3 129 #[agz a,agz b] w fun e w'=>e=r_ (b_ false)∧w'=w:=by
 obtain ⟨i,hi,hcmp⟩:=Kw.1 aiH;obtain ⟨j,hj,hjs⟩:=Kw.1 aiF;have h8:=agE;have h32:=agy;have afJ:=ahh;have afF:=agN;have afi:=agp;have af0:=akz;have aft:=ahK;have af7:=ahs;have heq:=run_eql_iface_ptr_other (P:=J3) w (a:=a) (b:=b) underlying206 underlying325 hi hcmp hj (by rw [hjs]; decide) hne ha hb;exact Zbw
theorem aim {st:Int} {a:d_} {w:w_} (hg:w.cell? ⟨3,0,n_⟩=o_ (agz a)):k_ J3 129 #[.iface 211 (a_ #[i_ j_ st]),agz a] w fun e w'=>e=r_ (b_ true)∧B_ w.heap.size w w':=by
 obtain ⟨i,hi,hcmp⟩:=Kw.1 aiH;obtain ⟨j,hj,hjs⟩:=Kw.1 aiF;have h8:=agE;have h32:=agy;have afJ:=ahh;have afF:=agN;have afi:=agp;have afQ:=akC;have afD:=aii;have afZ:=ahl;have heq:=run_eql_iface_ptr_same (P:=J3) (w.alloc (c_ #[i_ j_ st] 211)) a underlying206 underlying325 hi hcmp hj;have hty:=run_eql_iface_types (P:=J3) 211 325 (a_ #[i_ j_ st]) (p_ (o_ a)) underlying206 (by decide) w;exact O_
theorem ahf {st:Int} {a b:d_} {ca cb:Array v_} {ta tb:T_} {w:w_} (hg:w.cell? ⟨3,0,n_⟩=o_ (agz a)) (hne:a≠b) (ha:w.heap[a.block]? =o_ (c_ ca ta)) (hb:w.heap[b.block]? =o_ (c_ cb tb)):k_ J3 129 #[.iface 211 (a_ #[i_ j_ st]),agz b] w fun e w'=>e=r_ (b_ false)∧B_ w.heap.size w w':=by
 obtain ⟨i,hi,hcmp⟩:=Kw.1 aiH;obtain ⟨j,hj,hjs⟩:=Kw.1 aiF;have h8:=agE;have h32:=agy;have afJ:=ahh;have afF:=agN;have afi:=agp;have af0:=akz;have aft:=ahK;have af7:=ahs;have afQ:=akC;have afD:=aii;have afZ:=ahl;have heq:=run_eql_iface_ptr_other (P:=J3) (w.alloc (c_ #[i_ j_ st] 211)) (a:=a) (b:=b) underlying206 underlying325 hi hcmp hj (by rw [hjs]; decide) hne ((PU (J2.1 ha).1).trans ha) ((PU (J2.1 hb).1).trans hb);have hty:=run_eql_iface_types (P:=J3) 211 325 (a_ #[i_ j_ st]) (p_ (o_ b)) underlying206 (by decide) w;exact O_
end
end Go.Proofs.YtnlbiglljiopmaaGreatDoor
