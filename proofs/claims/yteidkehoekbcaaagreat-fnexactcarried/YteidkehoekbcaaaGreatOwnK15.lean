/- What the proof leans on, part 15. -/
import Derived.Test.YteidkehoekbcaaaGreatOwnK14
set_option maxRecDepth 100000
set_option maxHeartbeats 8000000
open Array renaming getElem?_eq_some_iff->J2,getElem?_toList->QJ
open Function renaming comp_def->Ls
open Go renaming cell_of_row->K5,frozen_of_row->Ko,heap_alloc2_new->Kq,heap_alloc_new->Kj
open Go.RowKit.Below renaming refl->Kp
open Go.Value.slice renaming injEq->LD
open List renaming getElem?_eq_getElem->Kz,getElem?_map->Kk,getElem?_take->QW,length_append->Lf,map_append->Kl,map_map->Lv,mem_append->Kg,mem_cons->Kt,mem_cons_of_mem->LB,mem_filterMap->Lq,mem_map->Lr,nodup_append->Kf,nodup_cons->Lp,not_mem_nil->Ku,take_of_length_le->KF
open Nat renaming le_refl->Ki,succ_mul->Lh,zero_add->Li
open Option.some renaming injEq->LF

namespace Go.Proofs.YteidkehoekbcaaaGreat
section
open Go.RowKit Go.Maps
attribute [local go_sem ↓] Go.wp_at_zero Go.wp_at_succ
def nU (lo hi:Nat) (l:List Nat):Prop:=l.Nodup∧ ∀ g∈l,lo≤g∧g < hi
theorem nU.append {lo m m' hi:Nat} {l r:List Nat} (h1:nU lo m l) (h2:nU m' hi r) (h3:m≤m') (h4:lo≤m') (h5:m≤hi):nU lo hi (l ++ r):=by
 refine ⟨Kf.2 ⟨h1.1,h2.1,fun a ha b hb e=> ?_⟩,fun g hg=> ?_⟩
 ·have:=h1.2 a ha
  have:=h2.2 b hb
  omega
 ·rcases Kg.1 hg with hg | hg
  ·have:=h1.2 g hg
   omega
  ·have:=h2.2 g hg
   omega
theorem nU.cons {lo m hi g:Nat} {l:List Nat} (h:nU lo m l) (h1:m≤g) (h2:g < hi) (h3:lo≤g):nU lo hi (g :: l):=by
 refine ⟨Lp.2 ⟨fun hm=> ?_,h.1⟩,fun k hk=> ?_⟩
 ·have:=h.2 g hm
  omega
 ·rcases Kt.1 hk with rfl | hk
  ·omega
  ·have:=h.2 k hk
   omega
theorem eK {α:Type} {vs:α→Array Value} {num:α→Int} {T:TypeId} {W:World} {lo hi b:Nat} {l:List (α × Nat)} (h:Shelf vs num T W lo b l∧ ∀ g∈b :: l.map (·.2),g < hi):nU lo hi (b :: l.map (·.2)):=
 ⟨h.1.nodup,fun g hg=>⟨h.1.low g hg,h.2 g hg⟩⟩
theorem uc {α:Type} {N:gd α} {w0 wr:World} {base b:Nat} {l l':List (α × Nat)} (h:kG N w0 wr base b l l'):nU w0.heap.size wr.heap.size (kids N l'):=
 ⟨h.nodup,fun g hg=>by
  obtain ⟨p,hp,hk⟩:=Lq.1 hg;exact (h.mine p hp).lt hk⟩
theorem kG.Mc {α:Type} {N:gd α} {w0 wr:World} {base b:Nat} {l l':List (α × Nat)} (h:kG N w0 wr base b l l'):l'.map (·.2)=l.map (·.2):=by
 have:=congrArg (List.map (·.2)) h.alike
 simp only [Lv,Ls] at this;exact this
def Steps (n w0 v1 w1 v2 w2 v3 w3 v4 w4 v5 w5 v6:Nat):Prop:=n≤w0∧w0≤v1∧v1 < w1∧w1≤v2∧v2 < w2∧w2≤v3∧v3 < w3∧w3≤v4∧v4 < w4∧w4≤v5∧v5 < w5∧w5≤v6
section
variable {w WO X2 X3:World} {p:af} {b1 b2 b3 b4 b5 b6 w0 v1 w1 v2 w2 v3 w3 v4 w4 v5 w5 v6:Nat} {l1:List (ao × Nat)} {l2:List (bD × Nat)} {l3:List (aB × Nat)} {l4:List (az × Nat)} {l5:List (au × Nat)} {l6:List (aM × Nat)}
theorem vK (hs:Steps w.heap.size w0 v1 w1 v2 w2 v3 w3 v4 w4 v5 w5 v6) (ho:fa WO (v6+1) ⟨p.id,p.next,b1,b2,b3,b4,b5,b6⟩) (hb:Below WO.heap.size WO X2)
  (h1:Shelf aX (fun x:ao=>x.id) 148 WO w0 b1 l1∧ ∀ g∈b1 :: l1.map (·.2),g < v1) (h5:Shelf bQ (fun x:au=>x.id) 160 WO w4 b5 l5∧ ∀ g∈b5 :: l5.map (·.2),g < v5) (h6:Shelf cW (fun x:aM=>x.id) 85 WO w5 b6 l6∧ ∀ g∈b6 :: l6.map (·.2),g < v6):
  mv X2 w.heap.size (v6+1) ⟨p.id,p.next,b1,b2,b3,b4,b5,b6⟩ l1 l5 l6:=by
 obtain ⟨s0,s1,s2,s3,s4,s5,s6,s7,s8,s9,s10,s11⟩:=hs;refine ⟨ho.below hb,(h1.1.below hb).lower (by omega),(h5.1.below hb).lower (by omega),(h6.1.below hb).lower (by omega),?_⟩;exact (((eK h1).append ((eK h5).append (eK h6) (by omega) (by omega) (by omega)) (by omega) (by omega) (by omega)).cons (g:=v6+1) (hi:=v6+2) (by omega) (by omega) (by omega)).1
theorem EL {X:World} (hg:p.Good w) (hb:Below w.heap.size w X) (hl:l1.map (·.1)=p.L8):fY aR X w.heap.size l1:=fun q hq=>by
 have hm:q.1∈p.L8:=by rw [← hl]; exact Lr.2 ⟨q,hq,rfl⟩
 exact ⟨((hg.DH q.1 hm).2).below hb,(hg.L8 q.1 hm).1.prog,fun g hk=>hg.D9 q.1 hm g hk⟩
theorem AA {X:World} (hg:p.Good w) (hb:Below w.heap.size w X) (hl:l5.map (·.1)=p.ae):fY aC X w.heap.size l5:=fun q hq=>by
 have hm:q.1∈p.ae:=by rw [← hl]; exact Lr.2 ⟨q,hq,rfl⟩
 exact ⟨((hg.xl q.1 hm).row).below hb,(hg.ae q.1 hm).2.1,fun g hk=>hg.xO q.1 hm g hk⟩
theorem Fo {X:World} (hg:p.Good w) (hb:Below w.heap.size w X) (hl:l6.map (·.1)=p.ai):fY aU X w.heap.size l6:=fun q hq=>by
 have hm:q.1∈p.ai:=by rw [← hl]; exact Lr.2 ⟨q,hq,rfl⟩
 exact ⟨((hg.D4 q.1 hm).row).below hb,(hg.ai q.1 hm).2.1,fun g hk=>hg.lowPort q.1 hm g hk⟩
theorem pureP {l l':List (ao × Nat)} (h:l'.map (fun p=>(aR.set p.1 none 0,p.2))=l.map (fun p=>(aR.set p.1 none 0,p.2))):l'.map (·.1.toaD)=l.map (·.1.toaD):=by
 have:=congrArg (List.map (·.1.toaD)) h
 simp only [Lv,Ls] at this;exact this
theorem pureF {l l':List (au × Nat)} (h:l'.map (fun p=>(aC.set p.1 none 0,p.2))=l.map (fun p=>(aC.set p.1 none 0,p.2))):l'.map (·.1.toci)=l.map (·.1.toci):=by
 have:=congrArg (List.map (·.1.toci)) h
 simp only [Lv,Ls] at this;exact this
theorem pureQ {l l':List (aM × Nat)} (h:l'.map (fun p=>(aU.set p.1 none 0,p.2))=l.map (fun p=>(aU.set p.1 none 0,p.2))):l'.map (·.1.todS)=l.map (·.1.todS):=by
 have:=congrArg (List.map (·.1.todS)) h
 simp only [Lv,Ls] at this;exact this
theorem Gp {u1 u2:World} {l1':List (ao × Nat)} {l5':List (au × Nat)} {l6':List (aM × Nat)} (hs:Steps w.heap.size w0 v1 w1 v2 w2 v3 w3 v4 w4 v5 w5 v6) (hw:Below w.heap.size w WO∧WO.heap.size=v6+1+1) (ho:fa WO (v6+1) ⟨p.id,p.next,b1,b2,b3,b4,b5,b6⟩) (hb:Below WO.heap.size WO X2)
  (h1:l1.map (·.1)=p.L8∧Shelf aX (fun x:ao=>x.id) 148 WO w0 b1 l1∧ ∀ g∈b1 :: l1.map (·.2),g < v1)
  (h2:l2.map (·.1)=p.aj∧Shelf eH (fun x:bD=>x.id) 184 WO w1 b2 l2∧ ∀ g∈b2 :: l2.map (·.2),g < v2)
  (h3:l3.map (·.1)=p.L9∧Shelf cG (fun x:aB=>x.id) 187 WO w2 b3 l3∧ ∀ g∈b3 :: l3.map (·.2),g < v3)
  (h4:l4.map (·.1)=p.ag∧Shelf cI (fun x:az=>x.id) 190 WO w3 b4 l4∧ ∀ g∈b4 :: l4.map (·.2),g < v4)
  (h5:l5.map (·.1)=p.ae∧Shelf bQ (fun x:au=>x.id) 160 WO w4 b5 l5∧ ∀ g∈b5 :: l5.map (·.2),g < v5)
  (h6:l6.map (·.1)=p.ai∧Shelf cW (fun x:aM=>x.id) 85 WO w5 b6 l6∧ ∀ g∈b6 :: l6.map (·.2),g < v6)
  (o1:kG aR X2 u1 w.heap.size b1 l1 l1') (o5:kG aC u1 u2 w.heap.size b5 l5 l5') (o6:kG aU u2 X3 w.heap.size b6 l6 l6'):
  Below w.heap.size w X3∧cJ X3 w.heap.size (v6+1) ⟨⟨p.id,p.next,b1,b2,b3,b4,b5,b6⟩,l1',l2,l3,l4,l5',l6'⟩∧(⟨⟨p.id,p.next,b1,b2,b3,b4,b5,b6⟩,l1',l2,l3,l4,l5',l6'⟩:aZ).pure=p.pure:=by
 have hT:=vK hs ho hb h1.2 h5.2 h6.2;obtain ⟨s0,s1,s2,s3,s4,s5,s6,s7,s8,s9,s10,s11⟩:=hs;have hX2:v6+1+1≤X2.heap.size:=by rw [← hw.2]; exact hb.size
 have z1:=o1.size;have z5:=o5.size;have z6:=o6.size;have n1: ∀ g∈l1.map (·.2),w0≤g∧g < v1:=fun g hg=>(eK h1.2).2 g (LB _ hg)
 have n5: ∀ g∈l5.map (·.2),w4≤g∧g < v5:=fun g hg=>(eK h5.2).2 g (LB _ hg)
 have n6: ∀ g∈l6.map (·.2),w5≤g∧g < v6:=fun g hg=>(eK h6.2).2 g (LB _ hg)
 have q1: ∀ g,g < X2.heap.size→ ¬ (w0≤g∧g < v1)→ ¬ (w4≤g∧g < v6)→X3.heap[g]? =X2.heap[g]? :=fun g hg k1 k2=>
  (o6.same g (by omega) (fun hm=>by have:=n6 g hm; omega)).trans ((o5.same g (by omega) (fun hm=>by have:=n5 g hm; omega)).trans (o1.same g hg (fun hm=>by have:=n1 g hm; omega)))
 have q5: ∀ g,g < u1.heap.size→ ¬ (w4≤g∧g < v6)→X3.heap[g]? =u1.heap[g]? :=fun g hg k2=>
  (o6.same g (by omega) (fun hm=>by have:=n6 g hm; omega)).trans (o5.same g hg (fun hm=>by have:=n5 g hm; omega))
 have q6: ∀ g,g < u2.heap.size→ ¬ (w5≤g∧g < v6)→X3.heap[g]? =u2.heap[g]? :=fun g hg k2=>o6.same g hg (fun hm=>by have:=n6 g hm; omega)
 have hBX:Below w.heap.size w X3:=by
  have hw':=hw.1;have hwx:Below w.heap.size w X2:=hw'.trans (hb.mono hw'.size);refine ⟨o6.os.trans (o5.os.trans (o1.os.trans hwx.os)),o6.tape.trans (o5.tape.trans (o1.tape.trans hwx.tape)),o6.output.trans (o5.output.trans (o1.output.trans hwx.output)),by have:=hwx.size; omega,fun g hg=>(q1 g (by have:=hwx.size; omega) (by omega) (by omega)).trans (hwx.block g hg)⟩
 refine ⟨hBX,⟨?_,?_,?_,?_,?_,?_,?_,?_,?_,?_,?_,?_⟩,?_⟩
 ·exact (q1 (v6+1) (by omega) (by omega) (by omega)).trans (ho.below hb)
 ·refine (o1.eh.same fun g hg=>q5 g (o1.eh.lt g hg) ?_)
  rw [o1.Mc] at hg
  have:=(eK h1.2).2 g hg
  omega
 ·refine ((h2.2.1.below hb).lower (by omega)).same fun g hg=> ?_
  have:=(eK h2.2).2 g hg
  exact q1 g (by omega) (by omega) (by omega)
 ·refine ((h3.2.1.below hb).lower (by omega)).same fun g hg=> ?_
  have:=(eK h3.2).2 g hg
  exact q1 g (by omega) (by omega) (by omega)
 ·refine ((h4.2.1.below hb).lower (by omega)).same fun g hg=> ?_
  have:=(eK h4.2).2 g hg
  exact q1 g (by omega) (by omega) (by omega)
 ·refine (o5.eh.same fun g hg=>q6 g (o5.eh.lt g hg) ?_)
  rw [o5.Mc] at hg
  have:=(eK h5.2).2 g hg
  omega
 ·exact o6.eh
 ·intro q hq
  refine ((o1.mine q hq).low (by have:=hw.1.size; omega)).same fun g hk=> ?_
  have:=(o1.mine q hq).lt hk
  exact q5 g this.2 (by omega)
 ·intro q hq
  refine ((o5.mine q hq).low (by have:=hw.1.size; omega)).same fun g hk=> ?_
  have:=(o5.mine q hq).lt hk
  exact q6 g this.2 (by omega)
 ·intro q hq
  exact (o6.mine q hq).low (by have:=hw.1.size; omega)
 ·have e1:=o1.Mc
  have e5:=o5.Mc;have e6:=o6.Mc;simp only [aZ.boxes,aZ.kids,e1,e5,e6];have lW:=(eK h1.2).append ((eK h2.2).append ((eK h3.2).append ((eK h4.2).append ((eK h5.2).append (eK h6.2) (by omega) (by omega) (by omega)) (by omega) (by omega) (by omega)) (by omega) (by omega) (by omega)) (by omega) (by omega) (by omega)) (by omega) (by omega) (by omega);have hkd:=(uc o1).append ((uc o5).append (uc o6) (Ki _) z5 (by omega)) (Ki _) z1 (by omega);have hall:=lW.append hkd (by omega) (by omega) (by omega);refine Lp.2 ⟨fun hm=> ?_,hall.1⟩;rcases Kg.1 hm with hm | hm
  ·have:=lW.2 _ hm
   omega
  ·have:=hkd.2 _ hm
   omega
 ·have:=hw.1.size
  omega
 ·show aE.mk _ _ _ _ _ _ _ _=aE.mk _ _ _ _ _ _ _ _
  have a1:=pureP o1.alike;have a5:=pureF o5.alike;have a6:=pureQ o6.alike;simp only [a1,a5,a6,← h1.1,← h2.1,← h3.1,← h4.1,← h5.1,← h6.1,Lv,Ls]
end
theorem iO (p:af) (w:World) (hg:p.Good w):Calls Tryz.prog 146 #[.agg p.cells] w fun e w'=>Hp w p.pure e w':=by
 have HG:Hid (p.Good w):=hg;have Pf:Hid (xW w (w.alloc (.cells p.cells 48)) p []):=xW.start w p;clear hg;obtain ⟨m0,m1,m2,m3,m4,m5,m6,m7⟩:=Pf.I.part.cells;unfold af.cells at *
 go_enter Tryz.func146,Tryz.ntmps146
 go_wp2_with fail;generalize w.alloc (.cells p.row 48)=W0 at *;clear m0 m1 m2 m3 m4 m5 m6 m7;have HW0:Hid (w.heap.size≤W0.heap.size):=Pf.I.cd.size;refine (tw p.aN p.L8 p.aW 6 _ HG.I.short.L8 (HG.I.at'.1.below Pf.I.cd) (HG.I.below Pf.I.cd).DH HG.I.wfProc).mono ?_;intro e v1 hend;obtain ⟨Jg,n1,Bq,rfl,hok1,hb1,hr1⟩:=hend.res;clear hend;have HE1:Hid (Jg=sl p):=hok1;have wh:Hid (xW w (v1.alloc (.cells #[.int .i64 n1,.map Bq] 163)) p ((v1.heap.size,n1,Bq) :: [])):=Pf.I.push hb1 _;have mH:Hid (ip aX (fun x:ao=>x.id) 148 (v1.alloc (.cells #[.int .i64 n1,.map Bq] 163)) W0.heap.size v1.heap.size 6 Jg p.L8 n1 Bq):=hr1.below ((Kp _ _).alloc (Ki _) _);have HV1:Hid (W0.heap.size≤v1.heap.size∧v1.heap.size < (v1.alloc (.cells #[.int .i64 n1,.map Bq] 163)).heap.size):=⟨hb1.size,by simp⟩
 clear hb1 hr1 hok1;have p1:(v1.alloc (.cells #[.int .i64 n1,.map Bq] 163)).cell? ⟨w.heap.size,3,none⟩=some (.slice p.bc p.aj.length p.bF):=by have:=wh.I.part.cells; simp only [this]
 go_wp2_with fail;generalize v1.alloc (.cells #[.int .i64 n1,.map Bq] 163)=W1 at *;generalize v1.heap.size=V1 at *;clear Pf p1;refine (vV p.bc p.aj p.bF 5 _ HG.I.short.aj (HG.I.at'.2.1.below wh.I.cd) (HG.I.below wh.I.cd).fitSem HG.I.wfSem).mono ?_;intro e v2 hend;obtain ⟨ok2,n2,Cc,rfl,hok2,hb2,hr2⟩:=hend.res;clear hend;have HE2:Hid (ok2=BQ p):=hok2;have zz:Hid (xW w (v2.alloc (.cells #[.int .i64 n2,.map Cc] 166)) p ((v2.heap.size,n2,Cc) :: (V1,n1,Bq) :: [])):=wh.I.push hb2 _;have mO:Hid (ip eH (fun x:bD=>x.id) 184 (v2.alloc (.cells #[.int .i64 n2,.map Cc] 166)) W1.heap.size v2.heap.size 5 ok2 p.aj n2 Cc):=hr2.below ((Kp _ _).alloc (Ki _) _);have rc:Hid (ip aX (fun x:ao=>x.id) 148 (v2.alloc (.cells #[.int .i64 n2,.map Cc] 166)) W0.heap.size V1 6 Jg p.L8 n1 Bq):=(mH.I.below hb2).below ((Kp _ _).alloc (Ki _) _);clear mH;have mH:=rc;clear rc;have FD:Hid (W1.heap.size≤v2.heap.size∧v2.heap.size < (v2.alloc (.cells #[.int .i64 n2,.map Cc] 166)).heap.size):=⟨hb2.size,by simp⟩
 clear hb2 hr2 hok2;have p2:(v2.alloc (.cells #[.int .i64 n2,.map Cc] 166)).cell? ⟨w.heap.size,4,none⟩=some (.slice p.ay p.L9.length p.aO):=by have:=zz.I.part.cells; simp only [this]
 go_wp2_with fail;generalize v2.alloc (.cells #[.int .i64 n2,.map Cc] 166)=W2 at *;generalize v2.heap.size=V2 at *;clear wh p2;refine (rZ p.ay p.L9 p.aO 5 _ HG.I.short.L9 (HG.I.at'.2.2.1.below zz.I.cd) (HG.I.below zz.I.cd).Gq HG.I.IA).mono ?_;intro e v3 hend;obtain ⟨ok3,n3,Dh,rfl,hok3,hb3,hr3⟩:=hend.res;clear hend;have HE3:Hid (ok3=qS p):=hok3;have Ci:Hid (xW w (v3.alloc (.cells #[.int .i64 n3,.map Dh] 169)) p ((v3.heap.size,n3,Dh) :: (V2,n2,Cc) :: (V1,n1,Bq) :: [])):=zz.I.push hb3 _;have EU:Hid (ip cG (fun x:aB=>x.id) 187 (v3.alloc (.cells #[.int .i64 n3,.map Dh] 169)) W2.heap.size v3.heap.size 5 ok3 p.L9 n3 Dh):=hr3.below ((Kp _ _).alloc (Ki _) _);have rc:Hid (ip aX (fun x:ao=>x.id) 148 (v3.alloc (.cells #[.int .i64 n3,.map Dh] 169)) W0.heap.size V1 6 Jg p.L8 n1 Bq):=(mH.I.below hb3).below ((Kp _ _).alloc (Ki _) _);clear mH;have mH:=rc;clear rc;have iP:Hid (ip eH (fun x:bD=>x.id) 184 (v3.alloc (.cells #[.int .i64 n3,.map Dh] 169)) W1.heap.size V2 5 ok2 p.aj n2 Cc):=(mO.I.below hb3).below ((Kp _ _).alloc (Ki _) _);clear mO;have mO:=iP;clear iP;have Fx:Hid (W2.heap.size≤v3.heap.size∧v3.heap.size < (v3.alloc (.cells #[.int .i64 n3,.map Dh] 169)).heap.size):=⟨hb3.size,by simp⟩
 clear hb3 hr3 hok3;have p3:(v3.alloc (.cells #[.int .i64 n3,.map Dh] 169)).cell? ⟨w.heap.size,5,none⟩=some (.slice p.ax p.ag.length p.aP):=by have:=Ci.I.part.cells; simp only [this]
 go_wp2_with fail;generalize v3.alloc (.cells #[.int .i64 n3,.map Dh] 169)=W3 at *;generalize v3.heap.size=V3 at *;clear zz p3;refine (si p.ax p.ag p.aP 5 _ HG.I.short.ag (HG.I.at'.2.2.2.1.below Ci.I.cd) (HG.I.below Ci.I.cd).FU HG.I.I9).mono ?_;intro e v4 hend;obtain ⟨ok4,n4,DK,rfl,hok4,hb4,hr4⟩:=hend.res;clear hend;have HE4:Hid (ok4=rK p):=hok4;have EF:Hid (xW w (v4.alloc (.cells #[.int .i64 n4,.map DK] 172)) p ((v4.heap.size,n4,DK) :: (V3,n3,Dh) :: (V2,n2,Cc) :: (V1,n1,Bq) :: [])):=Ci.I.push hb4 _;have Js:Hid (ip cI (fun x:az=>x.id) 190 (v4.alloc (.cells #[.int .i64 n4,.map DK] 172)) W3.heap.size v4.heap.size 5 ok4 p.ag n4 DK):=hr4.below ((Kp _ _).alloc (Ki _) _);have rc:Hid (ip aX (fun x:ao=>x.id) 148 (v4.alloc (.cells #[.int .i64 n4,.map DK] 172)) W0.heap.size V1 6 Jg p.L8 n1 Bq):=(mH.I.below hb4).below ((Kp _ _).alloc (Ki _) _);clear mH;have mH:=rc;clear rc;have iP:Hid (ip eH (fun x:bD=>x.id) 184 (v4.alloc (.cells #[.int .i64 n4,.map DK] 172)) W1.heap.size V2 5 ok2 p.aj n2 Cc):=(mO.I.below hb4).below ((Kp _ _).alloc (Ki _) _);clear mO;have mO:=iP;clear iP;have Ar:Hid (ip cG (fun x:aB=>x.id) 187 (v4.alloc (.cells #[.int .i64 n4,.map DK] 172)) W2.heap.size V3 5 ok3 p.L9 n3 Dh):=(EU.I.below hb4).below ((Kp _ _).alloc (Ki _) _);clear EU;have EU:=Ar;clear Ar;have HV4:Hid (W3.heap.size≤v4.heap.size∧v4.heap.size < (v4.alloc (.cells #[.int .i64 n4,.map DK] 172)).heap.size):=⟨hb4.size,by simp⟩
 clear hb4 hr4 hok4;have p4:(v4.alloc (.cells #[.int .i64 n4,.map DK] 172)).cell? ⟨w.heap.size,6,none⟩=some (.slice p.am p.ae.length p.aG):=by have:=EF.I.part.cells; simp only [this]
 go_wp2_with fail;generalize v4.alloc (.cells #[.int .i64 n4,.map DK] 172)=W4 at *;generalize v4.heap.size=V4 at *;clear Ci p4;refine (rH p.am p.ae p.aG 5 _ HG.I.short.ae (HG.I.at'.2.2.2.2.1.below EF.I.cd) (HG.I.below EF.I.cd).xl HG.I.Gr).mono ?_;intro e v5 hend;obtain ⟨ok5,n5,EP,rfl,hok5,iJ,WU⟩:=hend.res;clear hend;have HE5:Hid (ok5=oH p):=hok5;have Hy:Hid (xW w (v5.alloc (.cells #[.int .i64 n5,.map EP] 175)) p ((v5.heap.size,n5,EP) :: (V4,n4,DK) :: (V3,n3,Dh) :: (V2,n2,Cc) :: (V1,n1,Bq) :: [])):=EF.I.push iJ _;have HS5:Hid (ip bQ (fun x:au=>x.id) 160 (v5.alloc (.cells #[.int .i64 n5,.map EP] 175)) W4.heap.size v5.heap.size 5 ok5 p.ae n5 EP):=WU.below ((Kp _ _).alloc (Ki _) _);have rc:Hid (ip aX (fun x:ao=>x.id) 148 (v5.alloc (.cells #[.int .i64 n5,.map EP] 175)) W0.heap.size V1 6 Jg p.L8 n1 Bq):=(mH.I.below iJ).below ((Kp _ _).alloc (Ki _) _);clear mH;have mH:=rc;clear rc;have iP:Hid (ip eH (fun x:bD=>x.id) 184 (v5.alloc (.cells #[.int .i64 n5,.map EP] 175)) W1.heap.size V2 5 ok2 p.aj n2 Cc):=(mO.I.below iJ).below ((Kp _ _).alloc (Ki _) _);clear mO;have mO:=iP;clear iP;have Ar:Hid (ip cG (fun x:aB=>x.id) 187 (v5.alloc (.cells #[.int .i64 n5,.map EP] 175)) W2.heap.size V3 5 ok3 p.L9 n3 Dh):=(EU.I.below iJ).below ((Kp _ _).alloc (Ki _) _);clear EU;have EU:=Ar;clear Ar;have GS:Hid (ip cI (fun x:az=>x.id) 190 (v5.alloc (.cells #[.int .i64 n5,.map EP] 175)) W3.heap.size V4 5 ok4 p.ag n4 DK):=(Js.I.below iJ).below ((Kp _ _).alloc (Ki _) _);clear Js;have Js:=GS;clear GS;have HV5:Hid (W4.heap.size≤v5.heap.size∧v5.heap.size < (v5.alloc (.cells #[.int .i64 n5,.map EP] 175)).heap.size):=⟨iJ.size,by simp⟩
 clear iJ WU hok5;have p5:(v5.alloc (.cells #[.int .i64 n5,.map EP] 175)).cell? ⟨w.heap.size,7,none⟩=some (.slice p.aK p.ai.length p.aV):=by have:=Hy.I.part.cells; simp only [this]
 go_wp2_with fail;generalize v5.alloc (.cells #[.int .i64 n5,.map EP] 175)=W5 at *;generalize v5.heap.size=V5 at *;clear EF p5;refine (tB p.aK p.ai p.aV 5 _ HG.I.short.ai (HG.I.at'.2.2.2.2.2.below Hy.I.cd) (HG.I.below Hy.I.cd).D4 HG.I.wfPort).mono ?_;intro e v6 hend;obtain ⟨ok6,n6,C6,rfl,hok6,jQ,hr6⟩:=hend.res;clear hend;have HE6:Hid (ok6=vI p):=hok6;have pE:Hid (xW w (v6.alloc (.cells #[.int .i64 n6,.map C6] 178)) p ((v6.heap.size,n6,C6) :: (V5,n5,EP) :: (V4,n4,DK) :: (V3,n3,Dh) :: (V2,n2,Cc) :: (V1,n1,Bq) :: [])):=Hy.I.push jQ _;have HS6:Hid (ip cW (fun x:aM=>x.id) 85 (v6.alloc (.cells #[.int .i64 n6,.map C6] 178)) W5.heap.size v6.heap.size 5 ok6 p.ai n6 C6):=hr6.below ((Kp _ _).alloc (Ki _) _);have rc:Hid (ip aX (fun x:ao=>x.id) 148 (v6.alloc (.cells #[.int .i64 n6,.map C6] 178)) W0.heap.size V1 6 Jg p.L8 n1 Bq):=(mH.I.below jQ).below ((Kp _ _).alloc (Ki _) _);clear mH;have mH:=rc;clear rc;have iP:Hid (ip eH (fun x:bD=>x.id) 184 (v6.alloc (.cells #[.int .i64 n6,.map C6] 178)) W1.heap.size V2 5 ok2 p.aj n2 Cc):=(mO.I.below jQ).below ((Kp _ _).alloc (Ki _) _);clear mO;have mO:=iP;clear iP;have Ar:Hid (ip cG (fun x:aB=>x.id) 187 (v6.alloc (.cells #[.int .i64 n6,.map C6] 178)) W2.heap.size V3 5 ok3 p.L9 n3 Dh):=(EU.I.below jQ).below ((Kp _ _).alloc (Ki _) _);clear EU;have EU:=Ar;clear Ar;have GS:Hid (ip cI (fun x:az=>x.id) 190 (v6.alloc (.cells #[.int .i64 n6,.map C6] 178)) W3.heap.size V4 5 ok4 p.ag n4 DK):=(Js.I.below jQ).below ((Kp _ _).alloc (Ki _) _);clear Js;have Js:=GS;clear GS;have HZ5:Hid (ip bQ (fun x:au=>x.id) 160 (v6.alloc (.cells #[.int .i64 n6,.map C6] 178)) W4.heap.size V5 5 ok5 p.ae n5 EP):=(HS5.I.below jQ).below ((Kp _ _).alloc (Ki _) _);clear HS5;have HS5:=HZ5;clear HZ5;have HV6:Hid (W5.heap.size≤v6.heap.size∧v6.heap.size < (v6.alloc (.cells #[.int .i64 n6,.map C6] 178)).heap.size):=⟨jQ.size,by simp⟩
 clear jQ hr6 hok6;clear Hy;cases Jg with
 | false=>
  go_wp2;go_ret2;exact ⟨pE.I.cd,.inl ⟨Ay HE1.I.symm,rfl⟩⟩
 | true=>
 cases ok2 with
 | false=>
  go_wp2;go_ret2;exact ⟨pE.I.cd,.inl ⟨C1 HE2.I.symm,rfl⟩⟩
 | true=>
 cases ok3 with
 | false=>
  go_wp2;go_ret2;exact ⟨pE.I.cd,.inl ⟨yL HE3.I.symm,rfl⟩⟩
 | true=>
 cases ok4 with
 | false=>
  go_wp2;go_ret2;exact ⟨pE.I.cd,.inl ⟨zr HE4.I.symm,rfl⟩⟩
 | true=>
 cases ok5 with
 | false=>
  go_wp2;go_ret2;exact ⟨pE.I.cd,.inl ⟨wD HE5.I.symm,rfl⟩⟩
 | true=>
 cases ok6 with
 | false=>
  go_wp2;go_ret2;exact ⟨pE.I.cd,.inl ⟨Ae HE6.I.symm,rfl⟩⟩
 | true=>
 obtain ⟨rfl,b1,l1,rfl,hl1,hs1,hh1⟩:=mH.I rfl;have xi:Hid (l1.map (·.1)=p.L8∧Shelf aX (fun x:ao=>x.id) 148 (v6.alloc (.cells #[.int .i64 n6,.map C6] 178)) W0.heap.size b1 l1∧ ∀ g∈b1 :: l1.map (·.2),g < V1):=⟨hl1,hs1,hh1⟩
 clear hl1 hs1 hh1 mH;obtain ⟨rfl,b2,l2,rfl,hl2,hs2,hh2⟩:=mO.I rfl;have HX2:Hid (l2.map (·.1)=p.aj∧Shelf eH (fun x:bD=>x.id) 184 (v6.alloc (.cells #[.int .i64 n6,.map C6] 178)) W1.heap.size b2 l2∧ ∀ g∈b2 :: l2.map (·.2),g < V2):=⟨hl2,hs2,hh2⟩
 clear hl2 hs2 hh2 mO;obtain ⟨rfl,b3,l3,rfl,hl3,Ix,hh3⟩:=EU.I rfl;have HX3:Hid (l3.map (·.1)=p.L9∧Shelf cG (fun x:aB=>x.id) 187 (v6.alloc (.cells #[.int .i64 n6,.map C6] 178)) W2.heap.size b3 l3∧ ∀ g∈b3 :: l3.map (·.2),g < V3):=⟨hl3,Ix,hh3⟩
 clear hl3 Ix hh3 EU;obtain ⟨rfl,b4,l4,rfl,hl4,hs4,hh4⟩:=Js.I rfl;have HX4:Hid (l4.map (·.1)=p.ag∧Shelf cI (fun x:az=>x.id) 190 (v6.alloc (.cells #[.int .i64 n6,.map C6] 178)) W3.heap.size b4 l4∧ ∀ g∈b4 :: l4.map (·.2),g < V4):=⟨hl4,hs4,hh4⟩
 clear hl4 hs4 hh4 Js;obtain ⟨rfl,b5,l5,rfl,rL,hs5,hh5⟩:=HS5.I rfl;have HX5:Hid (l5.map (·.1)=p.ae∧Shelf bQ (fun x:au=>x.id) 160 (v6.alloc (.cells #[.int .i64 n6,.map C6] 178)) W4.heap.size b5 l5∧ ∀ g∈b5 :: l5.map (·.2),g < V5):=⟨rL,hs5,hh5⟩
 clear rL hs5 hh5 HS5;obtain ⟨rfl,b6,l6,rfl,hl6,hs6,hh6⟩:=HS6.I rfl;have HX6:Hid (l6.map (·.1)=p.ai∧Shelf cW (fun x:aM=>x.id) 85 (v6.alloc (.cells #[.int .i64 5,.map (some b6)] 178)) W5.heap.size b6 l6∧ ∀ g∈b6 :: l6.map (·.2),g < v6.heap.size):=⟨hl6,hs6,hh6⟩
 clear hl6 hs6 hh6 HS6;have i0:(v6.alloc (.cells #[.int .i64 5,.map (some b6)] 178)).cell? ⟨w.heap.size,0,none⟩=some (.int .i64 p.id):=by have:=pE.I.part.cells; simp only [this]
 have i1:(v6.alloc (.cells #[.int .i64 5,.map (some b6)] 178)).cell? ⟨w.heap.size,1,none⟩=some (.int .i64 p.next):=by have:=pE.I.part.cells; simp only [this]
 have a1:(v6.alloc (.cells #[.int .i64 5,.map (some b6)] 178)).cell? ⟨V1,0,none⟩=some (.int .i64 6):=pE.I.c0 (mb:=some b1) (by simp);have c1:(v6.alloc (.cells #[.int .i64 5,.map (some b6)] 178)).cell? ⟨V1,1,none⟩=some (.map (some b1)):=pE.I.c1 (m:=6) (by simp);have a2:(v6.alloc (.cells #[.int .i64 5,.map (some b6)] 178)).cell? ⟨V2,0,none⟩=some (.int .i64 5):=pE.I.c0 (mb:=some b2) (by simp);have c2:(v6.alloc (.cells #[.int .i64 5,.map (some b6)] 178)).cell? ⟨V2,1,none⟩=some (.map (some b2)):=pE.I.c1 (m:=5) (by simp);have a3:(v6.alloc (.cells #[.int .i64 5,.map (some b6)] 178)).cell? ⟨V3,0,none⟩=some (.int .i64 5):=pE.I.c0 (mb:=some b3) (by simp);have c3:(v6.alloc (.cells #[.int .i64 5,.map (some b6)] 178)).cell? ⟨V3,1,none⟩=some (.map (some b3)):=pE.I.c1 (m:=5) (by simp);have a4:(v6.alloc (.cells #[.int .i64 5,.map (some b6)] 178)).cell? ⟨V4,0,none⟩=some (.int .i64 5):=pE.I.c0 (mb:=some b4) (by simp);have c4:(v6.alloc (.cells #[.int .i64 5,.map (some b6)] 178)).cell? ⟨V4,1,none⟩=some (.map (some b4)):=pE.I.c1 (m:=5) (by simp);have a5:(v6.alloc (.cells #[.int .i64 5,.map (some b6)] 178)).cell? ⟨V5,0,none⟩=some (.int .i64 5):=pE.I.c0 (mb:=some b5) (by simp);have c5:(v6.alloc (.cells #[.int .i64 5,.map (some b6)] 178)).cell? ⟨V5,1,none⟩=some (.map (some b5)):=pE.I.c1 (m:=5) (by simp);have a6:(v6.alloc (.cells #[.int .i64 5,.map (some b6)] 178)).cell? ⟨v6.heap.size,0,none⟩=some (.int .i64 5):=pE.I.c0 (mb:=some b6) (by simp);have c6:(v6.alloc (.cells #[.int .i64 5,.map (some b6)] 178)).cell? ⟨v6.heap.size,1,none⟩=some (.map (some b6)):=pE.I.c1 (m:=5) (by simp);by_cases t1:p.id < 1
 ·have HN:Hid (¬ aQ p.pure):=xx (by omega)
  go_wp2_with fail;go_ret2;exact ⟨pE.I.cd.alloc pE.I.cd.size _,.inl ⟨HN.I,rfl⟩⟩
 by_cases t2:6 < p.id
 ·have HN:Hid (¬ aQ p.pure):=xx (by omega)
  go_wp2_with fail;go_ret2;exact ⟨pE.I.cd.alloc pE.I.cd.size _,.inl ⟨HN.I,rfl⟩⟩
 by_cases t3:p.next < 1
 ·have HN:Hid (¬ aQ p.pure):=tf (by omega)
  go_wp2_with fail;go_ret2;exact ⟨pE.I.cd.alloc pE.I.cd.size _,.inl ⟨HN.I,rfl⟩⟩
 by_cases t4:1000000000 < p.next
 ·have HN:Hid (¬ aQ p.pure):=tf (by omega)
  go_wp2_with fail;go_ret2;exact ⟨pE.I.cd.alloc pE.I.cd.size _,.inl ⟨HN.I,rfl⟩⟩
 have HID:Hid ((1≤p.id∧p.id≤6)∧1≤p.next∧p.next≤1000000000):=⟨⟨by omega,by omega⟩,by omega,by omega⟩
 go_wp2_with fail;have HB7:Hid (Below (v6.alloc (.cells #[.int .i64 5,.map (some b6)] 178)).heap.size (v6.alloc (.cells #[.int .i64 5,.map (some b6)] 178)) ((v6.alloc (.cells #[.int .i64 5,.map (some b6)] 178)).alloc (.cells #[.int .i64 p.id,.int .i64 p.next,.int .i64 6,.map (some b1),.int .i64 5,.map (some b2),.int .i64 5,.map (some b3),.int .i64 5,.map (some b4),.int .i64 5,.map (some b5),.int .i64 5,.map (some b6)] 180))):=(Kp _ _).alloc (Ki _) _;have HO:Hid (fa ((v6.alloc (.cells #[.int .i64 5,.map (some b6)] 178)).alloc (.cells #[.int .i64 p.id,.int .i64 p.next,.int .i64 6,.map (some b1),.int .i64 5,.map (some b2),.int .i64 5,.map (some b3),.int .i64 5,.map (some b4),.int .i64 5,.map (some b5),.int .i64 5,.map (some b6)] 180)) (v6.heap.size+1) ⟨p.id,p.next,b1,b2,b3,b4,b5,b6⟩):=Kq _ _ _;have Fv:Hid (Below w.heap.size w ((v6.alloc (.cells #[.int .i64 5,.map (some b6)] 178)).alloc (.cells #[.int .i64 p.id,.int .i64 p.next,.int .i64 6,.map (some b1),.int .i64 5,.map (some b2),.int .i64 5,.map (some b3),.int .i64 5,.map (some b4),.int .i64 5,.map (some b5),.int .i64 5,.map (some b6)] 180))∧((v6.alloc (.cells #[.int .i64 5,.map (some b6)] 178)).alloc (.cells #[.int .i64 p.id,.int .i64 p.next,.int .i64 6,.map (some b1),.int .i64 5,.map (some b2),.int .i64 5,.map (some b3),.int .i64 5,.map (some b4),.int .i64 5,.map (some b5),.int .i64 5,.map (some b6)] 180)).heap.size=v6.heap.size+1+1):=⟨pE.I.cd.alloc pE.I.cd.size _,by simp⟩
 have II:Hid (l1.map (·.1)=p.L8∧Shelf aX (fun x:ao=>x.id) 148 ((v6.alloc (.cells #[.int .i64 5,.map (some b6)] 178)).alloc (.cells #[.int .i64 p.id,.int .i64 p.next,.int .i64 6,.map (some b1),.int .i64 5,.map (some b2),.int .i64 5,.map (some b3),.int .i64 5,.map (some b4),.int .i64 5,.map (some b5),.int .i64 5,.map (some b6)] 180)) W0.heap.size b1 l1∧ ∀ g∈b1 :: l1.map (·.2),g < V1):=⟨xi.I.1,xi.I.2.1.below HB7.I,xi.I.2.2⟩
 have HY2:Hid (l2.map (·.1)=p.aj∧Shelf eH (fun x:bD=>x.id) 184 ((v6.alloc (.cells #[.int .i64 5,.map (some b6)] 178)).alloc (.cells #[.int .i64 p.id,.int .i64 p.next,.int .i64 6,.map (some b1),.int .i64 5,.map (some b2),.int .i64 5,.map (some b3),.int .i64 5,.map (some b4),.int .i64 5,.map (some b5),.int .i64 5,.map (some b6)] 180)) W1.heap.size b2 l2∧ ∀ g∈b2 :: l2.map (·.2),g < V2):=⟨HX2.I.1,HX2.I.2.1.below HB7.I,HX2.I.2.2⟩
 have HY3:Hid (l3.map (·.1)=p.L9∧Shelf cG (fun x:aB=>x.id) 187 ((v6.alloc (.cells #[.int .i64 5,.map (some b6)] 178)).alloc (.cells #[.int .i64 p.id,.int .i64 p.next,.int .i64 6,.map (some b1),.int .i64 5,.map (some b2),.int .i64 5,.map (some b3),.int .i64 5,.map (some b4),.int .i64 5,.map (some b5),.int .i64 5,.map (some b6)] 180)) W2.heap.size b3 l3∧ ∀ g∈b3 :: l3.map (·.2),g < V3):=⟨HX3.I.1,HX3.I.2.1.below HB7.I,HX3.I.2.2⟩
 have HY4:Hid (l4.map (·.1)=p.ag∧Shelf cI (fun x:az=>x.id) 190 ((v6.alloc (.cells #[.int .i64 5,.map (some b6)] 178)).alloc (.cells #[.int .i64 p.id,.int .i64 p.next,.int .i64 6,.map (some b1),.int .i64 5,.map (some b2),.int .i64 5,.map (some b3),.int .i64 5,.map (some b4),.int .i64 5,.map (some b5),.int .i64 5,.map (some b6)] 180)) W3.heap.size b4 l4∧ ∀ g∈b4 :: l4.map (·.2),g < V4):=⟨HX4.I.1,HX4.I.2.1.below HB7.I,HX4.I.2.2⟩
 have HY5:Hid (l5.map (·.1)=p.ae∧Shelf bQ (fun x:au=>x.id) 160 ((v6.alloc (.cells #[.int .i64 5,.map (some b6)] 178)).alloc (.cells #[.int .i64 p.id,.int .i64 p.next,.int .i64 6,.map (some b1),.int .i64 5,.map (some b2),.int .i64 5,.map (some b3),.int .i64 5,.map (some b4),.int .i64 5,.map (some b5),.int .i64 5,.map (some b6)] 180)) W4.heap.size b5 l5∧ ∀ g∈b5 :: l5.map (·.2),g < V5):=⟨HX5.I.1,HX5.I.2.1.below HB7.I,HX5.I.2.2⟩
 have HY6:Hid (l6.map (·.1)=p.ai∧Shelf cW (fun x:aM=>x.id) 85 ((v6.alloc (.cells #[.int .i64 5,.map (some b6)] 178)).alloc (.cells #[.int .i64 p.id,.int .i64 p.next,.int .i64 6,.map (some b1),.int .i64 5,.map (some b2),.int .i64 5,.map (some b3),.int .i64 5,.map (some b4),.int .i64 5,.map (some b5),.int .i64 5,.map (some b6)] 180)) W5.heap.size b6 l6∧ ∀ g∈b6 :: l6.map (·.2),g < v6.heap.size):=⟨HX6.I.1,HX6.I.2.1.below HB7.I,HX6.I.2.2⟩
 have HW:Hid (w.heap.size≤W0.heap.size∧W0.heap.size≤V1∧V1 < W1.heap.size∧W1.heap.size≤V2∧V2 < W2.heap.size∧W2.heap.size≤V3∧V3 < W3.heap.size∧W3.heap.size≤V4∧V4 < W4.heap.size∧W4.heap.size≤V5∧V5 < W5.heap.size∧W5.heap.size≤v6.heap.size):=⟨HW0.I,HV1.I.1,HV1.I.2,FD.I.1,FD.I.2,Fx.I.1,Fx.I.2,HV4.I.1,HV4.I.2,HV5.I.1,HV5.I.2,HV6.I.1⟩
 clear i0 i1 pE HB7 HV1 FD Fx HV4 HV5 HV6 HW0 a1 c1 xi a2 c2 HX2 a3 c3 HX3 a4 c4 HX4 a5 c5 HX5 a6 c6 HX6;generalize (v6.alloc (.cells #[.int .i64 5,.map (some b6)] 178)).alloc (.cells #[.int .i64 p.id,.int .i64 p.next,.int .i64 6,.map (some b1),.int .i64 5,.map (some b2),.int .i64 5,.map (some b3),.int .i64 5,.map (some b4),.int .i64 5,.map (some b5),.int .i64 5,.map (some b6)] 180)=WO at *;generalize v6.heap.size=V6 at *;have lN:Hid (kX WO WO (V6+1) ⟨p.id,p.next,b1,b2,b3,b4,b5,b6⟩ l1 (RW (fun x:bD=>x.id) l2) (RW (fun x:aB=>x.id) l3) (RW (fun x:az=>x.id) l4) (RW (fun x:au=>x.id) l5)):=⟨HO.I,II.I.2.1.lower (Nat.zero_le _),HY2.I.2.1.map,HY3.I.2.1.map,HY4.I.2.1.map,HY5.I.2.1.map,Kp _ _⟩
 have DM:Hid (l1.length≤1048576∧ ∀ q∈l1,q.1.Wf):=⟨by have h1:=congrArg List.length II.I.1; have h2:=HG.I.short.L8; simp only [List.length_map] at h1; omega,fun q hq=>(HG.I.L8 q.1 (by rw [← II.I.1]; exact Lr.2 ⟨q,hq,rfl⟩)).2⟩
 refine (BI (V6+1) _ l1 _ _ _ _ WO lN.I DM.I.1 DM.I.2).mono ?_;rintro e X1 ⟨okt,rfl,hti,hx1⟩;cases okt with
 | false=>
  have HN:Hid (¬ aQ p.pure):=yV fun ht=>absurd (hti.2 ((B6 II.I.1).2 ht)) (by simp)
  have HB:Hid (Below w.heap.size w X1):=Fv.I.1.trans (hx1.mono Fv.I.1.size);clear hti hx1;go_wp2;go_ret2;exact ⟨HB.I,.inl ⟨HN.I,rfl⟩⟩
 | true=>
 have HTU:Hid (nQ p.next p.pure.L8):=(B6 II.I.1).1 (hti.1 rfl);have xi:Hid (Below WO.heap.size WO X1):=hx1;clear hti hx1;go_wp2_with fail;refine (Bh (V6+1) ⟨p.id,p.next,b1,b2,b3,b4,b5,b6⟩ l1 (RW (fun x:bD=>x.id) l2) (RW (fun x:aB=>x.id) l3) (RW (fun x:az=>x.id) l4) (RW (fun x:au=>x.id) l5) X1 ⟨lN.I.opn.below xi.I,lN.I.eh.below xi.I,lN.I.ms.below xi.I,lN.I.me.below xi.I,lN.I.mb.below xi.I,lN.I.mf.below xi.I,Kp _ _⟩ DM.I.1 DM.I.2).mono ?_;rintro e X2 ⟨rfl,hx2⟩;rw [FV II.I.1 HY2.I.1 HY3.I.1 HY4.I.1 HY5.I.1 HE1.I.symm];have cy:Hid (Below WO.heap.size WO X2):=xi.I.trans (hx2.mono xi.I.size);clear hx2;cases hw:p.pure.L8.all (dG p.pure)
 ·have HN:Hid (¬ aQ p.pure):=zA hw
  clear hw;go_wp2;go_ret2;exact ⟨Fv.I.1.trans (cy.I.mono Fv.I.1.size),.inl ⟨HN.I,rfl⟩⟩
 have HYES:Hid (aQ p.pure):=FI HE1.I.symm HE2.I.symm HE3.I.symm HE4.I.symm HE5.I.symm HE6.I.symm HID.I.1 HID.I.2 HTU.I hw;clear hw;go_wp2_with fail;have HTH:Hid (mv X2 w.heap.size (V6+1) ⟨p.id,p.next,b1,b2,b3,b4,b5,b6⟩ l1 l5 l6):=vK HW.I HO.I cy.I II.I.2 HY5.I.2 HY6.I.2;refine (wO (V6+1) w.heap.size _ l1 l5 l6 X2 HTH.I (Nat.le_trans Fv.I.1.size cy.I.size) ?_ ?_ ?_).mono ?_
 ·exact EL HG.I (Fv.I.1.trans (cy.I.mono Fv.I.1.size)) II.I.1
 ·exact AA HG.I (Fv.I.1.trans (cy.I.mono Fv.I.1.size)) HY5.I.1
 ·exact Fo HG.I (Fv.I.1.trans (cy.I.mono Fv.I.1.size)) HY6.I.1
 rintro e X3 ⟨rfl,w1,w2,l1',l5',l6',ho1,oe,qH⟩;have HEND:Hid (Below w.heap.size w X3∧cJ X3 w.heap.size (V6+1) ⟨⟨p.id,p.next,b1,b2,b3,b4,b5,b6⟩,l1',l2,l3,l4,l5',l6'⟩∧(⟨⟨p.id,p.next,b1,b2,b3,b4,b5,b6⟩,l1',l2,l3,l4,l5',l6'⟩:aZ).pure=p.pure):=Gp HW.I Fv.I HO.I cy.I II.I HY2.I HY3.I HY4.I HY5.I HY6.I ho1 oe qH;clear ho1 oe qH;go_wp2;go_ret2;exact ⟨HEND.I.1,.inr ⟨HYES.I,V6+1,_,rfl,HEND.I.2.1,HEND.I.2.2⟩⟩
end
section
open Go.RowKit
def iD (cur:Array Value) (off:Nat):List Value→Array Value
 | [] =>cur
 | v :: r=>iD (cur.setIfInBounds off v) (off+1) r
theorem kM: ∀ (vs:List Value) (cur:Array Value) (off:Nat),(iD cur off vs).size=cur.size
 | [],_,_=>rfl
 | v :: r,cur,off=>by rw [iD,kM r]; simp
theorem lL: ∀ (vs:List Value) (cur:Array Value) (off j:Nat),j < off→(iD cur off vs)[j]? =cur[j]?
 | [],_,_,_,_=>rfl
 | v :: r,cur,off,j,h=>by
  rw [iD,lL r _ _ _ (by omega),Array.getElem?_setIfInBounds_ne (by omega)]
theorem sv: ∀ (vs:List Value) (cur:Array Value) (off j:Nat) (v:Value),off+vs.length≤cur.size→vs[j]? =some v→(iD cur off vs)[off+j]? =some v
 | [],_,_,_,_,_,h=>by simp at h
 | u :: r,cur,off,j,v,hl,h=>by
  simp only [List.length_cons] at hl;cases j with
  | zero=>
   simp only [List.getElem?_cons_zero,LF] at h;subst h;rw [iD,lL r _ _ _ (by omega)];simp [show off < cur.size by omega]
  | succ j=>
   have h':r[j]? =some v:=by simpa using h
   have:=sv r (cur.setIfInBounds off u) (off+1) j v (by simp; omega) h'
   rw [iD,show off+(j+1)=off+1+j by omega];exact this
theorem sN {vs:List Value} {cur:Array Value} {off:Nat} (hl:off+vs.length≤cur.size):(iD cur off vs).toList.take (off+vs.length)=cur.toList.take off ++ vs:=by
 apply List.ext_getElem?;intro j;rw [QW];by_cases h1:j < off
 ·rw [if_pos (by omega),List.getElem?_append_left (by simp; omega),QW,if_pos h1,QJ,QJ,lL _ _ _ _ h1]
 ·by_cases h2:j < off+vs.length
  ·rw [if_pos h2,List.getElem?_append_right (by simp; omega)]
   have e:(cur.toList.take off).length=off:=by simp; omega
   rw [e];obtain ⟨d,rfl⟩: ∃ d,j=off+d:=⟨j - off,by omega⟩
   rw [show off+d - off=d by omega,QJ,Kz (by omega)];exact sv vs cur off d _ hl (Kz (by omega))
  ·rw [if_neg h2,List.getElem?_eq_none (by simp; omega)]
def bn (w:World) (g off:Nat):List Value→World
 | [] =>w
 | v :: r=>bn (w.setCell ⟨g,off,none⟩ v) g (off+1) r
theorem jc: ∀ (vs:List Value) {w:World} {g off:Nat} {cur:Array Value} {T:TypeId},w.heap[g]? =some (.cells cur T (0,0))→(bn w g off vs).heap[g]? =some (.cells (iD cur off vs) T (0,0))
 | [],_,_,_,_,_,h=>h
 | v :: r,w,g,off,cur,T,h=>jc r (heap_setCell_same w g off cur T v h)
theorem de: ∀ (vs:List Value) {w:World} {g off k:Nat},¬ k=g→(bn w g off vs).heap[k]? =w.heap[k]?
 | [],_,_,_,_,_=>rfl
 | v :: r,w,_,_,k,h=>(de r h).trans (Below.heap_setCell w _ v k h)
theorem fH: ∀ (vs:List Value) {w:World} {g off:Nat},(bn w g off vs).heap.size=w.heap.size
 | [],_,_,_=>rfl
 | v :: r,w,g,off=>by rw [bn,fH r]; simp [World.setCell]
theorem eU: ∀ (vs:List Value) {B:Nat} {w0 w:World} {g off:Nat},B≤g→Below B w0 w→Below B w0 (bn w g off vs)
 | [],_,_,_,_,_,_,h=>h
 | v :: r,_,_,_,_,_,hB,h=>eU r hB (h.setCell hB v)
theorem iL: ∀ (vs:List Value) (w:World) (g off:Nat),w.setCells g off vs=bn w g off vs
 | [],_,_,_=>rfl
 | v :: r,w,g,off=>iL r (w.setCell ⟨g,off,none⟩ v) g (off+1)
theorem Bs {vs:List Value} {cur:Array Value} (h:cur.size=vs.length):iD cur 0 vs=vs.toArray:=by
 have h1:=sN (off:=0) (vs:=vs) (cur:=cur) (by omega);simp only [Li,List.take_zero,List.nil_append] at h1;have h2:(iD cur 0 vs).toList.length=vs.length:=by simp [kM,h]
 rw [KF (by omega)] at h1;exact (Array.toArray_toList (xs:=iD cur 0 vs)).symm.trans (congrArg List.toArray h1)
theorem ri {w:World} {g:Nat} {cur:Array Value} {T:TypeId} {vs:List Value} (h:w.heap[g]? =some (.cells cur T (0,0))) (hs:cur.size=vs.length):(bn w g 0 vs).heap[g]? =some (.cells vs.toArray T (0,0)):=by
 have:=jc (off:=0) vs h
 rwa [Bs hs] at this
theorem G7 {w:World} {g:Nat} {cur:Array Value} {T:TypeId} {n:Nat} (h:w.heap[g]? =some (.cells cur T (0,0))) (hs:n≤cur.size):w.there g 0 n:=fun j hj=>by
 simp only [Li];refine ⟨?_,Ko _ _ _ _ _ h⟩;rw [K5 _ _ _ _ _ _ h,Array.getElem?_eq_getElem (by omega)];rfl
theorem tE (w:World) (o1 o2 o3:Obj):(((w.alloc o1).alloc o2).alloc o3).heap[w.heap.size+1+1]? =some o3:=by
 have:=Kj ((w.alloc o1).alloc o2) o3
 simpa using this
theorem dR (w:World) (o1 o2 o3:Obj):(((w.alloc o1).alloc o2).alloc o3).heap[w.heap.size]? =some o1∧(((w.alloc o1).alloc o2).alloc o3).heap[w.heap.size+1]? =some o2∧(((w.alloc o1).alloc o2).alloc o3).heap[w.heap.size+1+1]? =some o3∧(((w.alloc o1).alloc o2).alloc o3).heap.size=w.heap.size+1+1+1:=
 ⟨by rw [PU (by simp; omega),PU (by simp),Kj],by rw [PU (by simp)]; exact Kq _ _ _,tE _ _ _ _,by simp⟩
theorem fg (w:World) (o1 o2 o3:Obj):Below w.heap.size w (((w.alloc o1).alloc o2).alloc o3):=(((Kp _ _).alloc (Ki _) _).alloc (by simp) _).alloc (by simp; omega) _
theorem cZ (w:World) (o1 o2:Obj):((w.alloc o1).alloc o2).heap[w.heap.size]? =some o1∧((w.alloc o1).alloc o2).heap[w.heap.size+1]? =some o2:=⟨(PU (by simp)).trans (Kj _ _),Kq _ _ _⟩
theorem dT (w:World) (o1 o2:Obj):Below w.heap.size w ((w.alloc o1).alloc o2):=((Kp _ _).alloc (Ki _) _).alloc (by simp) _
def jZ (w:World) (left:Int) (c:Nat) (P:Prop) (e:Ending) (w':World):Prop:= ∃ r:Int,e= .returned (.int .i64 r)∧ -1≤r∧r≤left∧(0≤r→P∧r+c≤left)∧Below w.heap.size w w'
theorem cT {w w':World} {left:Int} {c:Nat} {P:Prop} (h:Below w.heap.size w w') (h0:0≤left):jZ w left c P (.returned (.int .i64 (-1))) w':=⟨-1,rfl,by omega,by omega,fun h=>absurd h (by omega),h⟩
def g9 {α:Type} (c:α→Nat) (l:List α):Nat:=(l.map c).sum
theorem zg {α:Type} {c:α→Nat} {l:List α} {k:Nat} {x:α} (hx:l[k]? =some x):g9 c (l.take (k+1))=g9 c (l.take k)+c x:=by
 rw [cj hx];simp [g9]
section
variable {α:Type}
theorem nE {P:α→Prop} {l:List α} {k:Nat} {x:α} (hx:l[k]? =some x) (h: ∀ y∈l.take k,P y) (hp:P x): ∀ y∈l.take (k+1),P y:=fun y hy=>by
 rw [cj hx] at hy;rcases Kg.1 hy with hy | hy
 ·exact h y hy
 ·simp only [Kt,Ku,or_false] at hy
  subst hy;exact hp
theorem po {P:α→Prop} {l:List α} {k:Nat} (hk:l.length≤k) (h: ∀ y∈l.take k,P y): ∀ y∈l,P y:=by rwa [KF hk] at h
structure gb (K:Kind α) (T:TypeId) (w wr:World) (len:Nat) (I:List α):Prop where
 row: ∃ cur:Array Value,wr.heap[w.heap.size]? =some (.cells cur T (0,0))∧cur.size=len * K.n∧cur.toList.take (I.length * K.n)=K.flat I
 cd:Below w.heap.size w wr
variable {K:Kind α} {T:TypeId} {w wr w':World} {len:Nat} {I:List α}
theorem gb.start {cs:Array Value} (hs:cs.size=len * K.n):gb K T w (w.alloc (.cells cs T)) len [] :=
 ⟨⟨cs,Kj _ _,hs,by simp [Kind.flat]⟩,(Kp _ _).alloc (Ki _) _⟩
theorem gb.below (h:gb K T w wr len I) (hb:Below wr.heap.size wr w'):gb K T w w' len I:=by
 obtain ⟨cur,h1,h2⟩:=h.row;exact ⟨⟨cur,(hb.block _ (J2.1 h1).1).trans h1,h2⟩,h.cd.trans (hb.mono h.cd.size)⟩
theorem gb.at (h:gb K T w wr len I):(∃ u:Nat→Value,∀ j,j < len * K.n→wr.cell? ⟨w.heap.size,j,none⟩=some (u j))∧ ∀ j,wr.frozen? ⟨w.heap.size,j,none⟩=false:=by
 obtain ⟨cur,h1,h2,h3⟩:=h.row;refine ⟨⟨fun j=>cur.getD j undef,fun j hj=> ?_⟩,fun j=>Ko _ _ _ _ _ h1⟩;rw [K5 _ _ _ _ _ _ h1];simp [Array.getD,show j < cur.size by omega]
theorem gb.lt (h:gb K T w wr len I):w.heap.size < wr.heap.size:=by
 obtain ⟨cur,h1,_⟩:=h.row;exact (J2.1 h1).1
theorem gb.more (h:gb K T w wr len I) (hl:I.length < len) (x:α):gb K T w (bn wr w.heap.size (I.length * K.n) (K.vals x)) len (I ++ [x]):=by
 obtain ⟨cur,h1,h2,h3⟩:=h.row;have hle:I.length * K.n+(K.vals x).length≤cur.size:=by
  rw [K.len,h2,← Lh];exact Nat.mul_le_mul_right _ hl
 refine ⟨⟨_,jc _ h1,by rw [kM,h2],?_⟩,eU _ (Ki _) h.cd⟩
 have:=sN hle
 rw [K.len,← Lh] at this;rw [Lf,List.length_singleton];refine this.trans ?_;rw [h3,K.dc,K.GJ]
theorem gb.done (h:gb K T w wr len I) (hl:I.length=len) (hm:len≤maxLen):wr.ownsRow w.heap.size T K.n (.slice (some ⟨w.heap.size,0,none⟩) len len) len (K.flat I):=by
 obtain ⟨cur,h1,h2,h3⟩:=h.row;subst hl;exact ⟨K.dM I,.inr ⟨w.heap.size,I.length,cur,rfl,Ki _,h1,Ki _,hm,h2,h3⟩⟩
end
theorem yP {B:Nat} {w w':World} (h:Below B w w') (n:Nat):Below B w (w'.drewN n):=⟨h.os,h.tape,h.output,h.size,h.block⟩
theorem uH {α β:Type} {f:α→β} {l l':List α} {k:Nat} {x:α} (h:l'.map f=l.map f) (hx:l[k]? =some x): ∃ y,l'[k]? =some y∧f y=f x:=by
 have h1:(l'.map f)[k]? =(l.map f)[k]? :=by rw [h]
 rw [Kk,Kk,hx] at h1;obtain ⟨y,hy,e⟩:=Option.map_eq_some_iff.1 h1;exact ⟨y,hy,e⟩
structure sd {α:Type} (N:gd α) (K:Kind α) (w w':World) (len:Nat) (l I:List α):Prop where
 row:w'.ownsRow w.heap.size N.T K.n (.slice (some ⟨w.heap.size,0,none⟩) len len) len (K.flat I)
 alike:I.map (fun x=>N.set x none 0)=l.map (fun x=>N.set x none 0)
 mine: ∀ x∈I,N.cO w' (w.heap.size+1) x
 nodup:(I.filterMap N.bt).Nodup
 cd:Below w.heap.size w w'
structure iV {α:Type} (N:gd α) (K:Kind α) (w wr:World) (l I:List α) (k:Nat):Prop where
 fill:gb K N.T w wr l.length I
 len:I.length=k
 alike:I.map (fun x=>N.set x none 0)=(l.take k).map (fun x=>N.set x none 0)
 mine: ∀ x∈I,N.cO wr (w.heap.size+1) x
 nodup:(I.filterMap N.bt).Nodup
section
variable {α:Type} {N:gd α} {K:Kind α} {w wr w':World} {l I:List α} {k:Nat}
theorem iV.start (h:gb K N.T w wr l.length []):iV N K w wr l [] 0:=⟨h,rfl,rfl,(fun x hx=>by cases hx),List.nodup_nil⟩
theorem iV.below (h:iV N K w wr l I k) (hb:Below wr.heap.size wr w'):iV N K w w' l I k:=
 ⟨h.fill.below hb,h.len,h.alike,fun x hx=>(h.mine x hx).same fun g hg=>hb.block g ((h.mine x hx).lt hg).2,h.nodup⟩
theorem iV.more {x:α} {a:Option Addr} {c:Nat} (h:iV N K w w' l I k) (hlt:k < l.length) (hx:l[k]? =some x) (hm:N.cO w' (w.heap.size+1) (N.set x a c)) (hk: ∀ g,N.bt (N.set x a c)=some g→wr.heap.size≤g) (hr:iV N K w wr l I k):
  iV N K w (bn w' w.heap.size (k * K.n) (K.vals (N.set x a c))) l (I ++ [N.set x a c]) (k+1):=by
 have hf:=h.fill.more (by rw [h.len]; exact hlt) (N.set x a c);rw [h.len] at hf;refine ⟨hf,by rw [Lf,h.len]; rfl,?_,fun y hy=> ?_,?_⟩
 ·rw [cj hx,Kl,Kl,h.alike]
  simp [N.set_set]
 ·have hmy:N.cO w' (w.heap.size+1) y:=by
   rcases Kg.1 hy with hy | hy
   ·exact h.mine y hy
   ·simp only [Kt,Ku,or_false] at hy
    subst hy;exact hm
  exact hmy.same fun g hg=>de _ (by have:=(hmy.lt hg).1; omega)
 ·rw [List.filterMap_append,Kf]
  refine ⟨h.nodup,?_,fun g hg g' hg' e=> ?_⟩
  ·simp only [List.filterMap_cons,List.filterMap_nil]
   split <;> simp
  ·obtain ⟨y,hy,hky⟩:=Lq.1 hg
   obtain ⟨z,hz,hkz⟩:=Lq.1 hg';simp only [Kt,Ku,or_false] at hz;subst hz;have h1:=((hr.mine y hy).lt hky).2;have h2:=hk g' hkz;omega
theorem iV.done (h:iV N K w wr l I l.length) (hm:l.length≤maxLen):sd N K w wr l.length l I:=by
 refine ⟨h.fill.done h.len hm,?_,h.mine,h.nodup,h.fill.cd⟩
 have:=h.alike
 rwa [List.take_length] at this
end
theorem nP {w:World} {base n size cap:Nat} {e:TypeId} {a:Option Addr} {xs:List Value} (h:w.ownsRow base e size (.slice a n cap) n xs):Row w a xs:=by
 obtain ⟨a',cap',e',hr⟩:=cr h;simp only [LD] at e';rw [e'.1];exact hr
theorem cR {w w':World} {base n size cap:Nat} {e:TypeId} {a:Option Addr} {xs:List Value} (h:w.ownsRow base e size (.slice a n cap) n xs) (hb:Below w.heap.size w w'):w'.ownsRow base e size (.slice a n cap) n xs:=by
 obtain ⟨hl,h2⟩:=h;refine ⟨hl,?_⟩;rcases h2 with h2 | ⟨g,c,cur,hv,h1,hg,r⟩
 ·exact .inl h2
 ·exact .inr ⟨g,c,cur,hv,h1,(hb.block g (J2.1 hg).1).trans hg,r⟩
end
end Go.Proofs.YteidkehoekbcaaaGreat
