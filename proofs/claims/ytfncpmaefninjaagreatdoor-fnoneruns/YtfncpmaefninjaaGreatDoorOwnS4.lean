/- What the proof leans on, part 4. -/
import Derived.Test.YtfncpmaefninjaaGreatDoorOwnS3
set_option linter.unusedVariables false
set_option maxRecDepth 100000
set_option maxHeartbeats 8000000
open Go.Proofs.Tryz
open Go renaming World->w_,Calls->k_,Addr->d_
open Go.Ending renaming returned->r_
open Go.IntKind renaming i64->j_
open Go.Obj renaming cells->c_
open Go.RowKit renaming Below->B_
open Go.Value renaming int->i_,slice->s_,bool->b_,string->t_,agg->a_,pointer->p_,tuple->u_
open Option renaming some->o_,none->n_
open Array renaming getElem?_eq_some_iff->J2
open Bool renaming and_eq_true->J7
open Function renaming comp_def->Ls
open Go renaming block_lt_of_cell->Le,bodyPost_ret->KT,heap_alloc_new->Kj,wp_at_succ->Kd,wp_at_zero->Kc
open Go.Calls renaming quiet_of_same->L1
open Go.DataW.lit renaming injEq->QZ
open Go.IntKind renaming wrap_i64->K8
open Go.Lit.int renaming injEq->Q0
open Go.Maps renaming keyOf_int_inv->RB
open Go.Proofs.Tryz renaming prog->J3,underlying3->QY
open Go.RowKit renaming run_makeMap->P4
open Go.RowKit.Below renaming refl->Kp
open List renaming append_nil->QO,filter_append->QN,filter_cons->LN,getElem?_eq_getElem->Kz,getElem?_eq_some_iff->Lj,getElem?_map->Kk,length_append->Lf,length_filter_le->Qq,length_map->KG,length_take->Lk,map_append->Kl,map_cons->Lt,map_map->Lv,map_nil->QV,mem_append_left->Lz,mem_cons->Kt,mem_cons_of_mem->LB,mem_flatMap->Rt,mem_map->Lr,mem_of_getElem?->KA,mem_singleton->KB,nodup_append->Kf,nodup_cons->Lp,not_mem_nil->Ku,take_of_length_le->KF
open Nat renaming le_refl->Ki,le_trans->LG,lt_of_le_of_lt->Q5,lt_of_lt_of_le->Kn,lt_succ_iff_lt_or_eq->QX,zero_le->Ky
open Option renaming map_eq_some_iff->Kw,map_some->J9
open Option.some renaming inj->KC
open Prod.mk renaming injEq->Kx

namespace Go.Proofs.YtfncpmaefninjaaGreatDoor
section
open Go.RowKit Go.Maps
attribute [local go_sem ↓] Kc Kd
def aR:gd ao:=⟨aX,fun x=>x.id,41,45,4,fun x=>x.aY,fun x=>x.bH,fun x=>x.prog.length,fun x=>fk.flat x.prog,fun x a c=> { x with aY:=a,bH:=c },fun _ _ _=>rfl,fun _ _ _=>rfl,fun _ _ _=>rfl,fun _ _ _=>rfl,fun _ _ _=>rfl,fun _ _ _ _ _=>rfl⟩
def aC:gd au:=⟨bQ,fun x=>x.id,96,9,1,fun x=>x.ak,fun x=>x.aq,fun x=>x.Ma.length,fun x=>bT.flat x.Ma,fun x a c=> { x with ak:=a,aq:=c },fun _ _ _=>rfl,fun _ _ _=>rfl,fun _ _ _=>rfl,fun _ _ _=>rfl,fun _ _ _=>rfl,fun _ _ _ _ _=>rfl⟩
def aU:gd aM:=⟨cW,fun x=>x.id,115,9,1,fun x=>x.ak,fun x=>x.aq,fun x=>x.Ma.length,fun x=>bT.flat x.Ma,fun x a c=> { x with ak:=a,aq:=c },fun _ _ _=>rfl,fun _ _ _=>rfl,fun _ _ _=>rfl,fun _ _ _=>rfl,fun _ _ _=>rfl,fun _ _ _ _ _=>rfl⟩
def fY {α:Type} (N:gd α) (w:w_) (base:Nat) (l:List (α × Nat)):Prop:= ∀ p∈l,Row w (N.ad p.1) (N.flat p.1)∧N.len p.1≤1048576∧ ∀ g,N.bt p.1=o_ g→g < base
theorem fY.low {α:Type} {N:gd α} {w w':w_} {base:Nat} {l:List (α × Nat)} (h:fY N w base l) (hb:B_ base w w'):fY N w' base l:=fun p hp=>
 ⟨(h p hp).1.low (fun q e=>(h p hp).2.2 q.block (by simp [gd.bt,e])) hb,(h p hp).2⟩
theorem D5:(Tryz.prog.info? 45).map (fun i=>(i.zero,i.size,i.bytes))=o_ (o_ (a_ #[i_ j_ 0,i_ j_ 0,i_ j_ 0,t_ ⟨#[]⟩]),4,40):=by kernel_rfl
theorem zD:(Tryz.prog.info? 9).map (fun i=>(i.zero,i.size,i.bytes))=o_ (o_ (t_ ⟨#[]⟩),1,16):=by kernel_rfl
theorem FE {l:List dN} : ∀ u∈fk.flat l,u.oneCell'=true:=fun u hu=>by
 obtain ⟨x,_,hx⟩:=Rt.1 hu;simp only [fk,CC,Kt,Ku,or_false] at hx;rcases hx with rfl | rfl | rfl | rfl <;> rfl
theorem yK {l:List ByteArray} : ∀ u∈bT.flat l,u.oneCell'=true:=fun u hu=>by
 obtain ⟨x,_,hx⟩:=Rt.1 hu;simp only [bT,Kt,Ku,or_false] at hx;subst hx;rfl
theorem FR (w:w_) (a:Option d_) (l:List dN) (cap:Nat) (h:Row w a (fk.flat l)) (hl:l.length≤1048576):
  ∃ a' cap' w',(Builtin.append_ #[39,39] 39 #[s_ n_ 0 0,s_ a l.length cap]).run J3 w= .ok (s_ a' l.length cap') w'∧w'.ownsRow w.heap.size 45 4 (s_ a' l.length cap') l.length (fk.flat l)∧w.grownBy w' n_:=by
 obtain ⟨i,hi,e⟩:=Kw.1 D5;simp only [Kx] at e;exact sZ w _ _ 45 i _ 4 40 underlying39 hi e.1 e.2.1 e.2.2 rfl (by decide) a l.length cap _ h (fk.dM l) FE hl (by decide)
theorem xF (w:w_) (a:Option d_) (l:List ByteArray) (cap:Nat) (h:Row w a (bT.flat l)) (hl:l.length≤1048576):
  ∃ a' cap' w',(Builtin.append_ #[94,94] 94 #[s_ n_ 0 0,s_ a l.length cap]).run J3 w= .ok (s_ a' l.length cap') w'∧w'.ownsRow w.heap.size 9 1 (s_ a' l.length cap') l.length (bT.flat l)∧w.grownBy w' n_:=by
 obtain ⟨i,hi,e⟩:=Kw.1 zD;simp only [Kx] at e;exact sZ w _ _ 9 i _ 1 16 underlying94 hi e.1 e.2.1 e.2.2 rfl (by decide) a l.length cap _ h (bT.dM l) yK hl (by decide)
structure kG {α:Type} (N:gd α) (w0 wr:w_) (base b:Nat) (l l':List (α × Nat)):Prop where
 eh:Shelf N.vs N.num N.T wr base b l'
 alike:l'.map (fun p=>(N.set p.1 n_ 0,p.2))=l.map (fun p=>(N.set p.1 n_ 0,p.2))
 mine: ∀ p∈l',N.cO wr w0.heap.size p.1
 nodup:(kids N l').Nodup
 os:wr.os=w0.os
 tape:wr.tape=w0.tape
 output:wr.output=w0.output
 size:w0.heap.size≤wr.heap.size
 same: ∀ g,g < w0.heap.size→g∉l.map (·.2)→wr.heap[g]? =w0.heap[g]?
theorem fS.owned {α:Type} {N:gd α} {w0 wr:w_} {base b:Nat} {l l':List (α × Nat)} {left:Lit→Bool} (h:fS N w0 wr base b l l' left) (hd: ∀ kl,left kl=false):kG N w0 wr base b l l':=
 ⟨h.eh,h.alike,fun p hp=>h.own p hp (hd _),h.nodup hd,h.os,h.tape,h.output,h.size,h.same⟩
theorem kG.below {α:Type} {N:gd α} {w0 wr:w_} {base b:Nat} {l l':List (α × Nat)} (h:kG N w0 wr base b l l') (hb:base≤w0.heap.size) (hl: ∀ g∈l.map (·.2),base≤g):B_ base w0 wr:=
 ⟨h.os,h.tape,h.output,h.size,fun g hg=>h.same g (by omega) (fun hm=>by have:=hl g hm; omega)⟩
structure mv (w:w_) (base o:Nat) (q:ol) (lp:List (ao × Nat)) (lf:List (au × Nat)) (lq:List (aM × Nat)):Prop where
 opn:fa w o q
 L8:Shelf aX (fun x:ao=>x.id) 41 w base q.bp lp
 ae:Shelf bQ (fun x:au=>x.id) 96 w base q.bf lf
 ai:Shelf cW (fun x:aM=>x.id) 115 w base q.bq lq
 nodup:(o :: ((q.bp :: lp.map (·.2)) ++ ((q.bf :: lf.map (·.2)) ++ (q.bq :: lq.map (·.2))))).Nodup
theorem mv.EK {w w':w_} {base o:Nat} {q:ol} {lp l':List (ao × Nat)} {lf:List (au × Nat)} {lq:List (aM × Nat)} (h:mv w base o q lp lf lq) (ho:kG aR w w' base q.bp lp l'):mv w' base o q l' lf lq:=by
 have hbl:l'.map (·.2)=lp.map (·.2):=by
  have:=congrArg (List.map (·.2)) ho.alike
  exact ZaA
 have hn:=h.nodup;rw [Lp,Kf] at hn;obtain ⟨h1,h2,h3,h4⟩:=hn;have hlp: ∀ g,g∈(q.bf :: lf.map (·.2)) ++ (q.bq :: lq.map (·.2))→g∉lp.map (·.2):=fun g hg hm=>h4 g (LB _ hm) g hg rfl
 refine ⟨(ho.same o (J2.1 h.opn).1 (fun hm=>h1 (by simp [Lr.1 hm]))).trans h.opn,ho.eh,h.ae.same fun g hg=>ho.same g (h.ae.lt g hg) (hlp g (Lz _ hg)),h.ai.same fun g hg=>ho.same g (h.ai.lt g hg) (hlp g (List.mem_append_right _ hg)),?_⟩;rw [hbl];exact h.nodup
theorem mv.Af {w w':w_} {base o:Nat} {q:ol} {lp:List (ao × Nat)} {lf l':List (au × Nat)} {lq:List (aM × Nat)} (h:mv w base o q lp lf lq) (ho:kG aC w w' base q.bf lf l'):mv w' base o q lp l' lq:=by
 have hbl:l'.map (·.2)=lf.map (·.2):=by
  have:=congrArg (List.map (·.2)) ho.alike
  exact ZaA
 have hn:=h.nodup;rw [Lp,Kf,Kf] at hn;obtain ⟨h1,h2,⟨h3,h5,h6⟩,h4⟩:=hn;refine ⟨(ho.same o (J2.1 h.opn).1 (fun hm=>h1 (by simp [Lr.1 hm]))).trans h.opn,h.L8.same fun g hg=>ho.same g (h.L8.lt g hg) (fun hm=>h4 g hg g (Lz _ (LB _ hm)) rfl),ho.eh,h.ai.same fun g hg=>ho.same g (h.ai.lt g hg) (fun hm=>h6 g (LB _ hm) g hg rfl),?_⟩;rw [hbl];exact h.nodup
theorem wO (o base:Nat) (q:ol) (lp:List (ao × Nat)) (lf:List (au × Nat)) (lq:List (aM × Nat)) (w:w_) (h:mv w base o q lp lf lq) (hb:base≤w.heap.size) (h1:fY aR w base lp) (h2:fY aC w base lf) (h3:fY aU w base lq):
  k_ J3 58 #[p_ (o_ ⟨o,0,n_⟩)] w fun e w'=>e=r_ (u_ #[])∧ ∃ w1 w2 l0 l1 l2,kG aR w w1 base q.bp lp l0∧kG aC w1 w2 base q.bf lf l1∧kG aU w2 w' base q.bq lq l2:=by
 have HT:Hid (mv w base o q lp lf lq):=h;have Fy:Hid (base≤w.heap.size):=hb;have Ia:Hid (∀ g∈lp.map (·.2),base≤g):=fun g hg=>h.L8.low g (LB _ hg)
 have HLP:Hid (fY aR w base lp):=h1;have I8:Hid (fY aC w base lf):=h2;have ID:Hid (fY aU w base lq):=h3;clear h hb h1 h2 h3
 go_enter func58,ntmps58
 have c0:w.cell? ⟨o,3,n_⟩=o_ (.map (o_ q.bp)):=HT.I.opn.cell 3;have hown:=HT.I.L8.map.1;go_wp2_with (at_range; refine wpList_range_own _ rfl _ 67 rfl 2 64 jb underlying67 od q.bp _ _ rfl hown ?_; intro w1 BW CT hs1);have HS:Hid (fS aR w w1 base q.bp lp lp (Maps.has (gA (RW aR.num lp)))):=fS.start HT.I.L8 CT;have En:Hid (∀ g∈q.bp :: lp.map (·.2),g < w.heap.size):=HT.I.L8.lt;clear hown c0 CT
 go_frame
 go_loopw [3] (fun _ tD=> ∃ (left:Lit→Bool) (cnt:Nat) (l':List (ao × Nat)),tD.ranges J3 2 od q.bp w.heap.size (RW (fun x:ao=>x.id) lp).length (gA (RW (fun x:ao=>x.id) lp)) left cnt∧Hid (fS aR w tD base q.bp lp l' left)) (fun _ tD=>tD.rangeLeft q.bp w.heap.size)
 case atStart=>exact ⟨_,_,lp,BW,HS.I⟩
 case round=>
  rename w_=>tD
  clear HS BW hs1 w1;obtain ⟨left,cnt,l0,hrg,HO⟩:=hrel;go_wp2_with (at_next; refine wpList_next_ranges _ rfl _ rfl 2 jb od (Value.int j_) dt (fun key kl hk=>by obtain ⟨x,rfl,_⟩:=RB underlying2 hk; exact ⟨x,rfl⟩) (fun v y hv=>by obtain ⟨g,rfl,_⟩:=oI hv; exact ⟨g,rfl⟩) q.bp w.heap.size _ _ _ _ rfl hrg ?_ ?_)
  ·intro hc0 hl0
   have VH:Hid (kG aR w tD base q.bp lp l0):=HO.I.owned hl0;clear hrg HO hc0 hl0 En left cnt;have HTN:Hid (mv tD base o q l0 lf lq):=HT.I.EK VH.I;clear HT;have HT:Hid (mv tD base o q l0 lf lq):=HTN.I;have HLI:Hid (fY aC tD base lf∧fY aU tD base lq):=⟨I8.I.low (VH.I.below Fy.I Ia.I),ID.I.low (VH.I.below Fy.I Ia.I)⟩
   have HBN:Hid (base≤tD.heap.size):=LG Fy.I VH.I.size;clear HTN Fy Ia HLP;have Fy:Hid (base≤tD.heap.size):=HBN.I;have Ia:Hid (∀ g∈lf.map (·.2),base≤g):=fun g hg=>HT.I.ae.low g (LB _ hg)
   clear I8 ID;have I8:Hid (fY aC tD base lf):=HLI.I.1;have ID:Hid (fY aU tD base lq):=HLI.I.2;clear HLI HBN;have c1:tD.cell? ⟨o,11,n_⟩=o_ (.map (o_ q.bf)):=HT.I.opn.cell 11;have hown:=HT.I.ae.map.1;go_wp2_with (at_range; refine wpList_range_own _ rfl _ 79 rfl 2 168 jb underlying79 od q.bf _ _ rfl hown ?_; intro w1 BW CT hs1);have HS:Hid (fS aC tD w1 base q.bf lf lf (Maps.has (gA (RW aC.num lf)))):=fS.start HT.I.ae CT;have Jt:Hid (∀ g∈q.bf :: lf.map (·.2),g < tD.heap.size):=HT.I.ae.lt;clear hown c1 CT
   go_frame
   go_loopw [5] (fun _ wr2=> ∃ (left:Lit→Bool) (cnt:Nat) (l':List (au × Nat)),wr2.ranges J3 2 od q.bf tD.heap.size (RW (fun x:au=>x.id) lf).length (gA (RW (fun x:au=>x.id) lf)) left cnt∧Hid (fS aC tD wr2 base q.bf lf l' left)) (fun _ wr2=>wr2.rangeLeft q.bf tD.heap.size)
   case atStart=>exact ⟨_,_,lf,BW,HS.I⟩
   case round=>
    rename w_=>wr2
    clear HS BW hs1 w1;obtain ⟨left,cnt,l1,hrg,HO⟩:=hrel;go_wp2_with (at_next; refine wpList_next_ranges _ rfl _ rfl 2 jb od (Value.int j_) dt (fun key kl hk=>by obtain ⟨x,rfl,_⟩:=RB underlying2 hk; exact ⟨x,rfl⟩) (fun v y hv=>by obtain ⟨g,rfl,_⟩:=oI hv; exact ⟨g,rfl⟩) q.bf tD.heap.size _ _ _ _ rfl hrg ?_ ?_)
    ·intro hc0 hl0
     have HD1:Hid (kG aC tD wr2 base q.bf lf l1):=HO.I.owned hl0;clear hrg HO hc0 hl0 Jt left cnt;have HTN:Hid (mv wr2 base o q l0 l1 lq):=HT.I.Af HD1.I;clear HT;have HT:Hid (mv wr2 base o q l0 l1 lq):=HTN.I;have HLI:Hid (fY aU wr2 base lq):=ID.I.low (HD1.I.below Fy.I Ia.I);have HBN:Hid (base≤wr2.heap.size):=LG Fy.I HD1.I.size;clear HTN Fy Ia I8;have Fy:Hid (base≤wr2.heap.size):=HBN.I;have Ia:Hid (∀ g∈lq.map (·.2),base≤g):=fun g hg=>HT.I.ai.low g (LB _ hg)
     clear ID;have ID:Hid (fY aU wr2 base lq):=HLI.I;clear HLI HBN;have c2:wr2.cell? ⟨o,13,n_⟩=o_ (.map (o_ q.bq)):=HT.I.opn.cell 13;have hown:=HT.I.ai.map.1;go_wp2_with (at_range; refine wpList_range_own _ rfl _ 82 rfl 2 169 jb underlying82 od q.bq _ _ rfl hown ?_; intro w1 BW CT hs1);have HS:Hid (fS aU wr2 w1 base q.bq lq lq (Maps.has (gA (RW aU.num lq)))):=fS.start HT.I.ai CT;have HL2:Hid (∀ g∈q.bq :: lq.map (·.2),g < wr2.heap.size):=HT.I.ai.lt;clear hown c2 CT
     go_frame
     go_loopw [7] (fun _ wr3=> ∃ (left:Lit→Bool) (cnt:Nat) (l':List (aM × Nat)),wr3.ranges J3 2 od q.bq wr2.heap.size (RW (fun x:aM=>x.id) lq).length (gA (RW (fun x:aM=>x.id) lq)) left cnt∧Hid (fS aU wr2 wr3 base q.bq lq l' left)) (fun _ wr3=>wr3.rangeLeft q.bq wr2.heap.size)
     case atStart=>exact ⟨_,_,lq,BW,HS.I⟩
     case round=>
      rename w_=>wr3
      clear HS BW hs1 w1;obtain ⟨left,cnt,l2,hrg,HO⟩:=hrel;go_wp2_with (at_next; refine wpList_next_ranges _ rfl _ rfl 2 jb od (Value.int j_) dt (fun key kl hk=>by obtain ⟨x,rfl,_⟩:=RB underlying2 hk; exact ⟨x,rfl⟩) (fun v y hv=>by obtain ⟨g,rfl,_⟩:=oI hv; exact ⟨g,rfl⟩) q.bq wr2.heap.size _ _ _ _ rfl hrg ?_ ?_)
      ·intro hc0 hl0
       have HD2:Hid (kG aU wr2 wr3 base q.bq lq l2):=HO.I.owned hl0;clear hrg HO hc0 hl0 HL2 left cnt;go_wp2
       go_end0
       exact ⟨rfl,tD,wr2,l0,l1,l2,VH.I,HD1.I,HD2.I⟩
      ·intro x c kl y1 y2 w2 cnt2 hkey hlk hv hat hrg2 oX rx oE hen
       obtain ⟨p,hp,rfl,rfl,rfl⟩:=HO.I.pick hkey hv hat;have hpl:p.2∈lq.map (·.2):=by rw [← HO.I.Mc]; exact Lr.2 ⟨p,hp,rfl⟩
       have td:=HO.I.old p hp hlk;have hpw:=HL2.I p.2 (LB _ hpl);have lD:w2.heap[p.2]? =o_ (c_ (cW p.1) 115):=(rx.block p.2 (Kn hpw HO.I.size) (fun e=>by have:=KC e; omega)).trans (HO.I.eh.box p hp);have hrow:Row w2 p.1.ak (bT.flat p.1.Ma):=(ID.I p td).1.same fun g e=>by
        have hgb:g < base:=(ID.I p td).2.2 g Zdu;exact WP
       obtain ⟨a3,UY,w3,hap,sY,hg3⟩:=xF w2 p.1.ak p.1.Ma p.1.aq hrow (ID.I p td).2.1;have cc:w2.cell? ⟨p.2,4,n_⟩=o_ (s_ p.1.ak p.1.Ma.length p.1.aq):=by simp [World.cell?,lD,cW]
       have oG:=(hg3.block p.2 (J2.1 lD).1 (by simp)).trans lD;have cc3:w3.cell? ⟨p.2,4,n_⟩=o_ (s_ p.1.ak p.1.Ma.length p.1.aq):=by simp [World.cell?,oG,cW]
       have cf3:w3.frozen? ⟨p.2,4,n_⟩=false:=by simp [World.frozen?,oG]
       have HN:=HO.I.ju (i:=4) hrg rx hrg2 HL2.I (Ki _) hp sY hg3 rfl;have Hb:Hid (_∧_):=HN;have j6:Hid (cnt2 < cnt∧wr3.rangeLeft q.bq wr2.heap.size=cnt):=⟨oX,hrg.left_eq⟩
       exact Q_
    ·intro x c kl y1 y2 w2 cnt2 hkey hlk hv hat hrg2 oX rx oE hen
     obtain ⟨p,hp,rfl,rfl,rfl⟩:=HO.I.pick hkey hv hat;have hpl:p.2∈lf.map (·.2):=by rw [← HO.I.Mc]; exact Lr.2 ⟨p,hp,rfl⟩
     have td:=HO.I.old p hp hlk;have hpw:=Jt.I p.2 (LB _ hpl);have lD:w2.heap[p.2]? =o_ (c_ (bQ p.1) 96):=(rx.block p.2 (Kn hpw HO.I.size) (fun e=>by have:=KC e; omega)).trans (HO.I.eh.box p hp);have hrow:Row w2 p.1.ak (bT.flat p.1.Ma):=(I8.I p td).1.same fun g e=>by
      have hgb:g < base:=(I8.I p td).2.2 g Zdu;exact WP
     obtain ⟨a3,UY,w3,hap,sY,hg3⟩:=xF w2 p.1.ak p.1.Ma p.1.aq hrow (I8.I p td).2.1;have cc:w2.cell? ⟨p.2,2,n_⟩=o_ (s_ p.1.ak p.1.Ma.length p.1.aq):=by simp [World.cell?,lD,bQ]
     have oG:=(hg3.block p.2 (J2.1 lD).1 (by simp)).trans lD;have cc3:w3.cell? ⟨p.2,2,n_⟩=o_ (s_ p.1.ak p.1.Ma.length p.1.aq):=by simp [World.cell?,oG,bQ]
     have cf3:w3.frozen? ⟨p.2,2,n_⟩=false:=by simp [World.frozen?,oG]
     have HN:=HO.I.ju (i:=2) hrg rx hrg2 Jt.I (Ki _) hp sY hg3 rfl;have Hb:Hid (_∧_):=HN;have j6:Hid (cnt2 < cnt∧wr2.rangeLeft q.bf tD.heap.size=cnt):=⟨oX,hrg.left_eq⟩
     exact Q_
  ·intro x c kl y1 y2 w2 cnt2 hkey hlk hv hat hrg2 oX rx oE hen
   obtain ⟨p,hp,rfl,rfl,rfl⟩:=HO.I.pick hkey hv hat;have hpl:p.2∈lp.map (·.2):=by rw [← HO.I.Mc]; exact Lr.2 ⟨p,hp,rfl⟩
   have td:=HO.I.old p hp hlk;have hpw:=En.I p.2 (LB _ hpl);have lD:w2.heap[p.2]? =o_ (c_ (aX p.1) 41):=(rx.block p.2 (Kn hpw HO.I.size) (fun e=>by have:=KC e; omega)).trans (HO.I.eh.box p hp);have hrow:Row w2 p.1.aY (fk.flat p.1.prog):=(HLP.I p td).1.same fun g e=>by
    have hgb:g < base:=(HLP.I p td).2.2 g (by show (p.1.aY).map (·.block)=o_ g; rw [show p.1.aY=o_ ⟨g,0,n_⟩ from e]; rfl);exact WP
   obtain ⟨a3,UY,w3,hap,sY,hg3⟩:=FR w2 p.1.aY p.1.prog p.1.bH hrow (HLP.I p td).2.1;have cc:w2.cell? ⟨p.2,2,n_⟩=o_ (s_ p.1.aY p.1.prog.length p.1.bH):=by simp [World.cell?,lD,aX]
   have oG:=(hg3.block p.2 (J2.1 lD).1 (by simp)).trans lD;have cc3:w3.cell? ⟨p.2,2,n_⟩=o_ (s_ p.1.aY p.1.prog.length p.1.bH):=by simp [World.cell?,oG,aX]
   have cf3:w3.frozen? ⟨p.2,2,n_⟩=false:=by simp [World.frozen?,oG]
   have HN:=HO.I.ju (i:=2) hrg rx hrg2 En.I (Ki _) hp sY hg3 rfl;have Hb:Hid (_∧_):=HN;have j6:Hid (cnt2 < cnt∧tD.rangeLeft q.bp w.heap.size=cnt):=⟨oX,hrg.left_eq⟩
   simp only [dt] at hen;clear HN hrg hrg2 rx oE hkey hlk hv hat oX hpl td hpw lD oG hrow sY hg3;unfold dt;go_wp2_with (at_builtin; refine br _ rfl _ _ 39 rfl _ _ _ _ rfl rfl hap ?_; clear hap);go_roundw
   case rel=>exact ⟨_,_,_,Hb.I.2,Hb.I.1⟩
   case measure=>have h5:=Hb.I.2.left_eq; have h6:=j6.I; rw [h6.2]; exact Q5 (Nat.le_of_eq h5) h6.1
end
section
open Go.RowKit Go.Maps
structure kX (w W:w_) (o:Nat) (q:ol) (lp:List (ao × Nat)) (ms me mb mf:df):Prop where
 opn:fa W o q
 eh:Shelf aX (fun x:ao=>x.id) 41 W 0 q.bp lp
 ms:cF W q.bs ms
 me:cF W q.be me
 mb:cF W q.bb mb
 mf:cF W q.bf mf
 cd:B_ w.heap.size w W
theorem kX.below {w W W':w_} {o:Nat} {q:ol} {lp:List (ao × Nat)} {ms me mb mf:df} (h:kX w W o q lp ms me mb mf) (hb:B_ W.heap.size W W'):kX w W' o q lp ms me mb mf:=
 ⟨h.opn.below hb,h.eh.below hb,h.ms.below hb,h.me.below hb,h.mb.below hb,h.mf.below hb,h.cd.trans (hb.mono h.cd.size)⟩
theorem kX.has {w W:w_} {o:Nat} {q:ol} {lp:List (ao × Nat)} {ms me mb mf:df} (h:kX w W o q lp ms me mb mf) {p:ao × Nat} (hp:p∈lp):fu W W o p.2 q p.1 ms me mb mf:=
 ⟨h.opn,h.eh.box p hp,h.ms,h.me,h.mb,h.mf,Kp _ _⟩
structure ao.Wf (x:ao):Prop where
 id:(Lit.int j_ x.id).wf=true
 on:(Lit.int j_ x.on).wf=true
 RU:(Lit.int j_ x.RU).wf=true
theorem DE {lp:List (ao × Nat)} (h: ∀ p∈lp,p.1.Wf): ∀ p∈RW (fun x:ao=>x.id) lp,(Lit.int j_ p.1).wf=true:=fun p hp=>by
 obtain ⟨r,hr,rfl⟩:=Lr.1 hp;exact (h r hr).id
theorem Bh (o:Nat) (q:ol) (lp:List (ao × Nat)) (ms me mb mf:df) (w:w_) (h:kX w w o q lp ms me mb mf) (hl:lp.length≤1048576) (hwf: ∀ p∈lp,p.1.Wf):
  k_ J3 57 #[p_ (o_ ⟨o,0,n_⟩)] w fun e w'=>e=r_ (b_ (lp.all fun p=>fw ms me mb mf p.1))∧B_ w.heap.size w w':=by
 have H:Hid (kX w w o q lp ms me mb mf∧ ∀ p∈lp,p.1.Wf):=⟨h,hwf⟩
 have c2:w.cell? ⟨o,2,n_⟩=o_ (i_ j_ 6):=h.opn.cell 2;have c3:w.cell? ⟨o,3,n_⟩=o_ (.map (o_ q.bp)):=h.opn.cell 3;have hkl:(RW (fun x:ao=>x.id) lp).length=lp.length:=bZ lp;have HK:Hid ((RW (fun x:ao=>x.id) lp).length=lp.length):=hkl;clear h hwf hkl
 go_enter func57,ntmps57
 go_wp2_with fail;refine (mq 6 q.bp (RW (fun x:ao=>x.id) lp) w H.I.1.eh.map Zc8 (DE H.I.2)).mono ?_;rintro e w2 ⟨a,cap,rfl,hown,hb2⟩;obtain ⟨a',cap',hv,hrow⟩:=cr hown;cases hv;have HR:Hid (Row w2 a ((RW (fun x:ao=>x.id) lp).map fun p=>dt p.2)):=hrow;have HO:Hid (kX w w2 o q lp ms me mb mf):=H.I.1.below hb2;rw [HK.I];clear hown hrow hb2 c2 c3;go_wp2_with fail
 go_loopw [11] (fun i wr=> ∃ k:Nat,k≤lp.length∧i=i_ j_ k∧Hid (((lp.take k).all fun p=>fw ms me mb mf p.1)=true∧B_ w2.heap.size w2 wr)) (fun i _=>lp.length - (intOf i).toNat)
 case atStart=>exact ⟨0,Ky _,rfl,⟨by simp,Kp _ _⟩⟩
 case round=>
  obtain ⟨k,hk,rfl,HA⟩:=hrel;have HO2:Hid (kX w wr o q lp ms me mb mf):=HO.I.below HA.I.2;by_cases hlt:k < lp.length
  ·have i0:(0:Int)≤(k:Int):=by omega
   have i1:(k:Int) < (lp.length:Int):=by omega
   obtain ⟨p,hp⟩: ∃ p,lp[k]? =o_ p:=⟨_,Kz hlt⟩
   have hpm:=KA hp;obtain ⟨g,ha,hc⟩:=(HR.I.below HA.I.2) k (dt p.2) Zdc;subst ha;unfold dt at hc;have HP:Hid (lp[k]? =o_ p∧p∈lp):=⟨hp,hpm⟩
   clear hp hpm;go_wp2_with fail;refine (Ak o p.2 q p.1 ms me mb mf wr (HO2.I.has HP.I.2) (H.I.2 p HP.I.2).on).mono ?_;rintro e w4 ⟨rfl,hb4⟩;have HB4:Hid (B_ w2.heap.size w2 w4):=HA.I.2.trans (hb4.mono HA.I.2.size);have HF4:Hid (B_ w.heap.size w w4):=HO2.I.cd.trans (hb4.mono HO2.I.cd.size);clear hb4;cases FN:fw ms me mb mf p.1 with
   | true=>
    have HY:Hid (((lp.take (k+1)).all fun p=>fw ms me mb mf p.1)=true):=by
     show _=true
     rw [cj HP.I.1,List.all_append,HA.I.1];simp [FN]
    clear FN;go_wp2;go_roundw
    case rel=>exact ⟨k+1,by omega,by go_num,⟨HY.I,HB4.I⟩⟩
    case measure=>simp [intOf]; omega
   | false=>
    have HN:Hid ((lp.all fun p=>fw ms me mb mf p.1)=false):=by
     show _=false
     rw [List.all_eq_false];exact ⟨p,HP.I.2,by simp [FN]⟩
    clear FN;go_wp2;go_ret;exact ⟨al HN.I.symm,HF4.I⟩
  ·have i1: ¬ (k:Int) < (lp.length:Int):=by omega
   have HT:Hid ((lp.all fun p=>fw ms me mb mf p.1)=true):=by have:=HA.I.1; rwa [KF (by omega)] at this
   go_wp2;go_ret;exact ⟨al HT.I.symm,HO2.I.cd⟩
end
section
open Go.RowKit
attribute [local go_sem ↓] Kc Kd
def Ho (w:w_) (Me:Int) (list:List ao) (k:Nat) (wr:w_):Prop:=
 ∃ l:List (ao × Nat),l.map (·.1)=list.take k∧eS aX (fun x:ao=>x.id) 41 69 w wr Me l∧aw (fun x:ao=>x.id) (fun x:ao=>cH x.toaD) 0 (list.take k)=true∧(k:Int)≤max Me 0
theorem tw (a:Option d_) (list:List ao) (cap:Nat) (Me:Int) (w:w_) (hl:list.length≤1048576) (h:bg.bU w a list) (hf: ∀ x∈list,eL w x) (hw: ∀ x∈list,(Lit.int j_ x.id).wf=true):
  k_ J3 50 #[s_ a list.length cap,i_ j_ Me] w fun e w'=>jN aX (fun x:ao=>x.id) 41 w Me (aw (fun x:ao=>x.id) (fun x:ao=>cH x.toaD) 0 list && decide ((list.length:Int)≤max Me 0)) list e w':=by
 have hmk:=P4 (P:=J3) 67;have hmn:=ob;have H0:Hid (eS aX (fun x:ao=>x.id) 41 69 w (((w.alloc (c_ #[i_ j_ 0,.map n_] 69)).alloc (.map #[] 0)).alloc (c_ #[i_ j_ Me,.map (o_ (w.heap.size+1))] 69)) Me []):=eS.start 69 w Me;have HL:Hid (bg.bU w a list∧(∀ x∈list,eL w x)∧ ∀ x∈list,(Lit.int j_ x.id).wf=true):=⟨h,hf,hw⟩
 clear h hf hw
 go_enter func50,ntmps50
 go_wp2_with fail
 go_loopw [7,15] (fun last i wr=> ∃ k:Nat,k≤list.length∧i=i_ j_ k∧last=i_ j_ (bW (fun x:ao=>x.id) 0 (list.take k))∧Hid (Ho w Me list k wr)) (fun _ i _=>list.length - (intOf i).toNat)
 case atStart=>exact ⟨0,Ky _,rfl,rfl,⟨[],by simp,H0.I,rfl,by simp; omega⟩⟩
 case round=>
  clear H0 hmk;obtain ⟨k,hk,rfl,rfl,HA⟩:=hrel;obtain ⟨l,hlm,hin,oC,hkm⟩:=HA.I;have HT:Hid (l.map (·.1)=list.take k∧aw (fun x:ao=>x.id) (fun x:ao=>cH x.toaD) 0 (list.take k)=true∧(k:Int)≤max Me 0):=⟨hlm,oC,hkm⟩
  have HI:Hid (eS aX (fun x:ao=>x.id) 41 69 w wr Me l):=hin;clear HA hlm hin oC hkm;by_cases hlt:k < list.length
  ·have i0:(0:Int)≤(k:Int):=by omega
   have i1:(k:Int) < (list.length:Int):=by omega
   obtain ⟨x,hx⟩: ∃ x,list[k]? =o_ x:=⟨_,Kz hlt⟩
   have hmem:=KA hx;have HX:Hid (list[k]? =o_ x):=hx;have HF:Hid (eL w x∧(Lit.int j_ x.id).wf=true):=⟨HL.I.2.1 x hmem,HL.I.2.2 x hmem⟩
   obtain ⟨gs,ha,hat⟩:=cn (HL.I.1.below HI.I.cd) hx;obtain ⟨c0,c1,c2,c3,c4,c5,c6,c7,c8,c9,qF,pe⟩:=hat;subst ha;clear hx hmem;go_wp2_with fail;refine (iK x _).mono ?_;rintro e w2 ⟨rfl,hb2⟩;have jA:Hid (eS aX (fun x:ao=>x.id) 41 69 w w2 Me l):=(HI.I.below ((Kp _ wr).alloc (Ki _) (c_ x.row 41))).below hb2;have HB:Hid (w2.heap[wr.heap.size]? =o_ (c_ (aX x) 41)):=(hb2.block _ (by simp)).trans (Kj _ _);have HZ:Hid (w.heap.size+1 < wr.heap.size):=by show w.heap.size+1 < wr.heap.size; have:=(J2.1 HI.I.var).1; omega
   clear hb2 HI c0 c1 c2 c3 c4 c5 c6 c7 c8 c9 qF pe;obtain ⟨d0,d1,d2,d3,d4,d5,d6,d7,d8,d9,tH,tS⟩:=bo HB.I;obtain ⟨r0,r1,v0,v1,z0,z1⟩:=jA.I.cells;by_cases hle:x.id≤bW (fun x:ao=>x.id) 0 (list.take k)
   ·have HN:Hid ((aw (fun x:ao=>x.id) (fun x:ao=>cH x.toaD) 0 list && decide ((list.length:Int)≤max Me 0))=false):=by
     show _=false
     rw [bS HX.I (fun hh=>absurd hh.2.1 (by show ¬ bW (fun x:ao=>x.id) 0 (list.take k) < x.id; omega))]; rfl
    go_wp2;refine KT (v:=u_ #[a_ #[i_ j_ 0,.map n_],b_ false]) ZdC rfl ?_;exact Zay
   have j6:Hid (bW (fun x:ao=>x.id) 0 (list.take k) < x.id):=by show _ < _; omega
   have hkl:(RW (fun x:ao=>x.id) l).length≤1048576:=by
    exact Tu
   go_wp2_with fail;refine (Bp Me (w.heap.size+1) (RW (fun x:ao=>x.id) l) x w2 jA.I.eh.map HF.I.2 hkl (HF.I.1.below jA.I.cd)).mono ?_;rintro e w3 ⟨rfl,hno,fm⟩;cases fW:iI Me (RW (fun x:ao=>x.id) l) x.id (cH x.toaD) with
   | false=>
    have HN:Hid ((aw (fun x:ao=>x.id) (fun x:ao=>cH x.toaD) 0 list && decide ((list.length:Int)≤max Me 0))=false):=iC HX.I HT.I.1 HT.I.2.1 j6.I fW;have Aw:Hid (eS aX (fun x:ao=>x.id) 41 69 w w3 Me l):=jA.I.below (hno fW);clear hno fm fW jA r0 r1 v0 v1 z0 z1 d0 d1 d2 d3 d4 d5 d6 d7 d8 d9 tH tS HB;obtain ⟨r0,r1,v0,v1,z0,z1⟩:=Aw.I.cells;go_wp2;refine KT (v:=u_ #[a_ #[i_ j_ 0,.map n_],b_ false]) ZdC rfl ?_;exact Zaz
   | true=>
    have HY:Hid (aw (fun x:ao=>x.id) (fun x:ao=>cH x.toaD) 0 (list.take (k+1))=true∧((k+1:Nat):Int)≤max Me 0):=gM HX.I HT.I.1 HT.I.2.1 j6.I fW;obtain ⟨g,ph⟩:=jA.I.lay (x:=x) (e:=r_ (b_ true)) (w':=w3) ⟨rfl,(fun h=>by cases h),fun _=>fm fW⟩ (jB HT.I.1 HT.I.2.1 j6.I);have BD:Hid (eS aX (fun x:ao=>x.id) 41 69 w w3 Me (l ++ [(x,g)])):=ph;have oh:Hid (w3.heap[wr.heap.size]? =o_ (c_ (aX x) 41)):=by
     exact y4
    clear hno fm fW jA r0 r1 v0 v1 z0 z1 d0 d1 d2 d3 d4 d5 d6 d7 d8 d9 tH tS HB ph;obtain ⟨d0,d1,d2,d3,d4,d5,d6,d7,d8,d9,tH,tS⟩:=bo oh.I;go_wp2_with fail;refine (iK x _).mono ?_;rintro e w5 ⟨rfl,iJ⟩;have EY:Hid (eS aX (fun x:ao=>x.id) 41 69 w w5 Me (l ++ [(x,g)])):=BD.I.below iJ;have HE:Hid (bW (fun x:ao=>x.id) 0 (list.take (k+1))=x.id):=eG HX.I 0;exact pl
  ·have i1: ¬ (k:Int) < (list.length:Int):=by omega
   have HK:Hid (list.take k=list∧((list.length:Int)≤max Me 0)):=⟨KF (by omega),by have:=HT.I.2.2; omega⟩
   have HY:Hid ((aw (fun x:ao=>x.id) (fun x:ao=>cH x.toaD) 0 list && decide ((list.length:Int)≤max Me 0))=true):=by
    exact M_
   obtain ⟨r0,r1,v0,v1,z0,z1⟩:=HI.I.cells;go_wp2;refine KT (v:=u_ #[a_ #[i_ j_ Me,.map (o_ (w.heap.size+1))],b_ true]) ZdC rfl ?_;exact C_
end
section
open Go.RowKit
theorem gS {n lo hi:Int} (h:cv n lo hi=true) (w:w_):k_ J3 27 #[i_ j_ n,i_ j_ lo,i_ j_ hi] w fun e w'=>e=r_ (b_ true)∧w'=w:=by
 refine (dx n lo hi w).mono ?_;exact ZbY
theorem i7 {n lo hi:Int} (h:cv n lo hi=false) (w:w_):k_ J3 27 #[i_ j_ n,i_ j_ lo,i_ j_ hi] w fun e w'=>e=r_ (b_ false)∧w'=w:=by
 refine (dx n lo hi w).mono ?_;exact ZbY
def bv (p:af):Bool:=aw (fun x:bD=>x.id) gw 0 p.aj && aw (fun x:aB=>x.id) ey 0 p.L9 && aw (fun x:az=>x.id) cU 0 p.ag && aw (fun x:au=>x.id) (fun x=>ct x.toci) 0 p.ae && aw (fun x:aM=>x.id) (fun x=>dj x.todS) 0 p.ai && decide (p.aj.length≤5) && decide (p.L9.length≤5) && decide (p.ag.length≤5) && decide (p.ae.length≤5) && decide (p.ai.length≤5)
theorem gQ {p:af} (h:aw (fun x:bD=>x.id) gw 0 p.aj=false):bv p=false:=by simp [bv,h]
theorem nk {p:af} (h:aw (fun x:aB=>x.id) ey 0 p.L9=false):bv p=false:=by simp [bv,h]
theorem fJ {p:af} (h:aw (fun x:az=>x.id) cU 0 p.ag=false):bv p=false:=by simp [bv,h]
theorem fv {p:af} (h:aw (fun x:au=>x.id) (fun x=>ct x.toci) 0 p.ae=false):bv p=false:=by simp [bv,h]
theorem eg {p:af} (h:aw (fun x:aM=>x.id) (fun x=>dj x.todS) 0 p.ai=false):bv p=false:=by simp [bv,h]
theorem wP {p:af} (h:decide ((p.aj.length:Int)≤5)=false):bv p=false:=by
 have h1:decide (p.aj.length≤5)=false:=decide_eq_false Zdd;simp [bv,h1]
theorem wS {p:af} (h:decide ((p.L9.length:Int)≤5)=false):bv p=false:=by
 have h1:decide (p.L9.length≤5)=false:=decide_eq_false Zdd;simp [bv,h1]
theorem wL {p:af} (h:decide ((p.ag.length:Int)≤5)=false):bv p=false:=by
 have h1:decide (p.ag.length≤5)=false:=decide_eq_false Zdd;simp [bv,h1]
theorem wJ {p:af} (h:decide ((p.ae.length:Int)≤5)=false):bv p=false:=by
 have h1:decide (p.ae.length≤5)=false:=decide_eq_false Zdd;simp [bv,h1]
theorem wv {p:af} (h:decide ((p.ai.length:Int)≤5)=false):bv p=false:=by
 have h1:decide (p.ai.length≤5)=false:=decide_eq_false Zdd;simp [bv,h1]
theorem yC {p:af} (t0:aw (fun x:bD=>x.id) gw 0 p.aj=true) (t1:aw (fun x:aB=>x.id) ey 0 p.L9=true) (t2:aw (fun x:az=>x.id) cU 0 p.ag=true) (t3:aw (fun x:au=>x.id) (fun x=>ct x.toci) 0 p.ae=true) (t4:aw (fun x:aM=>x.id) (fun x=>dj x.todS) 0 p.ai=true) (d0:decide ((p.aj.length:Int)≤5)=true) (d1:decide ((p.L9.length:Int)≤5)=true) (d2:decide ((p.ag.length:Int)≤5)=true) (d3:decide ((p.ae.length:Int)≤5)=true) (d4:decide ((p.ai.length:Int)≤5)=true):bv p=true:=by
 have e0:decide (p.aj.length≤5)=true:=decide_eq_true (by have:=of_decide_eq_true d0; omega);have e1:decide (p.L9.length≤5)=true:=decide_eq_true (by have:=of_decide_eq_true d1; omega);have e2:decide (p.ag.length≤5)=true:=decide_eq_true (by have:=of_decide_eq_true d2; omega);have e3:decide (p.ae.length≤5)=true:=decide_eq_true (by have:=of_decide_eq_true d3; omega);have e4:decide (p.ai.length≤5)=true:=decide_eq_true (by have:=of_decide_eq_true d4; omega);simp only [bv,t0,t1,t2,t3,t4,e0,e1,e2,e3,e4,Bool.and_self]
theorem rm {s:ByteArray} {b:Bool} (h:bw s=b) (hs:s.size≤1048576) (w:w_):k_ J3 82 #[t_ s] w fun e w'=>e=r_ (b_ b)∧w'=w:=by
 refine (jC s w hs).mono ?_;exact ZbY
theorem iz {W:w_} {o:Obj} {a:Option d_} {l:List ByteArray} {cap:Nat} {Me:Int} {b:Bool} (h:dJ l Me=b) (hf:fT W a l) (n:Nat):
  k_ J3 83 #[s_ a l.length cap,i_ j_ Me] ((W.alloc o).drewN n) fun e w'=>e=r_ (b_ b)∧w'=(W.alloc o).drewN n:=by
 refine (Aj a l cap Me ((W.alloc o).drewN n) hf.len hf.short ?_).mono ?_
 ·exact hf.row.below (bd ((Kp _ W).alloc (Ki _) o) n)
 ·rintro e w' ⟨rfl,rfl⟩
  exact ⟨al h,rfl⟩
theorem lx {α:Type} {num:α→Int} {l:List α} :bW num 0 (l.take 0)=0:=by simp [bW]
structure af.Fit (p:af):Prop where
 short:p.dX
 ag: ∀ b∈p.ag,b.text.size≤1048576
 ae: ∀ b∈p.ae,b.Ma.length≤1048576∧ ∀ s∈b.Ma,s.size≤1048576
 ai: ∀ b∈p.ai,b.Ma.length≤1048576∧ ∀ s∈b.Ma,s.size≤1048576
theorem zI (p:af) (w:w_) (hf:p.Fit) (h:af.At w p):
  k_ J3 41 #[a_ p.cells] w fun e w'=>e=r_ (b_ (bv p))∧B_ w.heap.size w w':=by
 have HB:Hid (av (w.alloc (c_ p.cells 31)) w.heap.size p∧af.At (w.alloc (c_ p.cells 31)) p∧B_ w.heap.size w (w.alloc (c_ p.cells 31))):=⟨Kj _ _,h.below ((Kp _ _).alloc (Ki _) _),(Kp _ _).alloc (Ki _) _⟩
 have fl:Hid p.Fit:=hf;clear h hf;unfold af.cells at *
 go_enter func41,ntmps41
 go_wp2_with fail;generalize w.alloc (c_ p.row 31)=W at *
 go_loopw [3] (fun i wr=> ∃ k:Nat,k≤p.aj.length∧i=i_ j_ k∧Hid (aw (fun x:bD=>x.id) gw 0 (p.aj.take k)=true∧B_ W.heap.size W wr)) (fun i _=>p.aj.length - (intOf i).toNat)
 case atStart=>exact ⟨0,Ky _,rfl,⟨rfl,Kp _ _⟩⟩
 case round=>
  obtain ⟨k,hk,rfl,HA⟩:=hrel;have hsz:w.heap.size < wr.heap.size:=Kn (J2.1 HB.I.1).1 HA.I.2.size;have cy:Hid (av wr w.heap.size p∧af.At wr p∧B_ w.heap.size w wr):=⟨HB.I.1.below HA.I.2,HB.I.2.1.below HA.I.2,HB.I.2.2.trans (HA.I.2.mono HB.I.2.2.size)⟩
  obtain ⟨m0,m1,m2,m3,m4,m5,m6,m7⟩:=cy.I.1.cells;have hll:=fl.I.short.aj;by_cases hlt:k < p.aj.length
  ·as_aux_lemma=>
    have i0:(0:Int)≤(k:Int):=by omega
    have i1:(k:Int) < (p.aj.length:Int):=by omega
    obtain ⟨x,hx⟩: ∃ x,p.aj[k]? =o_ x:=⟨_,Kz hlt⟩
    have hmem:=KA hx;obtain ⟨gs,ha,hat⟩:=lQ cy.I.2.1.2.1 hx;have hgs:gs < wr.heap.size:=Le hat.1;have HP:Hid (∀ y,p.aj[k - 1]? =o_ y→wr.cell? ⟨gs,(k - 1) * 3,n_⟩=o_ (i_ j_ y.id)):=fun y hy=>by
     obtain ⟨g2,ha2,g8⟩:=lQ cy.I.2.1.2.1 hy;exact Zbz
    obtain ⟨c0,c1,c2⟩:=hat;rw [ha] at m3;have HX:Hid (p.aj[k]? =o_ x):=hx;clear hx ha hmem HB;cases hin:cv x.id 1 1000
    ·have kI:Hid (∀ w,k_ J3 27 #[i_ j_ x.id,i_ j_ 1,i_ j_ 1000] w fun e w'=>e=r_ (b_ false)∧w'=w):=i7 hin
     have lN:Hid (cv x.id 1 1000=false):=hin;clear hin;have HN:Hid (bv p=false):=gQ (bS HX.I (fun hh=>by rw [lN.I] at hh; cases hh.1));exact Zcg
    have lN:Hid (cv x.id 1 1000=true):=hin;have kI:Hid (∀ w,k_ J3 27 #[i_ j_ x.id,i_ j_ 1,i_ j_ 1000] w fun e w'=>e=r_ (b_ true)∧w'=w):=gS hin;clear hin;by_cases hk0:k=0
    ·have dk:decide (0 < k)=false:=decide_eq_false (by omega)
     have j6:Hid (bW (fun x:bD=>x.id) 0 (p.aj.take k) < x.id):=by show _ < _; rw [hk0,lx]; have:=bz.1 lN.I; omega
     clear hk0;cases h5:cv x.max 1 1000
     ·exact ZcM
     have lE:Hid (∀ w,k_ J3 27 #[i_ j_ x.max,i_ j_ 1,i_ j_ 1000] w fun e w'=>e=r_ (b_ true)∧w'=w):=gS h5;have H5:Hid (cv x.max 1 1000=true):=h5;clear h5;cases h6:cv x.n 0 x.max
     ·exact Zcj
     have HC6:Hid (∀ w,k_ J3 27 #[i_ j_ x.n,i_ j_ 0,i_ j_ x.max] w fun e w'=>e=r_ (b_ true)∧w'=w):=gS h6;have H6:Hid (cv x.n 0 x.max=true):=h6;clear h6;have HY:Hid (aw (fun x:bD=>x.id) gw 0 (p.aj.take (k+1))=true):=ed HA.I.1 HX.I lN.I j6.I (by simp [gw,H5.I,H6.I]);go_wp2_with fail
     go_quiet ((first
      | (go_at_call_of 27 (x.id); exact L1 (kI.I _))
      | (go_at_call_of 27 (x.n); exact L1 (HC6.I _))
      | (go_at_call_of 27 (x.max); exact L1 (lE.I _))))
     exact tl
    obtain ⟨j,rfl⟩: ∃ j,k=j+1:=⟨k - 1,by omega⟩
    obtain ⟨y,hy⟩: ∃ y,p.aj[j]? =o_ y:=⟨_,Kz (by omega)⟩
    have cp:wr.cell? ⟨gs,j * 3,n_⟩=o_ (i_ j_ y.id):=HP.I y hy;have j0:(0:Int)≤(j:Int):=by omega
    have j1:(j:Int) < (p.aj.length:Int):=by omega
    have wk:IntKind.i64.wrap (j:Int)=(j:Int):=by rw [K8]; omega
    have wV:Hid (bW (fun x:bD=>x.id) 0 (p.aj.take (j+1))=y.id):=eG hy 0;clear hy hk0;by_cases hle:x.id≤y.id
    ·have dp:decide (x.id≤y.id)=true:=decide_eq_true hle
     have HN:Hid (bv p=false):=gQ (bS HX.I (fun hh=>by have h9:=hh.2.1; rw [wV.I] at h9; have h9:y.id < x.id:=h9; omega));exact Zcg
    have dp:decide (x.id≤y.id)=false:=decide_eq_false hle;have j6:Hid (bW (fun x:bD=>x.id) 0 (p.aj.take (j+1)) < x.id):=by show _ < _; rw [wV.I]; show y.id < x.id; omega
    cases h5:cv x.max 1 1000
    ·exact ZcM
    have lE:Hid (∀ w,k_ J3 27 #[i_ j_ x.max,i_ j_ 1,i_ j_ 1000] w fun e w'=>e=r_ (b_ true)∧w'=w):=gS h5;have H5:Hid (cv x.max 1 1000=true):=h5;clear h5;cases h6:cv x.n 0 x.max
    ·exact Zcj
    have HC6:Hid (∀ w,k_ J3 27 #[i_ j_ x.n,i_ j_ 0,i_ j_ x.max] w fun e w'=>e=r_ (b_ true)∧w'=w):=gS h6;have H6:Hid (cv x.n 0 x.max=true):=h6;clear h6;have HY:Hid (aw (fun x:bD=>x.id) gw 0 (p.aj.take ((j+1)+1))=true):=ed HA.I.1 HX.I lN.I j6.I (by simp [gw,H5.I,H6.I]);go_wp2_with fail
    go_quiet ((first
     | (go_at_call_of 27 (x.id); exact L1 (kI.I _))
     | (go_at_call_of 27 (x.n); exact L1 (HC6.I _))
     | (go_at_call_of 27 (x.max); exact L1 (lE.I _))))
    exact rt
  ·have i1: ¬ (k:Int) < (p.aj.length:Int):=by omega
   have Hz:Hid (aw (fun x:bD=>x.id) gw 0 p.aj=true):=by have:=HA.I.1; rwa [KF (by omega)] at this
   clear HA HB hlt hk hsz hll;go_wp2_with fail;clear i1 m0 m1 m2 m3 m4 m5 m6 m7
   rename w_=>W0
   have HB:Hid (av W0 w.heap.size p∧af.At W0 p∧B_ w.heap.size w W0):=cy.I;clear cy
   go_loopw [5] (fun i wr=> ∃ k:Nat,k≤p.L9.length∧i=i_ j_ k∧Hid (aw (fun x:aB=>x.id) ey 0 (p.L9.take k)=true∧B_ W0.heap.size W0 wr)) (fun i _=>p.L9.length - (intOf i).toNat)
   case atStart=>exact ⟨0,Ky _,rfl,⟨rfl,Kp _ _⟩⟩
   case round=>
    obtain ⟨k,hk,rfl,HA⟩:=hrel;have hsz:w.heap.size < wr.heap.size:=Kn (J2.1 HB.I.1).1 HA.I.2.size;have cy:Hid (av wr w.heap.size p∧af.At wr p∧B_ w.heap.size w wr):=⟨HB.I.1.below HA.I.2,HB.I.2.1.below HA.I.2,HB.I.2.2.trans (HA.I.2.mono HB.I.2.2.size)⟩
    obtain ⟨m0,m1,m2,m3,m4,m5,m6,m7⟩:=cy.I.1.cells;have hll:=fl.I.short.L9;by_cases hlt:k < p.L9.length
    ·as_aux_lemma=>
      have i0:(0:Int)≤(k:Int):=by omega
      have i1:(k:Int) < (p.L9.length:Int):=by omega
      obtain ⟨x,hx⟩: ∃ x,p.L9[k]? =o_ x:=⟨_,Kz hlt⟩
      have hmem:=KA hx;obtain ⟨gs,ha,hat⟩:=j4 cy.I.2.1.2.2.1 hx;have hgs:gs < wr.heap.size:=Le hat.1;have HP:Hid (∀ y,p.L9[k - 1]? =o_ y→wr.cell? ⟨gs,(k - 1) * 2,n_⟩=o_ (i_ j_ y.id)):=fun y hy=>by
       obtain ⟨g2,ha2,g8⟩:=j4 cy.I.2.1.2.2.1 hy;exact Zbz
      obtain ⟨c0,c1⟩:=hat;rw [ha] at m4;have HX:Hid (p.L9[k]? =o_ x):=hx;clear hx ha hmem HB;cases hin:cv x.id 1 1000
      ·have kI:Hid (∀ w,k_ J3 27 #[i_ j_ x.id,i_ j_ 1,i_ j_ 1000] w fun e w'=>e=r_ (b_ false)∧w'=w):=i7 hin
       have lN:Hid (cv x.id 1 1000=false):=hin;clear hin;have HN:Hid (bv p=false):=nk (bS HX.I (fun hh=>by rw [lN.I] at hh; cases hh.1));exact Zbc
      have lN:Hid (cv x.id 1 1000=true):=hin;have kI:Hid (∀ w,k_ J3 27 #[i_ j_ x.id,i_ j_ 1,i_ j_ 1000] w fun e w'=>e=r_ (b_ true)∧w'=w):=gS hin;clear hin;by_cases hk0:k=0
      ·have dk:decide (0 < k)=false:=decide_eq_false (by omega)
       have j6:Hid (bW (fun x:aB=>x.id) 0 (p.L9.take k) < x.id):=by show _ < _; rw [hk0,lx]; have:=bz.1 lN.I; omega
       clear hk0;have HY:Hid (aw (fun x:aB=>x.id) ey 0 (p.L9.take (k+1))=true):=ed HA.I.1 HX.I lN.I j6.I (rfl);go_wp2_with fail
       go_quiet ((first
        | (go_at_call_of 27 (x.id); exact L1 (kI.I _))))
       go_wp2;go_roundw
       case rel=>exact ⟨k+1,by omega,by go_num,⟨HY.I,bd HA.I.2 _⟩⟩
       case measure=>simp [intOf]; omega
      obtain ⟨j,rfl⟩: ∃ j,k=j+1:=⟨k - 1,by omega⟩
      obtain ⟨y,hy⟩: ∃ y,p.L9[j]? =o_ y:=⟨_,Kz (by omega)⟩
      have cp:wr.cell? ⟨gs,j * 2,n_⟩=o_ (i_ j_ y.id):=HP.I y hy;have j0:(0:Int)≤(j:Int):=by omega
      have j1:(j:Int) < (p.L9.length:Int):=by omega
      have wk:IntKind.i64.wrap (j:Int)=(j:Int):=by rw [K8]; omega
      have wV:Hid (bW (fun x:aB=>x.id) 0 (p.L9.take (j+1))=y.id):=eG hy 0;clear hy hk0;by_cases hle:x.id≤y.id
      ·have dp:decide (x.id≤y.id)=true:=decide_eq_true hle
       have HN:Hid (bv p=false):=nk (bS HX.I (fun hh=>by have h9:=hh.2.1; rw [wV.I] at h9; have h9:y.id < x.id:=h9; omega));exact Zbc
      have dp:decide (x.id≤y.id)=false:=decide_eq_false hle;have j6:Hid (bW (fun x:aB=>x.id) 0 (p.L9.take (j+1)) < x.id):=by show _ < _; rw [wV.I]; show y.id < x.id; omega
      have HY:Hid (aw (fun x:aB=>x.id) ey 0 (p.L9.take ((j+1)+1))=true):=ed HA.I.1 HX.I lN.I j6.I (rfl);go_wp2_with fail
      go_quiet ((first
       | (go_at_call_of 27 (x.id); exact L1 (kI.I _))))
      go_wp2;go_roundw
      case rel=>exact ⟨(j+1)+1,by omega,by go_num,⟨HY.I,bd HA.I.2 _⟩⟩
      case measure=>simp [intOf]; omega
    ·have i1: ¬ (k:Int) < (p.L9.length:Int):=by omega
     have wm:Hid (aw (fun x:aB=>x.id) ey 0 p.L9=true):=by have:=HA.I.1; rwa [KF (by omega)] at this
     clear HA HB hlt hk hsz hll;go_wp2_with fail;clear i1 m0 m1 m2 m3 m4 m5 m6 m7
     rename w_=>W1
     have HB:Hid (av W1 w.heap.size p∧af.At W1 p∧B_ w.heap.size w W1):=cy.I;clear cy
     go_loopw [6] (fun i wr=> ∃ k:Nat,k≤p.ag.length∧i=i_ j_ k∧Hid (aw (fun x:az=>x.id) cU 0 (p.ag.take k)=true∧B_ W1.heap.size W1 wr)) (fun i _=>p.ag.length - (intOf i).toNat)
     case atStart=>exact ⟨0,Ky _,rfl,⟨rfl,Kp _ _⟩⟩
     case round=>
      obtain ⟨k,hk,rfl,HA⟩:=hrel;have hsz:w.heap.size < wr.heap.size:=Kn (J2.1 HB.I.1).1 HA.I.2.size;have cy:Hid (av wr w.heap.size p∧af.At wr p∧B_ w.heap.size w wr):=⟨HB.I.1.below HA.I.2,HB.I.2.1.below HA.I.2,HB.I.2.2.trans (HA.I.2.mono HB.I.2.2.size)⟩
      obtain ⟨m0,m1,m2,m3,m4,m5,m6,m7⟩:=cy.I.1.cells;have hll:=fl.I.short.ag;by_cases hlt:k < p.ag.length
      ·as_aux_lemma=>
        have i0:(0:Int)≤(k:Int):=by omega
        have i1:(k:Int) < (p.ag.length:Int):=by omega
        obtain ⟨x,hx⟩: ∃ x,p.ag[k]? =o_ x:=⟨_,Kz hlt⟩
        have hmem:=KA hx;obtain ⟨gs,ha,hat⟩:=jr cy.I.2.1.2.2.2.1 hx;have hgs:gs < wr.heap.size:=Le hat.1;have HP:Hid (∀ y,p.ag[k - 1]? =o_ y→wr.cell? ⟨gs,(k - 1) * 3,n_⟩=o_ (i_ j_ y.id)):=fun y hy=>by
         obtain ⟨g2,ha2,g8⟩:=jr cy.I.2.1.2.2.2.1 hy;exact Zbz
        obtain ⟨c0,c1,c2⟩:=hat;rw [ha] at m5;have HX:Hid (p.ag[k]? =o_ x):=hx;have hts:=fl.I.ag x hmem;clear hx ha hmem HB;cases hin:cv x.id 1 1000
        ·have kI:Hid (∀ w,k_ J3 27 #[i_ j_ x.id,i_ j_ 1,i_ j_ 1000] w fun e w'=>e=r_ (b_ false)∧w'=w):=i7 hin
         have lN:Hid (cv x.id 1 1000=false):=hin;clear hin;have HN:Hid (bv p=false):=fJ (bS HX.I (fun hh=>by rw [lN.I] at hh; cases hh.1));exact Zcg
        have lN:Hid (cv x.id 1 1000=true):=hin;have kI:Hid (∀ w,k_ J3 27 #[i_ j_ x.id,i_ j_ 1,i_ j_ 1000] w fun e w'=>e=r_ (b_ true)∧w'=w):=gS hin;clear hin;by_cases hk0:k=0
        ·have dk:decide (0 < k)=false:=decide_eq_false (by omega)
         have j6:Hid (bW (fun x:az=>x.id) 0 (p.ag.take k) < x.id):=by show _ < _; rw [hk0,lx]; have:=bz.1 lN.I; omega
         clear hk0;cases h5:bw x.text
         ·exact ZcP
         have lE:Hid (∀ w,k_ J3 82 #[t_ x.text] w fun e w'=>e=r_ (b_ true)∧w'=w):=rm h5 hts;have H5:Hid (bw x.text=true):=h5;clear h5;cases h6:x.shown
         ·rw [h6] at c1
          have H6:Hid (x.shown=false):=h6;clear h6;cases h7:x.text.toList.isEmpty
          ·exact ZcR
          have H7:Hid (bI x.text=true):=h7;have HY:Hid (aw (fun x:az=>x.id) cU 0 (p.ag.take (k+1))=true):=ed HA.I.1 HX.I lN.I j6.I (by simp [cU,H5.I,H6.I,H7.I]);exact ZcD
         rw [h6] at c1;have H6:Hid (x.shown=true):=h6;clear h6;have HY:Hid (aw (fun x:az=>x.id) cU 0 (p.ag.take (k+1))=true):=ed HA.I.1 HX.I lN.I j6.I (by simp [cU,H5.I,H6.I]);exact ZcD
        obtain ⟨j,rfl⟩: ∃ j,k=j+1:=⟨k - 1,by omega⟩
        obtain ⟨y,hy⟩: ∃ y,p.ag[j]? =o_ y:=⟨_,Kz (by omega)⟩
        have cp:wr.cell? ⟨gs,j * 3,n_⟩=o_ (i_ j_ y.id):=HP.I y hy;have j0:(0:Int)≤(j:Int):=by omega
        have j1:(j:Int) < (p.ag.length:Int):=by omega
        have wk:IntKind.i64.wrap (j:Int)=(j:Int):=by rw [K8]; omega
        have wV:Hid (bW (fun x:az=>x.id) 0 (p.ag.take (j+1))=y.id):=eG hy 0;clear hy hk0;by_cases hle:x.id≤y.id
        ·have dp:decide (x.id≤y.id)=true:=decide_eq_true hle
         have HN:Hid (bv p=false):=fJ (bS HX.I (fun hh=>by have h9:=hh.2.1; rw [wV.I] at h9; have h9:y.id < x.id:=h9; omega));exact Zcg
        have dp:decide (x.id≤y.id)=false:=decide_eq_false hle;have j6:Hid (bW (fun x:az=>x.id) 0 (p.ag.take (j+1)) < x.id):=by show _ < _; rw [wV.I]; show y.id < x.id; omega
        cases h5:bw x.text
        ·exact ZcP
        have lE:Hid (∀ w,k_ J3 82 #[t_ x.text] w fun e w'=>e=r_ (b_ true)∧w'=w):=rm h5 hts;have H5:Hid (bw x.text=true):=h5;clear h5;cases h6:x.shown
        ·rw [h6] at c1
         have H6:Hid (x.shown=false):=h6;clear h6;cases h7:x.text.toList.isEmpty
         ·exact ZcR
         have H7:Hid (bI x.text=true):=h7;have HY:Hid (aw (fun x:az=>x.id) cU 0 (p.ag.take ((j+1)+1))=true):=ed HA.I.1 HX.I lN.I j6.I (by simp [cU,H5.I,H6.I,H7.I]);exact ZcE
        rw [h6] at c1;have H6:Hid (x.shown=true):=h6;clear h6;have HY:Hid (aw (fun x:az=>x.id) cU 0 (p.ag.take ((j+1)+1))=true):=ed HA.I.1 HX.I lN.I j6.I (by simp [cU,H5.I,H6.I]);exact ZcE
      ·have i1: ¬ (k:Int) < (p.ag.length:Int):=by omega
       have xD:Hid (aw (fun x:az=>x.id) cU 0 p.ag=true):=by have:=HA.I.1; rwa [KF (by omega)] at this
       clear HA HB hlt hk hsz hll;go_wp2_with fail;clear i1 m0 m1 m2 m3 m4 m5 m6 m7
       rename w_=>W2
       have HB:Hid (av W2 w.heap.size p∧af.At W2 p∧B_ w.heap.size w W2):=cy.I;clear cy
       go_loopw [8] (fun i wr=> ∃ k:Nat,k≤p.ae.length∧i=i_ j_ k∧Hid (aw (fun x:au=>x.id) (fun x:au=>ct x.toci) 0 (p.ae.take k)=true∧B_ W2.heap.size W2 wr)) (fun i _=>p.ae.length - (intOf i).toNat)
       case atStart=>exact ⟨0,Ky _,rfl,⟨rfl,Kp _ _⟩⟩
       case round=>
        obtain ⟨k,hk,rfl,HA⟩:=hrel;have hsz:w.heap.size < wr.heap.size:=Kn (J2.1 HB.I.1).1 HA.I.2.size;have cy:Hid (av wr w.heap.size p∧af.At wr p∧B_ w.heap.size w wr):=⟨HB.I.1.below HA.I.2,HB.I.2.1.below HA.I.2,HB.I.2.2.trans (HA.I.2.mono HB.I.2.2.size)⟩
        obtain ⟨m0,m1,m2,m3,m4,m5,m6,m7⟩:=cy.I.1.cells;have hll:=fl.I.short.ae;by_cases hlt:k < p.ae.length
        ·as_aux_lemma=>
          have i0:(0:Int)≤(k:Int):=by omega
          have i1:(k:Int) < (p.ae.length:Int):=by omega
          obtain ⟨x,hx⟩: ∃ x,p.ae[k]? =o_ x:=⟨_,Kz hlt⟩
          have hmem:=KA hx;obtain ⟨gs,ha,hat⟩:=iA cy.I.2.1.2.2.2.2.1 hx;have hgs:gs < wr.heap.size:=Le hat.1;have HP:Hid (∀ y,p.ae[k - 1]? =o_ y→wr.cell? ⟨gs,(k - 1) * 3,n_⟩=o_ (i_ j_ y.id)):=fun y hy=>by
           obtain ⟨g2,ha2,g8⟩:=iA cy.I.2.1.2.2.2.2.1 hy;exact Zbz
          obtain ⟨c0,c1,c2⟩:=hat;rw [ha] at m6;have HX:Hid (p.ae[k]? =o_ x):=hx;have E9:Hid (fT wr x.ak x.Ma):=⟨(fl.I.ae x hmem).1,(fl.I.ae x hmem).2,lj cy.I.2.1.2.2.2.2.1 hx⟩
          clear hx ha hmem HB;cases hin:cv x.id 1 1000
          ·have kI:Hid (∀ w,k_ J3 27 #[i_ j_ x.id,i_ j_ 1,i_ j_ 1000] w fun e w'=>e=r_ (b_ false)∧w'=w):=i7 hin
           have lN:Hid (cv x.id 1 1000=false):=hin;clear hin;have HN:Hid (bv p=false):=fv (bS HX.I (fun hh=>by rw [lN.I] at hh; cases hh.1));exact Zcg
          have lN:Hid (cv x.id 1 1000=true):=hin;have kI:Hid (∀ w,k_ J3 27 #[i_ j_ x.id,i_ j_ 1,i_ j_ 1000] w fun e w'=>e=r_ (b_ true)∧w'=w):=gS hin;clear hin;by_cases hk0:k=0
          ·have dk:decide (0 < k)=false:=decide_eq_false (by omega)
           have j6:Hid (bW (fun x:au=>x.id) 0 (p.ae.take k) < x.id):=by show _ < _; rw [hk0,lx]; have:=bz.1 lN.I; omega
           clear hk0;cases h5:cv x.max 1 5
           ·exact ZcN
           have lE:Hid (∀ w,k_ J3 27 #[i_ j_ x.max,i_ j_ 1,i_ j_ 5] w fun e w'=>e=r_ (b_ true)∧w'=w):=gS h5;have H5:Hid (cv x.max 1 5=true):=h5;clear h5;cases h7:dJ x.Ma x.max
           ·exact ZcL
           have uE:Hid (∀ o n,k_ J3 83 #[s_ x.ak x.Ma.length x.aq,i_ j_ x.max] ((wr.alloc o).drewN n) fun e w'=>e=r_ (b_ true)∧w'=(wr.alloc o).drewN n):=fun _ n=>iz h7 E9.I n
           have H7:Hid (dJ x.Ma x.max=true):=h7;clear h7;have HY:Hid (aw (fun x:au=>x.id) (fun x:au=>ct x.toci) 0 (p.ae.take (k+1))=true):=ed HA.I.1 HX.I lN.I j6.I (by simp [ct,H5.I,H7.I]);exact Zcl
          obtain ⟨j,rfl⟩: ∃ j,k=j+1:=⟨k - 1,by omega⟩
          obtain ⟨y,hy⟩: ∃ y,p.ae[j]? =o_ y:=⟨_,Kz (by omega)⟩
          have cp:wr.cell? ⟨gs,j * 3,n_⟩=o_ (i_ j_ y.id):=HP.I y hy;have j0:(0:Int)≤(j:Int):=by omega
          have j1:(j:Int) < (p.ae.length:Int):=by omega
          have wk:IntKind.i64.wrap (j:Int)=(j:Int):=by rw [K8]; omega
          have wV:Hid (bW (fun x:au=>x.id) 0 (p.ae.take (j+1))=y.id):=eG hy 0;clear hy hk0;by_cases hle:x.id≤y.id
          ·have dp:decide (x.id≤y.id)=true:=decide_eq_true hle
           have HN:Hid (bv p=false):=fv (bS HX.I (fun hh=>by have h9:=hh.2.1; rw [wV.I] at h9; have h9:y.id < x.id:=h9; omega));exact Zcg
          have dp:decide (x.id≤y.id)=false:=decide_eq_false hle;have j6:Hid (bW (fun x:au=>x.id) 0 (p.ae.take (j+1)) < x.id):=by show _ < _; rw [wV.I]; show y.id < x.id; omega
          cases h5:cv x.max 1 5
          ·exact ZcN
          have lE:Hid (∀ w,k_ J3 27 #[i_ j_ x.max,i_ j_ 1,i_ j_ 5] w fun e w'=>e=r_ (b_ true)∧w'=w):=gS h5;have H5:Hid (cv x.max 1 5=true):=h5;clear h5;cases h7:dJ x.Ma x.max
          ·exact ZcL
          have uE:Hid (∀ o n,k_ J3 83 #[s_ x.ak x.Ma.length x.aq,i_ j_ x.max] ((wr.alloc o).drewN n) fun e w'=>e=r_ (b_ true)∧w'=(wr.alloc o).drewN n):=fun _ n=>iz h7 E9.I n
          have H7:Hid (dJ x.Ma x.max=true):=h7;clear h7;have HY:Hid (aw (fun x:au=>x.id) (fun x:au=>ct x.toci) 0 (p.ae.take ((j+1)+1))=true):=ed HA.I.1 HX.I lN.I j6.I (by simp [ct,H5.I,H7.I]);exact Zcm
        ·have i1: ¬ (k:Int) < (p.ae.length:Int):=by omega
         have Fz:Hid (aw (fun x:au=>x.id) (fun x=>ct x.toci) 0 p.ae=true):=by have:=HA.I.1; rwa [KF (by omega)] at this
         clear HA HB hlt hk hsz hll;go_wp2_with fail;clear i1 m0 m1 m2 m3 m4 m5 m6 m7
         rename w_=>W3
         have HB:Hid (av W3 w.heap.size p∧af.At W3 p∧B_ w.heap.size w W3):=cy.I;clear cy
         go_loopw [10] (fun i wr=> ∃ k:Nat,k≤p.ai.length∧i=i_ j_ k∧Hid (aw (fun x:aM=>x.id) (fun x:aM=>dj x.todS) 0 (p.ai.take k)=true∧B_ W3.heap.size W3 wr)) (fun i _=>p.ai.length - (intOf i).toNat)
         case atStart=>exact ⟨0,Ky _,rfl,⟨rfl,Kp _ _⟩⟩
         case round=>
          obtain ⟨k,hk,rfl,HA⟩:=hrel;have hsz:w.heap.size < wr.heap.size:=Kn (J2.1 HB.I.1).1 HA.I.2.size;have cy:Hid (av wr w.heap.size p∧af.At wr p∧B_ w.heap.size w wr):=⟨HB.I.1.below HA.I.2,HB.I.2.1.below HA.I.2,HB.I.2.2.trans (HA.I.2.mono HB.I.2.2.size)⟩
          obtain ⟨m0,m1,m2,m3,m4,m5,m6,m7⟩:=cy.I.1.cells;have hll:=fl.I.short.ai;by_cases hlt:k < p.ai.length
          ·as_aux_lemma=>
            have i0:(0:Int)≤(k:Int):=by omega
            have i1:(k:Int) < (p.ai.length:Int):=by omega
            obtain ⟨x,hx⟩: ∃ x,p.ai[k]? =o_ x:=⟨_,Kz hlt⟩
            have hmem:=KA hx;obtain ⟨gs,ha,hat⟩:=lm cy.I.2.1.2.2.2.2.2 hx;have hgs:gs < wr.heap.size:=Le hat.1;have HP:Hid (∀ y,p.ai[k - 1]? =o_ y→wr.cell? ⟨gs,(k - 1) * 5,n_⟩=o_ (i_ j_ y.id)):=fun y hy=>by
             obtain ⟨g2,ha2,g8⟩:=lm cy.I.2.1.2.2.2.2.2 hy;exact Zbz
            obtain ⟨c0,c1,c2,c3,c4⟩:=hat;rw [ha] at m7;have HX:Hid (p.ai[k]? =o_ x):=hx;have E9:Hid (fT wr x.ak x.Ma):=⟨(fl.I.ai x hmem).1,(fl.I.ai x hmem).2,nJ cy.I.2.1.2.2.2.2.2 hx⟩
            clear hx ha hmem HB;cases hin:cv x.id 1 1000
            ·have kI:Hid (∀ w,k_ J3 27 #[i_ j_ x.id,i_ j_ 1,i_ j_ 1000] w fun e w'=>e=r_ (b_ false)∧w'=w):=i7 hin
             have lN:Hid (cv x.id 1 1000=false):=hin;clear hin;have HN:Hid (bv p=false):=eg (bS HX.I (fun hh=>by rw [lN.I] at hh; cases hh.1));exact Zcg
            have lN:Hid (cv x.id 1 1000=true):=hin;have kI:Hid (∀ w,k_ J3 27 #[i_ j_ x.id,i_ j_ 1,i_ j_ 1000] w fun e w'=>e=r_ (b_ true)∧w'=w):=gS hin;clear hin;by_cases hk0:k=0
            ·have dk:decide (0 < k)=false:=decide_eq_false (by omega)
             have j6:Hid (bW (fun x:aM=>x.id) 0 (p.ai.take k) < x.id):=by show _ < _; rw [hk0,lx]; have:=bz.1 lN.I; omega
             clear hk0;cases h5:cv x.max 1 5
             ·exact ZcO
             have lE:Hid (∀ w,k_ J3 27 #[i_ j_ x.max,i_ j_ 1,i_ j_ 5] w fun e w'=>e=r_ (b_ true)∧w'=w):=gS h5;have H5:Hid (cv x.max 1 5=true):=h5;clear h5;cases h6:x.Mf
             ·rw [h6] at c2
              have H6:Hid (x.Mf=false):=h6;clear h6;by_cases h8:x.max=1
              ·have H8:Hid (x.max=1):=h8
               have n8:(x.max != 1)=false:=by simp [h8]
               clear h8;cases h7:dJ x.Ma x.max
               ·exact Zca
               have uE:Hid (∀ o n,k_ J3 83 #[s_ x.ak x.Ma.length x.aq,i_ j_ x.max] ((wr.alloc o).drewN n) fun e w'=>e=r_ (b_ true)∧w'=(wr.alloc o).drewN n):=fun _ n=>iz h7 E9.I n
               have H7:Hid (dJ x.Ma x.max=true):=h7;clear h7;have HY:Hid (aw (fun x:aM=>x.id) (fun x:aM=>dj x.todS) 0 (p.ai.take (k+1))=true):=ed HA.I.1 HX.I lN.I j6.I (by simp only [dj,H5.I,H7.I,H6.I]; simp [H8.I]);exact Zcl
              exact ZcQ
             rw [h6] at c2;have H6:Hid (x.Mf=true):=h6;clear h6;cases h7:dJ x.Ma x.max
             ·exact Zca
             have uE:Hid (∀ o n,k_ J3 83 #[s_ x.ak x.Ma.length x.aq,i_ j_ x.max] ((wr.alloc o).drewN n) fun e w'=>e=r_ (b_ true)∧w'=(wr.alloc o).drewN n):=fun _ n=>iz h7 E9.I n
             have H7:Hid (dJ x.Ma x.max=true):=h7;clear h7;have HY:Hid (aw (fun x:aM=>x.id) (fun x:aM=>dj x.todS) 0 (p.ai.take (k+1))=true):=ed HA.I.1 HX.I lN.I j6.I (by simp [dj,H5.I,H7.I,H6.I]);exact Zcl
            obtain ⟨j,rfl⟩: ∃ j,k=j+1:=⟨k - 1,by omega⟩
            obtain ⟨y,hy⟩: ∃ y,p.ai[j]? =o_ y:=⟨_,Kz (by omega)⟩
            have cp:wr.cell? ⟨gs,j * 5,n_⟩=o_ (i_ j_ y.id):=HP.I y hy;have j0:(0:Int)≤(j:Int):=by omega
            have j1:(j:Int) < (p.ai.length:Int):=by omega
            have wk:IntKind.i64.wrap (j:Int)=(j:Int):=by rw [K8]; omega
            have wV:Hid (bW (fun x:aM=>x.id) 0 (p.ai.take (j+1))=y.id):=eG hy 0;clear hy hk0;by_cases hle:x.id≤y.id
            ·have dp:decide (x.id≤y.id)=true:=decide_eq_true hle
             have HN:Hid (bv p=false):=eg (bS HX.I (fun hh=>by have h9:=hh.2.1; rw [wV.I] at h9; have h9:y.id < x.id:=h9; omega));exact Zcg
            have dp:decide (x.id≤y.id)=false:=decide_eq_false hle;have j6:Hid (bW (fun x:aM=>x.id) 0 (p.ai.take (j+1)) < x.id):=by show _ < _; rw [wV.I]; show y.id < x.id; omega
            cases h5:cv x.max 1 5
            ·exact ZcO
            have lE:Hid (∀ w,k_ J3 27 #[i_ j_ x.max,i_ j_ 1,i_ j_ 5] w fun e w'=>e=r_ (b_ true)∧w'=w):=gS h5;have H5:Hid (cv x.max 1 5=true):=h5;clear h5;cases h6:x.Mf
            ·rw [h6] at c2
             have H6:Hid (x.Mf=false):=h6;clear h6;by_cases h8:x.max=1
             ·have H8:Hid (x.max=1):=h8
              have n8:(x.max != 1)=false:=by simp [h8]
              clear h8;cases h7:dJ x.Ma x.max
              ·exact Zca
              have uE:Hid (∀ o n,k_ J3 83 #[s_ x.ak x.Ma.length x.aq,i_ j_ x.max] ((wr.alloc o).drewN n) fun e w'=>e=r_ (b_ true)∧w'=(wr.alloc o).drewN n):=fun _ n=>iz h7 E9.I n
              have H7:Hid (dJ x.Ma x.max=true):=h7;clear h7;have HY:Hid (aw (fun x:aM=>x.id) (fun x:aM=>dj x.todS) 0 (p.ai.take ((j+1)+1))=true):=ed HA.I.1 HX.I lN.I j6.I (by simp only [dj,H5.I,H7.I,H6.I]; simp [H8.I]);exact Zcm
             exact ZcQ
            rw [h6] at c2;have H6:Hid (x.Mf=true):=h6;clear h6;cases h7:dJ x.Ma x.max
            ·exact Zca
            have uE:Hid (∀ o n,k_ J3 83 #[s_ x.ak x.Ma.length x.aq,i_ j_ x.max] ((wr.alloc o).drewN n) fun e w'=>e=r_ (b_ true)∧w'=(wr.alloc o).drewN n):=fun _ n=>iz h7 E9.I n
            have H7:Hid (dJ x.Ma x.max=true):=h7;clear h7;have HY:Hid (aw (fun x:aM=>x.id) (fun x:aM=>dj x.todS) 0 (p.ai.take ((j+1)+1))=true):=ed HA.I.1 HX.I lN.I j6.I (by simp [dj,H5.I,H7.I,H6.I]);exact Zcm
          ·have i1: ¬ (k:Int) < (p.ai.length:Int):=by omega
           have FA:Hid (aw (fun x:aM=>x.id) (fun x=>dj x.todS) 0 p.ai=true):=by have:=HA.I.1; rwa [KF (by omega)] at this
           clear HA HB hlt hk hsz hll;have hs:=fl.I.short;have l0:=hs.aj;have l1:=hs.L9;have l2:=hs.ag;have l3:=hs.ae;have l4:=hs.ai;clear hs;cases d0:decide ((p.aj.length:Int)≤5)
           ·have HN:Hid (bv p=false):=wP d0
            exact ZaR
           cases d1:decide ((p.L9.length:Int)≤5)
           ·have HN:Hid (bv p=false):=wS d1
            exact ZaR
           cases d2:decide ((p.ag.length:Int)≤5)
           ·have HN:Hid (bv p=false):=wL d2
            exact ZaR
           cases d3:decide ((p.ae.length:Int)≤5)
           ·have HN:Hid (bv p=false):=wJ d3
            exact ZaR
           cases d4:decide ((p.ai.length:Int)≤5)
           ·have HN:Hid (bv p=false):=wv d4
            exact ZaR
           have HY:Hid (bv p=true):=yC Hz.I wm.I xD.I Fz.I FA.I d0 d1 d2 d3 d4;go_wp2;go_ret;exact ⟨al HY.I.symm,cy.I.2.2⟩
end
section
open Go.RowKit
attribute [local go_sem ↓] Kc Kd
theorem ij (p:af) (st on:Int) (w:w_) (hl:p.L8.length≤1048576) (h:af.At w p):
  k_ J3 44 #[a_ p.cells,i_ j_ st,i_ j_ on] w fun e w'=>(∃ i:Int,e=r_ (i_ j_ i)∧dO (fun x:aD=>decide (x.Md=st) && decide (x.on=on)) p.pure.L8 p.L8.length i)∧B_ w.heap.size w w':=by
 have HB:Hid (av (w.alloc (c_ p.cells 31)) w.heap.size p∧af.At (w.alloc (c_ p.cells 31)) p∧B_ w.heap.size w (w.alloc (c_ p.cells 31))):=⟨Kj _ _,h.below ((Kp _ _).alloc (Ki _) _),(Kp _ _).alloc (Ki _) _⟩
 clear h;unfold af.cells at *
 go_enter func44,ntmps44
 go_wp2_with fail;generalize w.alloc (c_ p.row 31)=W at *
 go_loopw [7,8] (fun b i wr=> ∃ (k:Nat) (z:Int),k≤p.L8.length∧i=i_ j_ k∧b=i_ j_ z∧Hid (dO (fun x:aD=>decide (x.Md=st) && decide (x.on=on)) p.pure.L8 k z∧B_ W.heap.size W wr)) (fun _ i _=>p.L8.length - (intOf i).toNat)
 case atStart=>exact ⟨0,-1,Ky _,rfl,rfl,⟨dO.start _ _,Kp _ _⟩⟩
 case round=>
  obtain ⟨k,z,hk,rfl,rfl,HA⟩:=hrel;have HW:Hid (av wr w.heap.size p∧af.At wr p∧B_ w.heap.size w wr):=⟨HB.I.1.below HA.I.2,HB.I.2.1.below HA.I.2,HB.I.2.2.trans (HA.I.2.mono HB.I.2.2.size)⟩
  obtain ⟨-,-,m2,-⟩:=HW.I.1.cells;by_cases hlt:k < p.L8.length
  ·have i0:(0:Int)≤(k:Int):=by omega
   have i1:(k:Int) < (p.L8.length:Int):=by omega
   obtain ⟨x,hx⟩: ∃ x,p.L8[k]? =o_ x:=⟨_,Kz hlt⟩
   have HX:Hid (p.L8[k]? =o_ x∧p.pure.L8[k]? =o_ x.toaD):=⟨hx,by show (p.L8.map (·.toaD))[k]? =_; rw [Kk,hx]; rfl⟩
   obtain ⟨gs,ha,hat⟩:=cn HW.I.2.1.1 hx;have HG:Hid (p.aN=o_ ⟨gs,0,n_⟩):=ha;rw [ha] at m2;obtain ⟨d0,d1,d2,d3,d4,d5,d6,d7,d8,d9,tH,tS⟩:=hat;clear hx ha;have hgl:w.heap.size < wr.heap.size:=(J2.1 HW.I.1).1;have HN:Hid (av (wr.alloc (c_ x.row 41)) w.heap.size p∧af.At (wr.alloc (c_ x.row 41)) p∧jx (wr.alloc (c_ x.row 41)) wr.heap.size x∧B_ W.heap.size W (wr.alloc (c_ x.row 41))):=⟨HW.I.1.below ((Kp _ _).alloc (Ki _) _),HW.I.2.1.below ((Kp _ _).alloc (Ki _) _),Kj _ _,HA.I.2.alloc HA.I.2.size _⟩
   by_cases hs:x.Md=st
   ·by_cases ho:x.on=on
    ·have HF:Hid ((fun x:aD=>decide (x.Md=st) && decide (x.on=on)) x.toaD=true):=by show _=true; simp [hs,ho]
     have e1:(x.Md != st)=false:=by simp [hs]
     have e2:(x.on != on)=false:=by simp [ho]
     clear hs ho;go_wp2_with fail;generalize wr.alloc (c_ x.row 41)=W5 at *;generalize wr.heap.size=X at *;clear d0 d1 d2 d3 d4 d5 d6 d7 d8 d9 tH tS m2 e1 e2 hgl;obtain ⟨-,-,m2,-⟩:=HN.I.1.cells;rw [HG.I] at m2;obtain ⟨-,b1,-,-,-,-,-,-,-,-,-,b11⟩:=HN.I.2.2.1.cells;by_cases hz:z < 0
     ·have afO:decide (z < 0)=true:=decide_eq_true hz
      have HY:Hid (dO (fun x:aD=>decide (x.Md=st) && decide (x.on=on)) p.pure.L8 (k+1) k):=HA.I.1.first hz HX.I.2 HF.I;refine aT (fun w'=>w'=W5.drew) ZcS rfl ?_
      iterate 3 (refine agj ?_)
      iterate 9 (refine ty (o_ _) rfl rfl ZcS (fun _ _ _ h=>h) (np ZcS) ?_; simp only [pt,sb,s0,s1])
      iterate 2 (refine agj ?_)
      exact ZcC
     have afO:decide (z < 0)=false:=decide_eq_false hz;obtain ⟨n,y0,hzn,hn,hy0,hbe⟩:=HA.I.1.got hz;subst hzn;have Fm:Hid (dO (fun x:aD=>decide (x.Md=st) && decide (x.on=on)) p.pure.L8 (k+1) (if dF x.toaD y0 then (k:Int) else (n:Int))):=dO.next hn hy0 hbe HX.I.2 HF.I;obtain ⟨y,hy,rfl⟩: ∃ y,p.L8[n]? =o_ y∧y.toaD=y0:=by
      have h5:(p.L8.map (·.toaD))[n]? =o_ y0:=hy0;rw [Kk,Kw] at h5;exact h5
     have j0:(0:Int)≤(n:Int):=by omega
     have j1:(n:Int) < (p.L8.length:Int):=by omega
     obtain ⟨gs2,ha2,g8⟩:=cn HN.I.2.1.1 hy;rw [HG.I] at ha2;cases ha2;obtain ⟨-,y1,-,-,-,-,-,-,-,-,-,y11⟩:=g8;clear hy hy0 hbe hz;by_cases hp:y.RX < x.RX
     ·have dp:decide (y.RX < x.RX)=true:=decide_eq_true hp
      have HY:Hid (dO (fun x:aD=>decide (x.Md=st) && decide (x.on=on)) p.pure.L8 (k+1) k):=by have h5:=Fm.I; rwa [show dF x.toaD y.toaD=true by unfold dF; rw [if_neg (by intro e; have e2:x.RX=y.RX:=e; omega)]; exact decide_eq_true hp,if_pos rfl] at h5
      clear hp Fm;refine aT (fun w'=>w'=W5.drew) ZcS rfl ?_
      iterate 14 (refine agj ?_)
      exact ZcC
     have dp:decide (y.RX < x.RX)=false:=decide_eq_false hp;by_cases hq:x.RX=y.RX
     ·have dq:(x.RX == y.RX)=true:=by simp [hq]
      by_cases hr:x.RU < y.RU
      ·have ya:decide (x.RU < y.RU)=true:=decide_eq_true hr
       have HY:Hid (dO (fun x:aD=>decide (x.Md=st) && decide (x.on=on)) p.pure.L8 (k+1) k):=by have h5:=Fm.I; rwa [show dF x.toaD y.toaD=true by unfold dF; rw [if_pos hq]; exact ya,if_pos rfl] at h5
       clear hp hr Fm hq;refine aT (fun w'=>w'=W5.drew) ZcS rfl ?_
       iterate 35 (refine agj ?_)
       exact Q1
      ·have ya:decide (x.RU < y.RU)=false:=decide_eq_false hr
       have HY:Hid (dO (fun x:aD=>decide (x.Md=st) && decide (x.on=on)) p.pure.L8 (k+1) n):=by have h5:=Fm.I; rwa [show dF x.toaD y.toaD=false by unfold dF; rw [if_pos hq]; exact ya,if_neg Bool.false_ne_true] at h5
       clear hp hr Fm hq;refine aT (fun w'=>w'=W5.drew) ZcS rfl ?_
       iterate 35 (refine agj ?_)
       exact ZaH
     ·have dq:(x.RX == y.RX)=false:=by simp [hq]
      have HY:Hid (dO (fun x:aD=>decide (x.Md=st) && decide (x.on=on)) p.pure.L8 (k+1) n):=by have h5:=Fm.I; rwa [show dF x.toaD y.toaD=false by unfold dF; rw [if_neg hq]; exact dp,if_neg Bool.false_ne_true] at h5
      clear hp Fm hq;refine aT (fun w'=>w'=W5.drew) ZcS rfl ?_
      iterate 24 (refine agj ?_)
      iterate 9 (refine ty (o_ _) rfl rfl ZcS (fun _ _ _ h=>h) (np ZcS) ?_; simp only [pt,sb,s0,s1])
      iterate 2 (refine agj ?_)
      exact ZaH
    ·have HY:Hid (dO (fun x:aD=>decide (x.Md=st) && decide (x.on=on)) p.pure.L8 (k+1) z):=HA.I.1.skip HX.I.2 (by simp [ho])
     have e1:(x.Md != st)=false:=by simp [hs]
     have e2:(x.on != on)=true:=by simp [ho]
     clear hs ho;exact Zbq
   ·have HY:Hid (dO (fun x:aD=>decide (x.Md=st) && decide (x.on=on)) p.pure.L8 (k+1) z):=HA.I.1.skip HX.I.2 (by simp [hs])
    have e1:(x.Md != st)=true:=by simp [hs]
    clear hs;exact Zbq
  ·have i1: ¬ (k:Int) < (p.L8.length:Int):=by omega
   have HE:Hid (dO (fun x:aD=>decide (x.Md=st) && decide (x.on=on)) p.pure.L8 p.L8.length z):=by have h5:=HA.I.1; rwa [show k=p.L8.length by omega] at h5
   go_wp2;go_ret;exact ⟨⟨z,rfl,HE.I⟩,HW.I.2.2⟩
end
section
open Go.RowKit Go.Maps
attribute [local go_sem ↓] Kc Kd
def tj (r:Option (ao × Nat)) (x:ao × Nat):Option (ao × Nat):=match r with
 | none=>o_ x
 | some b=>if dF x.1.toaD b.1.toaD then o_ x else o_ b
def li (l:List (ao × Nat)):Option (ao × Nat):=l.foldl tj n_
theorem nH (l:List (ao × Nat)) (x:ao × Nat):li (l ++ [x])=tj (li l) x:=by simp [li]
theorem CV (r:Option (ao × Nat)) (x:ao × Nat): ∃ y,tj r x=o_ y∧(y=x∨r=o_ y):=by
 unfold tj
 split
 ·exact ⟨_,rfl,.inl rfl⟩
 ·split
  ·exact ⟨_,rfl,.inl rfl⟩
  ·exact ⟨_,rfl,.inr rfl⟩
theorem ql {l:List (ao × Nat)} : ∀ {k:Nat},0 < k→k≤l.length→ ∃ y,li (l.take k)=o_ y∧y∈l
 | 0,h,_=>absurd h (by omega)
 | k+1,_,hk=>by
  obtain ⟨x,hx⟩: ∃ x,l[k]? =o_ x:=⟨_,Kz (by omega)⟩
  rw [cj hx,nH];obtain ⟨y,hy,h1⟩:=CV (li (l.take k)) x;refine ⟨y,hy,?_⟩;rcases h1 with rfl | h1
  ·exact KA hx
  ·by_cases h0:0 < k
   ·obtain ⟨z,hz,hm⟩:=ql h0 (by omega:k≤l.length)
    rw [hz] at h1;cases h1;exact hm
   ·rw [show k=0 by omega] at h1
    simp [li] at h1
theorem vj (l:List (ao × Nat)):(li l).map (fun p=>p.1.toaD)=jo (l.map fun p=>p.1.toaD):=by
 have key: ∀ (l:List (ao × Nat)) (r:Option (ao × Nat)),(l.foldl tj r).map (fun p=>p.1.toaD)=(l.map fun p=>p.1.toaD).foldl iy (r.map fun p=>p.1.toaD):=by
  intro l
  induction l with
  | nil=>intro r; rfl
  | cons x l ih=>
   intro r;simp only [List.foldl_cons,Lt,ih]
   congr 1
   cases r with
   | none=>rfl
   | some b=>
    simp only [tj,iy,J9]
    split <;> rfl
 exact key l n_
def et (l:List (ao × Nat)):List (ao × Nat):=l.filter fun p=>decide (p.1.Md=1)
theorem sV (l:List (ao × Nat)) (p:ao × Nat):et (l ++ [p])=et l ++ (if p.1.Md=1 then [p] else []):=by
 unfold et;rw [QN];by_cases h:p.1.Md=1 <;> simp [h]
theorem yX (A B:Nat) (a b:ao) (w:w_) (ha:w.heap[A]? =o_ (c_ (aX a) 41)) (hb:w.heap[B]? =o_ (c_ (aX b) 41)):
  k_ J3 70 #[p_ (o_ ⟨A,0,n_⟩),p_ (o_ ⟨B,0,n_⟩)] w fun e w'=>e=r_ (b_ (dF a.toaD b.toaD))∧B_ w.heap.size w w':=by
 obtain ⟨-,a1,-,-,-,-,-,-,-,-,-,a11⟩:=bo ha;obtain ⟨-,b1,-,-,-,-,-,-,-,-,-,b11⟩:=bo hb;clear ha hb
 go_enter func70,ntmps70
 by_cases hp:a.RX=b.RX
 ·have e1:(a.RX != b.RX)=false:=by simp [hp]
  by_cases hs:a.RU < b.RU
  ·have ds:decide (a.RU < b.RU)=true:=decide_eq_true hs
   have HV:Hid (dF a.toaD b.toaD=true):=by show dF _ _=_; unfold dF; rw [if_pos hp]; exact ds
   exact ab
  ·have ds:decide (a.RU < b.RU)=false:=decide_eq_false hs
   have HV:Hid (dF a.toaD b.toaD=false):=by show dF _ _=_; unfold dF; rw [if_pos hp]; exact ds
   exact ab
 ·have e1:(a.RX != b.RX)=true:=by simp [hp]
  by_cases hs:b.RX < a.RX
  ·have ds:decide (b.RX < a.RX)=true:=decide_eq_true hs
   have HV:Hid (dF a.toaD b.toaD=true):=by show dF _ _=_; unfold dF; rw [if_neg hp]; exact ds
   exact ab
  ·have ds:decide (b.RX < a.RX)=false:=decide_eq_false hs
   have HV:Hid (dF a.toaD b.toaD=false):=by show dF _ _=_; unfold dF; rw [if_neg hp]; exact ds
   exact ab
theorem wn (a:Option d_) (l:List (ao × Nat)) (cap:Nat) (w:w_) (hl:l.length≤1048576) (hr:Row w a (l.map fun p=>dt p.2)) (hb: ∀ p∈l,w.heap[p.2]? =o_ (c_ (aX p.1) 41)):
  k_ J3 59 #[s_ a l.length cap,.func (.func 70) #[] #[]] w fun e w'=>e=r_ (u_ #[qz ((li l).map (·.2)),b_ (decide (0 < l.length))])∧B_ w.heap.size w w':=by
 have H:Hid (Row w a (l.map fun p=>dt p.2)∧ ∀ p∈l,w.heap[p.2]? =o_ (c_ (aX p.1) 41)):=⟨hr,hb⟩
 clear hr hb
 go_enter func59,ntmps59
 go_wp2_with fail
 go_loopw [6,11] (fun b i wr=> ∃ (k:Nat) (r:Option (ao × Nat)),k≤l.length∧i=i_ j_ k∧b=qz (r.map (·.2))∧Hid (r=li (l.take k)∧B_ w.heap.size w wr)) (fun _ i _=>l.length - (intOf i).toNat)
 case atStart=>exact ⟨0,n_,Ky _,rfl,rfl,⟨by simp [li],Kp _ _⟩⟩
 case round=>
  obtain ⟨k,r,hk,rfl,rfl,HA⟩:=hrel;by_cases hlt:k < l.length
  ·have i0:(0:Int)≤(k:Int):=by omega
   have i1:(k:Int) < (l.length:Int):=by omega
   obtain ⟨p,hp⟩: ∃ p,l[k]? =o_ p:=⟨_,Kz hlt⟩
   obtain ⟨g,ha,hc⟩:=(H.I.1.below HA.I.2) k (dt p.2) Zdr;subst ha;unfold dt at hc;have HP:Hid (l[k]? =o_ p∧p∈l):=⟨hp,KA hp⟩
   clear hp;by_cases hk0:k=0
   ·have e0:((k:Int) == 0)=true:=by simp [hk0]
    have HS:Hid (o_ p=li (l.take (k+1))):=by show _=_; rw [cj HP.I.1,nH,hk0]; rfl
    exact Zbe
   ·have e0:((k:Int) == 0)=false:=by simp [hk0]
    obtain ⟨y,hy,hym⟩:=ql (l:=l) (by omega:0 < k) hk;have hry:r=o_ y:=HA.I.1.trans hy;subst hry;have HQ:Hid (li (l.take k)=o_ y∧y∈l):=⟨hy,hym⟩
    clear hk0 hy hym;simp only [qz,dt,J9];go_wp2_with fail;refine (yX p.2 y.2 p.1 y.1 wr ((HA.I.2.block _ (J2.1 (H.I.2 p HP.I.2)).1).trans (H.I.2 p HP.I.2)) ((HA.I.2.block _ (J2.1 (H.I.2 y HQ.I.2)).1).trans (H.I.2 y HQ.I.2))).mono ?_;rintro e w4 ⟨rfl,hb4⟩;have HB4:Hid (B_ w.heap.size w w4):=HA.I.2.trans (hb4.mono HA.I.2.size);clear hb4;cases FT:dF p.1.toaD y.1.toaD with
    | true=>
     have HS:Hid (o_ p=li (l.take (k+1))):=by show _=_; rw [cj HP.I.1,nH,HQ.I.1]; simp [tj,FT]
     exact Zbg
    | false=>
     have HS:Hid (o_ y=li (l.take (k+1))):=by show _=_; rw [cj HP.I.1,nH,HQ.I.1]; simp [tj,FT]
     exact Zbh
  ·have i1: ¬ (k:Int) < (l.length:Int):=by omega
   have HE:Hid (r=li l):=by have h5:=HA.I.1; rwa [KF (by omega)] at h5
   go_wp2;go_ret2;refine ⟨?_,HA.I.2⟩;rw [HE.I];simp
theorem EA (o:Nat) (q:ol) (lp:List (ao × Nat)) (base:Nat) (w:w_) (hop:fa w o q) (hsh:Shelf aX (fun x:ao=>x.id) 41 w base q.bp lp) (hl:lp.length≤1048576) (hwf: ∀ p∈RW (fun x:ao=>x.id) lp,(Lit.int j_ p.1).wf=true):
  k_ J3 69 #[p_ (o_ ⟨o,0,n_⟩)] w fun e w'=>(∃ a cap,e=r_ (s_ a (et lp).length cap)∧Row w' a ((et lp).map fun p=>dt p.2))∧B_ w.heap.size w w':=by
 obtain ⟨i0,hi,e0⟩:=Kw.1 sQ;simp only [Kx] at e0;have HI:Hid (Tryz.prog.info? 64=o_ i0∧i0.zero=o_ (p_ n_)∧i0.size=1∧i0.bytes=8):=⟨hi,e0⟩
 have H:Hid (Shelf aX (fun x:ao=>x.id) 41 w base q.bp lp∧ ∀ p∈RW (fun x:ao=>x.id) lp,(Lit.int j_ p.1).wf=true):=⟨hsh,hwf⟩
 have c2:w.cell? ⟨o,2,n_⟩=o_ (i_ j_ 6):=hop.cell 2;have c3:w.cell? ⟨o,3,n_⟩=o_ (.map (o_ q.bp)):=hop.cell 3;have HK:Hid ((RW (fun x:ao=>x.id) lp).length=lp.length):=bZ lp;clear hop hsh hwf hi e0
 go_enter func69,ntmps69
 go_wp2_with fail;refine (mq 6 q.bp (RW (fun x:ao=>x.id) lp) w H.I.1.map Zc8 H.I.2).mono ?_;rintro e w2 ⟨a,cap,rfl,hown,hb2⟩;obtain ⟨a',cap',hv,hrow⟩:=cr hown;cases hv;have HR:Hid (Row w2 a ((RW (fun x:ao=>x.id) lp).map fun p=>dt p.2)):=hrow;have HO:Hid (Shelf aX (fun x:ao=>x.id) 41 w2 base q.bp lp∧B_ w.heap.size w w2):=⟨H.I.1.below hb2,hb2⟩
 rw [HK.I];clear hown hrow hb2 c2 c3;go_wp2_with fail
 go_loopw [3,12] (fun l i wr=> ∃ (k n:Nat),k≤lp.length∧n≤k∧i=i_ j_ k∧ ∃ a' cap',l=s_ a' n cap'∧Hid (n=(et (lp.take k)).length∧wr.ownsRow w2.heap.size 64 1 (s_ a' n cap') n ((et (lp.take k)).map fun p=>dt p.2)∧B_ w2.heap.size w2 wr)) (fun _ i _=>lp.length - (intOf i).toNat)
 case atStart=>exact ⟨0,0,Ky _,Ki _,rfl,n_,0,rfl,⟨rfl,World.ownsRow_nil _ _ _ _,Kp _ _⟩⟩
 case round=>
  obtain ⟨k,n,hk,hn,rfl,a',cap',rfl,HA⟩:=hrel;by_cases hlt:k < lp.length
  ·have qE:(0:Int)≤(k:Int):=by omega
   have i1:(k:Int) < (lp.length:Int):=by omega
   obtain ⟨p,hp⟩: ∃ p,lp[k]? =o_ p:=⟨_,Kz hlt⟩
   obtain ⟨g,ha,hc⟩:=(HR.I.below HA.I.2.2) k (dt p.2) Zdc;subst ha;unfold dt at hc;have HP:Hid (lp[k]? =o_ p):=hp;have lW:wr.heap[p.2]? =o_ (c_ (aX p.1) 41):=(HO.I.1.below HA.I.2.2).box p (KA hp);obtain ⟨-,-,-,s3,-⟩:=bo lW;have kT:=HA.I.2.2.size;clear hp lW;by_cases hs:p.1.Md=1
   ·have e1:(p.1.Md == 1)=true:=by simp [hs]
    have SC:Hid ((et (lp.take (k+1)))=(et (lp.take k)) ++ [p]):=by show _=_; rw [cj HP.I,sV,if_pos hs]
    clear hs;go_wp2_with (at_builtin; refine wpList_append_own_at _ rfl _ _ 130 rfl w2.heap.size 64 i0 (p_ n_) 1 8 underlying130 HI.I.1 HI.I.2.1 HI.I.2.2.1 HI.I.2.2.2 rfl (by decide) (s_ a' n cap') n ((et (lp.take k)).map fun p=>dt p.2) rfl (HA.I.2.1.alloc _) ⟨wr.heap.size,0,n_⟩ 1 1 [p_ (o_ ⟨p.2,0,n_⟩)] (by rfl) rfl (World.news_of_block (cs:= #[p_ (o_ ⟨p.2,0,n_⟩)]) (t:=64) (fr:=(0,0)) (Kj wr _)) Zc3 ZcW (by omega) ZcT ?_; intro v' w5 hown' hgrow hnil jV; obtain ⟨a5,im,rfl,-⟩:=cr hown'; have HN:Hid (n+1=(et (lp.take (k+1))).length∧w5.ownsRow w2.heap.size 64 1 (s_ a5 (n+1) im) (n+1) ((et (lp.take (k+1))).map fun p=>dt p.2)∧B_ w2.heap.size w2 w5):=⟨by rw [SC.I,Lf,← HA.I.1]; rfl,by rw [SC.I,Kl]; exact hown',(HA.I.2.2.alloc kT _).grown hgrow ZcT (fun q hq=>(HA.I.2.1.lt q hq).1)⟩; clear hown' hgrow hnil jV);exact Zar
   ·have e1:(p.1.Md == 1)=false:=by simp [hs]
    have SC:Hid ((et (lp.take (k+1)))=(et (lp.take k))):=by show _=_; rw [cj HP.I,sV,if_neg hs,QO]
    clear hs;go_wp2;go_roundw
    case rel=>exact ⟨k+1,n,by omega,by omega,by go_num,a',cap',rfl,by show _∧_; rw [SC.I]; exact HA.I⟩
    case measure=>simp [intOf]; omega
  ·have i1: ¬ (k:Int) < (lp.length:Int):=by omega
   have HE:Hid (n=(et lp).length∧Row wr a' ((et lp).map fun p=>dt p.2)):=by
    have h5:=HA.I;rw [KF (by omega)] at h5;exact Zbl
   exact Zbv
theorem Cm (o:Nat) (q:ol) (lp:List (ao × Nat)) (base:Nat) (w:w_) (hop:fa w o q) (hsh:Shelf aX (fun x:ao=>x.id) 41 w base q.bp lp) (hl:lp.length≤1048576) (hwf: ∀ p∈RW (fun x:ao=>x.id) lp,(Lit.int j_ p.1).wf=true):
  k_ J3 34 #[p_ (o_ ⟨o,0,n_⟩)] w fun e w'=>e=r_ (u_ #[qz ((li (et lp)).map (·.2)),b_ (decide (0 < (et lp).length))])∧B_ w.heap.size w w':=by
 have H:Hid (fa w o q∧Shelf aX (fun x:ao=>x.id) 41 w base q.bp lp∧ ∀ p∈RW (fun x:ao=>x.id) lp,(Lit.int j_ p.1).wf=true):=⟨hop,hsh,hwf⟩
 have HLR:Hid ((et lp).length≤1048576):=LG (Qq _ _) hl;clear hop hsh hwf
 go_enter func34,ntmps34
 go_wp2_with fail;refine (EA o q lp base w H.I.1 H.I.2.1 hl H.I.2.2).mono ?_;rintro e w2 ⟨⟨a,cap,rfl,hr⟩,hb2⟩;have HB:Hid (Row w2 a ((et lp).map fun p=>dt p.2)∧B_ w.heap.size w w2∧ ∀ p∈et lp,w2.heap[p.2]? =o_ (c_ (aX p.1) 41)):=⟨hr,hb2,fun p hp=>(H.I.2.1.below hb2).box p (List.mem_filter.1 hp).1⟩
 clear hr hb2;go_wp2_with fail;refine (wn a (et lp) cap w2 HLR.I HB.I.1 HB.I.2.2).mono ?_;rintro e w3 ⟨rfl,hb3⟩;have oh:Hid (B_ w.heap.size w w3):=HB.I.2.1.trans (hb3.mono HB.I.2.1.size);clear hb3;go_wp2;go_ret2;exact ⟨rfl,oh.I⟩
theorem DV (w:World):(zeroValue 3).run J3 w= .ok (.int .i64 0) w:=by kernel_rfl
def hO (w:World) (b:Nat) (L:List Int):Prop:= ∃ D:DataW Unit,w.ownsMap J3 2 (plainElem J3 3) b L.length D∧IsMap D∧ ∀ z:Int,D.atKey (.int .i64 z) (.lit (.int .i64 0))= .lit (.int .i64 (if z∈L then 1 else 0))
theorem hO.none {w:World} {b:Nat} (hb:w.heap[b]? =some (.map #[] 0)):hO w b [] :=
 ⟨.map [],⟨#[],0,hb,⟨by simp,MapKept.stamped_empty 0,by simp⟩,by simp,rfl⟩,isMap_empty,fun z=>by simp [DataW.atKey]⟩
theorem hO.lt {w:World} {b:Nat} {L:List Int} (h:hO w b L):b < w.heap.size:=by obtain ⟨D,h,_⟩:=h; exact h.lt
theorem hO.same {w w':World} {b:Nat} {L:List Int} (h:hO w b L) (hs:w'.heap[b]? =w.heap[b]?):hO w' b L:=by
 obtain ⟨D,⟨es,clock,hb,r⟩,h2⟩:=h;exact ⟨D,⟨es,clock,hs.trans hb,r⟩,h2⟩
theorem hO.look {w:World} {b:Nat} {L:List Int} (h:hO w b L) {z:Int} (hz:(Lit.int .i64 z).wf=true):(Instr.lookup 166 (.map (some b)) (.int .i64 z) false).run J3 w= .ok (.int .i64 (if z∈L then 1 else 0)) w:=by
 obtain ⟨D,hown,_,hat⟩:=h;obtain ⟨c,hrun,hc,_⟩:=hown.lookup_int jb Tryz.underlying166 QY (DV w) (vX hz);rw [hat z] at hc;simp only [QZ,Q0,true_and] at hc;rw [hrun,hc]
theorem hO.put {w:World} {b:Nat} {L:List Int} (h:hO w b L) (hl:L.length≤1048576) {z:Int} (hz:(Lit.int .i64 z).wf=true) (v:Int) (hv:v=(if z∈L then 1 else 0)+1):
  ∃ w',(Instr.mapUpdate 166 (.map (some b)) (.int .i64 z) (.int .i64 v)).run J3 w= .ok () w'∧w.grownBy w' (some b)∧w'.heap.size=w.heap.size∧
   (∀ W:World,W.heap=w'.heap→(Instr.lookup 166 (.map (some b)) (.int .i64 z) false).run J3 W= .ok (.int .i64 v) W)∧(z∉L→hO w' b (L ++ [z])):=by
 obtain ⟨D,hown,hm,hat⟩:=h;have hvw:(Lit.int .i64 v).wf=true:=by
  subst hv
  split <;> decide
 obtain ⟨w',hrun,ho,ht⟩:=hown.store jb Tryz.underlying166 (Q5 hl (by decide)) (vX hz) (plainElem_int (H:=Unit) QY hvw);refine ⟨w',hrun,ht.grown,?_,fun W hW=> ?_,fun hn=>⟨_,by rw [Lf]; exact ho,hm.put _ _,fun y=> ?_⟩⟩
 ·obtain ⟨es,clock,es',clock',hb,rfl⟩:=ht
  simp [ChangeMaps.setBlock]
 ·have Hw:W.ownsMap J3 2 (plainElem J3 3) b (L.length+1) (D.put (.int .i64 z) (.lit (.int .i64 v))):=by
   obtain ⟨es,clock,hb,r⟩:=ho;exact ⟨es,clock,by rw [hW]; exact hb,r⟩
  obtain ⟨c,hr,hc,_⟩:=Hw.lookup_int jb Tryz.underlying166 QY (DV W) (vX hz);rw [atKey_put_same hm (jb.key (vX hz))] at hc;simp only [QZ,Q0,true_and] at hc;rw [hr,hc]
 ·by_cases hy:y=z
  ·subst hy
   rw [atKey_put_same hm (jb.key (vX hz))];simp [hv,hn]
  ·rw [atKey_put_other (fun e=>hy (by simpa using e)),hat y]
   simp [hy]
def Cf (l:List (ao × Nat)):List Int:=Hu (l.map fun p=>p.1.toaD)
def km (next:Int) (l:List (ao × Nat)):Prop:=nQ next (l.map fun p=>p.1.toaD)
theorem we (l:List (ao × Nat)) (p:ao × Nat):Cf (l ++ [p])=Cf l ++ (if p.1.Md=0 then [] else [p.1.RU]):=by
 simp only [Cf,Hu,Kl,QN,Lt,QV,LN,List.filter_nil];by_cases h:p.1.Md=0 <;> simp [h]
theorem vx {next:Int} {l:List (ao × Nat)} {p:ao × Nat} (h:km next l) (hp: ¬ p.1.Md=0→1≤p.1.RU∧p.1.RU < next∧p.1.RU∉Cf l):km next (l ++ [p]):=by
 refine ⟨fun x hx=> ?_,?_⟩
 ·rw [Kl] at hx
  rcases List.mem_append.1 hx with hx | hx
  ·exact h.1 x hx
  ·simp only [Lt,QV,KB] at hx
   subst hx;exact fun h0=>⟨(hp h0).1,(hp h0).2.1⟩
 ·have e:=we l p
  unfold Cf at e;rw [e];by_cases h0:p.1.Md=0
  ·simp only [h0,if_true,QO]; exact h.2
  ·simp only [h0,if_false]
   refine Kf.2 ⟨h.2,by simp,fun a ha b hb=> ?_⟩;simp only [KB] at hb;subst hb;intro e2;subst e2;exact (hp h0).2.2 ha
theorem rU {next:Int} {l:List (ao × Nat)} {k:Nat} {p:ao × Nat} (hp:l[k]? =some p) (h0: ¬ p.1.Md=0) (hb: ¬ (1≤p.1.RU∧p.1.RU < next∧p.1.RU∉Cf (l.take k))): ¬ km next l:=fun h=>by
 have hm:p.1.toaD∈l.map fun p=>p.1.toaD:=Lr.2 ⟨p,KA hp,rfl⟩
 have h1:=h.1 _ hm h0;refine hb ⟨h1.1,h1.2,fun hmem=> ?_⟩;have e:l=l.take k ++ p :: l.drop (k+1):=kL hp;have h2:=h.2;rw [e] at h2;simp only [Hu,Kl,Lt,QN,LN] at h2;have h0':(!decide (p.1.toaD.Md=0))=true:=by simp [h0]
 rw [if_pos h0',Lt] at h2;exact (Kf.1 h2).2.2 p.1.RU hmem p.1.RU (by simp) rfl
def A6 (w:World) (q:ol) (lp:List (ao × Nat)) (e:Ending) (w':World):Prop:= ∃ ok:Bool,e= .returned (.bool ok)∧(ok=true↔km q.next lp)∧Below w.heap.size w w'
theorem kO {w w':World} {q:ol} {lp:List (ao × Nat)} (h: ¬ km q.next lp) (hb:Below w.heap.size w w'):A6 w q lp (.returned (.bool false)) w':=⟨false,rfl,⟨(fun h=>by cases h),fun h'=>absurd h' h⟩,hb⟩
structure rO (w w2 wr:World) (o:Nat) (q:ol) (lp:List (ao × Nat)) (L:List Int):Prop where
 taken:hO wr w.heap.size L
 grown:w2.grownBy wr (some w.heap.size)
theorem rO.block {w w2 wr:World} {o:Nat} {q:ol} {lp:List (ao × Nat)} {L:List Int} (h:rO w w2 wr o q lp L) {g:Nat} (hg:g < w2.heap.size) (hne: ¬ g=w.heap.size):wr.heap[g]? =w2.heap[g]? :=h.grown.block g hg (fun e=>hne (KC e))
theorem BI (o:Nat) (q:ol) (lp:List (ao × Nat)) (ms me mb mf:df) (w:World) (h:kX w w o q lp ms me mb mf) (hl:lp.length≤1048576) (hwf: ∀ p∈lp,p.1.Wf):
  Calls J3 56 #[.pointer (some ⟨o,0,none⟩)] w fun e w'=>A6 w q lp e w':=by
 have hmk:=P4 (P:=J3) 166;have H:Hid (kX w w o q lp ms me mb mf∧ ∀ p∈lp,p.1.Wf):=⟨h,hwf⟩
 have p7:o < w.heap.size:=(J2.1 h.opn).1;have c2:w.cell? ⟨o,2,none⟩=some (.int .i64 6):=h.opn.cell 2;have c3:w.cell? ⟨o,3,none⟩=some (.map (some q.bp)):=h.opn.cell 3;have HK:Hid ((RW (fun x:ao=>x.id) lp).length=lp.length):=bZ lp;clear h hwf
 go_enter Tryz.func56,Tryz.ntmps56
 go_wp2_with fail;refine (mq 6 q.bp (RW (fun x:ao=>x.id) lp) (w.alloc (.map #[] 0)) (H.I.1.eh.map.below ((Kp _ w).alloc (Ki _) _)) Zc8 (DE H.I.2)).mono ?_;rintro e w2 ⟨a,cap,rfl,hown,hb2⟩;obtain ⟨a',cap',hv,hrow⟩:=cr hown;cases hv;have HR:Hid (Row w2 a ((RW (fun x:ao=>x.id) lp).map fun p=>dt p.2)):=hrow;have HRB:Hid (∀ g,a=some ⟨g,0,none⟩→w.heap.size+1≤g∧g < w2.heap.size):=fun g hg=>by
  subst hg
  have:=hown.lt g rfl
  simpa using this
 have cy:Hid (Below w.heap.size w w2):=((Kp _ w).alloc (Ki _) _).trans (hb2.mono (by simp));have Hz:Hid (hO w2 w.heap.size []):=hO.none ((hb2.block _ (by simp)).trans (Kj _ _));rw [HK.I];clear hown hrow hb2 c2 c3 hmk;go_wp2_with fail
 go_loopw [13] (fun i wr=> ∃ k:Nat,k≤lp.length∧i= .int .i64 k∧Hid (km q.next (lp.take k)∧rO w w2 wr o q lp (Cf (lp.take k)))) (fun i _=>lp.length - (intOf i).toNat)
 case atStart=>exact ⟨0,Ky _,rfl,⟨⟨(fun x hx=>by simp at hx),by simp [Hu]⟩,⟨by simpa [Cf,Hu] using Hz.I,⟨rfl,rfl,rfl,Ki _,fun _ _ _=>rfl⟩⟩⟩⟩
 case round=>
  obtain ⟨k,hk,rfl,HA⟩:=hrel;have Ez:Hid (Below w.heap.size w wr):=cy.I.grown HA.I.2.grown cy.I.size (fun k hk=>by cases hk; exact Ki _);by_cases hlt:k < lp.length
  ·have i0:(0:Int)≤(k:Int):=by omega
   have i1:(k:Int) < (lp.length:Int):=by omega
   obtain ⟨p,hp⟩: ∃ p,lp[k]? =some p:=⟨_,Kz hlt⟩
   have hpm:=KA hp;have hrw:=HR.I k (dt p.2) Zdc;obtain ⟨g,ha,hc0⟩:=hrw;have hgb:=HRB.I g ha;have hc:wr.cell? ⟨g,k,none⟩=some (.pointer (some ⟨p.2,0,none⟩)):=(World.cell?_of_block (w:=w2) (a:=⟨g,k,none⟩) (HA.I.2.block (g:=g) hgb.2 (fun e=>by have h1:=hgb.1; have e':g=w.heap.size:=e; omega))).trans hc0;subst ha;have lD:wr.heap[p.2]? =some (.cells (aX p.1) 41 (0,0)):=(Ez.I.block _ (J2.1 (H.I.1.eh.box p hpm)).1).trans (H.I.1.eh.box p hpm);have hob:fa wr o q:=(Ez.I.block _ p7).trans H.I.1.opn;have HP:Hid (lp[k]? =some p∧p∈lp):=⟨hp,hpm⟩
   have HW:Hid ((Lit.int .i64 p.1.RU).wf=true):=(H.I.2 p hpm).RU;have HX:Hid (wr.heap[p.2]? =some (.cells (aX p.1) 41 (0,0))∧fa wr o q):=⟨lD,hob⟩
   have k3:=(bo lD).2.2.2.1;have k11:=(bo lD).2.2.2.2.2.2.2.2.2.2.2;have hls:(Cf (lp.take k)).length≤1048576:=by
    have h1:(Cf (lp.take k)).length≤(lp.take k).length:=by
     simp only [Cf,Hu,KG];exact LG (Qq _ _) (by simp)
    rw [Lk] at h1;omega
   clear hp hpm hc0 hgb lD hob;by_cases h0:p.1.Md=0
   ·have HY:Hid (km q.next (lp.take (k+1))∧rO w w2 wr o q lp (Cf (lp.take (k+1)))):=by
     rw [cj HP.I.1];refine ⟨vx HA.I.1 (fun h=>absurd h0 h),?_⟩;rw [we,if_pos h0,QO];exact HA.I.2
    have e0:(p.1.Md == 0)=true:=by simp [h0]
    clear h0;go_wp2;go_roundw
    case rel=>exact ⟨k+1,by omega,by go_num,HY⟩
    case measure=>simp [intOf]; omega
   ·have e0:(p.1.Md == 0)=false:=by simp [h0]
    have H0:Hid (¬ p.1.Md=0):=h0;clear h0;have hlk:=HA.I.2.taken.look HW.I;by_cases hz:p.1.RU∈Cf (lp.take k)
    ·rw [if_pos hz] at hlk
     obtain ⟨w5,hput,wY,aaX,FJ,-⟩:=HA.I.2.taken.put hls HW.I 2 (by rw [if_pos hz]; rfl);have HN:Hid (¬ km q.next lp):=rU HP.I.1 H0.I (fun hh=>hh.2.2 hz);have Dk:Hid (Below w.heap.size w w5):=Ez.I.grown wY Ez.I.size (fun k hk=>by cases hk; exact Ki _);have hx5:w5.heap[p.2]? =some (.cells (aX p.1) 41 (0,0)):=(Dk.I.block _ (J2.1 (H.I.1.eh.box p HP.I.2)).1).trans (H.I.1.eh.box p HP.I.2);have oe:fa w5 o q:=(Dk.I.block _ p7).trans H.I.1.opn;have f11:=(bo hx5).2.2.2.2.2.2.2.2.2.2.2;have f1:w5.cell? ⟨o,1,none⟩=some (.int .i64 q.next):=oe.cell 1;have rL:=FJ w5.drew rfl;clear FJ wY aaX hx5 oe hz;by_cases hA:p.1.RU < 1
     ·have dA:decide (p.1.RU < 1)=true:=decide_eq_true hA
      exact ZcA
     have dA:decide (p.1.RU < 1)=false:=decide_eq_false hA;by_cases hB:q.next≤p.1.RU
     ·have dB:decide (q.next≤p.1.RU)=true:=decide_eq_true hB
      exact ZcH
     have dB:decide (q.next≤p.1.RU)=false:=decide_eq_false hB;clear hA hB;go_wp2_with fail;refine aT (fun w'=>w'=w5.drew) ZcS rfl ?_
     iterate 25 (refine agj ?_)
     refine bk ZcS ?_ _;intro w1 cm;subst cm;go_wp2;go_ret;exact kO HN.I Dk.I.drew
    ·rw [if_neg hz] at hlk
     obtain ⟨w5,hput,wY,aaX,FJ,htk⟩:=HA.I.2.taken.put hls HW.I 1 (by rw [if_neg hz]; rfl);have Dk:Hid (Below w.heap.size w w5):=Ez.I.grown wY Ez.I.size (fun k hk=>by cases hk; exact Ki _);have EY:Hid (rO w w2 w5 o q lp (Cf (lp.take k) ++ [p.1.RU])):=⟨htk hz,⟨wY.os.trans HA.I.2.grown.os,wY.tape.trans HA.I.2.grown.tape,wY.output.trans HA.I.2.grown.output,LG HA.I.2.grown.size wY.size,fun k hk hne=>(wY.block k (Kn hk HA.I.2.grown.size) hne).trans (HA.I.2.grown.block k hk hne)⟩⟩
     have HZ:Hid (¬ p.1.RU∈Cf (lp.take k)):=hz;have hx5:w5.heap[p.2]? =some (.cells (aX p.1) 41 (0,0)):=(Dk.I.block _ (J2.1 (H.I.1.eh.box p HP.I.2)).1).trans (H.I.1.eh.box p HP.I.2);have oe:fa w5 o q:=(Dk.I.block _ p7).trans H.I.1.opn;have f11:=(bo hx5).2.2.2.2.2.2.2.2.2.2.2;have f1:w5.cell? ⟨o,1,none⟩=some (.int .i64 q.next):=oe.cell 1;have rL:=FJ w5.drew rfl;clear FJ wY aaX hx5 oe hz htk;by_cases hA:p.1.RU < 1
     ·have dA:decide (p.1.RU < 1)=true:=decide_eq_true hA
      have HN:Hid (¬ km q.next lp):=rU HP.I.1 H0.I (fun hh=>by have:=hh.1; omega);exact ZcA
     have dA:decide (p.1.RU < 1)=false:=decide_eq_false hA;by_cases hB:q.next≤p.1.RU
     ·have dB:decide (q.next≤p.1.RU)=true:=decide_eq_true hB
      have HN:Hid (¬ km q.next lp):=rU HP.I.1 H0.I (fun hh=>by have:=hh.2.1; omega);exact ZcH
     have dB:decide (q.next≤p.1.RU)=false:=decide_eq_false hB;have HY:Hid (km q.next (lp.take (k+1))∧rO w w2 w5 o q lp (Cf (lp.take (k+1)))):=by
      rw [cj HP.I.1];refine ⟨vx HA.I.1 (fun _=>⟨by omega,by omega,HZ.I⟩),?_⟩;rw [we,if_neg H0.I];exact EY.I
     clear hA hB;go_wp2_with fail;refine aT (fun w'=>w'=w5.drew) ZcS rfl ?_
     iterate 25 (refine agj ?_)
     refine bk ZcS ?_ _;intro w1 cm;subst cm;go_wp2;go_roundw
     case rel=>exact ⟨k+1,by omega,by go_num,⟨HY.I.1,⟨HY.I.2.taken.same rfl,⟨HY.I.2.grown.os,HY.I.2.grown.tape,HY.I.2.grown.output,HY.I.2.grown.size,HY.I.2.grown.block⟩⟩⟩⟩
     case measure=>simp [intOf]; omega
  ·have i1: ¬ (k:Int) < (lp.length:Int):=by omega
   have HT:Hid (km q.next lp):=by have:=HA.I.1; rwa [KF (by omega)] at this
   go_wp2;go_ret;exact ⟨true,rfl,⟨fun _=>HT.I,fun _=>rfl⟩,Ez.I⟩
end
section
open Go.RowKit
attribute [local go_sem ↓] Kc Kd
def oQ (p:af) (x:ao):Bool:=cH x.toaD && fF p.next x.toaD && dG p.pure x.toaD
theorem rG (p:af) (x:ao):bh p.pure x.toaD=(cv x.id 1 1000 && oQ p x):=by
 show (cv x.id 1 1000 && cH x.toaD && fF p.next x.toaD && dG p.pure x.toaD)=_
 simp only [oQ,Bool.and_assoc]
def lR (l:List ao):Prop:=(l.map (·.RU)).Pairwise (fun a b=> ¬ (a=b∧0 < b))
theorem uU {l:List ao} {k:Nat} {x:ao} (hx:l[k]? =o_ x) (h:lR (l.take k)) (hn: ∀ m y,m < k→l[m]? =o_ y→ ¬ (y.RU=x.RU∧0 < x.RU)):lR (l.take (k+1)):=by
 rw [cj hx];unfold lR;rw [Kl,List.pairwise_append];refine ⟨h,List.pairwise_singleton _ _,fun a ha b hb=> ?_⟩;simp only [Lt,QV,Kt,Ku,or_false] at hb;subst hb;obtain ⟨y,hy,rfl⟩:=Lr.1 ha;obtain ⟨m,hm⟩:=List.mem_iff_getElem?.1 hy;rw [List.getElem?_take] at hm
 split at hm
 ·rename_i hlt
  exact hn m y hlt hm
 ·cases hm
theorem xn {l:List ao} {i m:Nat} {x y:ao} (hx:l[i]? =o_ x) (hy:l[m]? =o_ y) (hm:m < i) (h:y.RU=x.RU∧0 < x.RU): ¬ lR l:=fun ha=>by
 unfold lR at ha;rw [List.pairwise_map,List.pairwise_iff_getElem] at ha;obtain ⟨hi,rfl⟩:=Lj.1 hx;obtain ⟨hj,rfl⟩:=Lj.1 hy;exact ha m i hj hi hm h
theorem jk (p:af):aQ p.pure↔(cv p.id 1 6=true∧cv p.next 1 1000000000=true∧p.L8.length≤6∧bv p=true∧aw (fun x:ao=>x.id) (oQ p) 0 p.L8=true∧lR p.L8):=by
 have e1:aw (·.id) (fun x=>cH x && fF p.pure.next x && dG p.pure x) 0 p.pure.L8=aw (fun x:ao=>x.id) (oQ p) 0 p.L8:=jL _ _ _ _ _;have e2:p.pure.L8.length=p.L8.length:=by simp [af.pure]
 have e3:aw (·.id) ct 0 p.pure.ae=aw (fun x:au=>x.id) (fun x=>ct x.toci) 0 p.ae:=jL _ _ _ _ _;have e4:aw (·.id) dj 0 p.pure.ai=aw (fun x:aM=>x.id) (fun x=>dj x.todS) 0 p.ai:=jL _ _ _ _ _;have e5:p.pure.ae.length=p.ae.length:=by simp [af.pure]
 have e6:p.pure.ai.length=p.ai.length:=by simp [af.pure]
 have e7:rb p.pure.L8↔lR p.L8:=by
  unfold rb lR
  show (((p.L8.map (·.toaD))).map (·.RU)).Pairwise _↔_
  rw [Lv];rfl
 constructor
 ·intro h
  have hp:=h.L8;rw [e1] at hp;have hb:=h.ae;rw [e3] at hb;have hq:=h.ai;rw [e4] at hq;have n1:=h.dl;have n2:=h.cb;have n3:=h.dH;rw [e2] at n1;rw [e5] at n2;rw [e6] at n3;have hs:aw (fun x:bD=>x.id) gw 0 p.aj=true:=h.aj;have he:aw (fun x:aB=>x.id) ey 0 p.L9=true:=h.L9;have hd:aw (fun x:az=>x.id) cU 0 p.ag=true:=h.ag;have l1:p.aj.length≤5:=h.fx;have l2:p.L9.length≤5:=h.cD;have l3:p.ag.length≤5:=h.cC;refine ⟨h.id,h.next,n1,?_,hp,e7.1 h.apart⟩;simp only [bv,hs,he,hd,hb,hq,decide_eq_true l1,decide_eq_true l2,decide_eq_true l3,decide_eq_true n2,decide_eq_true n3,Bool.and_self]
 ·rintro ⟨h1,h2,h3,h4,h5,h6⟩
  simp only [bv,J7,decide_eq_true_eq] at h4;obtain ⟨⟨⟨⟨⟨⟨⟨⟨⟨t1,t2⟩,t3⟩,t4⟩,t5⟩,d1⟩,d2⟩,d3⟩,d4⟩,d5⟩:=h4;exact ⟨h1,h2,by rw [e2]; exact h3,d1,d2,d3,by rw [e5]; exact d4,by rw [e6]; exact d5,by rw [e1]; exact h5,t1,t2,t3,by rw [e3]; exact t4,by rw [e4]; exact t5,e7.2 h6⟩
def zX (w:w_) (p:af) (x:ao) (gs k:Nat) (pre:w_→Prop) (w':w_):Prop:=((w'.cell? ⟨w.heap.size,0,n_⟩=o_ (i_ j_ p.id)∧w'.cell? ⟨w.heap.size,1,n_⟩=o_ (i_ j_ p.next)∧w'.cell? ⟨w.heap.size,2,n_⟩=o_ (s_ (o_ ⟨gs,0,n_⟩) p.L8.length p.aW)∧w'.cell? ⟨w.heap.size,3,n_⟩=o_ (s_ p.bc p.aj.length p.bF)∧w'.cell? ⟨w.heap.size,4,n_⟩=o_ (s_ p.ay p.L9.length p.aO)∧w'.cell? ⟨w.heap.size,5,n_⟩=o_ (s_ p.ax p.ag.length p.aP)∧w'.cell? ⟨w.heap.size,6,n_⟩=o_ (s_ p.am p.ae.length p.aG)∧w'.cell? ⟨w.heap.size,7,n_⟩=o_ (s_ p.aK p.ai.length p.aV))∧(w'.cell? ⟨gs,k * 12,n_⟩=o_ (i_ j_ x.id)∧w'.cell? ⟨gs,k * 12+1,n_⟩=o_ (i_ j_ x.RX)∧w'.cell? ⟨gs,k * 12+2,n_⟩=o_ (s_ x.aY x.prog.length x.bH)∧w'.cell? ⟨gs,k * 12+3,n_⟩=o_ (i_ j_ x.Md)∧w'.cell? ⟨gs,k * 12+4,n_⟩=o_ (i_ j_ x.pc)∧w'.cell? ⟨gs,k * 12+5,n_⟩=o_ (i_ j_ x.left)∧w'.cell? ⟨gs,k * 12+6,n_⟩=o_ (i_ j_ x.Mg)∧w'.cell? ⟨gs,k * 12+7,n_⟩=o_ (i_ j_ x.on)∧w'.cell? ⟨gs,k * 12+8,n_⟩=o_ (t_ x.held)∧w'.cell? ⟨gs,k * 12+9,n_⟩=o_ (t_ x.got)∧w'.cell? ⟨gs,k * 12+10,n_⟩=o_ (i_ j_ x.code)∧w'.cell? ⟨gs,k * 12+11,n_⟩=o_ (i_ j_ x.RU))∧pre w')∧Hid (av w' w.heap.size p∧af.At w' p∧B_ w.heap.size w w')
theorem kQ {w w':w_} {p:af} {x:ao} {gs k:Nat} {pre:w_→Prop} (ha:p.aN=o_ ⟨gs,0,n_⟩) (hx:p.L8[k]? =o_ x) (h:av w' w.heap.size p∧af.At w' p∧B_ w.heap.size w w') (hp:pre w'):zX w p x gs k pre w':=by
 refine ⟨⟨?_,?_,hp⟩,h⟩
 ·have:=h.1.cells
  rw [ha] at this;exact this
 ·obtain ⟨g,e,hat⟩:=cn h.2.1.1 hx
  rw [ha] at e;cases e;exact hat
def rk (gs j:Nat) (y:ao) (w':w_):Prop:=w'.cell? ⟨gs,j * 12,n_⟩=o_ (i_ j_ y.id)
theorem rh {w':w_} {p:af} {gs j:Nat} {y:ao} (ha:p.aN=o_ ⟨gs,0,n_⟩) (hy:p.L8[j]? =o_ y) (h:af.At w' p):rk gs j y w':=by
 obtain ⟨g,e,hat⟩:=cn h.1 hy;rw [ha] at e;cases e;exact hat.1
theorem eV (p:af) (w:w_) (hf:p.Fit) (hs: ∀ x∈p.L8,x.dX) (h:af.At w p):
  k_ J3 26 #[a_ p.cells] w fun e w'=>e=r_ (b_ (bK p.pure))∧B_ w.heap.size w w':=by
 have HB:Hid (av (w.alloc (c_ p.cells 31)) w.heap.size p∧af.At (w.alloc (c_ p.cells 31)) p∧B_ w.heap.size w (w.alloc (c_ p.cells 31))):=⟨Kj _ _,h.below ((Kp _ _).alloc (Ki _) _),(Kp _ _).alloc (Ki _) _⟩
 have fl:Hid (p.Fit∧ ∀ x∈p.L8,x.dX):=⟨hf,hs⟩
 have hpl:=hf.short.L8;clear h hf hs;obtain ⟨m0,m1,m2,m3,m4,m5,m6,m7⟩:=HB.I.1.cells;unfold af.cells at *
 go_enter func26,ntmps26
 go_wp2_with fail;generalize w.alloc (c_ p.row 31)=W at *;refine (dx p.id 1 6 _).mono ?_;rintro e w9 ⟨rfl,mW⟩;rw [mW];clear mW w9;cases h1:cv p.id 1 6
 ·have hz:True:=trivial
  have HN:Hid (bK p.pure=false):=dL fun hr=>by have:=((jk p).1 hr).1; rw [h1] at this; cases this
  clear h1;exact ZbX
 have H1:Hid (cv p.id 1 6=true):=h1;clear h1;go_wp2_with fail;refine (dx p.next 1 1000000000 _).mono ?_;rintro e w9 ⟨rfl,mW⟩;rw [mW];clear mW w9;cases h2:cv p.next 1 1000000000
 ·have hz:True:=trivial
  have HN:Hid (bK p.pure=false):=dL fun hr=>by have:=((jk p).1 hr).2.1; rw [h2] at this; cases this
  clear h2;exact ZbX
 have H2:Hid (cv p.next 1 1000000000=true):=h2;clear h2;by_cases h3:(6:Int) < (p.L8.length:Int)
 ·have hz:True:=trivial
  have HN:Hid (bK p.pure=false):=dL fun hr=>by have:=((jk p).1 hr).2.2.1; omega
  exact ZbX
 have H3:Hid (p.L8.length≤6):=by show p.L8.length≤6; omega
 go_wp2_with fail;refine (zI p W fl.I.1 HB.I.2.1).mono ?_;rintro e W1 ⟨rfl,hb1⟩;have fQ:Hid (av W1 w.heap.size p∧af.At W1 p∧B_ w.heap.size w W1):=⟨HB.I.1.below hb1,HB.I.2.1.below hb1,HB.I.2.2.trans (hb1.mono HB.I.2.2.size)⟩
 clear hb1 m0 m1 m2 m3 m4 m5 m6 m7 HB;cases h4:bv p
 ·have hz:True:=trivial
  have HN:Hid (bK p.pure=false):=dL fun hr=>by have:=((jk p).1 hr).2.2.2.1; rw [h4] at this; cases this
  clear h4;go_wp2;go_ret;exact ⟨al HN.I.symm,fQ.I.2.2⟩
 have H4:Hid (bv p=true):=h4;clear h4;go_wp2_with fail
 go_loopw [3] (fun i wr=> ∃ k:Nat,k≤p.L8.length∧i=i_ j_ k∧Hid (aw (fun x:ao=>x.id) (oQ p) 0 (p.L8.take k)=true∧lR (p.L8.take k)∧B_ W1.heap.size W1 wr)) (fun i _=>p.L8.length - (intOf i).toNat)
 case atStart=>exact ⟨0,Ky _,rfl,⟨rfl,List.Pairwise.nil,Kp _ _⟩⟩
 case round=>
  obtain ⟨k,hk,rfl,HA⟩:=hrel;have cy:Hid (av wr w.heap.size p∧af.At wr p∧B_ w.heap.size w wr):=⟨fQ.I.1.below HA.I.2.2,fQ.I.2.1.below HA.I.2.2,fQ.I.2.2.trans (HA.I.2.2.mono fQ.I.2.2.size)⟩
  obtain ⟨m0,m1,m2,m3,m4,m5,m6,m7⟩:=cy.I.1.cells;by_cases hlt:k < p.L8.length
  ·have i0:(0:Int)≤(k:Int):=by omega
   have i1:(k:Int) < (p.L8.length:Int):=by omega
   obtain ⟨x,hx⟩: ∃ x,p.L8[k]? =o_ x:=⟨_,Kz hlt⟩
   have hmem:=KA hx;obtain ⟨gs,ha,hat⟩:=cn cy.I.2.1.1 hx;have mR:Hid (p.aN=o_ ⟨gs,0,n_⟩∧p.L8[k]? =o_ x):=⟨ha,hx⟩
   have HXS:Hid (x.dX∧Row wr x.aY (fk.flat x.prog)):=⟨fl.I.2 x hmem,lA cy.I.2.1.1 hx⟩
   have Jf:Hid (1≤p.next∧p.next≤1000000000):=bz.1 H2.I;rw [ha] at m2;clear hx hmem ha hat;go_wp2_with fail;cases td:bh p.pure x.toaD
   ·have HPO:Hid (bh p.pure x.toaD=false):=td
    have HN:Hid (bK p.pure=false):=dL fun hr=>by have h9:=((jk p).1 hr).2.2.2.2.1; rw [bS mR.I.2 (fun hh=>by have h8:=HPO.I; rw [rG,hh.1,hh.2.2] at h8; cases h8)] at h9; cases h9
    clear td m0 m1 m2 m3 m4 m5 m6 m7;refine aT (zX w p x gs k (fun _=>True)) ZcS (kQ mR.I.1 mR.I.2 ⟨cy.I.1,cy.I.2.1,cy.I.2.2.drew⟩ trivial) ?_
    iterate 6 (refine PI ?_ (hy:=fun w0 hS0=>by obtain ⟨⟨⟨q0,q1,q2,q3,q4,q5,q6,q7⟩,⟨x0,x1,x2,x3,x4,x5,x6,x7,x8,x9,x10,Dm⟩,hpre⟩,hH⟩:=hS0; go_simp; try with_reducible rfl))
    refine cl (b_ false) 42 #[a_ (p.L6 gs),a_ x.row] ?_ ?_ ?_
    ·intro w0 hS0
     obtain ⟨⟨⟨q0,q1,q2,q3,q4,q5,q6,q7⟩,⟨x0,x1,x2,x3,x4,x5,x6,x7,x8,x9,x10,Dm⟩,hpre⟩,hH⟩:=hS0
     exact Fd
    ·intro w0 hS0
     have hq:=hS0.2.I;rw [show (Value.agg (p.L6 gs))=a_ p.cells by unfold af.cells; rw [mR.I.1]];refine (lk p x w0 fl.I.1.short HXS.I.1 Jf.I.1 Jf.I.2 hq.2.1 (lA hq.2.1.1 mR.I.2)).mono ?_;rintro e w2 ⟨rfl,hb2⟩;exact ⟨al HPO.I,kQ mR.I.1 mR.I.2 ⟨hq.1.below hb2,hq.2.1.below hb2,hq.2.2.trans (hb2.mono hq.2.2.size)⟩ trivial⟩
    simp only [pt,sb,s0,s1]
    iterate 2 (refine PI ?_ (hy:=fun w0 hS0=>by obtain ⟨⟨⟨q0,q1,q2,q3,q4,q5,q6,q7⟩,⟨x0,x1,x2,x3,x4,x5,x6,x7,x8,x9,x10,Dm⟩,hpre⟩,hH⟩:=hS0; go_simp; try with_reducible rfl))
    iterate 18 (refine nl ?_; simp only [pt,sb,s0,s1])
    (refine PI ?_ (hy:=fun w0 hS0=>by obtain ⟨⟨⟨q0,q1,q2,q3,q4,q5,q6,q7⟩,⟨x0,x1,x2,x3,x4,x5,x6,x7,x8,x9,x10,Dm⟩,hpre⟩,hH⟩:=hS0; go_simp; try with_reducible rfl))
    refine bk ZcS ?_ _;intro w1 cm;have HZ:Hid (B_ w.heap.size w w1):=cm.2.I.2.2;clear cm;go_wp2;go_ret;exact ⟨al HN.I.symm,HZ.I⟩
   have HPO:Hid (bh p.pure x.toaD=true):=td;have lN:Hid (cv x.id 1 1000=true∧oQ p x=true):=by have h8:=HPO.I; rw [rG,J7] at h8; exact h8
   clear td;by_cases hk0:k=0
   ·have dk:decide (0 < k)=false:=decide_eq_false (by omega)
    have j6:Hid (bW (fun x:ao=>x.id) 0 (p.L8.take k) < x.id):=by show _ < _; rw [hk0,lx]; have:=bz.1 lN.I.1; omega
    clear hk0 m0 m1 m2 m3 m4 m5 m6 m7;refine aT (fun w'=>zX w p x gs k (fun _=>True) w'∧Hid (B_ wr.heap.size wr w')) ZcS ⟨kQ mR.I.1 mR.I.2 ⟨cy.I.1,cy.I.2.1,cy.I.2.2.drew⟩ trivial,(Kp _ _).drew⟩ ?_
    iterate 6 (refine PI ?_ (hy:=fun w0 hS0=>by obtain ⟨⟨⟨⟨q0,q1,q2,q3,q4,q5,q6,q7⟩,⟨x0,x1,x2,x3,x4,x5,x6,x7,x8,x9,x10,Dm⟩,hpre⟩,hH⟩,hH2⟩:=hS0; go_simp; try with_reducible rfl))
    refine cl (b_ true) 42 #[a_ (p.L6 gs),a_ x.row] ?_ ?_ ?_
    ·intro w0 hS0
     obtain ⟨⟨⟨⟨q0,q1,q2,q3,q4,q5,q6,q7⟩,⟨x0,x1,x2,x3,x4,x5,x6,x7,x8,x9,x10,Dm⟩,hpre⟩,hH⟩,hH2⟩:=hS0
     exact Fd
    ·intro w0 hS0
     have hq:=hS0.1.2.I;rw [show (Value.agg (p.L6 gs))=a_ p.cells by unfold af.cells; rw [mR.I.1]];refine (lk p x w0 fl.I.1.short HXS.I.1 Jf.I.1 Jf.I.2 hq.2.1 (lA hq.2.1.1 mR.I.2)).mono ?_;rintro e w2 ⟨rfl,hb2⟩;exact ⟨al HPO.I,kQ mR.I.1 mR.I.2 ⟨hq.1.below hb2,hq.2.1.below hb2,hq.2.2.trans (hb2.mono hq.2.2.size)⟩ trivial,hS0.2.I.trans (hb2.mono hS0.2.I.size)⟩
    simp only [pt,sb,s0,s1]
    iterate 5 (refine PI ?_ (hy:=fun w0 hS0=>by obtain ⟨⟨⟨⟨q0,q1,q2,q3,q4,q5,q6,q7⟩,⟨x0,x1,x2,x3,x4,x5,x6,x7,x8,x9,x10,Dm⟩,hpre⟩,hH⟩,hH2⟩:=hS0; go_simp; try with_reducible rfl))
    iterate 14 (refine nl ?_; simp only [pt,sb,s0,s1])
    iterate 2 (refine PI ?_ (hy:=fun w0 hS0=>by obtain ⟨⟨⟨⟨q0,q1,q2,q3,q4,q5,q6,q7⟩,⟨x0,x1,x2,x3,x4,x5,x6,x7,x8,x9,x10,Dm⟩,hpre⟩,hH⟩,hH2⟩:=hS0; go_simp; try with_reducible rfl))
    refine bk ZcS ?_ _;intro w1 cm;have HZ:Hid (av w1 w.heap.size p∧af.At w1 p∧B_ w.heap.size w w1):=cm.1.2.I;have HZW:Hid (B_ wr.heap.size wr w1):=cm.2.I;clear cm;obtain ⟨z0,z1,z2,z3,z4,z5,z6,z7⟩:=HZ.I.1.cells;go_wp2_with fail;clear z0 z1 z2 z3 z4 z5 z6 z7
    go_loopw [4] (fun i wr=> ∃ n:Nat,n≤k∧i=i_ j_ n∧Hid ((∀ m y,m < n→p.L8[m]? =o_ y→ ¬ (y.RU=x.RU∧0 < x.RU))∧B_ w1.heap.size w1 wr)) (fun i _=>k - (intOf i).toNat)
    case atStart=>exact ⟨0,Ky _,rfl,⟨fun m y hm=>absurd hm (by omega),Kp _ _⟩⟩
    case round=>
     obtain ⟨n,hn,rfl,HI⟩:=hrel
     rename w_=>wi
     have iP:Hid (av wi w.heap.size p∧af.At wi p∧B_ w.heap.size w wi):=⟨HZ.I.1.below HI.I.2,HZ.I.2.1.below HI.I.2,HZ.I.2.2.trans (HI.I.2.mono HZ.I.2.2.size)⟩
     obtain ⟨z0,z1,z2,z3,z4,z5,z6,z7⟩:=iP.I.1.cells;rw [mR.I.1] at z2;by_cases hnk:n < k
     ·have j0':(0:Int)≤(n:Int):=by omega
      have j1':(n:Int) < (p.L8.length:Int):=by omega
      have j2':(n:Int) < ((k:Nat):Int):=by omega
      exact g_
     ·have j2': ¬ (n:Int) < ((k:Nat):Int):=by omega
      have en:n=k:=by omega
      have wg:Hid (lR (p.L8.take (k+1))):=uU mR.I.2 HA.I.2.1 (fun m y hm hy=>HI.I.1 m y (by omega) hy);have HY:Hid (aw (fun x:ao=>x.id) (oQ p) 0 (p.L8.take (k+1))=true):=ed HA.I.1 mR.I.2 lN.I.1 j6.I lN.I.2;clear en;have HE:Hid (B_ W1.heap.size W1 wi):=HA.I.2.2.trans ((HZW.I.trans (HI.I.2.mono HZW.I.size)).mono HA.I.2.2.size);go_wp2;go_roundw
      case rel=>exact ⟨k+1,by omega,by go_num,⟨HY.I,wg.I,HE.I⟩⟩
      case measure=>simp [intOf]; omega
   obtain ⟨j,rfl⟩: ∃ j,k=j+1:=⟨k - 1,by omega⟩
   obtain ⟨y,hy⟩: ∃ y,p.L8[j]? =o_ y:=⟨_,Kz (by omega)⟩
   have j0:(0:Int)≤(j:Int):=by omega
   have j1:(j:Int) < (p.L8.length:Int):=by omega
   have i2:(0:Int)≤(j:Int)+1:=by omega
   have i3:(j:Int)+1 < (p.L8.length:Int):=by omega
   have wk:IntKind.i64.wrap (j:Int)=(j:Int):=by rw [K8]; omega
   have wV:Hid (bW (fun x:ao=>x.id) 0 (p.L8.take (j+1))=y.id∧p.L8[j]? =o_ y):=⟨eG hy 0,hy⟩
   clear hy hk0 m0 m1 m2 m3 m4 m5 m6 m7;by_cases hle:x.id≤y.id
   ·have dp:decide (x.id≤y.id)=true:=decide_eq_true hle
    have HN:Hid (bK p.pure=false):=dL fun hr=>by have h9:=((jk p).1 hr).2.2.2.2.1; rw [bS mR.I.2 (fun hh=>by have h8:=hh.2.1; rw [wV.I.1] at h8; have h8:y.id < x.id:=h8; omega)] at h9; cases h9
    refine aT (fun w'=>zX w p x gs (j+1) (rk gs j y) w'∧Hid (B_ wr.heap.size wr w')) ZcS ⟨kQ mR.I.1 mR.I.2 ⟨cy.I.1,cy.I.2.1,cy.I.2.2.drew⟩ (rh mR.I.1 wV.I.2 cy.I.2.1),(Kp _ _).drew⟩ ?_
    iterate 6 (refine PI ?_ (hy:=fun w0 hS0=>by obtain ⟨⟨⟨⟨q0,q1,q2,q3,q4,q5,q6,q7⟩,⟨x0,x1,x2,x3,x4,x5,x6,x7,x8,x9,x10,Dm⟩,hpre⟩,hH⟩,hH2⟩:=hS0; unfold rk at hpre; go_simp; try with_reducible rfl))
    refine cl (b_ true) 42 #[a_ (p.L6 gs),a_ x.row] ?_ ?_ ?_
    ·exact ZcB
    ·exact FS
    simp only [pt,sb,s0,s1]
    iterate 21 (refine PI ?_ (hy:=fun w0 hS0=>by obtain ⟨⟨⟨⟨q0,q1,q2,q3,q4,q5,q6,q7⟩,⟨x0,x1,x2,x3,x4,x5,x6,x7,x8,x9,x10,Dm⟩,hpre⟩,hH⟩,hH2⟩:=hS0; unfold rk at hpre; go_simp; try with_reducible rfl))
    refine bk ZcS ?_ _;intro w1 cm;have HZ:Hid (B_ w.heap.size w w1):=cm.1.2.I.2.2;clear cm;go_wp2;go_ret;exact ⟨al HN.I.symm,HZ.I⟩
   have dp:decide (x.id≤y.id)=false:=decide_eq_false hle;have j6:Hid (bW (fun x:ao=>x.id) 0 (p.L8.take (j+1)) < x.id):=by show _ < _; rw [wV.I.1]; show y.id < x.id; omega
   clear hle;refine aT (fun w'=>zX w p x gs (j+1) (rk gs j y) w'∧Hid (B_ wr.heap.size wr w')) ZcS ⟨kQ mR.I.1 mR.I.2 ⟨cy.I.1,cy.I.2.1,cy.I.2.2.drew⟩ (rh mR.I.1 wV.I.2 cy.I.2.1),(Kp _ _).drew⟩ ?_
   iterate 6 (refine PI ?_ (hy:=fun w0 hS0=>by obtain ⟨⟨⟨⟨q0,q1,q2,q3,q4,q5,q6,q7⟩,⟨x0,x1,x2,x3,x4,x5,x6,x7,x8,x9,x10,Dm⟩,hpre⟩,hH⟩,hH2⟩:=hS0; unfold rk at hpre; go_simp; try with_reducible rfl))
   refine cl (b_ true) 42 #[a_ (p.L6 gs),a_ x.row] ?_ ?_ ?_
   ·exact ZcB
   ·exact FS
   simp only [pt,sb,s0,s1]
   iterate 21 (refine PI ?_ (hy:=fun w0 hS0=>by obtain ⟨⟨⟨⟨q0,q1,q2,q3,q4,q5,q6,q7⟩,⟨x0,x1,x2,x3,x4,x5,x6,x7,x8,x9,x10,Dm⟩,hpre⟩,hH⟩,hH2⟩:=hS0; unfold rk at hpre; go_simp; try with_reducible rfl))
   refine bk ZcS ?_ _;intro w1 cm;have HZ:Hid (av w1 w.heap.size p∧af.At w1 p∧B_ w.heap.size w w1):=cm.1.2.I;have HZW:Hid (B_ wr.heap.size wr w1):=cm.2.I;clear cm;obtain ⟨z0,z1,z2,z3,z4,z5,z6,z7⟩:=HZ.I.1.cells;go_wp2_with fail;clear z0 z1 z2 z3 z4 z5 z6 z7
   go_loopw [4] (fun i wr=> ∃ n:Nat,n≤(j+1)∧i=i_ j_ n∧Hid ((∀ m y,m < n→p.L8[m]? =o_ y→ ¬ (y.RU=x.RU∧0 < x.RU))∧B_ w1.heap.size w1 wr)) (fun i _=>(j+1) - (intOf i).toNat)
   case atStart=>exact ⟨0,Ky _,rfl,⟨fun m y hm=>absurd hm (by omega),Kp _ _⟩⟩
   case round=>
    obtain ⟨n,hn,rfl,HI⟩:=hrel
    rename w_=>wi
    have iP:Hid (av wi w.heap.size p∧af.At wi p∧B_ w.heap.size w wi):=⟨HZ.I.1.below HI.I.2,HZ.I.2.1.below HI.I.2,HZ.I.2.2.trans (HI.I.2.mono HZ.I.2.2.size)⟩
    obtain ⟨z0,z1,z2,z3,z4,z5,z6,z7⟩:=iP.I.1.cells;rw [mR.I.1] at z2;by_cases hnk:n < (j+1)
    ·have j0':(0:Int)≤(n:Int):=by omega
     have j1':(n:Int) < (p.L8.length:Int):=by omega
     have j2':(n:Int) < (((j+1):Nat):Int):=by omega
     exact g_
    ·have j2': ¬ (n:Int) < (((j+1):Nat):Int):=by omega
     have en:n=(j+1):=by omega
     have wg:Hid (lR (p.L8.take ((j+1)+1))):=uU mR.I.2 HA.I.2.1 (fun m y hm hy=>HI.I.1 m y (by omega) hy);have HY:Hid (aw (fun x:ao=>x.id) (oQ p) 0 (p.L8.take ((j+1)+1))=true):=ed HA.I.1 mR.I.2 lN.I.1 j6.I lN.I.2;clear en;have HE:Hid (B_ W1.heap.size W1 wi):=HA.I.2.2.trans ((HZW.I.trans (HI.I.2.mono HZW.I.size)).mono HA.I.2.2.size);go_wp2;go_roundw
     case rel=>exact ⟨(j+1)+1,by omega,by go_num,⟨HY.I,wg.I,HE.I⟩⟩
     case measure=>simp [intOf]; omega
  ·have i1: ¬ (k:Int) < (p.L8.length:Int):=by omega
   have ek:p.L8.take k=p.L8:=KF (by omega);have HY:Hid (bK p.pure=true):=fP ((jk p).2 ⟨H1.I,H2.I,H3.I,H4.I,by have:=HA.I.1; rwa [ek] at this,by have:=HA.I.2.1; rwa [ek] at this⟩);clear ek;go_wp2;go_ret;exact ⟨al HY.I.symm,cy.I.2.2⟩
end
end Go.Proofs.YtfncpmaefninjaaGreatDoor
