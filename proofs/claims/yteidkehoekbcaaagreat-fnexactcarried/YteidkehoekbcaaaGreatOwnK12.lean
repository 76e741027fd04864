/- What the proof leans on, part 12. -/
import Derived.Test.YteidkehoekbcaaaGreatOwnK9
import Derived.Test.YteidkehoekbcaaaGreatOwnK10
set_option maxRecDepth 100000
set_option maxHeartbeats 8000000
open Array renaming getElem?_eq_some_iff->J2
open Function renaming comp_def->Ls
open Go renaming bodyPost_ret->KT,wp_at_succ->Kd,wp_at_zero->Kc
open Go.Maps renaming keyOf_int_inv->RB
open Go.Proofs.Tryz renaming prog->J3,underlying2->KN
open Go.RowKit.Below renaming refl->Kp
open List renaming getElem?_eq_getElem->Kz,map_map->Lv,mem_append_left->Lz,mem_cons->Kt,mem_cons_of_mem->LB,mem_flatMap->Rt,mem_map->Lr,mem_of_getElem?->KA,nodup_append->Kf,nodup_cons->Lp,not_mem_nil->Ku,take_of_length_le->KF
open Nat renaming le_refl->Ki,le_trans->LG,lt_of_le_of_lt->Q5,lt_of_lt_of_le->Kn,zero_le->Ky
open Option renaming map_eq_some_iff->Kw
open Option.some renaming inj->KC
open Prod.mk renaming injEq->Kx

namespace Go.Proofs.YteidkehoekbcaaaGreat
section
open Go.RowKit Go.Maps
attribute [local go_sem ↓] Kc Kd
def aR:gd ao:=⟨aX,fun x=>x.id,148,234,4,fun x=>x.aY,fun x=>x.bH,fun x=>x.prog.length,fun x=>fk.flat x.prog,fun x a c=> { x with aY:=a,bH:=c },fun _ _ _=>rfl,fun _ _ _=>rfl,fun _ _ _=>rfl,fun _ _ _=>rfl,fun _ _ _=>rfl,fun _ _ _ _ _=>rfl⟩
def aC:gd au:=⟨bQ,fun x=>x.id,160,9,1,fun x=>x.ak,fun x=>x.aq,fun x=>x.Ma.length,fun x=>bT.flat x.Ma,fun x a c=> { x with ak:=a,aq:=c },fun _ _ _=>rfl,fun _ _ _=>rfl,fun _ _ _=>rfl,fun _ _ _=>rfl,fun _ _ _=>rfl,fun _ _ _ _ _=>rfl⟩
def aU:gd aM:=⟨cW,fun x=>x.id,85,9,1,fun x=>x.ak,fun x=>x.aq,fun x=>x.Ma.length,fun x=>bT.flat x.Ma,fun x a c=> { x with ak:=a,aq:=c },fun _ _ _=>rfl,fun _ _ _=>rfl,fun _ _ _=>rfl,fun _ _ _=>rfl,fun _ _ _=>rfl,fun _ _ _ _ _=>rfl⟩
def fY {α:Type} (N:gd α) (w:World) (base:Nat) (l:List (α × Nat)):Prop:= ∀ p∈l,Row w (N.ad p.1) (N.flat p.1)∧N.len p.1≤1048576∧ ∀ g,N.bt p.1=some g→g < base
theorem fY.low {α:Type} {N:gd α} {w w':World} {base:Nat} {l:List (α × Nat)} (h:fY N w base l) (hb:Below base w w'):fY N w' base l:=fun p hp=>
 ⟨(h p hp).1.low (fun q e=>(h p hp).2.2 q.block (by simp [gd.bt,e])) hb,(h p hp).2⟩
theorem D5:(Tryz.prog.info? 234).map (fun i=>(i.zero,i.size,i.bytes))=some (some (.agg #[.int .i64 0,.int .i64 0,.int .i64 0,.string ⟨#[]⟩]),4,40):=by kernel_rfl
theorem zD:(Tryz.prog.info? 9).map (fun i=>(i.zero,i.size,i.bytes))=some (some (.string ⟨#[]⟩),1,16):=by kernel_rfl
theorem FE {l:List dN} : ∀ u∈fk.flat l,u.oneCell'=true:=fun u hu=>by
 obtain ⟨x,_,hx⟩:=Rt.1 hu;simp only [fk,CC,Kt,Ku,or_false] at hx;rcases hx with rfl | rfl | rfl | rfl <;> rfl
theorem yK {l:List ByteArray} : ∀ u∈bT.flat l,u.oneCell'=true:=fun u hu=>by
 obtain ⟨x,_,hx⟩:=Rt.1 hu;simp only [bT,Kt,Ku,or_false] at hx;subst hx;rfl
theorem FR (w:World) (a:Option Addr) (l:List dN) (cap:Nat) (h:Row w a (fk.flat l)) (hl:l.length≤1048576):
  ∃ a' cap' w',(Builtin.append_ #[146,146] 146 #[.slice none 0 0,.slice a l.length cap]).run J3 w= .ok (.slice a' l.length cap') w'∧w'.ownsRow w.heap.size 234 4 (.slice a' l.length cap') l.length (fk.flat l)∧w.grownBy w' none:=by
 obtain ⟨i,hi,e⟩:=Kw.1 D5;simp only [Kx] at e;exact sZ w _ _ 234 i _ 4 40 Tryz.underlying146 hi e.1 e.2.1 e.2.2 rfl (by decide) a l.length cap _ h (fk.dM l) FE hl (by decide)
theorem xF (w:World) (a:Option Addr) (l:List ByteArray) (cap:Nat) (h:Row w a (bT.flat l)) (hl:l.length≤1048576):
  ∃ a' cap' w',(Builtin.append_ #[83,83] 83 #[.slice none 0 0,.slice a l.length cap]).run J3 w= .ok (.slice a' l.length cap') w'∧w'.ownsRow w.heap.size 9 1 (.slice a' l.length cap') l.length (bT.flat l)∧w.grownBy w' none:=by
 obtain ⟨i,hi,e⟩:=Kw.1 zD;simp only [Kx] at e;exact sZ w _ _ 9 i _ 1 16 Tryz.underlying83 hi e.1 e.2.1 e.2.2 rfl (by decide) a l.length cap _ h (bT.dM l) yK hl (by decide)
structure kG {α:Type} (N:gd α) (w0 wr:World) (base b:Nat) (l l':List (α × Nat)):Prop where
 eh:Shelf N.vs N.num N.T wr base b l'
 alike:l'.map (fun p=>(N.set p.1 none 0,p.2))=l.map (fun p=>(N.set p.1 none 0,p.2))
 mine: ∀ p∈l',N.cO wr w0.heap.size p.1
 nodup:(kids N l').Nodup
 os:wr.os=w0.os
 tape:wr.tape=w0.tape
 output:wr.output=w0.output
 size:w0.heap.size≤wr.heap.size
 same: ∀ g,g < w0.heap.size→g∉l.map (·.2)→wr.heap[g]? =w0.heap[g]?
theorem fS.owned {α:Type} {N:gd α} {w0 wr:World} {base b:Nat} {l l':List (α × Nat)} {left:Lit→Bool} (h:fS N w0 wr base b l l' left) (hd: ∀ kl,left kl=false):kG N w0 wr base b l l':=
 ⟨h.eh,h.alike,fun p hp=>h.own p hp (hd _),h.nodup hd,h.os,h.tape,h.output,h.size,h.same⟩
theorem kG.below {α:Type} {N:gd α} {w0 wr:World} {base b:Nat} {l l':List (α × Nat)} (h:kG N w0 wr base b l l') (hb:base≤w0.heap.size) (hl: ∀ g∈l.map (·.2),base≤g):Below base w0 wr:=
 ⟨h.os,h.tape,h.output,h.size,fun g hg=>h.same g (by omega) (fun hm=>by have:=hl g hm; omega)⟩
structure mv (w:World) (base o:Nat) (q:ol) (lp:List (ao × Nat)) (lf:List (au × Nat)) (lq:List (aM × Nat)):Prop where
 opn:fa w o q
 L8:Shelf aX (fun x:ao=>x.id) 148 w base q.bp lp
 ae:Shelf bQ (fun x:au=>x.id) 160 w base q.bf lf
 ai:Shelf cW (fun x:aM=>x.id) 85 w base q.bq lq
 nodup:(o :: ((q.bp :: lp.map (·.2)) ++ ((q.bf :: lf.map (·.2)) ++ (q.bq :: lq.map (·.2))))).Nodup
theorem mv.EK {w w':World} {base o:Nat} {q:ol} {lp l':List (ao × Nat)} {lf:List (au × Nat)} {lq:List (aM × Nat)} (h:mv w base o q lp lf lq) (ho:kG aR w w' base q.bp lp l'):mv w' base o q l' lf lq:=by
 have hbl:l'.map (·.2)=lp.map (·.2):=by
  have:=congrArg (List.map (·.2)) ho.alike
  simp only [Lv,Ls] at this;exact this
 have hn:=h.nodup;rw [Lp,Kf] at hn;obtain ⟨h1,h2,h3,h4⟩:=hn;have hlp: ∀ g,g∈(q.bf :: lf.map (·.2)) ++ (q.bq :: lq.map (·.2))→g∉lp.map (·.2):=fun g hg hm=>h4 g (LB _ hm) g hg rfl
 refine ⟨(ho.same o (J2.1 h.opn).1 (fun hm=>h1 (by simp [Lr.1 hm]))).trans h.opn,ho.eh,h.ae.same fun g hg=>ho.same g (h.ae.lt g hg) (hlp g (Lz _ hg)),h.ai.same fun g hg=>ho.same g (h.ai.lt g hg) (hlp g (List.mem_append_right _ hg)),?_⟩;rw [hbl];exact h.nodup
theorem mv.Af {w w':World} {base o:Nat} {q:ol} {lp:List (ao × Nat)} {lf l':List (au × Nat)} {lq:List (aM × Nat)} (h:mv w base o q lp lf lq) (ho:kG aC w w' base q.bf lf l'):mv w' base o q lp l' lq:=by
 have hbl:l'.map (·.2)=lf.map (·.2):=by
  have:=congrArg (List.map (·.2)) ho.alike
  simp only [Lv,Ls] at this;exact this
 have hn:=h.nodup;rw [Lp,Kf,Kf] at hn;obtain ⟨h1,h2,⟨h3,h5,h6⟩,h4⟩:=hn;refine ⟨(ho.same o (J2.1 h.opn).1 (fun hm=>h1 (by simp [Lr.1 hm]))).trans h.opn,h.L8.same fun g hg=>ho.same g (h.L8.lt g hg) (fun hm=>h4 g hg g (Lz _ (LB _ hm)) rfl),ho.eh,h.ai.same fun g hg=>ho.same g (h.ai.lt g hg) (fun hm=>h6 g (LB _ hm) g hg rfl),?_⟩;rw [hbl];exact h.nodup
theorem wO (o base:Nat) (q:ol) (lp:List (ao × Nat)) (lf:List (au × Nat)) (lq:List (aM × Nat)) (w:World) (h:mv w base o q lp lf lq) (hb:base≤w.heap.size) (h1:fY aR w base lp) (h2:fY aC w base lf) (h3:fY aU w base lq):
  Calls J3 183 #[.pointer (some ⟨o,0,none⟩)] w fun e w'=>e= .returned (.tuple #[])∧ ∃ w1 w2 l0 l1 l2,kG aR w w1 base q.bp lp l0∧kG aC w1 w2 base q.bf lf l1∧kG aU w2 w' base q.bq lq l2:=by
 have HT:Hid (mv w base o q lp lf lq):=h;have Fy:Hid (base≤w.heap.size):=hb;have Ia:Hid (∀ g∈lp.map (·.2),base≤g):=fun g hg=>h.L8.low g (LB _ hg)
 have HLP:Hid (fY aR w base lp):=h1;have I8:Hid (fY aC w base lf):=h2;have ID:Hid (fY aU w base lq):=h3;clear h hb h1 h2 h3
 go_enter Tryz.func183,Tryz.ntmps183
 have c0:w.cell? ⟨o,3,none⟩=some (.map (some q.bp)):=HT.I.opn.cell 3;have hown:=HT.I.L8.map.1;go_wp2_with (at_range; refine wpList_range_own _ rfl _ 161 rfl 2 244 jb Tryz.underlying161 od q.bp _ _ rfl hown ?_; intro w1 BW CT hs1);have HS:Hid (fS aR w w1 base q.bp lp lp (Maps.has (gA (RW aR.num lp)))):=fS.start HT.I.L8 CT;have En:Hid (∀ g∈q.bp :: lp.map (·.2),g < w.heap.size):=HT.I.L8.lt;clear hown c0 CT
 go_frame
 go_loopw [3] (fun _ tD=> ∃ (left:Lit→Bool) (cnt:Nat) (l':List (ao × Nat)),tD.ranges J3 2 od q.bp w.heap.size (RW (fun x:ao=>x.id) lp).length (gA (RW (fun x:ao=>x.id) lp)) left cnt∧Hid (fS aR w tD base q.bp lp l' left)) (fun _ tD=>tD.rangeLeft q.bp w.heap.size)
 case atStart=>exact ⟨_,_,lp,BW,HS.I⟩
 case round=>
  rename World=>tD
  clear HS BW hs1 w1;obtain ⟨left,cnt,l0,hrg,HO⟩:=hrel;go_wp2_with (at_next; refine wpList_next_ranges _ rfl _ rfl 2 jb od (Value.int .i64) dt (fun key kl hk=>by obtain ⟨x,rfl,_⟩:=RB KN hk; exact ⟨x,rfl⟩) (fun v y hv=>by obtain ⟨g,rfl,_⟩:=oI hv; exact ⟨g,rfl⟩) q.bp w.heap.size _ _ _ _ rfl hrg ?_ ?_)
  ·intro hc0 hl0
   have VH:Hid (kG aR w tD base q.bp lp l0):=HO.I.owned hl0;clear hrg HO hc0 hl0 En left cnt;have HTN:Hid (mv tD base o q l0 lf lq):=HT.I.EK VH.I;clear HT;have HT:Hid (mv tD base o q l0 lf lq):=HTN.I;have HLI:Hid (fY aC tD base lf∧fY aU tD base lq):=⟨I8.I.low (VH.I.below Fy.I Ia.I),ID.I.low (VH.I.below Fy.I Ia.I)⟩
   have HBN:Hid (base≤tD.heap.size):=LG Fy.I VH.I.size;clear HTN Fy Ia HLP;have Fy:Hid (base≤tD.heap.size):=HBN.I;have Ia:Hid (∀ g∈lf.map (·.2),base≤g):=fun g hg=>HT.I.ae.low g (LB _ hg)
   clear I8 ID;have I8:Hid (fY aC tD base lf):=HLI.I.1;have ID:Hid (fY aU tD base lq):=HLI.I.2;clear HLI HBN;have c1:tD.cell? ⟨o,11,none⟩=some (.map (some q.bf)):=HT.I.opn.cell 11;have hown:=HT.I.ae.map.1;go_wp2_with (at_range; refine wpList_range_own _ rfl _ 173 rfl 2 256 jb Tryz.underlying173 od q.bf _ _ rfl hown ?_; intro w1 BW CT hs1);have HS:Hid (fS aC tD w1 base q.bf lf lf (Maps.has (gA (RW aC.num lf)))):=fS.start HT.I.ae CT;have Jt:Hid (∀ g∈q.bf :: lf.map (·.2),g < tD.heap.size):=HT.I.ae.lt;clear hown c1 CT
   go_frame
   go_loopw [5] (fun _ wr2=> ∃ (left:Lit→Bool) (cnt:Nat) (l':List (au × Nat)),wr2.ranges J3 2 od q.bf tD.heap.size (RW (fun x:au=>x.id) lf).length (gA (RW (fun x:au=>x.id) lf)) left cnt∧Hid (fS aC tD wr2 base q.bf lf l' left)) (fun _ wr2=>wr2.rangeLeft q.bf tD.heap.size)
   case atStart=>exact ⟨_,_,lf,BW,HS.I⟩
   case round=>
    rename World=>wr2
    clear HS BW hs1 w1;obtain ⟨left,cnt,l1,hrg,HO⟩:=hrel;go_wp2_with (at_next; refine wpList_next_ranges _ rfl _ rfl 2 jb od (Value.int .i64) dt (fun key kl hk=>by obtain ⟨x,rfl,_⟩:=RB KN hk; exact ⟨x,rfl⟩) (fun v y hv=>by obtain ⟨g,rfl,_⟩:=oI hv; exact ⟨g,rfl⟩) q.bf tD.heap.size _ _ _ _ rfl hrg ?_ ?_)
    ·intro hc0 hl0
     have HD1:Hid (kG aC tD wr2 base q.bf lf l1):=HO.I.owned hl0;clear hrg HO hc0 hl0 Jt left cnt;have HTN:Hid (mv wr2 base o q l0 l1 lq):=HT.I.Af HD1.I;clear HT;have HT:Hid (mv wr2 base o q l0 l1 lq):=HTN.I;have HLI:Hid (fY aU wr2 base lq):=ID.I.low (HD1.I.below Fy.I Ia.I);have HBN:Hid (base≤wr2.heap.size):=LG Fy.I HD1.I.size;clear HTN Fy Ia I8;have Fy:Hid (base≤wr2.heap.size):=HBN.I;have Ia:Hid (∀ g∈lq.map (·.2),base≤g):=fun g hg=>HT.I.ai.low g (LB _ hg)
     clear ID;have ID:Hid (fY aU wr2 base lq):=HLI.I;clear HLI HBN;have c2:wr2.cell? ⟨o,13,none⟩=some (.map (some q.bq)):=HT.I.opn.cell 13;have hown:=HT.I.ai.map.1;go_wp2_with (at_range; refine wpList_range_own _ rfl _ 176 rfl 2 203 jb Tryz.underlying176 od q.bq _ _ rfl hown ?_; intro w1 BW CT hs1);have HS:Hid (fS aU wr2 w1 base q.bq lq lq (Maps.has (gA (RW aU.num lq)))):=fS.start HT.I.ai CT;have HL2:Hid (∀ g∈q.bq :: lq.map (·.2),g < wr2.heap.size):=HT.I.ai.lt;clear hown c2 CT
     go_frame
     go_loopw [7] (fun _ wr3=> ∃ (left:Lit→Bool) (cnt:Nat) (l':List (aM × Nat)),wr3.ranges J3 2 od q.bq wr2.heap.size (RW (fun x:aM=>x.id) lq).length (gA (RW (fun x:aM=>x.id) lq)) left cnt∧Hid (fS aU wr2 wr3 base q.bq lq l' left)) (fun _ wr3=>wr3.rangeLeft q.bq wr2.heap.size)
     case atStart=>exact ⟨_,_,lq,BW,HS.I⟩
     case round=>
      rename World=>wr3
      clear HS BW hs1 w1;obtain ⟨left,cnt,l2,hrg,HO⟩:=hrel;go_wp2_with (at_next; refine wpList_next_ranges _ rfl _ rfl 2 jb od (Value.int .i64) dt (fun key kl hk=>by obtain ⟨x,rfl,_⟩:=RB KN hk; exact ⟨x,rfl⟩) (fun v y hv=>by obtain ⟨g,rfl,_⟩:=oI hv; exact ⟨g,rfl⟩) q.bq wr2.heap.size _ _ _ _ rfl hrg ?_ ?_)
      ·intro hc0 hl0
       have HD2:Hid (kG aU wr2 wr3 base q.bq lq l2):=HO.I.owned hl0;clear hrg HO hc0 hl0 HL2 left cnt;go_wp2
       go_end0
       exact ⟨rfl,tD,wr2,l0,l1,l2,VH.I,HD1.I,HD2.I⟩
      ·intro x c kl y1 y2 w2 cnt2 hkey hlk hv hat hrg2 oX rx oE hen
       obtain ⟨p,hp,rfl,rfl,rfl⟩:=HO.I.pick hkey hv hat;have hpl:p.2∈lq.map (·.2):=by rw [← HO.I.Mc]; exact Lr.2 ⟨p,hp,rfl⟩
       have td:=HO.I.old p hp hlk;have hpw:=HL2.I p.2 (LB _ hpl);have lD:w2.heap[p.2]? =some (.cells (cW p.1) 85 (0,0)):=(rx.block p.2 (Kn hpw HO.I.size) (fun e=>by have:=KC e; omega)).trans (HO.I.eh.box p hp);have hrow:Row w2 p.1.ak (bT.flat p.1.Ma):=(ID.I p td).1.same fun g e=>by
        have hgb:g < base:=(ID.I p td).2.2 g (by show (p.1.ak).map (·.block)=some g; rw [show p.1.ak=some ⟨g,0,none⟩ from e]; rfl);have hb0:=Fy.I;refine (rx.block g (by have:=HO.I.size; omega) (fun e=>by have:=KC e; omega)).trans (HO.I.same g (by omega) (fun hm=>by have:=Ia.I g hm; omega))
       obtain ⟨a3,UY,w3,hap,sY,hg3⟩:=xF w2 p.1.ak p.1.Ma p.1.aq hrow (ID.I p td).2.1;have cc:w2.cell? ⟨p.2,4,none⟩=some (.slice p.1.ak p.1.Ma.length p.1.aq):=by simp [World.cell?,lD,cW]
       have oG:=(hg3.block p.2 (J2.1 lD).1 (by simp)).trans lD;have cc3:w3.cell? ⟨p.2,4,none⟩=some (.slice p.1.ak p.1.Ma.length p.1.aq):=by simp [World.cell?,oG,cW]
       have cf3:w3.frozen? ⟨p.2,4,none⟩=false:=by simp [World.frozen?,oG]
       have HN:=HO.I.ju (i:=4) hrg rx hrg2 HL2.I (Ki _) hp sY hg3 rfl;have Hb:Hid (_∧_):=HN;have j6:Hid (cnt2 < cnt∧wr3.rangeLeft q.bq wr2.heap.size=cnt):=⟨oX,hrg.left_eq⟩
       simp only [dt] at hen;clear HN hrg hrg2 rx oE hkey hlk hv hat oX hpl td hpw lD oG hrow sY hg3;unfold dt;go_wp2_with (at_builtin; refine br _ rfl _ _ 83 rfl _ _ _ _ rfl rfl hap ?_; clear hap);go_roundw
       case rel=>exact ⟨_,_,_,Hb.I.2,Hb.I.1⟩
       case measure=>have h5:=Hb.I.2.left_eq; have h6:=j6.I; rw [h6.2]; exact Q5 (Nat.le_of_eq h5) h6.1
    ·intro x c kl y1 y2 w2 cnt2 hkey hlk hv hat hrg2 oX rx oE hen
     obtain ⟨p,hp,rfl,rfl,rfl⟩:=HO.I.pick hkey hv hat;have hpl:p.2∈lf.map (·.2):=by rw [← HO.I.Mc]; exact Lr.2 ⟨p,hp,rfl⟩
     have td:=HO.I.old p hp hlk;have hpw:=Jt.I p.2 (LB _ hpl);have lD:w2.heap[p.2]? =some (.cells (bQ p.1) 160 (0,0)):=(rx.block p.2 (Kn hpw HO.I.size) (fun e=>by have:=KC e; omega)).trans (HO.I.eh.box p hp);have hrow:Row w2 p.1.ak (bT.flat p.1.Ma):=(I8.I p td).1.same fun g e=>by
      have hgb:g < base:=(I8.I p td).2.2 g (by show (p.1.ak).map (·.block)=some g; rw [show p.1.ak=some ⟨g,0,none⟩ from e]; rfl);have hb0:=Fy.I;refine (rx.block g (by have:=HO.I.size; omega) (fun e=>by have:=KC e; omega)).trans (HO.I.same g (by omega) (fun hm=>by have:=Ia.I g hm; omega))
     obtain ⟨a3,UY,w3,hap,sY,hg3⟩:=xF w2 p.1.ak p.1.Ma p.1.aq hrow (I8.I p td).2.1;have cc:w2.cell? ⟨p.2,2,none⟩=some (.slice p.1.ak p.1.Ma.length p.1.aq):=by simp [World.cell?,lD,bQ]
     have oG:=(hg3.block p.2 (J2.1 lD).1 (by simp)).trans lD;have cc3:w3.cell? ⟨p.2,2,none⟩=some (.slice p.1.ak p.1.Ma.length p.1.aq):=by simp [World.cell?,oG,bQ]
     have cf3:w3.frozen? ⟨p.2,2,none⟩=false:=by simp [World.frozen?,oG]
     have HN:=HO.I.ju (i:=2) hrg rx hrg2 Jt.I (Ki _) hp sY hg3 rfl;have Hb:Hid (_∧_):=HN;have j6:Hid (cnt2 < cnt∧wr2.rangeLeft q.bf tD.heap.size=cnt):=⟨oX,hrg.left_eq⟩
     simp only [dt] at hen;clear HN hrg hrg2 rx oE hkey hlk hv hat oX hpl td hpw lD oG hrow sY hg3;unfold dt;go_wp2_with (at_builtin; refine br _ rfl _ _ 83 rfl _ _ _ _ rfl rfl hap ?_; clear hap);go_roundw
     case rel=>exact ⟨_,_,_,Hb.I.2,Hb.I.1⟩
     case measure=>have h5:=Hb.I.2.left_eq; have h6:=j6.I; rw [h6.2]; exact Q5 (Nat.le_of_eq h5) h6.1
  ·intro x c kl y1 y2 w2 cnt2 hkey hlk hv hat hrg2 oX rx oE hen
   obtain ⟨p,hp,rfl,rfl,rfl⟩:=HO.I.pick hkey hv hat;have hpl:p.2∈lp.map (·.2):=by rw [← HO.I.Mc]; exact Lr.2 ⟨p,hp,rfl⟩
   have td:=HO.I.old p hp hlk;have hpw:=En.I p.2 (LB _ hpl);have lD:w2.heap[p.2]? =some (.cells (aX p.1) 148 (0,0)):=(rx.block p.2 (Kn hpw HO.I.size) (fun e=>by have:=KC e; omega)).trans (HO.I.eh.box p hp);have hrow:Row w2 p.1.aY (fk.flat p.1.prog):=(HLP.I p td).1.same fun g e=>by
    have hgb:g < base:=(HLP.I p td).2.2 g (by show (p.1.aY).map (·.block)=some g; rw [show p.1.aY=some ⟨g,0,none⟩ from e]; rfl);have hb0:=Fy.I;refine (rx.block g (by have:=HO.I.size; omega) (fun e=>by have:=KC e; omega)).trans (HO.I.same g (by omega) (fun hm=>by have:=Ia.I g hm; omega))
   obtain ⟨a3,UY,w3,hap,sY,hg3⟩:=FR w2 p.1.aY p.1.prog p.1.bH hrow (HLP.I p td).2.1;have cc:w2.cell? ⟨p.2,2,none⟩=some (.slice p.1.aY p.1.prog.length p.1.bH):=by simp [World.cell?,lD,aX]
   have oG:=(hg3.block p.2 (J2.1 lD).1 (by simp)).trans lD;have cc3:w3.cell? ⟨p.2,2,none⟩=some (.slice p.1.aY p.1.prog.length p.1.bH):=by simp [World.cell?,oG,aX]
   have cf3:w3.frozen? ⟨p.2,2,none⟩=false:=by simp [World.frozen?,oG]
   have HN:=HO.I.ju (i:=2) hrg rx hrg2 En.I (Ki _) hp sY hg3 rfl;have Hb:Hid (_∧_):=HN;have j6:Hid (cnt2 < cnt∧tD.rangeLeft q.bp w.heap.size=cnt):=⟨oX,hrg.left_eq⟩
   simp only [dt] at hen;clear HN hrg hrg2 rx oE hkey hlk hv hat oX hpl td hpw lD oG hrow sY hg3;unfold dt;go_wp2_with (at_builtin; refine br _ rfl _ _ 146 rfl _ _ _ _ rfl rfl hap ?_; clear hap);go_roundw
   case rel=>exact ⟨_,_,_,Hb.I.2,Hb.I.1⟩
   case measure=>have h5:=Hb.I.2.left_eq; have h6:=j6.I; rw [h6.2]; exact Q5 (Nat.le_of_eq h5) h6.1
end
section
open Go.RowKit
attribute [local go_sem ↓] Kc Kd
def Ho (w:World) (Me:Int) (list:List ao) (k:Nat) (wr:World):Prop:=
 ∃ l:List (ao × Nat),l.map (·.1)=list.take k∧eS aX (fun x:ao=>x.id) 148 163 w wr Me l∧aw (fun x:ao=>x.id) (fun x:ao=>cH x.toaD) 0 (list.take k)=true∧(k:Int)≤max Me 0
theorem tw (a:Option Addr) (list:List ao) (cap:Nat) (Me:Int) (w:World) (hl:list.length≤1048576) (h:bg.bU w a list) (hf: ∀ x∈list,eL w x) (hw: ∀ x∈list,(Lit.int .i64 x.id).wf=true):
  Calls J3 175 #[.slice a list.length cap,.int .i64 Me] w fun e w'=>jN aX (fun x:ao=>x.id) 148 w Me (aw (fun x:ao=>x.id) (fun x:ao=>cH x.toaD) 0 list && decide ((list.length:Int)≤max Me 0)) list e w':=by
 have hmk:=run_makeMap (P:=J3) 161;have hmn:=ob;have H0:Hid (eS aX (fun x:ao=>x.id) 148 163 w (((w.alloc (.cells #[.int .i64 0,.map none] 163)).alloc (.map #[] 0)).alloc (.cells #[.int .i64 Me,.map (some (w.heap.size+1))] 163)) Me []):=eS.start 163 w Me;have HL:Hid (bg.bU w a list∧(∀ x∈list,eL w x)∧ ∀ x∈list,(Lit.int .i64 x.id).wf=true):=⟨h,hf,hw⟩
 clear h hf hw
 go_enter Tryz.func175,Tryz.ntmps175
 go_wp2_with fail
 go_loopw [7,15] (fun last i wr=> ∃ k:Nat,k≤list.length∧i= .int .i64 k∧last= .int .i64 (bW (fun x:ao=>x.id) 0 (list.take k))∧Hid (Ho w Me list k wr)) (fun _ i _=>list.length - (intOf i).toNat)
 case atStart=>exact ⟨0,Ky _,rfl,rfl,⟨[],by simp,H0.I,rfl,by simp; omega⟩⟩
 case round=>
  clear H0 hmk;obtain ⟨k,hk,rfl,rfl,HA⟩:=hrel;obtain ⟨l,hlm,hin,oC,hkm⟩:=HA.I;have HT:Hid (l.map (·.1)=list.take k∧aw (fun x:ao=>x.id) (fun x:ao=>cH x.toaD) 0 (list.take k)=true∧(k:Int)≤max Me 0):=⟨hlm,oC,hkm⟩
  have HI:Hid (eS aX (fun x:ao=>x.id) 148 163 w wr Me l):=hin;clear HA hlm hin oC hkm;by_cases hlt:k < list.length
  ·have i0:(0:Int)≤(k:Int):=by omega
   have i1:(k:Int) < (list.length:Int):=by omega
   obtain ⟨x,hx⟩: ∃ x,list[k]? =some x:=⟨_,Kz hlt⟩
   have hmem:=KA hx;have HX:Hid (list[k]? =some x):=hx;have HF:Hid (eL w x∧(Lit.int .i64 x.id).wf=true):=⟨HL.I.2.1 x hmem,HL.I.2.2 x hmem⟩
   obtain ⟨gs,ha,hat⟩:=cn (HL.I.1.below HI.I.cd) hx;obtain ⟨c0,c1,c2,c3,c4,c5,c6,c7,c8,c9,qF,pe⟩:=hat;subst ha;clear hx hmem;go_wp2_with fail;refine (iK x _).mono ?_;rintro e w2 ⟨rfl,hb2⟩;have jA:Hid (eS aX (fun x:ao=>x.id) 148 163 w w2 Me l):=(HI.I.below ((Kp _ wr).alloc (Ki _) (.cells x.row 148))).below hb2;have HB:Hid (w2.heap[wr.heap.size]? =some (.cells (aX x) 148 (0,0))):=(hb2.block _ (by simp)).trans (heap_alloc_new _ _);have HZ:Hid (w.heap.size+1 < wr.heap.size):=by show w.heap.size+1 < wr.heap.size; have:=(J2.1 HI.I.var).1; omega
   clear hb2 HI c0 c1 c2 c3 c4 c5 c6 c7 c8 c9 qF pe;obtain ⟨d0,d1,d2,d3,d4,d5,d6,d7,d8,d9,tH,tS⟩:=bo HB.I;obtain ⟨r0,r1,v0,v1,z0,z1⟩:=jA.I.cells;by_cases hle:x.id≤bW (fun x:ao=>x.id) 0 (list.take k)
   ·have HN:Hid ((aw (fun x:ao=>x.id) (fun x:ao=>cH x.toaD) 0 list && decide ((list.length:Int)≤max Me 0))=false):=by
     show _=false
     rw [bS HX.I (fun hh=>absurd hh.2.1 (by show ¬ bW (fun x:ao=>x.id) 0 (list.take k) < x.id; omega))]; rfl
    go_wp2;refine KT (v:= .tuple #[.agg #[.int .i64 0,.map none],.bool false]) (by simp [results,Tryz.results175,go_sem, *]) rfl ?_;exact ⟨(jA.I.lu _ _).2,.inl ⟨HN.I,rfl⟩⟩
   have j6:Hid (bW (fun x:ao=>x.id) 0 (list.take k) < x.id):=by show _ < _; omega
   have hkl:(RW (fun x:ao=>x.id) l).length≤1048576:=by
    rw [bZ]
    have:=congrArg List.length HT.I.1
    simp only [List.length_map,List.length_take] at this;omega
   go_wp2_with fail;refine (Bp Me (w.heap.size+1) (RW (fun x:ao=>x.id) l) x w2 jA.I.eh.map HF.I.2 hkl (HF.I.1.below jA.I.cd)).mono ?_;rintro e w3 ⟨rfl,hno,fm⟩;cases fW:iI Me (RW (fun x:ao=>x.id) l) x.id (cH x.toaD) with
   | false=>
    have HN:Hid ((aw (fun x:ao=>x.id) (fun x:ao=>cH x.toaD) 0 list && decide ((list.length:Int)≤max Me 0))=false):=iC HX.I HT.I.1 HT.I.2.1 j6.I fW;have Aw:Hid (eS aX (fun x:ao=>x.id) 148 163 w w3 Me l):=jA.I.below (hno fW);clear hno fm fW jA r0 r1 v0 v1 z0 z1 d0 d1 d2 d3 d4 d5 d6 d7 d8 d9 tH tS HB;obtain ⟨r0,r1,v0,v1,z0,z1⟩:=Aw.I.cells;go_wp2;refine KT (v:= .tuple #[.agg #[.int .i64 0,.map none],.bool false]) (by simp [results,Tryz.results175,go_sem, *]) rfl ?_;exact ⟨(Aw.I.lu _ _).2,.inl ⟨HN.I,rfl⟩⟩
   | true=>
    have HY:Hid (aw (fun x:ao=>x.id) (fun x:ao=>cH x.toaD) 0 (list.take (k+1))=true∧((k+1:Nat):Int)≤max Me 0):=gM HX.I HT.I.1 HT.I.2.1 j6.I fW;obtain ⟨g,ph⟩:=jA.I.lay (x:=x) (e:= .returned (.bool true)) (w':=w3) ⟨rfl,(fun h=>by cases h),fun _=>fm fW⟩ (jB HT.I.1 HT.I.2.1 j6.I);have BD:Hid (eS aX (fun x:ao=>x.id) 148 163 w w3 Me (l ++ [(x,g)])):=ph;have oh:Hid (w3.heap[wr.heap.size]? =some (.cells (aX x) 148 (0,0))):=by
     obtain ⟨g',_,_,_,hgr⟩:=fm fW;exact (hgr.block _ (J2.1 HB.I).1 (fun e=>by have:=KC e; have:=HZ.I; omega)).trans HB.I
    clear hno fm fW jA r0 r1 v0 v1 z0 z1 d0 d1 d2 d3 d4 d5 d6 d7 d8 d9 tH tS HB ph;obtain ⟨d0,d1,d2,d3,d4,d5,d6,d7,d8,d9,tH,tS⟩:=bo oh.I;go_wp2_with fail;refine (iK x _).mono ?_;rintro e w5 ⟨rfl,iJ⟩;have EY:Hid (eS aX (fun x:ao=>x.id) 148 163 w w5 Me (l ++ [(x,g)])):=BD.I.below iJ;have HE:Hid (bW (fun x:ao=>x.id) 0 (list.take (k+1))=x.id):=eG HX.I 0;clear iJ BD;go_wp2;go_roundw
    case rel=>exact ⟨k+1,by omega,by go_num,by rw [HE.I],⟨l ++ [(x,g)],by rw [List.map_append,HT.I.1,cj HX.I]; rfl,EY.I,HY.I.1,HY.I.2⟩⟩
    case measure=>simp [intOf]; omega
  ·have i1: ¬ (k:Int) < (list.length:Int):=by omega
   have HK:Hid (list.take k=list∧((list.length:Int)≤max Me 0)):=⟨KF (by omega),by have:=HT.I.2.2; omega⟩
   have HY:Hid ((aw (fun x:ao=>x.id) (fun x:ao=>cH x.toaD) 0 list && decide ((list.length:Int)≤max Me 0))=true):=by
    show _=true
    have h1:=HT.I.2.1;rw [HK.I.1] at h1;rw [h1,decide_eq_true HK.I.2]; rfl
   obtain ⟨r0,r1,v0,v1,z0,z1⟩:=HI.I.cells;go_wp2;refine KT (v:= .tuple #[.agg #[.int .i64 Me,.map (some (w.heap.size+1))],.bool true]) (by simp [results,Tryz.results175,go_sem, *]) rfl ?_;exact ⟨(HI.I.lu _ _).2,.inr ⟨HY.I,w.heap.size+1,l,rfl,by rw [HT.I.1,HK.I.1],(HI.I.lu _ _).1⟩⟩
end
section
open Go.RowKit Go.Maps
structure kX (w W:World) (o:Nat) (q:ol) (lp:List (ao × Nat)) (ms me mb mf:df):Prop where
 opn:fa W o q
 eh:Shelf aX (fun x:ao=>x.id) 148 W 0 q.bp lp
 ms:cF W q.bs ms
 me:cF W q.be me
 mb:cF W q.bb mb
 mf:cF W q.bf mf
 cd:Below w.heap.size w W
theorem kX.below {w W W':World} {o:Nat} {q:ol} {lp:List (ao × Nat)} {ms me mb mf:df} (h:kX w W o q lp ms me mb mf) (hb:Below W.heap.size W W'):kX w W' o q lp ms me mb mf:=
 ⟨h.opn.below hb,h.eh.below hb,h.ms.below hb,h.me.below hb,h.mb.below hb,h.mf.below hb,h.cd.trans (hb.mono h.cd.size)⟩
theorem kX.has {w W:World} {o:Nat} {q:ol} {lp:List (ao × Nat)} {ms me mb mf:df} (h:kX w W o q lp ms me mb mf) {p:ao × Nat} (hp:p∈lp):fu W W o p.2 q p.1 ms me mb mf:=
 ⟨h.opn,h.eh.box p hp,h.ms,h.me,h.mb,h.mf,Kp _ _⟩
structure ao.Wf (x:ao):Prop where
 id:(Lit.int .i64 x.id).wf=true
 on:(Lit.int .i64 x.on).wf=true
 RU:(Lit.int .i64 x.RU).wf=true
theorem DE {lp:List (ao × Nat)} (h: ∀ p∈lp,p.1.Wf): ∀ p∈RW (fun x:ao=>x.id) lp,(Lit.int .i64 p.1).wf=true:=fun p hp=>by
 obtain ⟨r,hr,rfl⟩:=Lr.1 hp;exact (h r hr).id
theorem Bh (o:Nat) (q:ol) (lp:List (ao × Nat)) (ms me mb mf:df) (w:World) (h:kX w w o q lp ms me mb mf) (hl:lp.length≤1048576) (hwf: ∀ p∈lp,p.1.Wf):
  Calls J3 182 #[.pointer (some ⟨o,0,none⟩)] w fun e w'=>e= .returned (.bool (lp.all fun p=>fw ms me mb mf p.1))∧Below w.heap.size w w':=by
 have H:Hid (kX w w o q lp ms me mb mf∧ ∀ p∈lp,p.1.Wf):=⟨h,hwf⟩
 have c2:w.cell? ⟨o,2,none⟩=some (.int .i64 6):=h.opn.cell 2;have c3:w.cell? ⟨o,3,none⟩=some (.map (some q.bp)):=h.opn.cell 3;have hkl:(RW (fun x:ao=>x.id) lp).length=lp.length:=bZ lp;have HK:Hid ((RW (fun x:ao=>x.id) lp).length=lp.length):=hkl;clear h hwf hkl
 go_enter Tryz.func182,Tryz.ntmps182
 go_wp2_with fail;refine (mq 6 q.bp (RW (fun x:ao=>x.id) lp) w H.I.1.eh.map (by rw [HK.I]; exact hl) (DE H.I.2)).mono ?_;rintro e w2 ⟨a,cap,rfl,hown,hb2⟩;obtain ⟨a',cap',hv,hrow⟩:=cr hown;cases hv;have HR:Hid (Row w2 a ((RW (fun x:ao=>x.id) lp).map fun p=>dt p.2)):=hrow;have HO:Hid (kX w w2 o q lp ms me mb mf):=H.I.1.below hb2;rw [HK.I];clear hown hrow hb2 c2 c3;go_wp2_with fail
 go_loopw [11] (fun i wr=> ∃ k:Nat,k≤lp.length∧i= .int .i64 k∧Hid (((lp.take k).all fun p=>fw ms me mb mf p.1)=true∧Below w2.heap.size w2 wr)) (fun i _=>lp.length - (intOf i).toNat)
 case atStart=>exact ⟨0,Ky _,rfl,⟨by simp,Kp _ _⟩⟩
 case round=>
  obtain ⟨k,hk,rfl,HA⟩:=hrel;have HO2:Hid (kX w wr o q lp ms me mb mf):=HO.I.below HA.I.2;by_cases hlt:k < lp.length
  ·have i0:(0:Int)≤(k:Int):=by omega
   have i1:(k:Int) < (lp.length:Int):=by omega
   obtain ⟨p,hp⟩: ∃ p,lp[k]? =some p:=⟨_,Kz hlt⟩
   have hpm:=KA hp;obtain ⟨g,ha,hc⟩:=(HR.I.below HA.I.2) k (dt p.2) (by simp [RW,hp]);subst ha;unfold dt at hc;have HP:Hid (lp[k]? =some p∧p∈lp):=⟨hp,hpm⟩
   clear hp hpm;go_wp2_with fail;refine (Ak o p.2 q p.1 ms me mb mf wr (HO2.I.has HP.I.2) (H.I.2 p HP.I.2).on).mono ?_;rintro e w4 ⟨rfl,hb4⟩;have HB4:Hid (Below w2.heap.size w2 w4):=HA.I.2.trans (hb4.mono HA.I.2.size);have HF4:Hid (Below w.heap.size w w4):=HO2.I.cd.trans (hb4.mono HO2.I.cd.size);clear hb4;cases FN:fw ms me mb mf p.1 with
   | true=>
    have HY:Hid (((lp.take (k+1)).all fun p=>fw ms me mb mf p.1)=true):=by
     show _=true
     rw [cj HP.I.1,List.all_append,HA.I.1];simp [FN]
    clear FN;go_wp2;go_roundw
    case rel=>exact ⟨k+1,by omega,by go_num,⟨HY.I,HB4.I⟩⟩
    case measure=>simp [intOf]; omega
   | false=>
    have HN:Hid ((lp.all fun p=>fw ms me mb mf p.1)=false):=by
     show _=false
     rw [List.all_eq_false];exact ⟨p,HP.I.2,by simp [FN]⟩
    clear FN;go_wp2;go_ret;exact ⟨al HN.I.symm,HF4.I⟩
  ·have i1: ¬ (k:Int) < (lp.length:Int):=by omega
   have HT:Hid ((lp.all fun p=>fw ms me mb mf p.1)=true):=by have:=HA.I.1; rwa [KF (by omega)] at this
   go_wp2;go_ret;exact ⟨al HT.I.symm,HO2.I.cd⟩
end
end Go.Proofs.YteidkehoekbcaaaGreat
