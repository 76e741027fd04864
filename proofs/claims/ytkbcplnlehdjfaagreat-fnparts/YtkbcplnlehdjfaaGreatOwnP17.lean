/- What the proof leans on, part 17. -/
import Derived.Test.YtkbcplnlehdjfaaGreatOwnP14
import Derived.Test.YtkbcplnlehdjfaaGreatOwnP15
set_option maxRecDepth 100000
set_option maxHeartbeats 8000000
open Array renaming getElem?_eq_some_iff->J2
open Function renaming comp_def->Ls
open Go renaming heap_alloc_new->Kj,wp_at_succ->Kd,wp_at_zero->Kc
open Go.Maps renaming keyOf_int_inv->RB
open Go.Proofs.Tryz renaming prog->J3,underlying2->KN
open Go.RowKit.Below renaming refl->Kp
open List renaming getElem?_eq_getElem->Kz,getElem?_map->Kk,map_map->Lv,mem_append_left->Lz,mem_cons->Kt,mem_cons_of_mem->LB,mem_flatMap->Rt,mem_map->Lr,mem_of_getElem?->KA,nodup_append->Kf,nodup_cons->Lp,not_mem_nil->Ku,take_of_length_le->KF
open Nat renaming le_refl->Ki,le_trans->LG,lt_of_le_of_lt->Q5,lt_of_lt_of_le->Kn,zero_le->Ky
open Option renaming map_eq_some_iff->Kw,map_some->J9
open Option.some renaming inj->KC
open Prod.mk renaming injEq->Kx

namespace Go.Proofs.YtkbcplnlehdjfaaGreat
section
open Go.RowKit Go.Maps
attribute [local go_sem ↓] Kc Kd
def aR:gd ao:=⟨aX,fun x=>x.id,43,134,4,fun x=>x.aY,fun x=>x.bH,fun x=>x.prog.length,fun x=>fk.flat x.prog,fun x a c=> { x with aY:=a,bH:=c },fun _ _ _=>rfl,fun _ _ _=>rfl,fun _ _ _=>rfl,fun _ _ _=>rfl,fun _ _ _=>rfl,fun _ _ _ _ _=>rfl⟩
def aC:gd au:=⟨bQ,fun x=>x.id,144,9,1,fun x=>x.ak,fun x=>x.aq,fun x=>x.Ma.length,fun x=>bT.flat x.Ma,fun x a c=> { x with ak:=a,aq:=c },fun _ _ _=>rfl,fun _ _ _=>rfl,fun _ _ _=>rfl,fun _ _ _=>rfl,fun _ _ _=>rfl,fun _ _ _ _ _=>rfl⟩
def aU:gd aM:=⟨cW,fun x=>x.id,61,9,1,fun x=>x.ak,fun x=>x.aq,fun x=>x.Ma.length,fun x=>bT.flat x.Ma,fun x a c=> { x with ak:=a,aq:=c },fun _ _ _=>rfl,fun _ _ _=>rfl,fun _ _ _=>rfl,fun _ _ _=>rfl,fun _ _ _=>rfl,fun _ _ _ _ _=>rfl⟩
def fY {α:Type} (N:gd α) (w:World) (base:Nat) (l:List (α × Nat)):Prop:= ∀ p∈l,Row w (N.ad p.1) (N.flat p.1)∧N.len p.1≤1048576∧ ∀ g,N.bt p.1=some g→g < base
theorem fY.low {α:Type} {N:gd α} {w w':World} {base:Nat} {l:List (α × Nat)} (h:fY N w base l) (hb:Below base w w'):fY N w' base l:=fun p hp=>
 ⟨(h p hp).1.low (fun q e=>(h p hp).2.2 q.block (by simp [gd.bt,e])) hb,(h p hp).2⟩
theorem D5:(Tryz.prog.info? 134).map (fun i=>(i.zero,i.size,i.bytes))=some (some (.agg #[.int .i64 0,.int .i64 0,.int .i64 0,.string ⟨#[]⟩]),4,40):=by kernel_rfl
theorem zD:(Tryz.prog.info? 9).map (fun i=>(i.zero,i.size,i.bytes))=some (some (.string ⟨#[]⟩),1,16):=by kernel_rfl
theorem FE {l:List dN} : ∀ u∈fk.flat l,u.oneCell'=true:=fun u hu=>by
 obtain ⟨x,_,hx⟩:=Rt.1 hu;simp only [fk,CC,Kt,Ku,or_false] at hx;rcases hx with rfl | rfl | rfl | rfl <;> rfl
theorem yK {l:List ByteArray} : ∀ u∈bT.flat l,u.oneCell'=true:=fun u hu=>by
 obtain ⟨x,_,hx⟩:=Rt.1 hu;simp only [bT,Kt,Ku,or_false] at hx;subst hx;rfl
theorem FR (w:World) (a:Option Addr) (l:List dN) (cap:Nat) (h:Row w a (fk.flat l)) (hl:l.length≤1048576):
  ∃ a' cap' w',(Builtin.append_ #[37,37] 37 #[.slice none 0 0,.slice a l.length cap]).run J3 w= .ok (.slice a' l.length cap') w'∧w'.ownsRow w.heap.size 134 4 (.slice a' l.length cap') l.length (fk.flat l)∧w.grownBy w' none:=by
 obtain ⟨i,hi,e⟩:=Kw.1 D5;simp only [Kx] at e;exact sZ w _ _ 134 i _ 4 40 Tryz.underlying37 hi e.1 e.2.1 e.2.2 rfl (by decide) a l.length cap _ h (fk.dM l) FE hl (by decide)
theorem xF (w:World) (a:Option Addr) (l:List ByteArray) (cap:Nat) (h:Row w a (bT.flat l)) (hl:l.length≤1048576):
  ∃ a' cap' w',(Builtin.append_ #[59,59] 59 #[.slice none 0 0,.slice a l.length cap]).run J3 w= .ok (.slice a' l.length cap') w'∧w'.ownsRow w.heap.size 9 1 (.slice a' l.length cap') l.length (bT.flat l)∧w.grownBy w' none:=by
 obtain ⟨i,hi,e⟩:=Kw.1 zD;simp only [Kx] at e;exact sZ w _ _ 9 i _ 1 16 Tryz.underlying59 hi e.1 e.2.1 e.2.2 rfl (by decide) a l.length cap _ h (bT.dM l) yK hl (by decide)
structure kG {α:Type} (N:gd α) (w0 wr:World) (base b:Nat) (l l':List (α × Nat)):Prop where
 eh:Shelf N.vs N.num N.T wr base b l'
 alike:l'.map (fun p=>(N.set p.1 none 0,p.2))=l.map (fun p=>(N.set p.1 none 0,p.2))
 mine: ∀ p∈l',N.cO wr w0.heap.size p.1
 nodup:(kids N l').Nodup
 os:wr.os=w0.os
 tape:wr.tape=w0.tape
 output:wr.output=w0.output
 size:w0.heap.size≤wr.heap.size
 same: ∀ g,g < w0.heap.size→g∉l.map (·.2)→wr.heap[g]? =w0.heap[g]?
theorem fS.owned {α:Type} {N:gd α} {w0 wr:World} {base b:Nat} {l l':List (α × Nat)} {left:Lit→Bool} (h:fS N w0 wr base b l l' left) (hd: ∀ kl,left kl=false):kG N w0 wr base b l l':=
 ⟨h.eh,h.alike,fun p hp=>h.own p hp (hd _),h.nodup hd,h.os,h.tape,h.output,h.size,h.same⟩
theorem kG.below {α:Type} {N:gd α} {w0 wr:World} {base b:Nat} {l l':List (α × Nat)} (h:kG N w0 wr base b l l') (hb:base≤w0.heap.size) (hl: ∀ g∈l.map (·.2),base≤g):Below base w0 wr:=
 ⟨h.os,h.tape,h.output,h.size,fun g hg=>h.same g (by omega) (fun hm=>by have:=hl g hm; omega)⟩
structure mv (w:World) (base o:Nat) (q:ol) (lp:List (ao × Nat)) (lf:List (au × Nat)) (lq:List (aM × Nat)):Prop where
 opn:fa w o q
 L8:Shelf aX (fun x:ao=>x.id) 43 w base q.bp lp
 ae:Shelf bQ (fun x:au=>x.id) 144 w base q.bf lf
 ai:Shelf cW (fun x:aM=>x.id) 61 w base q.bq lq
 nodup:(o :: ((q.bp :: lp.map (·.2)) ++ ((q.bf :: lf.map (·.2)) ++ (q.bq :: lq.map (·.2))))).Nodup
theorem mv.EK {w w':World} {base o:Nat} {q:ol} {lp l':List (ao × Nat)} {lf:List (au × Nat)} {lq:List (aM × Nat)} (h:mv w base o q lp lf lq) (ho:kG aR w w' base q.bp lp l'):mv w' base o q l' lf lq:=by
 have hbl:l'.map (·.2)=lp.map (·.2):=by
  have:=congrArg (List.map (·.2)) ho.alike
  simp only [Lv,Ls] at this;exact this
 have hn:=h.nodup;rw [Lp,Kf] at hn;obtain ⟨h1,h2,h3,h4⟩:=hn;have hlp: ∀ g,g∈(q.bf :: lf.map (·.2)) ++ (q.bq :: lq.map (·.2))→g∉lp.map (·.2):=fun g hg hm=>h4 g (LB _ hm) g hg rfl
 refine ⟨(ho.same o (J2.1 h.opn).1 (fun hm=>h1 (by simp [Lr.1 hm]))).trans h.opn,ho.eh,h.ae.same fun g hg=>ho.same g (h.ae.lt g hg) (hlp g (Lz _ hg)),h.ai.same fun g hg=>ho.same g (h.ai.lt g hg) (hlp g (List.mem_append_right _ hg)),?_⟩;rw [hbl];exact h.nodup
theorem mv.Af {w w':World} {base o:Nat} {q:ol} {lp:List (ao × Nat)} {lf l':List (au × Nat)} {lq:List (aM × Nat)} (h:mv w base o q lp lf lq) (ho:kG aC w w' base q.bf lf l'):mv w' base o q lp l' lq:=by
 have hbl:l'.map (·.2)=lf.map (·.2):=by
  have:=congrArg (List.map (·.2)) ho.alike
  simp only [Lv,Ls] at this;exact this
 have hn:=h.nodup;rw [Lp,Kf,Kf] at hn;obtain ⟨h1,h2,⟨h3,h5,h6⟩,h4⟩:=hn;refine ⟨(ho.same o (J2.1 h.opn).1 (fun hm=>h1 (by simp [Lr.1 hm]))).trans h.opn,h.L8.same fun g hg=>ho.same g (h.L8.lt g hg) (fun hm=>h4 g hg g (Lz _ (LB _ hm)) rfl),ho.eh,h.ai.same fun g hg=>ho.same g (h.ai.lt g hg) (fun hm=>h6 g (LB _ hm) g hg rfl),?_⟩;rw [hbl];exact h.nodup
theorem wO (o base:Nat) (q:ol) (lp:List (ao × Nat)) (lf:List (au × Nat)) (lq:List (aM × Nat)) (w:World) (h:mv w base o q lp lf lq) (hb:base≤w.heap.size) (h1:fY aR w base lp) (h2:fY aC w base lf) (h3:fY aU w base lq):
  Calls J3 155 #[.pointer (some ⟨o,0,none⟩)] w fun e w'=>e= .returned (.tuple #[])∧ ∃ w1 w2 l0 l1 l2,kG aR w w1 base q.bp lp l0∧kG aC w1 w2 base q.bf lf l1∧kG aU w2 w' base q.bq lq l2:=by
 have HT:Hid (mv w base o q lp lf lq):=h;have Fy:Hid (base≤w.heap.size):=hb;have Ia:Hid (∀ g∈lp.map (·.2),base≤g):=fun g hg=>h.L8.low g (LB _ hg)
 have HLP:Hid (fY aR w base lp):=h1;have I8:Hid (fY aC w base lf):=h2;have ID:Hid (fY aU w base lq):=h3;clear h hb h1 h2 h3
 go_enter Tryz.func155,Tryz.ntmps155
 have c0:w.cell? ⟨o,3,none⟩=some (.map (some q.bp)):=HT.I.opn.cell 3;have hown:=HT.I.L8.map.1;go_wp2_with (at_range; refine wpList_range_own _ rfl _ 108 rfl 2 102 jb Tryz.underlying108 od q.bp _ _ rfl hown ?_; intro w1 BW CT hs1);have HS:Hid (fS aR w w1 base q.bp lp lp (Maps.has (gA (RW aR.num lp)))):=fS.start HT.I.L8 CT;have En:Hid (∀ g∈q.bp :: lp.map (·.2),g < w.heap.size):=HT.I.L8.lt;clear hown c0 CT
 go_frame
 go_loopw [3] (fun _ tD=> ∃ (left:Lit→Bool) (cnt:Nat) (l':List (ao × Nat)),tD.ranges J3 2 od q.bp w.heap.size (RW (fun x:ao=>x.id) lp).length (gA (RW (fun x:ao=>x.id) lp)) left cnt∧Hid (fS aR w tD base q.bp lp l' left)) (fun _ tD=>tD.rangeLeft q.bp w.heap.size)
 case atStart=>exact ⟨_,_,lp,BW,HS.I⟩
 case round=>
  rename World=>tD
  clear HS BW hs1 w1;obtain ⟨left,cnt,l0,hrg,HO⟩:=hrel;go_wp2_with (at_next; refine wpList_next_ranges _ rfl _ rfl 2 jb od (Value.int .i64) dt (fun key kl hk=>by obtain ⟨x,rfl,_⟩:=RB KN hk; exact ⟨x,rfl⟩) (fun v y hv=>by obtain ⟨g,rfl,_⟩:=oI hv; exact ⟨g,rfl⟩) q.bp w.heap.size _ _ _ _ rfl hrg ?_ ?_)
  ·intro hc0 hl0
   have HD0:Hid (kG aR w tD base q.bp lp l0):=HO.I.owned hl0;clear hrg HO hc0 hl0 En left cnt;have HTN:Hid (mv tD base o q l0 lf lq):=HT.I.EK HD0.I;clear HT;have HT:Hid (mv tD base o q l0 lf lq):=HTN.I;have HLI:Hid (fY aC tD base lf∧fY aU tD base lq):=⟨I8.I.low (HD0.I.below Fy.I Ia.I),ID.I.low (HD0.I.below Fy.I Ia.I)⟩
   have HBN:Hid (base≤tD.heap.size):=LG Fy.I HD0.I.size;clear HTN Fy Ia HLP;have Fy:Hid (base≤tD.heap.size):=HBN.I;have Ia:Hid (∀ g∈lf.map (·.2),base≤g):=fun g hg=>HT.I.ae.low g (LB _ hg)
   clear I8 ID;have I8:Hid (fY aC tD base lf):=HLI.I.1;have ID:Hid (fY aU tD base lq):=HLI.I.2;clear HLI HBN;have c1:tD.cell? ⟨o,11,none⟩=some (.map (some q.bf)):=HT.I.opn.cell 11;have hown:=HT.I.ae.map.1;go_wp2_with (at_range; refine wpList_range_own _ rfl _ 120 rfl 2 224 jb Tryz.underlying120 od q.bf _ _ rfl hown ?_; intro w1 BW CT hs1);have HS:Hid (fS aC tD w1 base q.bf lf lf (Maps.has (gA (RW aC.num lf)))):=fS.start HT.I.ae CT;have Jt:Hid (∀ g∈q.bf :: lf.map (·.2),g < tD.heap.size):=HT.I.ae.lt;clear hown c1 CT
   go_frame
   go_loopw [5] (fun _ wr2=> ∃ (left:Lit→Bool) (cnt:Nat) (l':List (au × Nat)),wr2.ranges J3 2 od q.bf tD.heap.size (RW (fun x:au=>x.id) lf).length (gA (RW (fun x:au=>x.id) lf)) left cnt∧Hid (fS aC tD wr2 base q.bf lf l' left)) (fun _ wr2=>wr2.rangeLeft q.bf tD.heap.size)
   case atStart=>exact ⟨_,_,lf,BW,HS.I⟩
   case round=>
    rename World=>wr2
    clear HS BW hs1 w1;obtain ⟨left,cnt,l1,hrg,HO⟩:=hrel;go_wp2_with (at_next; refine wpList_next_ranges _ rfl _ rfl 2 jb od (Value.int .i64) dt (fun key kl hk=>by obtain ⟨x,rfl,_⟩:=RB KN hk; exact ⟨x,rfl⟩) (fun v y hv=>by obtain ⟨g,rfl,_⟩:=oI hv; exact ⟨g,rfl⟩) q.bf tD.heap.size _ _ _ _ rfl hrg ?_ ?_)
    ·intro hc0 hl0
     have HD1:Hid (kG aC tD wr2 base q.bf lf l1):=HO.I.owned hl0;clear hrg HO hc0 hl0 Jt left cnt;have HTN:Hid (mv wr2 base o q l0 l1 lq):=HT.I.Af HD1.I;clear HT;have HT:Hid (mv wr2 base o q l0 l1 lq):=HTN.I;have HLI:Hid (fY aU wr2 base lq):=ID.I.low (HD1.I.below Fy.I Ia.I);have HBN:Hid (base≤wr2.heap.size):=LG Fy.I HD1.I.size;clear HTN Fy Ia I8;have Fy:Hid (base≤wr2.heap.size):=HBN.I;have Ia:Hid (∀ g∈lq.map (·.2),base≤g):=fun g hg=>HT.I.ai.low g (LB _ hg)
     clear ID;have ID:Hid (fY aU wr2 base lq):=HLI.I;clear HLI HBN;have c2:wr2.cell? ⟨o,13,none⟩=some (.map (some q.bq)):=HT.I.opn.cell 13;have hown:=HT.I.ai.map.1;go_wp2_with (at_range; refine wpList_range_own _ rfl _ 123 rfl 2 225 jb Tryz.underlying123 od q.bq _ _ rfl hown ?_; intro w1 BW CT hs1);have HS:Hid (fS aU wr2 w1 base q.bq lq lq (Maps.has (gA (RW aU.num lq)))):=fS.start HT.I.ai CT;have HL2:Hid (∀ g∈q.bq :: lq.map (·.2),g < wr2.heap.size):=HT.I.ai.lt;clear hown c2 CT
     go_frame
     go_loopw [7] (fun _ wr3=> ∃ (left:Lit→Bool) (cnt:Nat) (l':List (aM × Nat)),wr3.ranges J3 2 od q.bq wr2.heap.size (RW (fun x:aM=>x.id) lq).length (gA (RW (fun x:aM=>x.id) lq)) left cnt∧Hid (fS aU wr2 wr3 base q.bq lq l' left)) (fun _ wr3=>wr3.rangeLeft q.bq wr2.heap.size)
     case atStart=>exact ⟨_,_,lq,BW,HS.I⟩
     case round=>
      rename World=>wr3
      clear HS BW hs1 w1;obtain ⟨left,cnt,l2,hrg,HO⟩:=hrel;go_wp2_with (at_next; refine wpList_next_ranges _ rfl _ rfl 2 jb od (Value.int .i64) dt (fun key kl hk=>by obtain ⟨x,rfl,_⟩:=RB KN hk; exact ⟨x,rfl⟩) (fun v y hv=>by obtain ⟨g,rfl,_⟩:=oI hv; exact ⟨g,rfl⟩) q.bq wr2.heap.size _ _ _ _ rfl hrg ?_ ?_)
      ·intro hc0 hl0
       have HD2:Hid (kG aU wr2 wr3 base q.bq lq l2):=HO.I.owned hl0;clear hrg HO hc0 hl0 HL2 left cnt;go_wp2
       go_end0
       exact ⟨rfl,tD,wr2,l0,l1,l2,HD0.I,HD1.I,HD2.I⟩
      ·intro x c kl y1 y2 w2 cnt2 hkey hlk hv hat hrg2 oX rx oE hen
       obtain ⟨p,hp,rfl,rfl,rfl⟩:=HO.I.pick hkey hv hat;have hpl:p.2∈lq.map (·.2):=by rw [← HO.I.Mc]; exact Lr.2 ⟨p,hp,rfl⟩
       have td:=HO.I.old p hp hlk;have hpw:=HL2.I p.2 (LB _ hpl);have lD:w2.heap[p.2]? =some (.cells (cW p.1) 61 (0,0)):=(rx.block p.2 (Kn hpw HO.I.size) (fun e=>by have:=KC e; omega)).trans (HO.I.eh.box p hp);have hrow:Row w2 p.1.ak (bT.flat p.1.Ma):=(ID.I p td).1.same fun g e=>by
        have hgb:g < base:=(ID.I p td).2.2 g (by show (p.1.ak).map (·.block)=some g; rw [show p.1.ak=some ⟨g,0,none⟩ from e]; rfl);have hb0:=Fy.I;refine (rx.block g (by have:=HO.I.size; omega) (fun e=>by have:=KC e; omega)).trans (HO.I.same g (by omega) (fun hm=>by have:=Ia.I g hm; omega))
       obtain ⟨a3,cap3,w3,hap,sY,hg3⟩:=xF w2 p.1.ak p.1.Ma p.1.aq hrow (ID.I p td).2.1;have cc:w2.cell? ⟨p.2,4,none⟩=some (.slice p.1.ak p.1.Ma.length p.1.aq):=by simp [World.cell?,lD,cW]
       have oG:=(hg3.block p.2 (J2.1 lD).1 (by simp)).trans lD;have cc3:w3.cell? ⟨p.2,4,none⟩=some (.slice p.1.ak p.1.Ma.length p.1.aq):=by simp [World.cell?,oG,cW]
       have cf3:w3.frozen? ⟨p.2,4,none⟩=false:=by simp [World.frozen?,oG]
       have HN:=HO.I.ju (i:=4) hrg rx hrg2 HL2.I (Ki _) hp sY hg3 rfl;have Hb:Hid (_∧_):=HN;have j6:Hid (cnt2 < cnt∧wr3.rangeLeft q.bq wr2.heap.size=cnt):=⟨oX,hrg.left_eq⟩
       simp only [dt] at hen;clear HN hrg hrg2 rx oE hkey hlk hv hat oX hpl td hpw lD oG hrow sY hg3;unfold dt;go_wp2_with (at_builtin; refine br _ rfl _ _ 59 rfl _ _ _ _ rfl rfl hap ?_; clear hap);go_roundw
       case rel=>exact ⟨_,_,_,Hb.I.2,Hb.I.1⟩
       case measure=>have h5:=Hb.I.2.left_eq; have h6:=j6.I; rw [h6.2]; exact Q5 (Nat.le_of_eq h5) h6.1
    ·intro x c kl y1 y2 w2 cnt2 hkey hlk hv hat hrg2 oX rx oE hen
     obtain ⟨p,hp,rfl,rfl,rfl⟩:=HO.I.pick hkey hv hat;have hpl:p.2∈lf.map (·.2):=by rw [← HO.I.Mc]; exact Lr.2 ⟨p,hp,rfl⟩
     have td:=HO.I.old p hp hlk;have hpw:=Jt.I p.2 (LB _ hpl);have lD:w2.heap[p.2]? =some (.cells (bQ p.1) 144 (0,0)):=(rx.block p.2 (Kn hpw HO.I.size) (fun e=>by have:=KC e; omega)).trans (HO.I.eh.box p hp);have hrow:Row w2 p.1.ak (bT.flat p.1.Ma):=(I8.I p td).1.same fun g e=>by
      have hgb:g < base:=(I8.I p td).2.2 g (by show (p.1.ak).map (·.block)=some g; rw [show p.1.ak=some ⟨g,0,none⟩ from e]; rfl);have hb0:=Fy.I;refine (rx.block g (by have:=HO.I.size; omega) (fun e=>by have:=KC e; omega)).trans (HO.I.same g (by omega) (fun hm=>by have:=Ia.I g hm; omega))
     obtain ⟨a3,cap3,w3,hap,sY,hg3⟩:=xF w2 p.1.ak p.1.Ma p.1.aq hrow (I8.I p td).2.1;have cc:w2.cell? ⟨p.2,2,none⟩=some (.slice p.1.ak p.1.Ma.length p.1.aq):=by simp [World.cell?,lD,bQ]
     have oG:=(hg3.block p.2 (J2.1 lD).1 (by simp)).trans lD;have cc3:w3.cell? ⟨p.2,2,none⟩=some (.slice p.1.ak p.1.Ma.length p.1.aq):=by simp [World.cell?,oG,bQ]
     have cf3:w3.frozen? ⟨p.2,2,none⟩=false:=by simp [World.frozen?,oG]
     have HN:=HO.I.ju (i:=2) hrg rx hrg2 Jt.I (Ki _) hp sY hg3 rfl;have Hb:Hid (_∧_):=HN;have j6:Hid (cnt2 < cnt∧wr2.rangeLeft q.bf tD.heap.size=cnt):=⟨oX,hrg.left_eq⟩
     simp only [dt] at hen;clear HN hrg hrg2 rx oE hkey hlk hv hat oX hpl td hpw lD oG hrow sY hg3;unfold dt;go_wp2_with (at_builtin; refine br _ rfl _ _ 59 rfl _ _ _ _ rfl rfl hap ?_; clear hap);go_roundw
     case rel=>exact ⟨_,_,_,Hb.I.2,Hb.I.1⟩
     case measure=>have h5:=Hb.I.2.left_eq; have h6:=j6.I; rw [h6.2]; exact Q5 (Nat.le_of_eq h5) h6.1
  ·intro x c kl y1 y2 w2 cnt2 hkey hlk hv hat hrg2 oX rx oE hen
   obtain ⟨p,hp,rfl,rfl,rfl⟩:=HO.I.pick hkey hv hat;have hpl:p.2∈lp.map (·.2):=by rw [← HO.I.Mc]; exact Lr.2 ⟨p,hp,rfl⟩
   have td:=HO.I.old p hp hlk;have hpw:=En.I p.2 (LB _ hpl);have lD:w2.heap[p.2]? =some (.cells (aX p.1) 43 (0,0)):=(rx.block p.2 (Kn hpw HO.I.size) (fun e=>by have:=KC e; omega)).trans (HO.I.eh.box p hp);have hrow:Row w2 p.1.aY (fk.flat p.1.prog):=(HLP.I p td).1.same fun g e=>by
    have hgb:g < base:=(HLP.I p td).2.2 g (by show (p.1.aY).map (·.block)=some g; rw [show p.1.aY=some ⟨g,0,none⟩ from e]; rfl);have hb0:=Fy.I;refine (rx.block g (by have:=HO.I.size; omega) (fun e=>by have:=KC e; omega)).trans (HO.I.same g (by omega) (fun hm=>by have:=Ia.I g hm; omega))
   obtain ⟨a3,cap3,w3,hap,sY,hg3⟩:=FR w2 p.1.aY p.1.prog p.1.bH hrow (HLP.I p td).2.1;have cc:w2.cell? ⟨p.2,2,none⟩=some (.slice p.1.aY p.1.prog.length p.1.bH):=by simp [World.cell?,lD,aX]
   have oG:=(hg3.block p.2 (J2.1 lD).1 (by simp)).trans lD;have cc3:w3.cell? ⟨p.2,2,none⟩=some (.slice p.1.aY p.1.prog.length p.1.bH):=by simp [World.cell?,oG,aX]
   have cf3:w3.frozen? ⟨p.2,2,none⟩=false:=by simp [World.frozen?,oG]
   have HN:=HO.I.ju (i:=2) hrg rx hrg2 En.I (Ki _) hp sY hg3 rfl;have Hb:Hid (_∧_):=HN;have j6:Hid (cnt2 < cnt∧tD.rangeLeft q.bp w.heap.size=cnt):=⟨oX,hrg.left_eq⟩
   simp only [dt] at hen;clear HN hrg hrg2 rx oE hkey hlk hv hat oX hpl td hpw lD oG hrow sY hg3;unfold dt;go_wp2_with (at_builtin; refine br _ rfl _ _ 37 rfl _ _ _ _ rfl rfl hap ?_; clear hap);go_roundw
   case rel=>exact ⟨_,_,_,Hb.I.2,Hb.I.1⟩
   case measure=>have h5:=Hb.I.2.left_eq; have h6:=j6.I; rw [h6.2]; exact Q5 (Nat.le_of_eq h5) h6.1
def tj (r:Option (ao × Nat)) (x:ao × Nat):Option (ao × Nat):=match r with
 | none=>some x
 | some b=>if dF x.1.toaD b.1.toaD then some x else some b
def li (l:List (ao × Nat)):Option (ao × Nat):=l.foldl tj none
theorem nH (l:List (ao × Nat)) (x:ao × Nat):li (l ++ [x])=tj (li l) x:=by simp [li]
theorem CV (r:Option (ao × Nat)) (x:ao × Nat): ∃ y,tj r x=some y∧(y=x∨r=some y):=by
 unfold tj
 split
 ·exact ⟨_,rfl,.inl rfl⟩
 ·split
  ·exact ⟨_,rfl,.inl rfl⟩
  ·exact ⟨_,rfl,.inr rfl⟩
theorem ql {l:List (ao × Nat)} : ∀ {k:Nat},0 < k→k≤l.length→ ∃ y,li (l.take k)=some y∧y∈l
 | 0,h,_=>absurd h (by omega)
 | k+1,_,hk=>by
  obtain ⟨x,hx⟩: ∃ x,l[k]? =some x:=⟨_,Kz (by omega)⟩
  rw [cj hx,nH];obtain ⟨y,hy,h1⟩:=CV (li (l.take k)) x;refine ⟨y,hy,?_⟩;rcases h1 with rfl | h1
  ·exact KA hx
  ·by_cases h0:0 < k
   ·obtain ⟨z,hz,hm⟩:=ql h0 (by omega:k≤l.length)
    rw [hz] at h1;cases h1;exact hm
   ·rw [show k=0 by omega] at h1
    simp [li] at h1
theorem vj (l:List (ao × Nat)):(li l).map (fun p=>p.1.toaD)=jo (l.map fun p=>p.1.toaD):=by
 have key: ∀ (l:List (ao × Nat)) (r:Option (ao × Nat)),(l.foldl tj r).map (fun p=>p.1.toaD)=(l.map fun p=>p.1.toaD).foldl iy (r.map fun p=>p.1.toaD):=by
  intro l
  induction l with
  | nil=>intro r; rfl
  | cons x l ih=>
   intro r;simp only [List.foldl_cons,List.map_cons,ih]
   congr 1
   cases r with
   | none=>rfl
   | some b=>
    simp only [tj,iy,J9]
    split <;> rfl
 exact key l none
def et (l:List (ao × Nat)):List (ao × Nat):=l.filter fun p=>decide (p.1.Md=1)
theorem sV (l:List (ao × Nat)) (p:ao × Nat):et (l ++ [p])=et l ++ (if p.1.Md=1 then [p] else []):=by
 unfold et;rw [List.filter_append];by_cases h:p.1.Md=1 <;> simp [h]
theorem sI (l:List (ao × Nat)):(et l).map (fun p=>p.1.toaD)=(l.map fun p=>p.1.toaD).filter fun x=>decide (x.Md=1):=by
 unfold et;rw [List.filter_map];rfl
theorem yX (A B:Nat) (a b:ao) (w:World) (ha:w.heap[A]? =some (.cells (aX a) 43 (0,0))) (hb:w.heap[B]? =some (.cells (aX b) 43 (0,0))):
  Calls J3 158 #[.pointer (some ⟨A,0,none⟩),.pointer (some ⟨B,0,none⟩)] w fun e w'=>e= .returned (.bool (dF a.toaD b.toaD))∧Below w.heap.size w w':=by
 obtain ⟨-,a1,-,-,-,-,-,-,-,-,-,a11⟩:=bo ha;obtain ⟨-,b1,-,-,-,-,-,-,-,-,-,b11⟩:=bo hb;clear ha hb
 go_enter Tryz.func158,Tryz.ntmps158
 by_cases hp:a.RX=b.RX
 ·have e1:(a.RX != b.RX)=false:=by simp [hp]
  by_cases hs:a.RU < b.RU
  ·have ds:decide (a.RU < b.RU)=true:=decide_eq_true hs
   have HV:Hid (dF a.toaD b.toaD=true):=by show dF _ _=_; unfold dF; rw [if_pos hp]; exact ds
   clear hp hs;go_wp2_with fail;refine aT (fun w'=>w'=w.drew) (by kernel_rfl) rfl ?_
   iterate 9 (refine ty (v:= ?_) (some _) rfl rfl (by kernel_rfl) (fun _ _ _ h=>h) (bV (by kernel_rfl) ?_) ?_; rotate_left; (intro w0 hS0; subst hS0; go_simp; try with_reducible rfl); simp only [pt,sb,s0,s1])
   refine bk (by kernel_rfl) ?_ _;intro w1 cm;subst cm;go_wp2_with fail;refine aT (fun w'=>w'=w.drew.drew) (by kernel_rfl) rfl ?_
   iterate 10 (refine ty (v:= ?_) (some _) rfl rfl (by kernel_rfl) (fun _ _ _ h=>h) (bV (by kernel_rfl) ?_) ?_; rotate_left; (intro w0 hS0; subst hS0; go_simp; try with_reducible rfl); simp only [pt,sb,s0,s1])
   refine bk (by kernel_rfl) ?_ _;intro w1 cm;subst cm;go_wp2;go_ret;exact ⟨al HV.I.symm,(Kp _ _).drew.drew⟩
  ·have ds:decide (a.RU < b.RU)=false:=decide_eq_false hs
   have HV:Hid (dF a.toaD b.toaD=false):=by show dF _ _=_; unfold dF; rw [if_pos hp]; exact ds
   clear hp hs;go_wp2_with fail;refine aT (fun w'=>w'=w.drew) (by kernel_rfl) rfl ?_
   iterate 9 (refine ty (v:= ?_) (some _) rfl rfl (by kernel_rfl) (fun _ _ _ h=>h) (bV (by kernel_rfl) ?_) ?_; rotate_left; (intro w0 hS0; subst hS0; go_simp; try with_reducible rfl); simp only [pt,sb,s0,s1])
   refine bk (by kernel_rfl) ?_ _;intro w1 cm;subst cm;go_wp2_with fail;refine aT (fun w'=>w'=w.drew.drew) (by kernel_rfl) rfl ?_
   iterate 10 (refine ty (v:= ?_) (some _) rfl rfl (by kernel_rfl) (fun _ _ _ h=>h) (bV (by kernel_rfl) ?_) ?_; rotate_left; (intro w0 hS0; subst hS0; go_simp; try with_reducible rfl); simp only [pt,sb,s0,s1])
   refine bk (by kernel_rfl) ?_ _;intro w1 cm;subst cm;go_wp2;go_ret;exact ⟨al HV.I.symm,(Kp _ _).drew.drew⟩
 ·have e1:(a.RX != b.RX)=true:=by simp [hp]
  by_cases hs:b.RX < a.RX
  ·have ds:decide (b.RX < a.RX)=true:=decide_eq_true hs
   have HV:Hid (dF a.toaD b.toaD=true):=by show dF _ _=_; unfold dF; rw [if_neg hp]; exact ds
   clear hp hs;go_wp2_with fail;refine aT (fun w'=>w'=w.drew) (by kernel_rfl) rfl ?_
   iterate 9 (refine ty (v:= ?_) (some _) rfl rfl (by kernel_rfl) (fun _ _ _ h=>h) (bV (by kernel_rfl) ?_) ?_; rotate_left; (intro w0 hS0; subst hS0; go_simp; try with_reducible rfl); simp only [pt,sb,s0,s1])
   refine bk (by kernel_rfl) ?_ _;intro w1 cm;subst cm;go_wp2_with fail;refine aT (fun w'=>w'=w.drew.drew) (by kernel_rfl) rfl ?_
   iterate 10 (refine ty (v:= ?_) (some _) rfl rfl (by kernel_rfl) (fun _ _ _ h=>h) (bV (by kernel_rfl) ?_) ?_; rotate_left; (intro w0 hS0; subst hS0; go_simp; try with_reducible rfl); simp only [pt,sb,s0,s1])
   refine bk (by kernel_rfl) ?_ _;intro w1 cm;subst cm;go_wp2;go_ret;exact ⟨al HV.I.symm,(Kp _ _).drew.drew⟩
  ·have ds:decide (b.RX < a.RX)=false:=decide_eq_false hs
   have HV:Hid (dF a.toaD b.toaD=false):=by show dF _ _=_; unfold dF; rw [if_neg hp]; exact ds
   clear hp hs;go_wp2_with fail;refine aT (fun w'=>w'=w.drew) (by kernel_rfl) rfl ?_
   iterate 9 (refine ty (v:= ?_) (some _) rfl rfl (by kernel_rfl) (fun _ _ _ h=>h) (bV (by kernel_rfl) ?_) ?_; rotate_left; (intro w0 hS0; subst hS0; go_simp; try with_reducible rfl); simp only [pt,sb,s0,s1])
   refine bk (by kernel_rfl) ?_ _;intro w1 cm;subst cm;go_wp2_with fail;refine aT (fun w'=>w'=w.drew.drew) (by kernel_rfl) rfl ?_
   iterate 10 (refine ty (v:= ?_) (some _) rfl rfl (by kernel_rfl) (fun _ _ _ h=>h) (bV (by kernel_rfl) ?_) ?_; rotate_left; (intro w0 hS0; subst hS0; go_simp; try with_reducible rfl); simp only [pt,sb,s0,s1])
   refine bk (by kernel_rfl) ?_ _;intro w1 cm;subst cm;go_wp2;go_ret;exact ⟨al HV.I.symm,(Kp _ _).drew.drew⟩
theorem wn (a:Option Addr) (l:List (ao × Nat)) (cap:Nat) (w:World) (hl:l.length≤1048576) (hr:Row w a (l.map fun p=>dt p.2)) (hb: ∀ p∈l,w.heap[p.2]? =some (.cells (aX p.1) 43 (0,0))):
  Calls J3 156 #[.slice a l.length cap,.func (.func 158) #[] #[]] w fun e w'=>e= .returned (.tuple #[qz ((li l).map (·.2)),.bool (decide (0 < l.length))])∧Below w.heap.size w w':=by
 have H:Hid (Row w a (l.map fun p=>dt p.2)∧ ∀ p∈l,w.heap[p.2]? =some (.cells (aX p.1) 43 (0,0))):=⟨hr,hb⟩
 clear hr hb
 go_enter Tryz.func156,Tryz.ntmps156
 go_wp2_with fail
 go_loopw [6,11] (fun b i wr=> ∃ (k:Nat) (r:Option (ao × Nat)),k≤l.length∧i= .int .i64 k∧b=qz (r.map (·.2))∧Hid (r=li (l.take k)∧Below w.heap.size w wr)) (fun _ i _=>l.length - (intOf i).toNat)
 case atStart=>exact ⟨0,none,Ky _,rfl,rfl,⟨by simp [li],Kp _ _⟩⟩
 case round=>
  obtain ⟨k,r,hk,rfl,rfl,HA⟩:=hrel;by_cases hlt:k < l.length
  ·have i0:(0:Int)≤(k:Int):=by omega
   have i1:(k:Int) < (l.length:Int):=by omega
   obtain ⟨p,hp⟩: ∃ p,l[k]? =some p:=⟨_,Kz hlt⟩
   obtain ⟨g,ha,hc⟩:=(H.I.1.below HA.I.2) k (dt p.2) (by simp [hp]);subst ha;unfold dt at hc;have HP:Hid (l[k]? =some p∧p∈l):=⟨hp,KA hp⟩
   clear hp;by_cases hk0:k=0
   ·have e0:((k:Int) == 0)=true:=by simp [hk0]
    have HS:Hid (some p=li (l.take (k+1))):=by show _=_; rw [cj HP.I.1,nH,hk0]; rfl
    clear hk0;go_wp2;go_roundw
    case rel=>exact ⟨k+1,some p,by omega,by go_num,rfl,⟨HS.I,HA.I.2⟩⟩
    case measure=>simp [intOf]; omega
   ·have e0:((k:Int) == 0)=false:=by simp [hk0]
    obtain ⟨y,hy,hym⟩:=ql (l:=l) (by omega:0 < k) hk;have hry:r=some y:=HA.I.1.trans hy;subst hry;have HQ:Hid (li (l.take k)=some y∧y∈l):=⟨hy,hym⟩
    clear hk0 hy hym;simp only [qz,dt,J9];go_wp2_with fail;refine (yX p.2 y.2 p.1 y.1 wr ((HA.I.2.block _ (J2.1 (H.I.2 p HP.I.2)).1).trans (H.I.2 p HP.I.2)) ((HA.I.2.block _ (J2.1 (H.I.2 y HQ.I.2)).1).trans (H.I.2 y HQ.I.2))).mono ?_;rintro e w4 ⟨rfl,hb4⟩;have HB4:Hid (Below w.heap.size w w4):=HA.I.2.trans (hb4.mono HA.I.2.size);clear hb4;cases FT:dF p.1.toaD y.1.toaD with
    | true=>
     have HS:Hid (some p=li (l.take (k+1))):=by show _=_; rw [cj HP.I.1,nH,HQ.I.1]; simp [tj,FT]
     clear FT;go_wp2;go_roundw
     case rel=>exact ⟨k+1,some p,by omega,by go_num,rfl,⟨HS.I,HB4.I⟩⟩
     case measure=>simp [intOf]; omega
    | false=>
     have HS:Hid (some y=li (l.take (k+1))):=by show _=_; rw [cj HP.I.1,nH,HQ.I.1]; simp [tj,FT]
     clear FT;go_wp2;go_roundw
     case rel=>exact ⟨k+1,some y,by omega,by go_num,rfl,⟨HS.I,HB4.I⟩⟩
     case measure=>simp [intOf]; omega
  ·have i1: ¬ (k:Int) < (l.length:Int):=by omega
   have HE:Hid (r=li l):=by have h5:=HA.I.1; rwa [KF (by omega)] at h5
   go_wp2;go_ret2;refine ⟨?_,HA.I.2⟩;rw [HE.I];simp
theorem EA (o:Nat) (q:ol) (lp:List (ao × Nat)) (base:Nat) (w:World) (hop:fa w o q) (hsh:Shelf aX (fun x:ao=>x.id) 43 w base q.bp lp) (hl:lp.length≤1048576) (hwf: ∀ p∈RW (fun x:ao=>x.id) lp,(Lit.int .i64 p.1).wf=true):
  Calls J3 157 #[.pointer (some ⟨o,0,none⟩)] w fun e w'=>(∃ a cap,e= .returned (.slice a (et lp).length cap)∧Row w' a ((et lp).map fun p=>dt p.2))∧Below w.heap.size w w':=by
 obtain ⟨i0,hi,e0⟩:=Kw.1 sQ;simp only [Kx] at e0;have HI:Hid (Tryz.prog.info? 102=some i0∧i0.zero=some (.pointer none)∧i0.size=1∧i0.bytes=8):=⟨hi,e0⟩
 have H:Hid (Shelf aX (fun x:ao=>x.id) 43 w base q.bp lp∧ ∀ p∈RW (fun x:ao=>x.id) lp,(Lit.int .i64 p.1).wf=true):=⟨hsh,hwf⟩
 have c2:w.cell? ⟨o,2,none⟩=some (.int .i64 6):=hop.cell 2;have c3:w.cell? ⟨o,3,none⟩=some (.map (some q.bp)):=hop.cell 3;have HK:Hid ((RW (fun x:ao=>x.id) lp).length=lp.length):=bZ lp;clear hop hsh hwf hi e0
 go_enter Tryz.func157,Tryz.ntmps157
 go_wp2_with fail;refine (mq 6 q.bp (RW (fun x:ao=>x.id) lp) w H.I.1.map (by rw [HK.I]; exact hl) H.I.2).mono ?_;rintro e w2 ⟨a,cap,rfl,hown,hb2⟩;obtain ⟨a',cap',hv,hrow⟩:=cr hown;cases hv;have HR:Hid (Row w2 a ((RW (fun x:ao=>x.id) lp).map fun p=>dt p.2)):=hrow;have HO:Hid (Shelf aX (fun x:ao=>x.id) 43 w2 base q.bp lp∧Below w.heap.size w w2):=⟨H.I.1.below hb2,hb2⟩
 rw [HK.I];clear hown hrow hb2 c2 c3;go_wp2_with fail
 go_loopw [3,12] (fun l i wr=> ∃ (k n:Nat),k≤lp.length∧n≤k∧i= .int .i64 k∧ ∃ a' cap',l= .slice a' n cap'∧Hid (n=(et (lp.take k)).length∧wr.ownsRow w2.heap.size 102 1 (.slice a' n cap') n ((et (lp.take k)).map fun p=>dt p.2)∧Below w2.heap.size w2 wr)) (fun _ i _=>lp.length - (intOf i).toNat)
 case atStart=>exact ⟨0,0,Ky _,Ki _,rfl,none,0,rfl,⟨rfl,World.ownsRow_nil _ _ _ _,Kp _ _⟩⟩
 case round=>
  obtain ⟨k,n,hk,hn,rfl,a',cap',rfl,HA⟩:=hrel;by_cases hlt:k < lp.length
  ·have qE:(0:Int)≤(k:Int):=by omega
   have i1:(k:Int) < (lp.length:Int):=by omega
   obtain ⟨p,hp⟩: ∃ p,lp[k]? =some p:=⟨_,Kz hlt⟩
   obtain ⟨g,ha,hc⟩:=(HR.I.below HA.I.2.2) k (dt p.2) (by simp [RW,hp]);subst ha;unfold dt at hc;have HP:Hid (lp[k]? =some p):=hp;have lW:wr.heap[p.2]? =some (.cells (aX p.1) 43 (0,0)):=(HO.I.1.below HA.I.2.2).box p (KA hp);obtain ⟨-,-,-,s3,-⟩:=bo lW;have kT:=HA.I.2.2.size;clear hp lW;by_cases hs:p.1.Md=1
   ·have e1:(p.1.Md == 1)=true:=by simp [hs]
    have SC:Hid ((et (lp.take (k+1)))=(et (lp.take k)) ++ [p]):=by show _=_; rw [cj HP.I,sV,if_pos hs]
    clear hs;go_wp2_with (at_builtin; refine wpList_append_own_at _ rfl _ _ 204 rfl w2.heap.size 102 i0 (.pointer none) 1 8 Tryz.underlying204 HI.I.1 HI.I.2.1 HI.I.2.2.1 HI.I.2.2.2 rfl (by decide) (.slice a' n cap') n ((et (lp.take k)).map fun p=>dt p.2) rfl (HA.I.2.1.alloc _) ⟨wr.heap.size,0,none⟩ 1 1 [.pointer (some ⟨p.2,0,none⟩)] (by rfl) rfl (World.news_of_block (cs:= #[.pointer (some ⟨p.2,0,none⟩)]) (t:=102) (fr:=(0,0)) (Kj wr _)) (by simp [Value.oneCell']) (by unfold maxLen; omega) (by omega) (by simp; omega) ?_; intro v' w5 hown' hgrow hnil jV; obtain ⟨a5,im,rfl,-⟩:=cr hown'; have HN:Hid (n+1=(et (lp.take (k+1))).length∧w5.ownsRow w2.heap.size 102 1 (.slice a5 (n+1) im) (n+1) ((et (lp.take (k+1))).map fun p=>dt p.2)∧Below w2.heap.size w2 w5):=⟨by rw [SC.I,List.length_append,← HA.I.1]; rfl,by rw [SC.I,List.map_append]; exact hown',(HA.I.2.2.alloc kT _).grown hgrow (by simp; omega) (fun q hq=>(HA.I.2.1.lt q hq).1)⟩; clear hown' hgrow hnil jV);go_roundw
    case rel=>exact ⟨k+1,n+1,by omega,by omega,by go_num,a5,im,rfl,HN⟩
    case measure=>simp [intOf]; omega
   ·have e1:(p.1.Md == 1)=false:=by simp [hs]
    have SC:Hid ((et (lp.take (k+1)))=(et (lp.take k))):=by show _=_; rw [cj HP.I,sV,if_neg hs,List.append_nil]
    clear hs;go_wp2;go_roundw
    case rel=>exact ⟨k+1,n,by omega,by omega,by go_num,a',cap',rfl,by show _∧_; rw [SC.I]; exact HA.I⟩
    case measure=>simp [intOf]; omega
  ·have i1: ¬ (k:Int) < (lp.length:Int):=by omega
   have HE:Hid (n=(et lp).length∧Row wr a' ((et lp).map fun p=>dt p.2)):=by
    have h5:=HA.I;rw [KF (by omega)] at h5;obtain ⟨b1,b2,hv,hrow⟩:=cr h5.2.1;cases hv;exact ⟨h5.1,hrow⟩
   go_wp2;go_ret;exact ⟨⟨a',⟨cap',by rw [← HE.I.1]; rfl⟩,HE.I.2⟩,HO.I.2.trans (HA.I.2.2.mono HO.I.2.size)⟩
theorem Cm (o:Nat) (q:ol) (lp:List (ao × Nat)) (base:Nat) (w:World) (hop:fa w o q) (hsh:Shelf aX (fun x:ao=>x.id) 43 w base q.bp lp) (hl:lp.length≤1048576) (hwf: ∀ p∈RW (fun x:ao=>x.id) lp,(Lit.int .i64 p.1).wf=true):
  Calls J3 80 #[.pointer (some ⟨o,0,none⟩)] w fun e w'=>e= .returned (.tuple #[qz ((li (et lp)).map (·.2)),.bool (decide (0 < (et lp).length))])∧Below w.heap.size w w':=by
 have H:Hid (fa w o q∧Shelf aX (fun x:ao=>x.id) 43 w base q.bp lp∧ ∀ p∈RW (fun x:ao=>x.id) lp,(Lit.int .i64 p.1).wf=true):=⟨hop,hsh,hwf⟩
 have HLR:Hid ((et lp).length≤1048576):=LG (List.length_filter_le _ _) hl;clear hop hsh hwf
 go_enter Tryz.func80,Tryz.ntmps80
 go_wp2_with fail;refine (EA o q lp base w H.I.1 H.I.2.1 hl H.I.2.2).mono ?_;rintro e w2 ⟨⟨a,cap,rfl,hr⟩,hb2⟩;have HB:Hid (Row w2 a ((et lp).map fun p=>dt p.2)∧Below w.heap.size w w2∧ ∀ p∈et lp,w2.heap[p.2]? =some (.cells (aX p.1) 43 (0,0))):=⟨hr,hb2,fun p hp=>(H.I.2.1.below hb2).box p (List.mem_filter.1 hp).1⟩
 clear hr hb2;go_wp2_with fail;refine (wn a (et lp) cap w2 HLR.I HB.I.1 HB.I.2.2).mono ?_;rintro e w3 ⟨rfl,hb3⟩;have oh:Hid (Below w.heap.size w w3):=HB.I.2.1.trans (hb3.mono HB.I.2.1.size);clear hb3;go_wp2;go_ret2;exact ⟨rfl,oh.I⟩
end
section
open Go.RowKit
attribute [local go_sem ↓] Kc Kd
theorem ij (p:af) (st on:Int) (w:World) (hl:p.L8.length≤1048576) (h:af.At w p):
  Calls J3 101 #[.agg p.cells,.int .i64 st,.int .i64 on] w fun e w'=>(∃ i:Int,e= .returned (.int .i64 i)∧dO (fun x:aD=>decide (x.Md=st) && decide (x.on=on)) p.pure.L8 p.L8.length i)∧Below w.heap.size w w':=by
 have HB:Hid (av (w.alloc (.cells p.cells 32)) w.heap.size p∧af.At (w.alloc (.cells p.cells 32)) p∧Below w.heap.size w (w.alloc (.cells p.cells 32))):=⟨Kj _ _,h.below ((Kp _ _).alloc (Ki _) _),(Kp _ _).alloc (Ki _) _⟩
 clear h;unfold af.cells at *
 go_enter Tryz.func101,Tryz.ntmps101
 go_wp2_with fail;generalize w.alloc (.cells p.row 32)=W at *
 go_loopw [7,8] (fun b i wr=> ∃ (k:Nat) (z:Int),k≤p.L8.length∧i= .int .i64 k∧b= .int .i64 z∧Hid (dO (fun x:aD=>decide (x.Md=st) && decide (x.on=on)) p.pure.L8 k z∧Below W.heap.size W wr)) (fun _ i _=>p.L8.length - (intOf i).toNat)
 case atStart=>exact ⟨0,-1,Ky _,rfl,rfl,⟨dO.start _ _,Kp _ _⟩⟩
 case round=>
  obtain ⟨k,z,hk,rfl,rfl,HA⟩:=hrel;have HW:Hid (av wr w.heap.size p∧af.At wr p∧Below w.heap.size w wr):=⟨HB.I.1.below HA.I.2,HB.I.2.1.below HA.I.2,HB.I.2.2.trans (HA.I.2.mono HB.I.2.2.size)⟩
  obtain ⟨-,-,m2,-⟩:=HW.I.1.cells;by_cases hlt:k < p.L8.length
  ·have i0:(0:Int)≤(k:Int):=by omega
   have i1:(k:Int) < (p.L8.length:Int):=by omega
   obtain ⟨x,hx⟩: ∃ x,p.L8[k]? =some x:=⟨_,Kz hlt⟩
   have HX:Hid (p.L8[k]? =some x∧p.pure.L8[k]? =some x.toaD):=⟨hx,by show (p.L8.map (·.toaD))[k]? =_; rw [Kk,hx]; rfl⟩
   obtain ⟨gs,ha,hat⟩:=cn HW.I.2.1.1 hx;have HG:Hid (p.aN=some ⟨gs,0,none⟩):=ha;rw [ha] at m2;obtain ⟨d0,d1,d2,d3,d4,d5,d6,d7,d8,d9,tH,tS⟩:=hat;clear hx ha;have hgl:w.heap.size < wr.heap.size:=(J2.1 HW.I.1).1;have HN:Hid (av (wr.alloc (.cells x.row 43)) w.heap.size p∧af.At (wr.alloc (.cells x.row 43)) p∧jx (wr.alloc (.cells x.row 43)) wr.heap.size x∧Below W.heap.size W (wr.alloc (.cells x.row 43))):=⟨HW.I.1.below ((Kp _ _).alloc (Ki _) _),HW.I.2.1.below ((Kp _ _).alloc (Ki _) _),Kj _ _,HA.I.2.alloc HA.I.2.size _⟩
   by_cases hs:x.Md=st
   ·by_cases ho:x.on=on
    ·have HF:Hid ((fun x:aD=>decide (x.Md=st) && decide (x.on=on)) x.toaD=true):=by show _=true; simp [hs,ho]
     have e1:(x.Md != st)=false:=by simp [hs]
     have e2:(x.on != on)=false:=by simp [ho]
     clear hs ho;go_wp2_with fail;generalize wr.alloc (.cells x.row 43)=W5 at *;generalize wr.heap.size=X at *;clear d0 d1 d2 d3 d4 d5 d6 d7 d8 d9 tH tS m2 e1 e2 hgl;obtain ⟨-,-,m2,-⟩:=HN.I.1.cells;rw [HG.I] at m2;obtain ⟨-,b1,-,-,-,-,-,-,-,-,-,b11⟩:=HN.I.2.2.1.cells;by_cases hz:z < 0
     ·have dz:decide (z < 0)=true:=decide_eq_true hz
      have HY:Hid (dO (fun x:aD=>decide (x.Md=st) && decide (x.on=on)) p.pure.L8 (k+1) k):=HA.I.1.first hz HX.I.2 HF.I;refine aT (fun w'=>w'=W5.drew) (by kernel_rfl) rfl ?_
      iterate 3 (refine ty (v:= ?_) (some _) rfl rfl (by kernel_rfl) (fun _ _ _ h=>h) (bV (by kernel_rfl) ?_) ?_; rotate_left; (intro w0 hS0; subst hS0; go_simp; try with_reducible rfl); simp only [pt,sb,s0,s1])
      iterate 9 (refine ty (some _) rfl rfl (by kernel_rfl) (fun _ _ _ h=>h) (np (by kernel_rfl)) ?_; simp only [pt,sb,s0,s1])
      iterate 2 (refine ty (v:= ?_) (some _) rfl rfl (by kernel_rfl) (fun _ _ _ h=>h) (bV (by kernel_rfl) ?_) ?_; rotate_left; (intro w0 hS0; subst hS0; go_simp; try with_reducible rfl); simp only [pt,sb,s0,s1])
      iterate 20 (refine ty (some _) rfl rfl (by kernel_rfl) (fun _ _ _ h=>h) (np (by kernel_rfl)) ?_; simp only [pt,sb,s0,s1])
      (refine ty (v:= ?_) (some _) rfl rfl (by kernel_rfl) (fun _ _ _ h=>h) (bV (by kernel_rfl) ?_) ?_; rotate_left; (intro w0 hS0; subst hS0; go_simp; try with_reducible rfl); simp only [pt,sb,s0,s1])
      refine bk (by kernel_rfl) ?_ _;intro w1 cm;subst cm;go_wp2;go_roundw
      case rel=>exact ⟨k+1,k,by omega,by go_num,rfl,⟨HY.I,HN.I.2.2.2.drew⟩⟩
      case measure=>simp [intOf]; omega
     have dz:decide (z < 0)=false:=decide_eq_false hz;obtain ⟨n,y0,hzn,hn,hy0,hbe⟩:=HA.I.1.got hz;subst hzn;have Fm:Hid (dO (fun x:aD=>decide (x.Md=st) && decide (x.on=on)) p.pure.L8 (k+1) (if dF x.toaD y0 then (k:Int) else (n:Int))):=dO.next hn hy0 hbe HX.I.2 HF.I;obtain ⟨y,hy,rfl⟩: ∃ y,p.L8[n]? =some y∧y.toaD=y0:=by
      have h5:(p.L8.map (·.toaD))[n]? =some y0:=hy0;rw [Kk,Kw] at h5;exact h5
     have j0:(0:Int)≤(n:Int):=by omega
     have j1:(n:Int) < (p.L8.length:Int):=by omega
     obtain ⟨gs2,ha2,g8⟩:=cn HN.I.2.1.1 hy;rw [HG.I] at ha2;cases ha2;obtain ⟨-,y1,-,-,-,-,-,-,-,-,-,y11⟩:=g8;clear hy hy0 hbe hz;by_cases hp:y.RX < x.RX
     ·have dp:decide (y.RX < x.RX)=true:=decide_eq_true hp
      have HY:Hid (dO (fun x:aD=>decide (x.Md=st) && decide (x.on=on)) p.pure.L8 (k+1) k):=by have h5:=Fm.I; rwa [show dF x.toaD y.toaD=true by unfold dF; rw [if_neg (by intro e; have e2:x.RX=y.RX:=e; omega)]; exact decide_eq_true hp,if_pos rfl] at h5
      clear hp Fm;refine aT (fun w'=>w'=W5.drew) (by kernel_rfl) rfl ?_
      iterate 14 (refine ty (v:= ?_) (some _) rfl rfl (by kernel_rfl) (fun _ _ _ h=>h) (bV (by kernel_rfl) ?_) ?_; rotate_left; (intro w0 hS0; subst hS0; go_simp; try with_reducible rfl); simp only [pt,sb,s0,s1])
      iterate 20 (refine ty (some _) rfl rfl (by kernel_rfl) (fun _ _ _ h=>h) (np (by kernel_rfl)) ?_; simp only [pt,sb,s0,s1])
      (refine ty (v:= ?_) (some _) rfl rfl (by kernel_rfl) (fun _ _ _ h=>h) (bV (by kernel_rfl) ?_) ?_; rotate_left; (intro w0 hS0; subst hS0; go_simp; try with_reducible rfl); simp only [pt,sb,s0,s1])
      refine bk (by kernel_rfl) ?_ _;intro w1 cm;subst cm;go_wp2;go_roundw
      case rel=>exact ⟨k+1,k,by omega,by go_num,rfl,⟨HY.I,HN.I.2.2.2.drew⟩⟩
      case measure=>simp [intOf]; omega
     have dp:decide (y.RX < x.RX)=false:=decide_eq_false hp;by_cases hq:x.RX=y.RX
     ·have dq:(x.RX == y.RX)=true:=by simp [hq]
      by_cases hr:x.RU < y.RU
      ·have dr:decide (x.RU < y.RU)=true:=decide_eq_true hr
       have HY:Hid (dO (fun x:aD=>decide (x.Md=st) && decide (x.on=on)) p.pure.L8 (k+1) k):=by have h5:=Fm.I; rwa [show dF x.toaD y.toaD=true by unfold dF; rw [if_pos hq]; exact dr,if_pos rfl] at h5
       clear hp hr Fm hq;refine aT (fun w'=>w'=W5.drew) (by kernel_rfl) rfl ?_
       iterate 35 (refine ty (v:= ?_) (some _) rfl rfl (by kernel_rfl) (fun _ _ _ h=>h) (bV (by kernel_rfl) ?_) ?_; rotate_left; (intro w0 hS0; subst hS0; go_simp; try with_reducible rfl); simp only [pt,sb,s0,s1])
       refine bk (by kernel_rfl) ?_ _;intro w1 cm;subst cm;go_wp2;go_roundw
       case rel=>exact ⟨k+1,k,by omega,by go_num,rfl,⟨HY.I,HN.I.2.2.2.drew⟩⟩
       case measure=>simp [intOf]; omega
      ·have dr:decide (x.RU < y.RU)=false:=decide_eq_false hr
       have HY:Hid (dO (fun x:aD=>decide (x.Md=st) && decide (x.on=on)) p.pure.L8 (k+1) n):=by have h5:=Fm.I; rwa [show dF x.toaD y.toaD=false by unfold dF; rw [if_pos hq]; exact dr,if_neg Bool.false_ne_true] at h5
       clear hp hr Fm hq;refine aT (fun w'=>w'=W5.drew) (by kernel_rfl) rfl ?_
       iterate 35 (refine ty (v:= ?_) (some _) rfl rfl (by kernel_rfl) (fun _ _ _ h=>h) (bV (by kernel_rfl) ?_) ?_; rotate_left; (intro w0 hS0; subst hS0; go_simp; try with_reducible rfl); simp only [pt,sb,s0,s1])
       refine bk (by kernel_rfl) ?_ _;intro w1 cm;subst cm;go_wp2;go_roundw
       case rel=>exact ⟨k+1,n,by omega,by go_num,rfl,⟨HY.I,HN.I.2.2.2.drew⟩⟩
       case measure=>simp [intOf]; omega
     ·have dq:(x.RX == y.RX)=false:=by simp [hq]
      have HY:Hid (dO (fun x:aD=>decide (x.Md=st) && decide (x.on=on)) p.pure.L8 (k+1) n):=by have h5:=Fm.I; rwa [show dF x.toaD y.toaD=false by unfold dF; rw [if_neg hq]; exact dp,if_neg Bool.false_ne_true] at h5
      clear hp Fm hq;refine aT (fun w'=>w'=W5.drew) (by kernel_rfl) rfl ?_
      iterate 24 (refine ty (v:= ?_) (some _) rfl rfl (by kernel_rfl) (fun _ _ _ h=>h) (bV (by kernel_rfl) ?_) ?_; rotate_left; (intro w0 hS0; subst hS0; go_simp; try with_reducible rfl); simp only [pt,sb,s0,s1])
      iterate 9 (refine ty (some _) rfl rfl (by kernel_rfl) (fun _ _ _ h=>h) (np (by kernel_rfl)) ?_; simp only [pt,sb,s0,s1])
      iterate 2 (refine ty (v:= ?_) (some _) rfl rfl (by kernel_rfl) (fun _ _ _ h=>h) (bV (by kernel_rfl) ?_) ?_; rotate_left; (intro w0 hS0; subst hS0; go_simp; try with_reducible rfl); simp only [pt,sb,s0,s1])
      refine bk (by kernel_rfl) ?_ _;intro w1 cm;subst cm;go_wp2;go_roundw
      case rel=>exact ⟨k+1,n,by omega,by go_num,rfl,⟨HY.I,HN.I.2.2.2.drew⟩⟩
      case measure=>simp [intOf]; omega
    ·have HY:Hid (dO (fun x:aD=>decide (x.Md=st) && decide (x.on=on)) p.pure.L8 (k+1) z):=HA.I.1.skip HX.I.2 (by simp [ho])
     have e1:(x.Md != st)=false:=by simp [hs]
     have e2:(x.on != on)=true:=by simp [ho]
     clear hs ho;go_wp2;go_roundw
     case rel=>exact ⟨k+1,z,by omega,by go_num,rfl,⟨HY.I,HN.I.2.2.2⟩⟩
     case measure=>simp [intOf]; omega
   ·have HY:Hid (dO (fun x:aD=>decide (x.Md=st) && decide (x.on=on)) p.pure.L8 (k+1) z):=HA.I.1.skip HX.I.2 (by simp [hs])
    have e1:(x.Md != st)=true:=by simp [hs]
    clear hs;go_wp2;go_roundw
    case rel=>exact ⟨k+1,z,by omega,by go_num,rfl,⟨HY.I,HN.I.2.2.2⟩⟩
    case measure=>simp [intOf]; omega
  ·have i1: ¬ (k:Int) < (p.L8.length:Int):=by omega
   have HE:Hid (dO (fun x:aD=>decide (x.Md=st) && decide (x.on=on)) p.pure.L8 p.L8.length z):=by have h5:=HA.I.1; rwa [show k=p.L8.length by omega] at h5
   go_wp2;go_ret;exact ⟨⟨z,rfl,HE.I⟩,HW.I.2.2⟩
end
section
open Go.RowKit Go.Maps
structure kX (w W:World) (o:Nat) (q:ol) (lp:List (ao × Nat)) (ms me mb mf:df):Prop where
 opn:fa W o q
 eh:Shelf aX (fun x:ao=>x.id) 43 W 0 q.bp lp
 ms:cF W q.bs ms
 me:cF W q.be me
 mb:cF W q.bb mb
 mf:cF W q.bf mf
 cd:Below w.heap.size w W
theorem kX.below {w W W':World} {o:Nat} {q:ol} {lp:List (ao × Nat)} {ms me mb mf:df} (h:kX w W o q lp ms me mb mf) (hb:Below W.heap.size W W'):kX w W' o q lp ms me mb mf:=
 ⟨h.opn.below hb,h.eh.below hb,h.ms.below hb,h.me.below hb,h.mb.below hb,h.mf.below hb,h.cd.trans (hb.mono h.cd.size)⟩
theorem kX.has {w W:World} {o:Nat} {q:ol} {lp:List (ao × Nat)} {ms me mb mf:df} (h:kX w W o q lp ms me mb mf) {p:ao × Nat} (hp:p∈lp):fu W W o p.2 q p.1 ms me mb mf:=
 ⟨h.opn,h.eh.box p hp,h.ms,h.me,h.mb,h.mf,Kp _ _⟩
structure ao.Wf (x:ao):Prop where
 id:(Lit.int .i64 x.id).wf=true
 on:(Lit.int .i64 x.on).wf=true
 RU:(Lit.int .i64 x.RU).wf=true
theorem DE {lp:List (ao × Nat)} (h: ∀ p∈lp,p.1.Wf): ∀ p∈RW (fun x:ao=>x.id) lp,(Lit.int .i64 p.1).wf=true:=fun p hp=>by
 obtain ⟨r,hr,rfl⟩:=Lr.1 hp;exact (h r hr).id
theorem Bh (o:Nat) (q:ol) (lp:List (ao × Nat)) (ms me mb mf:df) (w:World) (h:kX w w o q lp ms me mb mf) (hl:lp.length≤1048576) (hwf: ∀ p∈lp,p.1.Wf):
  Calls J3 154 #[.pointer (some ⟨o,0,none⟩)] w fun e w'=>e= .returned (.bool (lp.all fun p=>fw ms me mb mf p.1))∧Below w.heap.size w w':=by
 have H:Hid (kX w w o q lp ms me mb mf∧ ∀ p∈lp,p.1.Wf):=⟨h,hwf⟩
 have c2:w.cell? ⟨o,2,none⟩=some (.int .i64 6):=h.opn.cell 2;have c3:w.cell? ⟨o,3,none⟩=some (.map (some q.bp)):=h.opn.cell 3;have hkl:(RW (fun x:ao=>x.id) lp).length=lp.length:=bZ lp;have HK:Hid ((RW (fun x:ao=>x.id) lp).length=lp.length):=hkl;clear h hwf hkl
 go_enter Tryz.func154,Tryz.ntmps154
 go_wp2_with fail;refine (mq 6 q.bp (RW (fun x:ao=>x.id) lp) w H.I.1.eh.map (by rw [HK.I]; exact hl) (DE H.I.2)).mono ?_;rintro e w2 ⟨a,cap,rfl,hown,hb2⟩;obtain ⟨a',cap',hv,hrow⟩:=cr hown;cases hv;have HR:Hid (Row w2 a ((RW (fun x:ao=>x.id) lp).map fun p=>dt p.2)):=hrow;have HO:Hid (kX w w2 o q lp ms me mb mf):=H.I.1.below hb2;rw [HK.I];clear hown hrow hb2 c2 c3;go_wp2_with fail
 go_loopw [11] (fun i wr=> ∃ k:Nat,k≤lp.length∧i= .int .i64 k∧Hid (((lp.take k).all fun p=>fw ms me mb mf p.1)=true∧Below w2.heap.size w2 wr)) (fun i _=>lp.length - (intOf i).toNat)
 case atStart=>exact ⟨0,Ky _,rfl,⟨by simp,Kp _ _⟩⟩
 case round=>
  obtain ⟨k,hk,rfl,HA⟩:=hrel;have HO2:Hid (kX w wr o q lp ms me mb mf):=HO.I.below HA.I.2;by_cases hlt:k < lp.length
  ·have i0:(0:Int)≤(k:Int):=by omega
   have i1:(k:Int) < (lp.length:Int):=by omega
   obtain ⟨p,hp⟩: ∃ p,lp[k]? =some p:=⟨_,Kz hlt⟩
   have hpm:=KA hp;obtain ⟨g,ha,hc⟩:=(HR.I.below HA.I.2) k (dt p.2) (by simp [RW,hp]);subst ha;unfold dt at hc;have HP:Hid (lp[k]? =some p∧p∈lp):=⟨hp,hpm⟩
   clear hp hpm;go_wp2_with fail;refine (Ak o p.2 q p.1 ms me mb mf wr (HO2.I.has HP.I.2) (H.I.2 p HP.I.2).on).mono ?_;rintro e w4 ⟨rfl,hb4⟩;have HB4:Hid (Below w2.heap.size w2 w4):=HA.I.2.trans (hb4.mono HA.I.2.size);have HF4:Hid (Below w.heap.size w w4):=HO2.I.cd.trans (hb4.mono HO2.I.cd.size);clear hb4;cases FN:fw ms me mb mf p.1 with
   | true=>
    have HY:Hid (((lp.take (k+1)).all fun p=>fw ms me mb mf p.1)=true):=by
     show _=true
     rw [cj HP.I.1,List.all_append,HA.I.1];simp [FN]
    clear FN;go_wp2;go_roundw
    case rel=>exact ⟨k+1,by omega,by go_num,⟨HY.I,HB4.I⟩⟩
    case measure=>simp [intOf]; omega
   | false=>
    have HN:Hid ((lp.all fun p=>fw ms me mb mf p.1)=false):=by
     show _=false
     rw [List.all_eq_false];exact ⟨p,HP.I.2,by simp [FN]⟩
    clear FN;go_wp2;go_ret;exact ⟨al HN.I.symm,HF4.I⟩
  ·have i1: ¬ (k:Int) < (lp.length:Int):=by omega
   have HT:Hid ((lp.all fun p=>fw ms me mb mf p.1)=true):=by have:=HA.I.1; rwa [KF (by omega)] at this
   go_wp2;go_ret;exact ⟨al HT.I.symm,HO2.I.cd⟩
end
end Go.Proofs.YtkbcplnlehdjfaaGreat
