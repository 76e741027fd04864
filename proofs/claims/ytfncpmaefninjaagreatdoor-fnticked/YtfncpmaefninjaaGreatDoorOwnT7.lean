/- What the proof leans on, part 7. -/
import Derived.Test.YtfncpmaefninjaaGreatDoorOwnT3
set_option linter.all false
set_option maxRecDepth 100000
set_option maxHeartbeats 8000000
open Go.Proofs.Tryz
open Go renaming World->w_,Calls->k_,Addr->d_
open Go.Ending renaming returned->r_
open Go.IntKind renaming i64->j_
open Go.Obj renaming cells->c_
open Go.RowKit renaming Below->B_,Hid->bE
open Go.Value renaming int->i_,slice->s_,bool->b_,string->t_,agg->a_,pointer->p_,tuple->u_
open Option renaming some->o_,none->n_
open Function renaming comp_def->Ls
open Go renaming wp_at_succ->Kd,wp_at_zero->Kc
open Go.Proofs.Tryz renaming prog->J3
open Go.RowKit renaming run_makeMap->P4

open Go.RowKit
namespace Go.Proofs.YtfncpmaefninjaaGreatDoor
section
open Go.Maps
attribute [local go_sem ↓] Kc Kd
def aR:gd ao:=⟨aX,fun x=>x.id,41,45,4,fun x=>x.aY,fun x=>x.bH,fun x=>x.prog.length,fun x=>fk.flat x.prog,fun x a c=> { x with aY:=a,bH:=c },fun _ _ _=>rfl,fun _ _ _=>rfl,fun _ _ _=>rfl,fun _ _ _=>rfl,fun _ _ _=>rfl,fun _ _ _ _ _=>rfl⟩
def aC:gd au:=⟨bQ,fun x=>x.id,96,9,1,fun x=>x.ak,fun x=>x.aq,fun x=>x.Ma.length,fun x=>bT.flat x.Ma,fun x a c=> { x with ak:=a,aq:=c },fun _ _ _=>rfl,fun _ _ _=>rfl,fun _ _ _=>rfl,fun _ _ _=>rfl,fun _ _ _=>rfl,fun _ _ _ _ _=>rfl⟩
def aU:gd aM:=⟨cW,fun x=>x.id,115,9,1,fun x=>x.ak,fun x=>x.aq,fun x=>x.Ma.length,fun x=>bT.flat x.Ma,fun x a c=> { x with ak:=a,aq:=c },fun _ _ _=>rfl,fun _ _ _=>rfl,fun _ _ _=>rfl,fun _ _ _=>rfl,fun _ _ _=>rfl,fun _ _ _ _ _=>rfl⟩
def fY {α:Type} (N:gd α) (w:w_) (bj:Nat) (l:List (α × Nat)):Prop:= ∀ p∈l,Row w (N.ad p.1) (N.flat p.1)/\N.len p.1<=1048576/\ ∀ g,N.bt p.1=o_ g->g < bj
def fY.low {α:Type} {N:gd α} {w w':w_} {bj:Nat} {l:List (α × Nat)} (h:fY N w bj l) (hb:B_ bj w w'):fY N w' bj l:=fun p hp=>
 ⟨(h p hp).1.low (fun q e=>(h p hp).2.2 q.block (by simp [gd.bt,e])) hb,(h p hp).2⟩
def D5:(Tryz.prog.info? 45).map (fun i=>(i.zero,i.size,i.bytes))=o_ (o_ (a_ #[i_ j_ 0,i_ j_ 0,i_ j_ 0,t_ ⟨#[]⟩]),4,40):=by kernel_rfl
def zD:(Tryz.prog.info? 9).map (fun i=>(i.zero,i.size,i.bytes))=o_ (o_ (t_ ⟨#[]⟩),1,16):=by kernel_rfl
def FE {l:List dN} : ∀ u∈fk.flat l,u.oneCell'=true:=fun u hu=>by
 obtain ⟨x,_,hx⟩:=Rt.1 hu;simp only [fk,CC,Kt,Ku,or_false] at hx;rcases hx with rfl | rfl | rfl | rfl <;> rfl
def yK {l:List ByteArray} : ∀ u∈bT.flat l,u.oneCell'=true:=fun u hu=>by
 obtain ⟨x,_,hx⟩:=Rt.1 hu;simp only [bT,Kt,Ku,or_false] at hx;subst hx;rfl
def FR (w:w_) (a:Option d_) (l:List dN) (cap:Nat) (h:Row w a (fk.flat l)) (hl:l.length<=1048576):
  ∃ a' cap' w',(Builtin.append_ #[39,39] 39 #[s_ n_ 0 0,s_ a l.length cap]).run J3 w= .ok (s_ a' l.length cap') w'/\w'.ownsRow w.heap.size 45 4 (s_ a' l.length cap') l.length (fk.flat l)/\w.grownBy w' n_:=by
 obtain ⟨i,hi,e⟩:=Kw.1 D5;simp only [Kx] at e;exact sZ w _ _ 45 i _ 4 40 underlying39 hi e.1 e.2.1 e.2.2 rfl (by decide) a l.length cap _ h (fk.dM l) FE hl (by decide)
def xF (w:w_) (a:Option d_) (l:List ByteArray) (cap:Nat) (h:Row w a (bT.flat l)) (hl:l.length<=1048576):
  ∃ a' cap' w',(Builtin.append_ #[94,94] 94 #[s_ n_ 0 0,s_ a l.length cap]).run J3 w= .ok (s_ a' l.length cap') w'/\w'.ownsRow w.heap.size 9 1 (s_ a' l.length cap') l.length (bT.flat l)/\w.grownBy w' n_:=by
 obtain ⟨i,hi,e⟩:=Kw.1 zD;simp only [Kx] at e;exact sZ w _ _ 9 i _ 1 16 underlying94 hi e.1 e.2.1 e.2.2 rfl (by decide) a l.length cap _ h (bT.dM l) yK hl (by decide)
structure kG {α:Type} (N:gd α) (w0 wr:w_) (bj b:Nat) (l l':List (α × Nat)):Prop where
 eh:Shelf N.vs N.num N.T wr bj b l'
 alike:l'.map (fun p=>(N.set p.1 n_ 0,p.2))=l.map (fun p=>(N.set p.1 n_ 0,p.2))
 mine: ∀ p∈l',N.cO wr w0.heap.size p.1
 nodup:(kids N l').Nodup
 os:wr.os=w0.os
 tape:wr.tape=w0.tape
 output:wr.output=w0.output
 size:w0.heap.size<=wr.heap.size
 same: ∀ g,g < w0.heap.size->g∉l.map (·.2)->wr.heap[g]? =w0.heap[g]?
def fS.owned {α:Type} {N:gd α} {w0 wr:w_} {bj b:Nat} {l l':List (α × Nat)} {left:Lit->Bool} (h:fS N w0 wr bj b l l' left) (hd: ∀ kl,left kl=false):kG N w0 wr bj b l l':=
 ⟨h.eh,h.alike,fun p hp=>h.own p hp (hd _),h.nodup hd,h.os,h.tape,h.output,h.size,h.same⟩
def kG.below {α:Type} {N:gd α} {w0 wr:w_} {bj b:Nat} {l l':List (α × Nat)} (h:kG N w0 wr bj b l l') (hb:bj<=w0.heap.size) (hl: ∀ g∈l.map (·.2),bj<=g):B_ bj w0 wr:=
 ⟨h.os,h.tape,h.output,h.size,fun g hg=>h.same g zo (fun hm=>by have:=hl g hm; omega)⟩
structure mv (w:w_) (bj o:Nat) (q:ol) (lp:List (ao × Nat)) (lf:List (au × Nat)) (lq:List (aM × Nat)):Prop where
 opn:fa w o q
 L8:Shelf aX (fun x:ao=>x.id) 41 w bj q.bp lp
 ae:Shelf bQ (fun x:au=>x.id) 96 w bj q.bf lf
 ai:Shelf cW (fun x:aM=>x.id) 115 w bj q.bq lq
 nodup:(o :: ((q.bp :: lp.map (·.2)) ++ ((q.bf :: lf.map (·.2)) ++ (q.bq :: lq.map (·.2))))).Nodup
def mv.EK {w w':w_} {bj o:Nat} {q:ol} {lp l':List (ao × Nat)} {lf:List (au × Nat)} {lq:List (aM × Nat)} (h:mv w bj o q lp lf lq) (ho:kG aR w w' bj q.bp lp l'):mv w' bj o q l' lf lq:=by
 have hbl:l'.map (·.2)=lp.map (·.2):=by
  have:=congrArg (List.map (·.2)) ho.alike
  exact Zax
 have hn:=h.nodup;rw [Lp,Kf] at hn;obtain ⟨h1,h2,h3,h4⟩:=hn;have hlp: ∀ g,g∈(q.bf :: lf.map (·.2)) ++ (q.bq :: lq.map (·.2))->g∉lp.map (·.2):=fun g hg hm=>h4 g (LB _ hm) g hg rfl
 refine ⟨(ho.same o (J2.1 h.opn).1 (fun hm=>h1 (by simp [Lr.1 hm]))).trans h.opn,ho.eh,h.ae.same fun g hg=>ho.same g (h.ae.lt g hg) (hlp g (Lz _ hg)),h.ai.same fun g hg=>ho.same g (h.ai.lt g hg) (hlp g (Ly _ hg)),?_⟩;rw [hbl];exact h.nodup
def mv.Af {w w':w_} {bj o:Nat} {q:ol} {lp:List (ao × Nat)} {lf l':List (au × Nat)} {lq:List (aM × Nat)} (h:mv w bj o q lp lf lq) (ho:kG aC w w' bj q.bf lf l'):mv w' bj o q lp l' lq:=by
 have hbl:l'.map (·.2)=lf.map (·.2):=by
  have:=congrArg (List.map (·.2)) ho.alike
  exact Zax
 have hn:=h.nodup;rw [Lp,Kf,Kf] at hn;obtain ⟨h1,h2,⟨h3,h5,h6⟩,h4⟩:=hn;refine ⟨(ho.same o (J2.1 h.opn).1 (fun hm=>h1 (by simp [Lr.1 hm]))).trans h.opn,h.L8.same fun g hg=>ho.same g (h.L8.lt g hg) (fun hm=>h4 g hg g (Lz _ (LB _ hm)) rfl),ho.eh,h.ai.same fun g hg=>ho.same g (h.ai.lt g hg) (fun hm=>h6 g (LB _ hm) g hg rfl),?_⟩;rw [hbl];exact h.nodup
def wO (o bj:Nat) (q:ol) (lp:List (ao × Nat)) (lf:List (au × Nat)) (lq:List (aM × Nat)) (w:w_) (h:mv w bj o q lp lf lq) (hb:bj<=w.heap.size) (h1:fY aR w bj lp) (h2:fY aC w bj lf) (h3:fY aU w bj lq):
  k_ J3 58 #[p_ (o_ ⟨o,0,n_⟩)] w fun e w'=>e=r_ (u_ #[])/\ ∃ w1 w2 l0 l1 l2,kG aR w w1 bj q.bp lp l0/\kG aC w1 w2 bj q.bf lf l1/\kG aU w2 w' bj q.bq lq l2:=by
 have HT:bE (mv w bj o q lp lf lq):=h;have Fy:bE (bj<=w.heap.size):=hb;have Ia:bE (∀ g∈lp.map (·.2),bj<=g):=fun g hg=>h.L8.low g (LB _ hg)
 have HLP:bE (fY aR w bj lp):=h1;have I8:bE (fY aC w bj lf):=h2;have ID:bE (fY aU w bj lq):=h3;clear h hb h1 h2 h3
 go_enter func58,ntmps58
 have c0:w.cell? ⟨o,3,n_⟩=o_ (.map (o_ q.bp)):=HT.I.opn.cell 3;have hown:=HT.I.L8.map.1;go_wp2_with (at_range; refine wpList_range_own _ rfl _ 67 rfl 2 64 jb underlying67 od q.bp _ _ rfl hown ?_; intro w1 BW CT hs1);have HS:bE (fS aR w w1 bj q.bp lp lp (Maps.has (gA (RW aR.num lp)))):=fS.start HT.I.L8 CT;have En:bE (∀ g∈q.bp :: lp.map (·.2),g < w.heap.size):=HT.I.L8.lt;clear hown c0 CT
 go_frame
 go_loopw [3] (fun _ tD=> ∃ (left:Lit->Bool) (cnt:Nat) (l':List (ao × Nat)),tD.ranges J3 2 od q.bp w.heap.size (RW (fun x:ao=>x.id) lp).length (gA (RW (fun x:ao=>x.id) lp)) left cnt/\bE (fS aR w tD bj q.bp lp l' left)) (fun _ tD=>tD.rangeLeft q.bp w.heap.size)
 case atStart=>exact ⟨_,_,lp,BW,HS.I⟩
 case round=>
  rename w_=>tD
  clear HS BW hs1 w1;obtain ⟨left,cnt,l0,hrg,HO⟩:=hrel;go_wp2_with (at_next; refine wpList_next_ranges _ rfl _ rfl 2 jb od (Value.int j_) dt (fun key kl hk=>by obtain ⟨x,rfl,_⟩:=RB underlying2 hk; exact ⟨x,rfl⟩) (fun v y hv=>by obtain ⟨g,rfl,_⟩:=oI hv; exact ⟨g,rfl⟩) q.bp w.heap.size _ _ _ _ rfl hrg ?_ ?_)
  .intro hc0 hl0
   have VH:bE (kG aR w tD bj q.bp lp l0):=HO.I.owned hl0;clear hrg HO hc0 hl0 En left cnt;have HTN:bE (mv tD bj o q l0 lf lq):=HT.I.EK VH.I;clear HT;have HT:bE (mv tD bj o q l0 lf lq):=HTN.I;have HLI:bE (fY aC tD bj lf/\fY aU tD bj lq):=⟨I8.I.low (VH.I.below Fy.I Ia.I),ID.I.low (VH.I.below Fy.I Ia.I)⟩
   have HBN:bE (bj<=tD.heap.size):=LG Fy.I VH.I.size;clear HTN Fy Ia HLP;have Fy:bE (bj<=tD.heap.size):=HBN.I;have Ia:bE (∀ g∈lf.map (·.2),bj<=g):=fun g hg=>HT.I.ae.low g (LB _ hg)
   clear I8 ID;have I8:bE (fY aC tD bj lf):=HLI.I.1;have ID:bE (fY aU tD bj lq):=HLI.I.2;clear HLI HBN;have c1:tD.cell? ⟨o,11,n_⟩=o_ (.map (o_ q.bf)):=HT.I.opn.cell 11;have hown:=HT.I.ae.map.1;go_wp2_with (at_range; refine wpList_range_own _ rfl _ 79 rfl 2 168 jb underlying79 od q.bf _ _ rfl hown ?_; intro w1 BW CT hs1);have HS:bE (fS aC tD w1 bj q.bf lf lf (Maps.has (gA (RW aC.num lf)))):=fS.start HT.I.ae CT;have Jt:bE (∀ g∈q.bf :: lf.map (·.2),g < tD.heap.size):=HT.I.ae.lt;clear hown c1 CT
   go_frame
   go_loopw [5] (fun _ wr2=> ∃ (left:Lit->Bool) (cnt:Nat) (l':List (au × Nat)),wr2.ranges J3 2 od q.bf tD.heap.size (RW (fun x:au=>x.id) lf).length (gA (RW (fun x:au=>x.id) lf)) left cnt/\bE (fS aC tD wr2 bj q.bf lf l' left)) (fun _ wr2=>wr2.rangeLeft q.bf tD.heap.size)
   case atStart=>exact ⟨_,_,lf,BW,HS.I⟩
   case round=>
    rename w_=>wr2
    clear HS BW hs1 w1;obtain ⟨left,cnt,l1,hrg,HO⟩:=hrel;go_wp2_with (at_next; refine wpList_next_ranges _ rfl _ rfl 2 jb od (Value.int j_) dt (fun key kl hk=>by obtain ⟨x,rfl,_⟩:=RB underlying2 hk; exact ⟨x,rfl⟩) (fun v y hv=>by obtain ⟨g,rfl,_⟩:=oI hv; exact ⟨g,rfl⟩) q.bf tD.heap.size _ _ _ _ rfl hrg ?_ ?_)
    .intro hc0 hl0
     have HD1:bE (kG aC tD wr2 bj q.bf lf l1):=HO.I.owned hl0;clear hrg HO hc0 hl0 Jt left cnt;have HTN:bE (mv wr2 bj o q l0 l1 lq):=HT.I.Af HD1.I;clear HT;have HT:bE (mv wr2 bj o q l0 l1 lq):=HTN.I;have HLI:bE (fY aU wr2 bj lq):=ID.I.low (HD1.I.below Fy.I Ia.I);have HBN:bE (bj<=wr2.heap.size):=LG Fy.I HD1.I.size;clear HTN Fy Ia I8;have Fy:bE (bj<=wr2.heap.size):=HBN.I;have Ia:bE (∀ g∈lq.map (·.2),bj<=g):=fun g hg=>HT.I.ai.low g (LB _ hg)
     clear ID;have ID:bE (fY aU wr2 bj lq):=HLI.I;clear HLI HBN;have c2:wr2.cell? ⟨o,13,n_⟩=o_ (.map (o_ q.bq)):=HT.I.opn.cell 13;have hown:=HT.I.ai.map.1;go_wp2_with (at_range; refine wpList_range_own _ rfl _ 82 rfl 2 169 jb underlying82 od q.bq _ _ rfl hown ?_; intro w1 BW CT hs1);have HS:bE (fS aU wr2 w1 bj q.bq lq lq (Maps.has (gA (RW aU.num lq)))):=fS.start HT.I.ai CT;have HL2:bE (∀ g∈q.bq :: lq.map (·.2),g < wr2.heap.size):=HT.I.ai.lt;clear hown c2 CT
     go_frame
     go_loopw [7] (fun _ wr3=> ∃ (left:Lit->Bool) (cnt:Nat) (l':List (aM × Nat)),wr3.ranges J3 2 od q.bq wr2.heap.size (RW (fun x:aM=>x.id) lq).length (gA (RW (fun x:aM=>x.id) lq)) left cnt/\bE (fS aU wr2 wr3 bj q.bq lq l' left)) (fun _ wr3=>wr3.rangeLeft q.bq wr2.heap.size)
     case atStart=>exact ⟨_,_,lq,BW,HS.I⟩
     case round=>
      rename w_=>wr3
      clear HS BW hs1 w1;obtain ⟨left,cnt,l2,hrg,HO⟩:=hrel;go_wp2_with (at_next; refine wpList_next_ranges _ rfl _ rfl 2 jb od (Value.int j_) dt (fun key kl hk=>by obtain ⟨x,rfl,_⟩:=RB underlying2 hk; exact ⟨x,rfl⟩) (fun v y hv=>by obtain ⟨g,rfl,_⟩:=oI hv; exact ⟨g,rfl⟩) q.bq wr2.heap.size _ _ _ _ rfl hrg ?_ ?_)
      .intro hc0 hl0
       have HD2:bE (kG aU wr2 wr3 bj q.bq lq l2):=HO.I.owned hl0;clear hrg HO hc0 hl0 HL2 left cnt;go_wp2
       go_end0
       exact ⟨rfl,tD,wr2,l0,l1,l2,VH.I,HD1.I,HD2.I⟩
      .intro x c kl y1 y2 w2 cnt2 hkey hlk hv hat hrg2 oX rx oE hen
       obtain ⟨p,hp,rfl,rfl,rfl⟩:=HO.I.pick hkey hv hat;have hpl:p.2∈lq.map (·.2):=by rw [<- HO.I.Mc]; exact Lr.2 ⟨p,hp,rfl⟩
       have td:=HO.I.old p hp hlk;have hpw:=HL2.I p.2 (LB _ hpl);have lD:w2.heap[p.2]? =o_ (c_ (cW p.1) 115):=(rx.block p.2 (Kn hpw HO.I.size) (fun e=>by have:=KC e; omega)).trans (HO.I.eh.box p hp);have hrow:Row w2 p.1.ak (bT.flat p.1.Ma):=(ID.I p td).1.same fun g e=>by
        have hgb:g < bj:=(ID.I p td).2.2 g Zdj;exact TZ
       obtain ⟨a3,UY,w3,hap,sY,hg3⟩:=xF w2 p.1.ak p.1.Ma p.1.aq hrow (ID.I p td).2.1;have cc:w2.cell? ⟨p.2,4,n_⟩=o_ (s_ p.1.ak p.1.Ma.length p.1.aq):=by simp [World.cell?,lD,cW]
       have oG:=(hg3.block p.2 (J2.1 lD).1 zw).trans lD;have cc3:w3.cell? ⟨p.2,4,n_⟩=o_ (s_ p.1.ak p.1.Ma.length p.1.aq):=by simp [World.cell?,oG,cW]
       have cf3:w3.frozen? ⟨p.2,4,n_⟩=false:=by simp [World.frozen?,oG]
       have HN:=HO.I.ju (i:=4) hrg rx hrg2 HL2.I (Ki _) hp sY hg3 rfl;have Hb:bE (_/\_):=HN;have j6:bE (cnt2 < cnt/\wr3.rangeLeft q.bq wr2.heap.size=cnt):=⟨oX,hrg.left_eq⟩
       exact Q2
    .intro x c kl y1 y2 w2 cnt2 hkey hlk hv hat hrg2 oX rx oE hen
     obtain ⟨p,hp,rfl,rfl,rfl⟩:=HO.I.pick hkey hv hat;have hpl:p.2∈lf.map (·.2):=by rw [<- HO.I.Mc]; exact Lr.2 ⟨p,hp,rfl⟩
     have td:=HO.I.old p hp hlk;have hpw:=Jt.I p.2 (LB _ hpl);have lD:w2.heap[p.2]? =o_ (c_ (bQ p.1) 96):=(rx.block p.2 (Kn hpw HO.I.size) (fun e=>by have:=KC e; omega)).trans (HO.I.eh.box p hp);have hrow:Row w2 p.1.ak (bT.flat p.1.Ma):=(I8.I p td).1.same fun g e=>by
      have hgb:g < bj:=(I8.I p td).2.2 g Zdj;exact TZ
     obtain ⟨a3,UY,w3,hap,sY,hg3⟩:=xF w2 p.1.ak p.1.Ma p.1.aq hrow (I8.I p td).2.1;have cc:w2.cell? ⟨p.2,2,n_⟩=o_ (s_ p.1.ak p.1.Ma.length p.1.aq):=by simp [World.cell?,lD,bQ]
     have oG:=(hg3.block p.2 (J2.1 lD).1 zw).trans lD;have cc3:w3.cell? ⟨p.2,2,n_⟩=o_ (s_ p.1.ak p.1.Ma.length p.1.aq):=by simp [World.cell?,oG,bQ]
     have cf3:w3.frozen? ⟨p.2,2,n_⟩=false:=by simp [World.frozen?,oG]
     have HN:=HO.I.ju (i:=2) hrg rx hrg2 Jt.I (Ki _) hp sY hg3 rfl;have Hb:bE (_/\_):=HN;have j6:bE (cnt2 < cnt/\wr2.rangeLeft q.bf tD.heap.size=cnt):=⟨oX,hrg.left_eq⟩
     exact Q2
  .intro x c kl y1 y2 w2 cnt2 hkey hlk hv hat hrg2 oX rx oE hen
   obtain ⟨p,hp,rfl,rfl,rfl⟩:=HO.I.pick hkey hv hat;have hpl:p.2∈lp.map (·.2):=by rw [<- HO.I.Mc]; exact Lr.2 ⟨p,hp,rfl⟩
   have td:=HO.I.old p hp hlk;have hpw:=En.I p.2 (LB _ hpl);have lD:w2.heap[p.2]? =o_ (c_ (aX p.1) 41):=(rx.block p.2 (Kn hpw HO.I.size) (fun e=>by have:=KC e; omega)).trans (HO.I.eh.box p hp);have hrow:Row w2 p.1.aY (fk.flat p.1.prog):=(HLP.I p td).1.same fun g e=>by
    have hgb:g < bj:=(HLP.I p td).2.2 g (by show (p.1.aY).map (·.block)=o_ g; rw [show p.1.aY=o_ ⟨g,0,n_⟩ from e]; rfl);exact TZ
   obtain ⟨a3,UY,w3,hap,sY,hg3⟩:=FR w2 p.1.aY p.1.prog p.1.bH hrow (HLP.I p td).2.1;have cc:w2.cell? ⟨p.2,2,n_⟩=o_ (s_ p.1.aY p.1.prog.length p.1.bH):=by simp [World.cell?,lD,aX]
   have oG:=(hg3.block p.2 (J2.1 lD).1 zw).trans lD;have cc3:w3.cell? ⟨p.2,2,n_⟩=o_ (s_ p.1.aY p.1.prog.length p.1.bH):=by simp [World.cell?,oG,aX]
   have cf3:w3.frozen? ⟨p.2,2,n_⟩=false:=by simp [World.frozen?,oG]
   have HN:=HO.I.ju (i:=2) hrg rx hrg2 En.I (Ki _) hp sY hg3 rfl;have Hb:bE (_/\_):=HN;have j6:bE (cnt2 < cnt/\tD.rangeLeft q.bp w.heap.size=cnt):=⟨oX,hrg.left_eq⟩
   simp only [dt] at hen;clear HN hrg hrg2 rx oE hkey hlk hv hat oX hpl td hpw lD oG hrow sY hg3;unfold dt;go_wp2_with (at_builtin; refine br _ rfl _ _ 39 rfl _ _ _ _ rfl rfl hap ?_; clear hap);go_roundw
   case rel=>exact ⟨_,_,_,Hb.I.2,Hb.I.1⟩
   case measure=>have h5:=Hb.I.2.left_eq; have h6:=j6.I; rw [h6.2]; exact Q5 (Nat.le_of_eq h5) h6.1
end
section
def pi {Me:Int} {m:df} {id:Int} {ok vA vB vC vD:Bool} (hA:(cz m id).isSome=vA) (hB:decide (Me<=(m.length:Int))=vB) (hC:cv id 1 1000=vC) (hD:ok=vD):iI Me m id ok=(!vA && !vB && vC && vD):=by
 subst hA hB hC hD;have e:decide ((m.length:Int) < Me)= !decide (Me<=(m.length:Int)):=by
  by_cases h:Me<=(m.length:Int)
  .simp [h]
  .simp [h,Int.not_le.1 h]
 simp [iI,e]
end
section
attribute [local go_sem ↓] Kc Kd
def vY (w:w_) (b:Nat) (m:df) (Me:Int) (x:ao) (w':w_):Prop:=(w'.cell? ⟨w.heap.size,0,n_⟩=o_ (i_ j_ Me)/\w'.cell? ⟨w.heap.size,1,n_⟩=o_ (.map (o_ b))/\(∀ ty,(Builtin.len_ #[67] ty #[.map (o_ b)]).run J3 w'= .ok (i_ j_ (m.length:Int)) w')/\w'.cell? ⟨w.heap.size+1,0,n_⟩=o_ (i_ j_ x.id)/\w'.cell? ⟨w.heap.size+1,1,n_⟩=o_ (i_ j_ x.RX)/\w'.cell? ⟨w.heap.size+1,2,n_⟩=o_ (s_ x.aY x.prog.length x.bH)/\w'.cell? ⟨w.heap.size+1,3,n_⟩=o_ (i_ j_ x.Md)/\w'.cell? ⟨w.heap.size+1,4,n_⟩=o_ (i_ j_ x.pc)/\w'.cell? ⟨w.heap.size+1,5,n_⟩=o_ (i_ j_ x.left)/\w'.cell? ⟨w.heap.size+1,6,n_⟩=o_ (i_ j_ x.Mg)/\w'.cell? ⟨w.heap.size+1,7,n_⟩=o_ (i_ j_ x.on)/\w'.cell? ⟨w.heap.size+1,8,n_⟩=o_ (t_ x.held)/\w'.cell? ⟨w.heap.size+1,9,n_⟩=o_ (t_ x.got)/\w'.cell? ⟨w.heap.size+1,10,n_⟩=o_ (i_ j_ x.code)/\w'.cell? ⟨w.heap.size+1,11,n_⟩=o_ (i_ j_ x.RU))/\bE (fe w w' w.heap.size (w.heap.size+1) b m Me (aX x) 41 69)/\bE (eL w' x)
def iU {w w':w_} {b:Nat} {m:df} {Me:Int} {x:ao} (h:fe w w' w.heap.size (w.heap.size+1) b m Me (aX x) 41 69) (hf:eL w' x):vY w b m Me x w':=
 ⟨⟨h.cells.1,h.cells.2,fun ty=>h.mp.len underlying67 ty,bo h.bx⟩,h,hf⟩
def Bp (Me:Int) (b:Nat) (m:df) (x:ao) (w:w_) (h:cF w b m) (hw:(Lit.int j_ x.id).wf=true) (hm:m.length<=1048576) (hf:eL w x):
  k_ J3 95 #[a_ #[i_ j_ Me,.map (o_ b)],a_ (aX x)] w fun e w'=>dD w b m (iI Me m x.id (cH x.toaD)) x.id (aX x) 41 e w':=by
 have HF:bE (fe w ((w.alloc (c_ #[i_ j_ Me,.map (o_ b)] 69)).alloc (c_ (aX x) 41)) w.heap.size (w.heap.size+1) b m Me (aX x) 41 69):=fe.start w h Me _ _ _;have HW:bE ((Lit.int j_ x.id).wf=true/\ ¬ w.heap.size+1=b/\m.length<=1048576):=⟨hw,by have:=h.lt; omega,hm⟩
 have HI:bE (eL ((w.alloc (c_ #[i_ j_ Me,.map (o_ b)] 69)).alloc (c_ (aX x) 41)) x):=hf.below ((((Kp _ w).alloc (Ki _) _)).alloc zw _);have hmn:=ob;have hmr:=uB;obtain ⟨s0,s1⟩:=HF.I.cells;obtain ⟨c0,c1,c2,c3,c4,c5,c6,c7,c8,c9,qF,pe⟩:=bo HF.I.bx;clear h hw hf hm;unfold aX at *
 go_enter func95,ntmps95
 go_wp2_with fail;clear s0 s1 c0 c1 c2 c3 c4 c5 c6 c7 c8 c9 qF pe;obtain ⟨vA,hA⟩: ∃ v,(cz m x.id).isSome=v:=⟨_,rfl⟩
 obtain ⟨vB,F6⟩: ∃ v,decide (Me<=(m.length:Int))=v:=⟨_,rfl⟩
 obtain ⟨vC,hC⟩: ∃ v,cv x.id 1 1000=v:=⟨_,rfl⟩
 obtain ⟨vD,hD⟩: ∃ v,cH x.toaD=v:=⟨_,rfl⟩
 have HL:bE (iI Me m x.id (cH x.toaD)=(!vA && !vB && vC && vD)/\(vA=false->cz m x.id=n_)):=⟨pi hA F6 hC hD,fun e=>PX.1 (PY.1 (hA.trans e))⟩
 have HA:bE (Ending.returned (b_ (cz m x.id).isSome)=r_ (b_ vA)):=al hA;have HC:bE (Ending.returned (b_ (cv x.id 1 1000))=r_ (b_ vC)):=al hC;have HD:bE (Ending.returned (b_ (cH x.toaD))=r_ (b_ vD)):=al hD;clear hA hC hD;refine aT (vY w b m Me x) ZcE (iU HF.I.drew (HI.I.below (Kp _ _).drew)) ?_
 iterate 3 (refine agj ?_)
 (refine cl (i_ j_ x.id) 235 #[a_ x.row] ?_ ?_ ?_; (intro w0 hS0; obtain ⟨⟨q0,q1,q2,q3,q4,q5,q6,q7,q8,q9,kY,kV,lB,lz,Ch⟩,hH⟩:=hS0; go_simp; try with_reducible rfl); (intro w0 hS0; refine (iK x w0).mono ?_; rintro e w2 ⟨rfl,hb2⟩; exact ⟨rfl,iU (hS0.2.1.I.below hb2) (hS0.2.2.I.below hb2)⟩); simp only [pt,sb,s0,s1])
 (refine cl (b_ vA) 128 #[a_ #[i_ j_ Me,.map (o_ b)],i_ j_ x.id] ?_ ?_ ?_; (intro w0 hS0; obtain ⟨⟨q0,q1,q2,q3,q4,q5,q6,q7,q8,q9,kY,kV,lB,lz,Ch⟩,hH⟩:=hS0; go_simp; try with_reducible rfl); (intro w0 hS0; refine (BP Me b m x.id w0 hS0.2.1.I.mp HW.I.1).mono ?_; rintro e w2 ⟨rfl,hb2⟩; exact ⟨HA.I,iU (hS0.2.1.I.below hb2) (hS0.2.2.I.below hb2)⟩); simp only [pt,sb,s0,s1])
 (refine agj ?_)
 rcases vA.eq_false_or_eq_true with rfl | rfl
 focus iterate 6 (refine nl ?_; simp only [pt,sb,s0,s1])
 rotate_left
 focus iterate 6 (refine agj ?_)
 all_goals iterate 2 (refine agj ?_)
 rcases vB.eq_false_or_eq_true with rfl | rfl
 focus iterate 5 (refine nl ?_; simp only [pt,sb,s0,s1])
 rotate_left
 focus
  iterate 2 (refine agj ?_)
  (refine cl (i_ j_ x.id) 235 #[a_ x.row] ?_ ?_ ?_; (intro w0 hS0; obtain ⟨⟨q0,q1,q2,q3,q4,q5,q6,q7,q8,q9,kY,kV,lB,lz,Ch⟩,hH⟩:=hS0; go_simp; try with_reducible rfl); (intro w0 hS0; refine (iK x w0).mono ?_; rintro e w2 ⟨rfl,hb2⟩; exact ⟨rfl,iU (hS0.2.1.I.below hb2) (hS0.2.2.I.below hb2)⟩); simp only [pt,sb,s0,s1])
  (refine cl (b_ vC) 129 #[i_ j_ x.id] ?_ ?_ ?_; (intro w0 hS0; obtain ⟨⟨q0,q1,q2,q3,q4,q5,q6,q7,q8,q9,kY,kV,lB,lz,Ch⟩,hH⟩:=hS0; go_simp; try with_reducible rfl); (intro w0 hS0; refine (eW x.id w0).mono ?_; rintro e w2 ⟨rfl,rfl⟩; exact ⟨HC.I,hS0⟩); simp only [pt,sb,s0,s1])
  (refine agj ?_)
 rotate_left
 focus iterate 5 (refine nl ?_; simp only [pt,sb,s0,s1])
 all_goals iterate 2 (refine agj ?_)
 rotate_right
 rcases vC.eq_false_or_eq_true with rfl | rfl
 focus
  iterate 2 (refine agj ?_)
  (refine cl (b_ vD) 236 #[a_ x.row] ?_ ?_ ?_; (intro w0 hS0; obtain ⟨⟨q0,q1,q2,q3,q4,q5,q6,q7,q8,q9,kY,kV,lB,lz,Ch⟩,hH⟩:=hS0; go_simp; try with_reducible rfl); (intro w0 hS0; refine (wo x w0 hS0.2.2.I).mono ?_; rintro e w2 ⟨rfl,hb2⟩; exact ⟨HD.I,iU (hS0.2.1.I.below hb2) (hS0.2.2.I.below hb2)⟩); simp only [pt,sb,s0,s1])
  (refine agj ?_)
 rotate_left
 focus iterate 4 (refine nl ?_; simp only [pt,sb,s0,s1])
 rotate_left
 focus iterate 4 (refine nl ?_; simp only [pt,sb,s0,s1])
 rotate_left
 focus iterate 4 (refine nl ?_; simp only [pt,sb,s0,s1])
 rotate_left
 all_goals (refine agj ?_)
 all_goals refine bk ZcE ?_ _
 all_goals intro w1 cm
 rcases vD.eq_false_or_eq_true with rfl | rfl;rotate_left
 iterate 4
  exact ZaM
 go_wp2_with fail;refine eD (vY w b m Me x) 5 ZcE (iU cm.2.1.I.drew (cm.2.2.I.below (Kp _ _).drew)) ?_
 iterate 4 (refine ly 6 (v:= ?_) (o_ _) rfl rfl ZcE (fun _ _ _ h=>h) (bV ZcE ?_) ?_; rotate_left; (intro w0 hS0; obtain ⟨⟨q0,q1,q2,q3,q4,q5,q6,q7,q8,q9,kY,kV,lB,lz,Ch⟩,hH⟩:=hS0; go_simp; try with_reducible rfl); simp only [pt,sb,s0,s1])
 refine ly 6 (v:=i_ j_ x.id) (o_ _) rfl rfl ZcE (fun _ _ _ h=>h) (iZ (f:=235) (args:= #[a_ x.row]) ZcE ?_ ?_) ?_
 .intro w0 hS0
  obtain ⟨⟨q0,q1,q2,q3,q4,q5,q6,q7,q8,q9,kY,kV,lB,lz,Ch⟩,hH⟩:=hS0
  exact BC
 .intro w0 hS0
  refine (iK x w0).mono ?_;rintro e w2 ⟨rfl,hb2⟩;exact ⟨rfl,iU (hS0.2.1.I.below hb2) (hS0.2.2.I.below hb2)⟩
 simp only [pt,sb,s0,s1];refine fL rfl ZcE ZcE ZcE ?_;intro w1 cm;obtain ⟨w2,hput,hend⟩:=cm.2.1.I.put zo underlying67 HW.I.1 (HL.I.2 (by trivial)) HW.I.2.2 HW.I.2.1;have HE:bE (dD w b m true x.id (aX x) 41 (r_ (b_ true)) w2):=hend;exact Zah
def vk (w:w_) (b:Nat) (m:df) (Me:Int) (x:aM) (w':w_):Prop:=(w'.cell? ⟨w.heap.size,0,n_⟩=o_ (i_ j_ Me)/\w'.cell? ⟨w.heap.size,1,n_⟩=o_ (.map (o_ b))/\(∀ ty,(Builtin.len_ #[82] ty #[.map (o_ b)]).run J3 w'= .ok (i_ j_ (m.length:Int)) w')/\w'.cell? ⟨w.heap.size+1,0,n_⟩=o_ (i_ j_ x.id)/\w'.cell? ⟨w.heap.size+1,1,n_⟩=o_ (b_ x.I)/\w'.cell? ⟨w.heap.size+1,2,n_⟩=o_ (b_ x.Mf)/\w'.cell? ⟨w.heap.size+1,3,n_⟩=o_ (i_ j_ x.max)/\w'.cell? ⟨w.heap.size+1,4,n_⟩=o_ (s_ x.ak x.Ma.length x.aq))/\bE (fe w w' w.heap.size (w.heap.size+1) b m Me (cW x) 115 84)/\bE (jf w' x)
def iW {w w':w_} {b:Nat} {m:df} {Me:Int} {x:aM} (h:fe w w' w.heap.size (w.heap.size+1) b m Me (cW x) 115 84) (hf:jf w' x):vk w b m Me x w':=
 ⟨⟨h.cells.1,h.cells.2,fun ty=>h.mp.len underlying82 ty,gE h.bx⟩,h,hf⟩
def tb (Me:Int) (b:Nat) (m:df) (x:aM) (w:w_) (h:cF w b m) (hw:(Lit.int j_ x.id).wf=true) (hm:m.length<=1048576) (hf:jf w x):
  k_ J3 100 #[a_ #[i_ j_ Me,.map (o_ b)],a_ (cW x)] w fun e w'=>dD w b m (iI Me m x.id (dj x.todS)) x.id (cW x) 115 e w':=by
 have HF:bE (fe w ((w.alloc (c_ #[i_ j_ Me,.map (o_ b)] 84)).alloc (c_ (cW x) 115)) w.heap.size (w.heap.size+1) b m Me (cW x) 115 84):=fe.start w h Me _ _ _;have HW:bE ((Lit.int j_ x.id).wf=true/\ ¬ w.heap.size+1=b/\m.length<=1048576):=⟨hw,by have:=h.lt; omega,hm⟩
 have HI:bE (jf ((w.alloc (c_ #[i_ j_ Me,.map (o_ b)] 84)).alloc (c_ (cW x) 115)) x):=hf.below ((((Kp _ w).alloc (Ki _) _)).alloc zw _);have hmn:=nY;have hmr:=vZ;obtain ⟨s0,s1⟩:=HF.I.cells;obtain ⟨c0,c1,c2,c3,c4⟩:=gE HF.I.bx;clear h hw hf hm;unfold cW at *
 go_enter func100,ntmps100
 go_wp2_with fail;clear s0 s1 c0 c1 c2 c3 c4;obtain ⟨vA,hA⟩: ∃ v,(cz m x.id).isSome=v:=⟨_,rfl⟩
 obtain ⟨vB,F6⟩: ∃ v,decide (Me<=(m.length:Int))=v:=⟨_,rfl⟩
 obtain ⟨vC,hC⟩: ∃ v,cv x.id 1 1000=v:=⟨_,rfl⟩
 obtain ⟨vD,hD⟩: ∃ v,dj x.todS=v:=⟨_,rfl⟩
 have HL:bE (iI Me m x.id (dj x.todS)=(!vA && !vB && vC && vD)/\(vA=false->cz m x.id=n_)):=⟨pi hA F6 hC hD,fun e=>PX.1 (PY.1 (hA.trans e))⟩
 have HA:bE (Ending.returned (b_ (cz m x.id).isSome)=r_ (b_ vA)):=al hA;have HC:bE (Ending.returned (b_ (cv x.id 1 1000))=r_ (b_ vC)):=al hC;have HD:bE (Ending.returned (b_ (dj x.todS))=r_ (b_ vD)):=al hD;clear hA hC hD;refine aT (vk w b m Me x) ZcE (iW HF.I.drew (HI.I.below (Kp _ _).drew)) ?_
 iterate 3 (refine agj ?_)
 (refine cl (i_ j_ x.id) 267 #[a_ #[i_ j_ x.id,b_ x.I,b_ x.Mf,i_ j_ x.max,s_ x.ak x.Ma.length x.aq]] ?_ ?_ ?_; (intro w0 hS0; obtain ⟨⟨q0,q1,q2,q3,q4,q5,q6,q7⟩,hH⟩:=hS0; go_simp; try with_reducible rfl); (intro w0 hS0; refine (iN x w0).mono ?_; rintro e w2 ⟨rfl,hb2⟩; exact ⟨rfl,iW (hS0.2.1.I.below hb2) (hS0.2.2.I.below hb2)⟩); simp only [pt,sb,s0,s1])
 (refine cl (b_ vA) 134 #[a_ #[i_ j_ Me,.map (o_ b)],i_ j_ x.id] ?_ ?_ ?_; (intro w0 hS0; obtain ⟨⟨q0,q1,q2,q3,q4,q5,q6,q7⟩,hH⟩:=hS0; go_simp; try with_reducible rfl); (intro w0 hS0; refine (Bb Me b m x.id w0 hS0.2.1.I.mp HW.I.1).mono ?_; rintro e w2 ⟨rfl,hb2⟩; exact ⟨HA.I,iW (hS0.2.1.I.below hb2) (hS0.2.2.I.below hb2)⟩); simp only [pt,sb,s0,s1])
 (refine agj ?_)
 rcases vA.eq_false_or_eq_true with rfl | rfl
 focus iterate 6 (refine nl ?_; simp only [pt,sb,s0,s1])
 rotate_left
 focus iterate 6 (refine agj ?_)
 all_goals iterate 2 (refine agj ?_)
 rcases vB.eq_false_or_eq_true with rfl | rfl
 focus iterate 5 (refine nl ?_; simp only [pt,sb,s0,s1])
 rotate_left
 focus
  iterate 2 (refine agj ?_)
  (refine cl (i_ j_ x.id) 267 #[a_ #[i_ j_ x.id,b_ x.I,b_ x.Mf,i_ j_ x.max,s_ x.ak x.Ma.length x.aq]] ?_ ?_ ?_; (intro w0 hS0; obtain ⟨⟨q0,q1,q2,q3,q4,q5,q6,q7⟩,hH⟩:=hS0; go_simp; try with_reducible rfl); (intro w0 hS0; refine (iN x w0).mono ?_; rintro e w2 ⟨rfl,hb2⟩; exact ⟨rfl,iW (hS0.2.1.I.below hb2) (hS0.2.2.I.below hb2)⟩); simp only [pt,sb,s0,s1])
  (refine cl (b_ vC) 129 #[i_ j_ x.id] ?_ ?_ ?_; (intro w0 hS0; obtain ⟨⟨q0,q1,q2,q3,q4,q5,q6,q7⟩,hH⟩:=hS0; go_simp; try with_reducible rfl); (intro w0 hS0; refine (eW x.id w0).mono ?_; rintro e w2 ⟨rfl,rfl⟩; exact ⟨HC.I,hS0⟩); simp only [pt,sb,s0,s1])
  (refine agj ?_)
 rotate_left
 focus iterate 5 (refine nl ?_; simp only [pt,sb,s0,s1])
 all_goals iterate 2 (refine agj ?_)
 rotate_right
 rcases vC.eq_false_or_eq_true with rfl | rfl
 focus
  iterate 2 (refine agj ?_)
  (refine cl (b_ vD) 268 #[a_ #[i_ j_ x.id,b_ x.I,b_ x.Mf,i_ j_ x.max,s_ x.ak x.Ma.length x.aq]] ?_ ?_ ?_; (intro w0 hS0; obtain ⟨⟨q0,q1,q2,q3,q4,q5,q6,q7⟩,hH⟩:=hS0; go_simp; try with_reducible rfl); (intro w0 hS0; refine (wG x w0 hS0.2.2.I).mono ?_; rintro e w2 ⟨rfl,hb2⟩; exact ⟨HD.I,iW (hS0.2.1.I.below hb2) (hS0.2.2.I.below hb2)⟩); simp only [pt,sb,s0,s1])
  (refine agj ?_)
 rotate_left
 focus iterate 4 (refine nl ?_; simp only [pt,sb,s0,s1])
 rotate_left
 focus iterate 4 (refine nl ?_; simp only [pt,sb,s0,s1])
 rotate_left
 focus iterate 4 (refine nl ?_; simp only [pt,sb,s0,s1])
 rotate_left
 all_goals (refine agj ?_)
 all_goals refine bk ZcE ?_ _
 all_goals intro w1 cm
 rcases vD.eq_false_or_eq_true with rfl | rfl;rotate_left
 iterate 4
  exact ZaM
 go_wp2_with fail;refine eD (vk w b m Me x) 5 ZcE (iW cm.2.1.I.drew (cm.2.2.I.below (Kp _ _).drew)) ?_
 iterate 4 (refine ly 6 (v:= ?_) (o_ _) rfl rfl ZcE (fun _ _ _ h=>h) (bV ZcE ?_) ?_; rotate_left; (intro w0 hS0; obtain ⟨⟨q0,q1,q2,q3,q4,q5,q6,q7⟩,hH⟩:=hS0; go_simp; try with_reducible rfl); simp only [pt,sb,s0,s1])
 refine ly 6 (v:=i_ j_ x.id) (o_ _) rfl rfl ZcE (fun _ _ _ h=>h) (iZ (f:=267) (args:= #[a_ #[i_ j_ x.id,b_ x.I,b_ x.Mf,i_ j_ x.max,s_ x.ak x.Ma.length x.aq]]) ZcE ?_ ?_) ?_
 .intro w0 hS0
  obtain ⟨⟨q0,q1,q2,q3,q4,q5,q6,q7⟩,hH⟩:=hS0
  exact BC
 .intro w0 hS0
  refine (iN x w0).mono ?_;rintro e w2 ⟨rfl,hb2⟩;exact ⟨rfl,iW (hS0.2.1.I.below hb2) (hS0.2.2.I.below hb2)⟩
 simp only [pt,sb,s0,s1];refine fL rfl ZcE ZcE ZcE ?_;intro w1 cm;obtain ⟨w2,hput,hend⟩:=cm.2.1.I.put zo underlying82 HW.I.1 (HL.I.2 (by trivial)) HW.I.2.2 HW.I.2.1;have HE:bE (dD w b m true x.id (cW x) 115 (r_ (b_ true)) w2):=hend;exact Zah
def qq (w:w_) (b:Nat) (m:df) (Me:Int) (x:au) (w':w_):Prop:=(w'.cell? ⟨w.heap.size,0,n_⟩=o_ (i_ j_ Me)/\w'.cell? ⟨w.heap.size,1,n_⟩=o_ (.map (o_ b))/\(∀ ty,(Builtin.len_ #[79] ty #[.map (o_ b)]).run J3 w'= .ok (i_ j_ (m.length:Int)) w')/\w'.cell? ⟨w.heap.size+1,0,n_⟩=o_ (i_ j_ x.id)/\w'.cell? ⟨w.heap.size+1,1,n_⟩=o_ (i_ j_ x.max)/\w'.cell? ⟨w.heap.size+1,2,n_⟩=o_ (s_ x.ak x.Ma.length x.aq))/\bE (fe w w' w.heap.size (w.heap.size+1) b m Me (bQ x) 96 81)/\bE (fM w' x)
def gB {w w':w_} {b:Nat} {m:df} {Me:Int} {x:au} (h:fe w w' w.heap.size (w.heap.size+1) b m Me (bQ x) 96 81) (hf:fM w' x):qq w b m Me x w':=
 ⟨⟨h.cells.1,h.cells.2,fun ty=>h.mp.len underlying79 ty,ia h.bx⟩,h,hf⟩
def pV (Me:Int) (b:Nat) (m:df) (x:au) (w:w_) (h:cF w b m) (hw:(Lit.int j_ x.id).wf=true) (hm:m.length<=1048576) (hf:fM w x):
  k_ J3 99 #[a_ #[i_ j_ Me,.map (o_ b)],a_ (bQ x)] w fun e w'=>dD w b m (iI Me m x.id (ct x.toci)) x.id (bQ x) 96 e w':=by
 have HF:bE (fe w ((w.alloc (c_ #[i_ j_ Me,.map (o_ b)] 81)).alloc (c_ (bQ x) 96)) w.heap.size (w.heap.size+1) b m Me (bQ x) 96 81):=fe.start w h Me _ _ _;have HW:bE ((Lit.int j_ x.id).wf=true/\ ¬ w.heap.size+1=b/\m.length<=1048576):=⟨hw,by have:=h.lt; omega,hm⟩
 have HI:bE (fM ((w.alloc (c_ #[i_ j_ Me,.map (o_ b)] 81)).alloc (c_ (bQ x) 96)) x):=hf.below ((((Kp _ w).alloc (Ki _) _)).alloc zw _);have hmn:=mc;have hmr:=se;obtain ⟨s0,s1⟩:=HF.I.cells;obtain ⟨c0,c1,c2⟩:=ia HF.I.bx;clear h hw hf hm;unfold bQ at *
 go_enter func99,ntmps99
 go_wp2_with fail;clear s0 s1 c0 c1 c2;obtain ⟨vA,hA⟩: ∃ v,(cz m x.id).isSome=v:=⟨_,rfl⟩
 obtain ⟨vB,F6⟩: ∃ v,decide (Me<=(m.length:Int))=v:=⟨_,rfl⟩
 obtain ⟨vC,hC⟩: ∃ v,cv x.id 1 1000=v:=⟨_,rfl⟩
 obtain ⟨vD,hD⟩: ∃ v,ct x.toci=v:=⟨_,rfl⟩
 have HL:bE (iI Me m x.id (ct x.toci)=(!vA && !vB && vC && vD)/\(vA=false->cz m x.id=n_)):=⟨pi hA F6 hC hD,fun e=>PX.1 (PY.1 (hA.trans e))⟩
 have HA:bE (Ending.returned (b_ (cz m x.id).isSome)=r_ (b_ vA)):=al hA;have HC:bE (Ending.returned (b_ (cv x.id 1 1000))=r_ (b_ vC)):=al hC;have HD:bE (Ending.returned (b_ (ct x.toci))=r_ (b_ vD)):=al hD;clear hA hC hD;refine aT (qq w b m Me x) ZcE (gB HF.I.drew (HI.I.below (Kp _ _).drew)) ?_
 iterate 3 (refine agj ?_)
 (refine cl (i_ j_ x.id) 262 #[a_ #[i_ j_ x.id,i_ j_ x.max,s_ x.ak x.Ma.length x.aq]] ?_ ?_ ?_; (intro w0 hS0; obtain ⟨⟨q0,q1,q2,q3,q4,q5⟩,hH⟩:=hS0; go_simp; try with_reducible rfl); (intro w0 hS0; refine (gP x w0).mono ?_; rintro e w2 ⟨rfl,hb2⟩; exact ⟨rfl,gB (hS0.2.1.I.below hb2) (hS0.2.2.I.below hb2)⟩); simp only [pt,sb,s0,s1])
 (refine cl (b_ vA) 133 #[a_ #[i_ j_ Me,.map (o_ b)],i_ j_ x.id] ?_ ?_ ?_; (intro w0 hS0; obtain ⟨⟨q0,q1,q2,q3,q4,q5⟩,hH⟩:=hS0; go_simp; try with_reducible rfl); (intro w0 hS0; refine (mE Me b m x.id w0 hS0.2.1.I.mp HW.I.1).mono ?_; rintro e w2 ⟨rfl,hb2⟩; exact ⟨HA.I,gB (hS0.2.1.I.below hb2) (hS0.2.2.I.below hb2)⟩); simp only [pt,sb,s0,s1])
 (refine agj ?_)
 rcases vA.eq_false_or_eq_true with rfl | rfl
 focus iterate 6 (refine nl ?_; simp only [pt,sb,s0,s1])
 rotate_left
 focus iterate 6 (refine agj ?_)
 all_goals iterate 2 (refine agj ?_)
 rcases vB.eq_false_or_eq_true with rfl | rfl
 focus iterate 5 (refine nl ?_; simp only [pt,sb,s0,s1])
 rotate_left
 focus
  iterate 2 (refine agj ?_)
  (refine cl (i_ j_ x.id) 262 #[a_ #[i_ j_ x.id,i_ j_ x.max,s_ x.ak x.Ma.length x.aq]] ?_ ?_ ?_; (intro w0 hS0; obtain ⟨⟨q0,q1,q2,q3,q4,q5⟩,hH⟩:=hS0; go_simp; try with_reducible rfl); (intro w0 hS0; refine (gP x w0).mono ?_; rintro e w2 ⟨rfl,hb2⟩; exact ⟨rfl,gB (hS0.2.1.I.below hb2) (hS0.2.2.I.below hb2)⟩); simp only [pt,sb,s0,s1])
  (refine cl (b_ vC) 129 #[i_ j_ x.id] ?_ ?_ ?_; (intro w0 hS0; obtain ⟨⟨q0,q1,q2,q3,q4,q5⟩,hH⟩:=hS0; go_simp; try with_reducible rfl); (intro w0 hS0; refine (eW x.id w0).mono ?_; rintro e w2 ⟨rfl,rfl⟩; exact ⟨HC.I,hS0⟩); simp only [pt,sb,s0,s1])
  (refine agj ?_)
 rotate_left
 focus iterate 5 (refine nl ?_; simp only [pt,sb,s0,s1])
 all_goals iterate 2 (refine agj ?_)
 rotate_right
 rcases vC.eq_false_or_eq_true with rfl | rfl
 focus
  iterate 2 (refine agj ?_)
  (refine cl (b_ vD) 263 #[a_ #[i_ j_ x.id,i_ j_ x.max,s_ x.ak x.Ma.length x.aq]] ?_ ?_ ?_; (intro w0 hS0; obtain ⟨⟨q0,q1,q2,q3,q4,q5⟩,hH⟩:=hS0; go_simp; try with_reducible rfl); (intro w0 hS0; refine (Sr x w0 hS0.2.2.I).mono ?_; rintro e w2 ⟨rfl,hb2⟩; exact ⟨HD.I,gB (hS0.2.1.I.below hb2) (hS0.2.2.I.below hb2)⟩); simp only [pt,sb,s0,s1])
  (refine agj ?_)
 rotate_left
 focus iterate 4 (refine nl ?_; simp only [pt,sb,s0,s1])
 rotate_left
 focus iterate 4 (refine nl ?_; simp only [pt,sb,s0,s1])
 rotate_left
 focus iterate 4 (refine nl ?_; simp only [pt,sb,s0,s1])
 rotate_left
 all_goals (refine agj ?_)
 all_goals refine bk ZcE ?_ _
 all_goals intro w1 cm
 rcases vD.eq_false_or_eq_true with rfl | rfl;rotate_left
 iterate 4
  exact ZaM
 go_wp2_with fail;refine eD (qq w b m Me x) 5 ZcE (gB cm.2.1.I.drew (cm.2.2.I.below (Kp _ _).drew)) ?_
 iterate 4 (refine ly 6 (v:= ?_) (o_ _) rfl rfl ZcE (fun _ _ _ h=>h) (bV ZcE ?_) ?_; rotate_left; (intro w0 hS0; obtain ⟨⟨q0,q1,q2,q3,q4,q5⟩,hH⟩:=hS0; go_simp; try with_reducible rfl); simp only [pt,sb,s0,s1])
 refine ly 6 (v:=i_ j_ x.id) (o_ _) rfl rfl ZcE (fun _ _ _ h=>h) (iZ (f:=262) (args:= #[a_ #[i_ j_ x.id,i_ j_ x.max,s_ x.ak x.Ma.length x.aq]]) ZcE ?_ ?_) ?_
 .exact Zcy
 .intro w0 hS0
  refine (gP x w0).mono ?_;rintro e w2 ⟨rfl,hb2⟩;exact ⟨rfl,gB (hS0.2.1.I.below hb2) (hS0.2.2.I.below hb2)⟩
 simp only [pt,sb,s0,s1];refine fL rfl ZcE ZcE ZcE ?_;intro w1 cm;obtain ⟨w2,hput,hend⟩:=cm.2.1.I.put zo underlying79 HW.I.1 (HL.I.2 (by trivial)) HW.I.2.2 HW.I.2.1;have HE:bE (dD w b m true x.id (bQ x) 96 (r_ (b_ true)) w2):=hend;exact Zah
def yk (w:w_) (b:Nat) (m:df) (Me:Int) (x:bD) (w':w_):Prop:=(w'.cell? ⟨w.heap.size,0,n_⟩=o_ (i_ j_ Me)/\w'.cell? ⟨w.heap.size,1,n_⟩=o_ (.map (o_ b))/\(∀ ty,(Builtin.len_ #[70] ty #[.map (o_ b)]).run J3 w'= .ok (i_ j_ (m.length:Int)) w')/\w'.cell? ⟨w.heap.size+1,0,n_⟩=o_ (i_ j_ x.id)/\w'.cell? ⟨w.heap.size+1,1,n_⟩=o_ (i_ j_ x.n)/\w'.cell? ⟨w.heap.size+1,2,n_⟩=o_ (i_ j_ x.max))/\bE (fe w w' w.heap.size (w.heap.size+1) b m Me (eH x) 89 72)/\bE (kU w' x)
def jz {w w':w_} {b:Nat} {m:df} {Me:Int} {x:bD} (h:fe w w' w.heap.size (w.heap.size+1) b m Me (eH x) 89 72) (hf:kU w' x):yk w b m Me x w':=
 ⟨⟨h.cells.1,h.cells.2,fun ty=>h.mp.len underlying70 ty,gm h.bx⟩,h,hf⟩
def tU (Me:Int) (b:Nat) (m:df) (x:bD) (w:w_) (h:cF w b m) (hw:(Lit.int j_ x.id).wf=true) (hm:m.length<=1048576) (hf:kU w x):
  k_ J3 96 #[a_ #[i_ j_ Me,.map (o_ b)],a_ (eH x)] w fun e w'=>dD w b m (iI Me m x.id (gw x)) x.id (eH x) 89 e w':=by
 have HF:bE (fe w ((w.alloc (c_ #[i_ j_ Me,.map (o_ b)] 72)).alloc (c_ (eH x) 89)) w.heap.size (w.heap.size+1) b m Me (eH x) 89 72):=fe.start w h Me _ _ _;have HW:bE ((Lit.int j_ x.id).wf=true/\ ¬ w.heap.size+1=b/\m.length<=1048576):=⟨hw,by have:=h.lt; omega,hm⟩
 have HI:bE (kU ((w.alloc (c_ #[i_ j_ Me,.map (o_ b)] 72)).alloc (c_ (eH x) 89)) x):=hf.below ((((Kp _ w).alloc (Ki _) _)).alloc zw _);have hmn:=pb;have hmr:=wW;obtain ⟨s0,s1⟩:=HF.I.cells;obtain ⟨c0,c1,c2⟩:=gm HF.I.bx;clear h hw hf hm;unfold eH at *
 go_enter func96,ntmps96
 go_wp2_with fail;clear s0 s1 c0 c1 c2;obtain ⟨vA,hA⟩: ∃ v,(cz m x.id).isSome=v:=⟨_,rfl⟩
 obtain ⟨vB,F6⟩: ∃ v,decide (Me<=(m.length:Int))=v:=⟨_,rfl⟩
 obtain ⟨vC,hC⟩: ∃ v,cv x.id 1 1000=v:=⟨_,rfl⟩
 obtain ⟨vD,hD⟩: ∃ v,gw x=v:=⟨_,rfl⟩
 have HL:bE (iI Me m x.id (gw x)=(!vA && !vB && vC && vD)/\(vA=false->cz m x.id=n_)):=⟨pi hA F6 hC hD,fun e=>PX.1 (PY.1 (hA.trans e))⟩
 have HA:bE (Ending.returned (b_ (cz m x.id).isSome)=r_ (b_ vA)):=al hA;have HC:bE (Ending.returned (b_ (cv x.id 1 1000))=r_ (b_ vC)):=al hC;have HD:bE (Ending.returned (b_ (gw x))=r_ (b_ vD)):=al hD;clear hA hC hD;refine aT (yk w b m Me x) ZcE (jz HF.I.drew (HI.I.below (Kp _ _).drew)) ?_
 iterate 3 (refine agj ?_)
 (refine cl (i_ j_ x.id) 253 #[a_ #[i_ j_ x.id,i_ j_ x.n,i_ j_ x.max]] ?_ ?_ ?_; (intro w0 hS0; obtain ⟨⟨q0,q1,q2,q3,q4,q5⟩,hH⟩:=hS0; go_simp; try with_reducible rfl); (intro w0 hS0; refine (jv x w0).mono ?_; rintro e w2 ⟨rfl,hb2⟩; exact ⟨rfl,jz (hS0.2.1.I.below hb2) (hS0.2.2.I.below hb2)⟩); simp only [pt,sb,s0,s1])
 (refine cl (b_ vA) 130 #[a_ #[i_ j_ Me,.map (o_ b)],i_ j_ x.id] ?_ ?_ ?_; (intro w0 hS0; obtain ⟨⟨q0,q1,q2,q3,q4,q5⟩,hH⟩:=hS0; go_simp; try with_reducible rfl); (intro w0 hS0; refine (tZ Me b m x.id w0 hS0.2.1.I.mp HW.I.1).mono ?_; rintro e w2 ⟨rfl,hb2⟩; exact ⟨HA.I,jz (hS0.2.1.I.below hb2) (hS0.2.2.I.below hb2)⟩); simp only [pt,sb,s0,s1])
 (refine agj ?_)
 rcases vA.eq_false_or_eq_true with rfl | rfl
 focus iterate 6 (refine nl ?_; simp only [pt,sb,s0,s1])
 rotate_left
 focus iterate 6 (refine agj ?_)
 all_goals iterate 2 (refine agj ?_)
 rcases vB.eq_false_or_eq_true with rfl | rfl
 focus iterate 5 (refine nl ?_; simp only [pt,sb,s0,s1])
 rotate_left
 focus
  iterate 2 (refine agj ?_)
  (refine cl (i_ j_ x.id) 253 #[a_ #[i_ j_ x.id,i_ j_ x.n,i_ j_ x.max]] ?_ ?_ ?_; (intro w0 hS0; obtain ⟨⟨q0,q1,q2,q3,q4,q5⟩,hH⟩:=hS0; go_simp; try with_reducible rfl); (intro w0 hS0; refine (jv x w0).mono ?_; rintro e w2 ⟨rfl,hb2⟩; exact ⟨rfl,jz (hS0.2.1.I.below hb2) (hS0.2.2.I.below hb2)⟩); simp only [pt,sb,s0,s1])
  (refine cl (b_ vC) 129 #[i_ j_ x.id] ?_ ?_ ?_; (intro w0 hS0; obtain ⟨⟨q0,q1,q2,q3,q4,q5⟩,hH⟩:=hS0; go_simp; try with_reducible rfl); (intro w0 hS0; refine (eW x.id w0).mono ?_; rintro e w2 ⟨rfl,rfl⟩; exact ⟨HC.I,hS0⟩); simp only [pt,sb,s0,s1])
  (refine agj ?_)
 rotate_left
 focus iterate 5 (refine nl ?_; simp only [pt,sb,s0,s1])
 all_goals iterate 2 (refine agj ?_)
 rotate_right
 rcases vC.eq_false_or_eq_true with rfl | rfl
 focus
  iterate 2 (refine agj ?_)
  (refine cl (b_ vD) 254 #[a_ #[i_ j_ x.id,i_ j_ x.n,i_ j_ x.max]] ?_ ?_ ?_; (intro w0 hS0; obtain ⟨⟨q0,q1,q2,q3,q4,q5⟩,hH⟩:=hS0; go_simp; try with_reducible rfl); (intro w0 hS0; refine (ye x w0 hS0.2.2.I).mono ?_; rintro e w2 ⟨rfl,hb2⟩; exact ⟨HD.I,jz (hS0.2.1.I.below hb2) (hS0.2.2.I.below hb2)⟩); simp only [pt,sb,s0,s1])
  (refine agj ?_)
 rotate_left
 focus iterate 4 (refine nl ?_; simp only [pt,sb,s0,s1])
 rotate_left
 focus iterate 4 (refine nl ?_; simp only [pt,sb,s0,s1])
 rotate_left
 focus iterate 4 (refine nl ?_; simp only [pt,sb,s0,s1])
 rotate_left
 all_goals (refine agj ?_)
 all_goals refine bk ZcE ?_ _
 all_goals intro w1 cm
 rcases vD.eq_false_or_eq_true with rfl | rfl;rotate_left
 iterate 4
  exact ZaM
 go_wp2_with fail;refine eD (yk w b m Me x) 5 ZcE (jz cm.2.1.I.drew (cm.2.2.I.below (Kp _ _).drew)) ?_
 iterate 4 (refine ly 6 (v:= ?_) (o_ _) rfl rfl ZcE (fun _ _ _ h=>h) (bV ZcE ?_) ?_; rotate_left; (intro w0 hS0; obtain ⟨⟨q0,q1,q2,q3,q4,q5⟩,hH⟩:=hS0; go_simp; try with_reducible rfl); simp only [pt,sb,s0,s1])
 refine ly 6 (v:=i_ j_ x.id) (o_ _) rfl rfl ZcE (fun _ _ _ h=>h) (iZ (f:=253) (args:= #[a_ #[i_ j_ x.id,i_ j_ x.n,i_ j_ x.max]]) ZcE ?_ ?_) ?_
 .exact Zcy
 .intro w0 hS0
  refine (jv x w0).mono ?_;rintro e w2 ⟨rfl,hb2⟩;exact ⟨rfl,jz (hS0.2.1.I.below hb2) (hS0.2.2.I.below hb2)⟩
 simp only [pt,sb,s0,s1];refine fL rfl ZcE ZcE ZcE ?_;intro w1 cm;obtain ⟨w2,hput,hend⟩:=cm.2.1.I.put zo underlying70 HW.I.1 (HL.I.2 (by trivial)) HW.I.2.2 HW.I.2.1;have HE:bE (dD w b m true x.id (eH x) 89 (r_ (b_ true)) w2):=hend;exact Zah
def rP (w:w_) (b:Nat) (m:df) (Me:Int) (x:az) (w':w_):Prop:=(w'.cell? ⟨w.heap.size,0,n_⟩=o_ (i_ j_ Me)/\w'.cell? ⟨w.heap.size,1,n_⟩=o_ (.map (o_ b))/\(∀ ty,(Builtin.len_ #[76] ty #[.map (o_ b)]).run J3 w'= .ok (i_ j_ (m.length:Int)) w')/\w'.cell? ⟨w.heap.size+1,0,n_⟩=o_ (i_ j_ x.id)/\w'.cell? ⟨w.heap.size+1,1,n_⟩=o_ (b_ x.shown)/\w'.cell? ⟨w.heap.size+1,2,n_⟩=o_ (t_ x.text))/\bE (fe w w' w.heap.size (w.heap.size+1) b m Me (cI x) 93 78)/\bE (gX w' x)
def ii {w w':w_} {b:Nat} {m:df} {Me:Int} {x:az} (h:fe w w' w.heap.size (w.heap.size+1) b m Me (cI x) 93 78) (hf:gX w' x):rP w b m Me x w':=
 ⟨⟨h.cells.1,h.cells.2,fun ty=>h.mp.len underlying76 ty,kJ h.bx⟩,h,hf⟩
def rr (Me:Int) (b:Nat) (m:df) (x:az) (w:w_) (h:cF w b m) (hw:(Lit.int j_ x.id).wf=true) (hm:m.length<=1048576) (hf:gX w x):
  k_ J3 98 #[a_ #[i_ j_ Me,.map (o_ b)],a_ (cI x)] w fun e w'=>dD w b m (iI Me m x.id (cU x)) x.id (cI x) 93 e w':=by
 have HF:bE (fe w ((w.alloc (c_ #[i_ j_ Me,.map (o_ b)] 78)).alloc (c_ (cI x) 93)) w.heap.size (w.heap.size+1) b m Me (cI x) 93 78):=fe.start w h Me _ _ _;have HW:bE ((Lit.int j_ x.id).wf=true/\ ¬ w.heap.size+1=b/\m.length<=1048576):=⟨hw,by have:=h.lt; omega,hm⟩
 have HI:bE (gX ((w.alloc (c_ #[i_ j_ Me,.map (o_ b)] 78)).alloc (c_ (cI x) 93)) x):=hf.below ((((Kp _ w).alloc (Ki _) _)).alloc zw _);have hmn:=nr;have hmr:=tq;obtain ⟨s0,s1⟩:=HF.I.cells;obtain ⟨c0,c1,c2⟩:=kJ HF.I.bx;clear h hw hf hm;unfold cI at *
 go_enter func98,ntmps98
 go_wp2_with fail;clear s0 s1 c0 c1 c2;obtain ⟨vA,hA⟩: ∃ v,(cz m x.id).isSome=v:=⟨_,rfl⟩
 obtain ⟨vB,F6⟩: ∃ v,decide (Me<=(m.length:Int))=v:=⟨_,rfl⟩
 obtain ⟨vC,hC⟩: ∃ v,cv x.id 1 1000=v:=⟨_,rfl⟩
 obtain ⟨vD,hD⟩: ∃ v,cU x=v:=⟨_,rfl⟩
 have HL:bE (iI Me m x.id (cU x)=(!vA && !vB && vC && vD)/\(vA=false->cz m x.id=n_)):=⟨pi hA F6 hC hD,fun e=>PX.1 (PY.1 (hA.trans e))⟩
 have HA:bE (Ending.returned (b_ (cz m x.id).isSome)=r_ (b_ vA)):=al hA;have HC:bE (Ending.returned (b_ (cv x.id 1 1000))=r_ (b_ vC)):=al hC;have HD:bE (Ending.returned (b_ (cU x))=r_ (b_ vD)):=al hD;clear hA hC hD;refine aT (rP w b m Me x) ZcE (ii HF.I.drew (HI.I.below (Kp _ _).drew)) ?_
 iterate 3 (refine agj ?_)
 (refine cl (i_ j_ x.id) 259 #[a_ #[i_ j_ x.id,b_ x.shown,t_ x.text]] ?_ ?_ ?_; (intro w0 hS0; obtain ⟨⟨q0,q1,q2,q3,q4,q5⟩,hH⟩:=hS0; go_simp; try with_reducible rfl); (intro w0 hS0; refine (iq x w0).mono ?_; rintro e w2 ⟨rfl,hb2⟩; exact ⟨rfl,ii (hS0.2.1.I.below hb2) (hS0.2.2.I.below hb2)⟩); simp only [pt,sb,s0,s1])
 (refine cl (b_ vA) 132 #[a_ #[i_ j_ Me,.map (o_ b)],i_ j_ x.id] ?_ ?_ ?_; (intro w0 hS0; obtain ⟨⟨q0,q1,q2,q3,q4,q5⟩,hH⟩:=hS0; go_simp; try with_reducible rfl); (intro w0 hS0; refine (qM Me b m x.id w0 hS0.2.1.I.mp HW.I.1).mono ?_; rintro e w2 ⟨rfl,hb2⟩; exact ⟨HA.I,ii (hS0.2.1.I.below hb2) (hS0.2.2.I.below hb2)⟩); simp only [pt,sb,s0,s1])
 (refine agj ?_)
 rcases vA.eq_false_or_eq_true with rfl | rfl
 focus iterate 6 (refine nl ?_; simp only [pt,sb,s0,s1])
 rotate_left
 focus iterate 6 (refine agj ?_)
 all_goals iterate 2 (refine agj ?_)
 rcases vB.eq_false_or_eq_true with rfl | rfl
 focus iterate 5 (refine nl ?_; simp only [pt,sb,s0,s1])
 rotate_left
 focus
  iterate 2 (refine agj ?_)
  (refine cl (i_ j_ x.id) 259 #[a_ #[i_ j_ x.id,b_ x.shown,t_ x.text]] ?_ ?_ ?_; (intro w0 hS0; obtain ⟨⟨q0,q1,q2,q3,q4,q5⟩,hH⟩:=hS0; go_simp; try with_reducible rfl); (intro w0 hS0; refine (iq x w0).mono ?_; rintro e w2 ⟨rfl,hb2⟩; exact ⟨rfl,ii (hS0.2.1.I.below hb2) (hS0.2.2.I.below hb2)⟩); simp only [pt,sb,s0,s1])
  (refine cl (b_ vC) 129 #[i_ j_ x.id] ?_ ?_ ?_; (intro w0 hS0; obtain ⟨⟨q0,q1,q2,q3,q4,q5⟩,hH⟩:=hS0; go_simp; try with_reducible rfl); (intro w0 hS0; refine (eW x.id w0).mono ?_; rintro e w2 ⟨rfl,rfl⟩; exact ⟨HC.I,hS0⟩); simp only [pt,sb,s0,s1])
  (refine agj ?_)
 rotate_left
 focus iterate 5 (refine nl ?_; simp only [pt,sb,s0,s1])
 all_goals iterate 2 (refine agj ?_)
 rotate_right
 rcases vC.eq_false_or_eq_true with rfl | rfl
 focus
  iterate 2 (refine agj ?_)
  (refine cl (b_ vD) 260 #[a_ #[i_ j_ x.id,b_ x.shown,t_ x.text]] ?_ ?_ ?_; (intro w0 hS0; obtain ⟨⟨q0,q1,q2,q3,q4,q5⟩,hH⟩:=hS0; go_simp; try with_reducible rfl); (intro w0 hS0; refine (wd x w0 hS0.2.2.I).mono ?_; rintro e w2 ⟨rfl,hb2⟩; exact ⟨HD.I,ii (hS0.2.1.I.below hb2) (hS0.2.2.I.below hb2)⟩); simp only [pt,sb,s0,s1])
  (refine agj ?_)
 rotate_left
 focus iterate 4 (refine nl ?_; simp only [pt,sb,s0,s1])
 rotate_left
 focus iterate 4 (refine nl ?_; simp only [pt,sb,s0,s1])
 rotate_left
 focus iterate 4 (refine nl ?_; simp only [pt,sb,s0,s1])
 rotate_left
 all_goals (refine agj ?_)
 all_goals refine bk ZcE ?_ _
 all_goals intro w1 cm
 rcases vD.eq_false_or_eq_true with rfl | rfl;rotate_left
 iterate 4
  exact ZaM
 go_wp2_with fail;refine eD (rP w b m Me x) 5 ZcE (ii cm.2.1.I.drew (cm.2.2.I.below (Kp _ _).drew)) ?_
 iterate 4 (refine ly 6 (v:= ?_) (o_ _) rfl rfl ZcE (fun _ _ _ h=>h) (bV ZcE ?_) ?_; rotate_left; (intro w0 hS0; obtain ⟨⟨q0,q1,q2,q3,q4,q5⟩,hH⟩:=hS0; go_simp; try with_reducible rfl); simp only [pt,sb,s0,s1])
 refine ly 6 (v:=i_ j_ x.id) (o_ _) rfl rfl ZcE (fun _ _ _ h=>h) (iZ (f:=259) (args:= #[a_ #[i_ j_ x.id,b_ x.shown,t_ x.text]]) ZcE ?_ ?_) ?_
 .exact Zcy
 .intro w0 hS0
  refine (iq x w0).mono ?_;rintro e w2 ⟨rfl,hb2⟩;exact ⟨rfl,ii (hS0.2.1.I.below hb2) (hS0.2.2.I.below hb2)⟩
 simp only [pt,sb,s0,s1];refine fL rfl ZcE ZcE ZcE ?_;intro w1 cm;obtain ⟨w2,hput,hend⟩:=cm.2.1.I.put zo underlying76 HW.I.1 (HL.I.2 (by trivial)) HW.I.2.2 HW.I.2.1;have HE:bE (dD w b m true x.id (cI x) 93 (r_ (b_ true)) w2):=hend;exact Zah
def sk (w:w_) (b:Nat) (m:df) (Me:Int) (x:aB) (w':w_):Prop:=(w'.cell? ⟨w.heap.size,0,n_⟩=o_ (i_ j_ Me)/\w'.cell? ⟨w.heap.size,1,n_⟩=o_ (.map (o_ b))/\(∀ ty,(Builtin.len_ #[73] ty #[.map (o_ b)]).run J3 w'= .ok (i_ j_ (m.length:Int)) w')/\w'.cell? ⟨w.heap.size+1,0,n_⟩=o_ (i_ j_ x.id)/\w'.cell? ⟨w.heap.size+1,1,n_⟩=o_ (b_ x.up))/\bE (fe w w' w.heap.size (w.heap.size+1) b m Me (cG x) 91 75)/\bE (ix w' x)
def ik {w w':w_} {b:Nat} {m:df} {Me:Int} {x:aB} (h:fe w w' w.heap.size (w.heap.size+1) b m Me (cG x) 91 75) (hf:ix w' x):sk w b m Me x w':=
 ⟨⟨h.cells.1,h.cells.2,fun ty=>h.mp.len underlying73 ty,kF h.bx⟩,h,hf⟩
def rC (Me:Int) (b:Nat) (m:df) (x:aB) (w:w_) (h:cF w b m) (hw:(Lit.int j_ x.id).wf=true) (hm:m.length<=1048576) (hf:ix w x):
  k_ J3 97 #[a_ #[i_ j_ Me,.map (o_ b)],a_ (cG x)] w fun e w'=>dD w b m (iI Me m x.id (ey x)) x.id (cG x) 91 e w':=by
 have HF:bE (fe w ((w.alloc (c_ #[i_ j_ Me,.map (o_ b)] 75)).alloc (c_ (cG x) 91)) w.heap.size (w.heap.size+1) b m Me (cG x) 91 75):=fe.start w h Me _ _ _;have HW:bE ((Lit.int j_ x.id).wf=true/\ ¬ w.heap.size+1=b/\m.length<=1048576):=⟨hw,by have:=h.lt; omega,hm⟩
 have HI:bE (ix ((w.alloc (c_ #[i_ j_ Me,.map (o_ b)] 75)).alloc (c_ (cG x) 91)) x):=hf.below ((((Kp _ w).alloc (Ki _) _)).alloc zw _);have hmn:=mT;have hmr:=tp;obtain ⟨s0,s1⟩:=HF.I.cells;obtain ⟨c0,c1⟩:=kF HF.I.bx;clear h hw hf hm;unfold cG at *
 go_enter func97,ntmps97
 go_wp2_with fail;clear s0 s1 c0 c1;obtain ⟨vA,hA⟩: ∃ v,(cz m x.id).isSome=v:=⟨_,rfl⟩
 obtain ⟨vB,F6⟩: ∃ v,decide (Me<=(m.length:Int))=v:=⟨_,rfl⟩
 obtain ⟨vC,hC⟩: ∃ v,cv x.id 1 1000=v:=⟨_,rfl⟩
 obtain ⟨vD,hD⟩: ∃ v,ey x=v:=⟨_,rfl⟩
 have HL:bE (iI Me m x.id (ey x)=(!vA && !vB && vC && vD)/\(vA=false->cz m x.id=n_)):=⟨pi hA F6 hC hD,fun e=>PX.1 (PY.1 (hA.trans e))⟩
 have HA:bE (Ending.returned (b_ (cz m x.id).isSome)=r_ (b_ vA)):=al hA;have HC:bE (Ending.returned (b_ (cv x.id 1 1000))=r_ (b_ vC)):=al hC;have HD:bE (Ending.returned (b_ (ey x))=r_ (b_ vD)):=al hD;clear hA hC hD;refine aT (sk w b m Me x) ZcE (ik HF.I.drew (HI.I.below (Kp _ _).drew)) ?_
 iterate 3 (refine agj ?_)
 (refine cl (i_ j_ x.id) 256 #[a_ #[i_ j_ x.id,b_ x.up]] ?_ ?_ ?_; (intro w0 hS0; obtain ⟨⟨q0,q1,q2,q3,q4⟩,hH⟩:=hS0; go_simp; try with_reducible rfl); (intro w0 hS0; refine (iw x w0).mono ?_; rintro e w2 ⟨rfl,hb2⟩; exact ⟨rfl,ik (hS0.2.1.I.below hb2) (hS0.2.2.I.below hb2)⟩); simp only [pt,sb,s0,s1])
 (refine cl (b_ vA) 131 #[a_ #[i_ j_ Me,.map (o_ b)],i_ j_ x.id] ?_ ?_ ?_; (intro w0 hS0; obtain ⟨⟨q0,q1,q2,q3,q4⟩,hH⟩:=hS0; go_simp; try with_reducible rfl); (intro w0 hS0; refine (rj Me b m x.id w0 hS0.2.1.I.mp HW.I.1).mono ?_; rintro e w2 ⟨rfl,hb2⟩; exact ⟨HA.I,ik (hS0.2.1.I.below hb2) (hS0.2.2.I.below hb2)⟩); simp only [pt,sb,s0,s1])
 (refine agj ?_)
 rcases vA.eq_false_or_eq_true with rfl | rfl
 focus iterate 6 (refine nl ?_; simp only [pt,sb,s0,s1])
 rotate_left
 focus iterate 6 (refine agj ?_)
 all_goals iterate 2 (refine agj ?_)
 rcases vB.eq_false_or_eq_true with rfl | rfl
 focus iterate 5 (refine nl ?_; simp only [pt,sb,s0,s1])
 rotate_left
 focus
  iterate 2 (refine agj ?_)
  (refine cl (i_ j_ x.id) 256 #[a_ #[i_ j_ x.id,b_ x.up]] ?_ ?_ ?_; (intro w0 hS0; obtain ⟨⟨q0,q1,q2,q3,q4⟩,hH⟩:=hS0; go_simp; try with_reducible rfl); (intro w0 hS0; refine (iw x w0).mono ?_; rintro e w2 ⟨rfl,hb2⟩; exact ⟨rfl,ik (hS0.2.1.I.below hb2) (hS0.2.2.I.below hb2)⟩); simp only [pt,sb,s0,s1])
  (refine cl (b_ vC) 129 #[i_ j_ x.id] ?_ ?_ ?_; (intro w0 hS0; obtain ⟨⟨q0,q1,q2,q3,q4⟩,hH⟩:=hS0; go_simp; try with_reducible rfl); (intro w0 hS0; refine (eW x.id w0).mono ?_; rintro e w2 ⟨rfl,rfl⟩; exact ⟨HC.I,hS0⟩); simp only [pt,sb,s0,s1])
  (refine agj ?_)
 rotate_left
 focus iterate 5 (refine nl ?_; simp only [pt,sb,s0,s1])
 all_goals iterate 2 (refine agj ?_)
 rotate_right
 rcases vC.eq_false_or_eq_true with rfl | rfl
 focus
  iterate 2 (refine agj ?_)
  (refine cl (b_ vD) 257 #[a_ #[i_ j_ x.id,b_ x.up]] ?_ ?_ ?_; (intro w0 hS0; obtain ⟨⟨q0,q1,q2,q3,q4⟩,hH⟩:=hS0; go_simp; try with_reducible rfl); (intro w0 hS0; refine (tX x w0 hS0.2.2.I).mono ?_; rintro e w2 ⟨rfl,hb2⟩; exact ⟨HD.I,ik (hS0.2.1.I.below hb2) (hS0.2.2.I.below hb2)⟩); simp only [pt,sb,s0,s1])
  (refine agj ?_)
 rotate_left
 focus iterate 4 (refine nl ?_; simp only [pt,sb,s0,s1])
 rotate_left
 focus iterate 4 (refine nl ?_; simp only [pt,sb,s0,s1])
 rotate_left
 focus iterate 4 (refine nl ?_; simp only [pt,sb,s0,s1])
 rotate_left
 all_goals (refine agj ?_)
 all_goals refine bk ZcE ?_ _
 all_goals intro w1 cm
 rcases vD.eq_false_or_eq_true with rfl | rfl;rotate_left
 iterate 4
  exact ZaM
 go_wp2_with fail;refine eD (sk w b m Me x) 5 ZcE (ik cm.2.1.I.drew (cm.2.2.I.below (Kp _ _).drew)) ?_
 iterate 4 (refine ly 6 (v:= ?_) (o_ _) rfl rfl ZcE (fun _ _ _ h=>h) (bV ZcE ?_) ?_; rotate_left; (intro w0 hS0; obtain ⟨⟨q0,q1,q2,q3,q4⟩,hH⟩:=hS0; go_simp; try with_reducible rfl); simp only [pt,sb,s0,s1])
 refine ly 6 (v:=i_ j_ x.id) (o_ _) rfl rfl ZcE (fun _ _ _ h=>h) (iZ (f:=256) (args:= #[a_ #[i_ j_ x.id,b_ x.up]]) ZcE ?_ ?_) ?_
 .intro w0 hS0
  obtain ⟨⟨q0,q1,q2,q3,q4⟩,hH⟩:=hS0
  exact BC
 .intro w0 hS0
  refine (iw x w0).mono ?_;rintro e w2 ⟨rfl,hb2⟩;exact ⟨rfl,ik (hS0.2.1.I.below hb2) (hS0.2.2.I.below hb2)⟩
 simp only [pt,sb,s0,s1];refine fL rfl ZcE ZcE ZcE ?_;intro w1 cm;obtain ⟨w2,hput,hend⟩:=cm.2.1.I.put zo underlying73 HW.I.1 (HL.I.2 (by trivial)) HW.I.2.2 HW.I.2.1;have HE:bE (dD w b m true x.id (cG x) 91 (r_ (b_ true)) w2):=hend;exact Zah
def Ho (w:w_) (Me:Int) (bN:List ao) (k:Nat) (wr:w_):Prop:=
 ∃ l:List (ao × Nat),l.map (·.1)=bN.take k/\eS aX (fun x:ao=>x.id) 41 69 w wr Me l/\aw (fun x:ao=>x.id) (fun x:ao=>cH x.toaD) 0 (bN.take k)=true/\(k:Int)<=max Me 0
def tw (a:Option d_) (bN:List ao) (cap:Nat) (Me:Int) (w:w_) (hl:bN.length<=1048576) (h:bg.bU w a bN) (hf: ∀ x∈bN,eL w x) (hw: ∀ x∈bN,(Lit.int j_ x.id).wf=true):
  k_ J3 50 #[s_ a bN.length cap,i_ j_ Me] w fun e w'=>jN aX (fun x:ao=>x.id) 41 w Me (aw (fun x:ao=>x.id) (fun x:ao=>cH x.toaD) 0 bN && decide ((bN.length:Int)<=max Me 0)) bN e w':=by
 have hmk:=P4 (P:=J3) 67;have hmn:=ob;have H0:bE (eS aX (fun x:ao=>x.id) 41 69 w (((w.alloc (c_ #[i_ j_ 0,.map n_] 69)).alloc (.map #[] 0)).alloc (c_ #[i_ j_ Me,.map (o_ (w.heap.size+1))] 69)) Me []):=eS.start 69 w Me;have HL:bE (bg.bU w a bN/\(∀ x∈bN,eL w x)/\ ∀ x∈bN,(Lit.int j_ x.id).wf=true):=⟨h,hf,hw⟩
 clear h hf hw
 go_enter func50,ntmps50
 go_wp2_with fail
 go_loopw [7,15] (fun last i wr=> ∃ k:Nat,k<=bN.length/\i=i_ j_ k/\last=i_ j_ (bW (fun x:ao=>x.id) 0 (bN.take k))/\bE (Ho w Me bN k wr)) (fun _ i _=>bN.length - (intOf i).toNat)
 case atStart=>exact ⟨0,Ky _,rfl,rfl,⟨[],by simp,H0.I,rfl,by simp; omega⟩⟩
 case round=>
  clear H0 hmk;obtain ⟨k,hk,rfl,rfl,HA⟩:=hrel;obtain ⟨l,hlm,hin,oC,hkm⟩:=HA.I;have HT:bE (l.map (·.1)=bN.take k/\aw (fun x:ao=>x.id) (fun x:ao=>cH x.toaD) 0 (bN.take k)=true/\(k:Int)<=max Me 0):=⟨hlm,oC,hkm⟩
  have HI:bE (eS aX (fun x:ao=>x.id) 41 69 w wr Me l):=hin;clear HA hlm hin oC hkm;by_cases hlt:k < bN.length
  .have i0:(0:Int)<=(k:Int):=zo
   have i1:(k:Int) < (bN.length:Int):=zo
   obtain ⟨x,hx⟩: ∃ x,bN[k]? =o_ x:=⟨_,Kz hlt⟩
   have hmem:=KA hx;have HX:bE (bN[k]? =o_ x):=hx;have HF:bE (eL w x/\(Lit.int j_ x.id).wf=true):=⟨HL.I.2.1 x hmem,HL.I.2.2 x hmem⟩
   obtain ⟨gs,ha,hat⟩:=cn (HL.I.1.below HI.I.cd) hx;obtain ⟨c0,c1,c2,c3,c4,c5,c6,c7,c8,c9,qF,pe⟩:=hat;subst ha;clear hx hmem;go_wp2_with fail;refine (iK x _).mono ?_;rintro e w2 ⟨rfl,hb2⟩;have jA:bE (eS aX (fun x:ao=>x.id) 41 69 w w2 Me l):=(HI.I.below ((Kp _ wr).alloc (Ki _) (c_ x.row 41))).below hb2;have HB:bE (w2.heap[wr.heap.size]? =o_ (c_ (aX x) 41)):=(hb2.block _ zw).trans (Kj _ _);have HZ:bE (w.heap.size+1 < wr.heap.size):=by show w.heap.size+1 < wr.heap.size; have:=(J2.1 HI.I.var).1; omega
   clear hb2 HI c0 c1 c2 c3 c4 c5 c6 c7 c8 c9 qF pe;obtain ⟨d0,d1,d2,d3,d4,d5,d6,d7,d8,d9,tH,tS⟩:=bo HB.I;obtain ⟨r0,r1,v0,v1,z0,z1⟩:=jA.I.cells;by_cases hle:x.id<=bW (fun x:ao=>x.id) 0 (bN.take k)
   .have HN:bE ((aw (fun x:ao=>x.id) (fun x:ao=>cH x.toaD) 0 bN && decide ((bN.length:Int)<=max Me 0))=false):=by
     show _=false
     rw [bS HX.I (fun hh=>absurd hh.2.1 (by show ¬ bW (fun x:ao=>x.id) 0 (bN.take k) < x.id; omega))]; rfl
    go_wp2;refine KT (v:=u_ #[a_ #[i_ j_ 0,.map n_],b_ false]) Zdu rfl ?_;exact Zav
   have j6:bE (bW (fun x:ao=>x.id) 0 (bN.take k) < x.id):=by show _ < _; omega
   have hkl:(RW (fun x:ao=>x.id) l).length<=1048576:=by
    exact Q_
   go_wp2_with fail;refine (Bp Me (w.heap.size+1) (RW (fun x:ao=>x.id) l) x w2 jA.I.eh.map HF.I.2 hkl (HF.I.1.below jA.I.cd)).mono ?_;rintro e w3 ⟨rfl,hno,fm⟩;cases fW:iI Me (RW (fun x:ao=>x.id) l) x.id (cH x.toaD) with
   | false=>
    have HN:bE ((aw (fun x:ao=>x.id) (fun x:ao=>cH x.toaD) 0 bN && decide ((bN.length:Int)<=max Me 0))=false):=iC HX.I HT.I.1 HT.I.2.1 j6.I fW;have Aw:bE (eS aX (fun x:ao=>x.id) 41 69 w w3 Me l):=jA.I.below (hno fW);clear hno fm fW jA r0 r1 v0 v1 z0 z1 d0 d1 d2 d3 d4 d5 d6 d7 d8 d9 tH tS HB;obtain ⟨r0,r1,v0,v1,z0,z1⟩:=Aw.I.cells;go_wp2;refine KT (v:=u_ #[a_ #[i_ j_ 0,.map n_],b_ false]) Zdu rfl ?_;exact Zaw
   | true=>
    have HY:bE (aw (fun x:ao=>x.id) (fun x:ao=>cH x.toaD) 0 (bN.take (k+1))=true/\((k+1:Nat):Int)<=max Me 0):=gM HX.I HT.I.1 HT.I.2.1 j6.I fW;obtain ⟨g,ph⟩:=jA.I.lay (x:=x) (e:=r_ (b_ true)) (w':=w3) ⟨rfl,(fun h=>by cases h),fun _=>fm fW⟩ (jB HT.I.1 HT.I.2.1 j6.I);have BD:bE (eS aX (fun x:ao=>x.id) 41 69 w w3 Me (l ++ [(x,g)])):=ph;have oh:bE (w3.heap[wr.heap.size]? =o_ (c_ (aX x) 41)):=by
     exact ws
    clear hno fm fW jA r0 r1 v0 v1 z0 z1 d0 d1 d2 d3 d4 d5 d6 d7 d8 d9 tH tS HB ph;obtain ⟨d0,d1,d2,d3,d4,d5,d6,d7,d8,d9,tH,tS⟩:=bo oh.I;go_wp2_with fail;refine (iK x _).mono ?_;rintro e w5 ⟨rfl,iJ⟩;have EY:bE (eS aX (fun x:ao=>x.id) 41 69 w w5 Me (l ++ [(x,g)])):=BD.I.below iJ;have HE:bE (bW (fun x:ao=>x.id) 0 (bN.take (k+1))=x.id):=eG HX.I 0;exact pl
  .have i1: ¬ (k:Int) < (bN.length:Int):=zo
   have HK:bE (bN.take k=bN/\((bN.length:Int)<=max Me 0)):=⟨KF zo,by have:=HT.I.2.2; omega⟩
   have HY:bE ((aw (fun x:ao=>x.id) (fun x:ao=>cH x.toaD) 0 bN && decide ((bN.length:Int)<=max Me 0))=true):=by
    exact J_
   obtain ⟨r0,r1,v0,v1,z0,z1⟩:=HI.I.cells;go_wp2;refine KT (v:=u_ #[a_ #[i_ j_ Me,.map (o_ (w.heap.size+1))],b_ true]) Zdu rfl ?_;exact AM
def F3 (w:w_) (Me:Int) (bN:List aM) (k:Nat) (wr:w_):Prop:=
 ∃ l:List (aM × Nat),l.map (·.1)=bN.take k/\eS cW (fun x:aM=>x.id) 115 84 w wr Me l/\aw (fun x:aM=>x.id) (fun x:aM=>dj x.todS) 0 (bN.take k)=true/\(k:Int)<=max Me 0
def tB (a:Option d_) (bN:List aM) (cap:Nat) (Me:Int) (w:w_) (hl:bN.length<=1048576) (h:bX.bU w a bN) (hf: ∀ x∈bN,jf w x) (hw: ∀ x∈bN,(Lit.int j_ x.id).wf=true):
  k_ J3 55 #[s_ a bN.length cap,i_ j_ Me] w fun e w'=>jN cW (fun x:aM=>x.id) 115 w Me (aw (fun x:aM=>x.id) (fun x:aM=>dj x.todS) 0 bN && decide ((bN.length:Int)<=max Me 0)) bN e w':=by
 have hmk:=P4 (P:=J3) 82;have hmn:=nY;have H0:bE (eS cW (fun x:aM=>x.id) 115 84 w (((w.alloc (c_ #[i_ j_ 0,.map n_] 84)).alloc (.map #[] 0)).alloc (c_ #[i_ j_ Me,.map (o_ (w.heap.size+1))] 84)) Me []):=eS.start 84 w Me;have HL:bE (bX.bU w a bN/\(∀ x∈bN,jf w x)/\ ∀ x∈bN,(Lit.int j_ x.id).wf=true):=⟨h,hf,hw⟩
 clear h hf hw
 go_enter func55,ntmps55
 go_wp2_with fail
 go_loopw [7,15] (fun last i wr=> ∃ k:Nat,k<=bN.length/\i=i_ j_ k/\last=i_ j_ (bW (fun x:aM=>x.id) 0 (bN.take k))/\bE (F3 w Me bN k wr)) (fun _ i _=>bN.length - (intOf i).toNat)
 case atStart=>exact ⟨0,Ky _,rfl,rfl,⟨[],by simp,H0.I,rfl,by simp; omega⟩⟩
 case round=>
  clear H0 hmk;obtain ⟨k,hk,rfl,rfl,HA⟩:=hrel;obtain ⟨l,hlm,hin,oC,hkm⟩:=HA.I;have HT:bE (l.map (·.1)=bN.take k/\aw (fun x:aM=>x.id) (fun x:aM=>dj x.todS) 0 (bN.take k)=true/\(k:Int)<=max Me 0):=⟨hlm,oC,hkm⟩
  have HI:bE (eS cW (fun x:aM=>x.id) 115 84 w wr Me l):=hin;clear HA hlm hin oC hkm;by_cases hlt:k < bN.length
  .have i0:(0:Int)<=(k:Int):=zo
   have i1:(k:Int) < (bN.length:Int):=zo
   obtain ⟨x,hx⟩: ∃ x,bN[k]? =o_ x:=⟨_,Kz hlt⟩
   have hmem:=KA hx;have HX:bE (bN[k]? =o_ x):=hx;have HF:bE (jf w x/\(Lit.int j_ x.id).wf=true):=⟨HL.I.2.1 x hmem,HL.I.2.2 x hmem⟩
   obtain ⟨gs,ha,hat⟩:=lm (HL.I.1.below HI.I.cd) hx;obtain ⟨c0,c1,c2,c3,c4⟩:=hat;subst ha;clear hx hmem;go_wp2_with fail;refine (iN x _).mono ?_;rintro e w2 ⟨rfl,hb2⟩;have jA:bE (eS cW (fun x:aM=>x.id) 115 84 w w2 Me l):=(HI.I.below ((Kp _ wr).alloc (Ki _) (c_ #[i_ j_ x.id,b_ x.I,b_ x.Mf,i_ j_ x.max,s_ x.ak x.Ma.length x.aq] 115))).below hb2;have HB:bE (w2.heap[wr.heap.size]? =o_ (c_ (cW x) 115)):=(hb2.block _ zw).trans (Kj _ _);have HZ:bE (w.heap.size+1 < wr.heap.size):=by show w.heap.size+1 < wr.heap.size; have:=(J2.1 HI.I.var).1; omega
   clear hb2 HI c0 c1 c2 c3 c4;obtain ⟨d0,d1,d2,d3,d4⟩:=gE HB.I;obtain ⟨r0,r1,v0,v1,z0,z1⟩:=jA.I.cells;by_cases hle:x.id<=bW (fun x:aM=>x.id) 0 (bN.take k)
   .have HN:bE ((aw (fun x:aM=>x.id) (fun x:aM=>dj x.todS) 0 bN && decide ((bN.length:Int)<=max Me 0))=false):=by
     show _=false
     rw [bS HX.I (fun hh=>absurd hh.2.1 (by show ¬ bW (fun x:aM=>x.id) 0 (bN.take k) < x.id; omega))]; rfl
    go_wp2;refine KT (v:=u_ #[a_ #[i_ j_ 0,.map n_],b_ false]) Zdp rfl ?_;exact Zav
   have j6:bE (bW (fun x:aM=>x.id) 0 (bN.take k) < x.id):=by show _ < _; omega
   have hkl:(RW (fun x:aM=>x.id) l).length<=1048576:=by
    exact Q_
   go_wp2_with fail;refine (tb Me (w.heap.size+1) (RW (fun x:aM=>x.id) l) x w2 jA.I.eh.map HF.I.2 hkl (HF.I.1.below jA.I.cd)).mono ?_;rintro e w3 ⟨rfl,hno,fm⟩;cases fW:iI Me (RW (fun x:aM=>x.id) l) x.id (dj x.todS) with
   | false=>
    have HN:bE ((aw (fun x:aM=>x.id) (fun x:aM=>dj x.todS) 0 bN && decide ((bN.length:Int)<=max Me 0))=false):=iC HX.I HT.I.1 HT.I.2.1 j6.I fW;have Aw:bE (eS cW (fun x:aM=>x.id) 115 84 w w3 Me l):=jA.I.below (hno fW);clear hno fm fW jA r0 r1 v0 v1 z0 z1 d0 d1 d2 d3 d4 HB;obtain ⟨r0,r1,v0,v1,z0,z1⟩:=Aw.I.cells;go_wp2;refine KT (v:=u_ #[a_ #[i_ j_ 0,.map n_],b_ false]) Zdp rfl ?_;exact Zaw
   | true=>
    have HY:bE (aw (fun x:aM=>x.id) (fun x:aM=>dj x.todS) 0 (bN.take (k+1))=true/\((k+1:Nat):Int)<=max Me 0):=gM HX.I HT.I.1 HT.I.2.1 j6.I fW;obtain ⟨g,ph⟩:=jA.I.lay (x:=x) (e:=r_ (b_ true)) (w':=w3) ⟨rfl,(fun h=>by cases h),fun _=>fm fW⟩ (jB HT.I.1 HT.I.2.1 j6.I);have BD:bE (eS cW (fun x:aM=>x.id) 115 84 w w3 Me (l ++ [(x,g)])):=ph;have oh:bE (w3.heap[wr.heap.size]? =o_ (c_ (cW x) 115)):=by
     exact ws
    clear hno fm fW jA r0 r1 v0 v1 z0 z1 d0 d1 d2 d3 d4 HB ph;obtain ⟨d0,d1,d2,d3,d4⟩:=gE oh.I;go_wp2_with fail;refine (iN x _).mono ?_;rintro e w5 ⟨rfl,iJ⟩;have EY:bE (eS cW (fun x:aM=>x.id) 115 84 w w5 Me (l ++ [(x,g)])):=BD.I.below iJ;have HE:bE (bW (fun x:aM=>x.id) 0 (bN.take (k+1))=x.id):=eG HX.I 0;exact pl
  .have i1: ¬ (k:Int) < (bN.length:Int):=zo
   have HK:bE (bN.take k=bN/\((bN.length:Int)<=max Me 0)):=⟨KF zo,by have:=HT.I.2.2; omega⟩
   have HY:bE ((aw (fun x:aM=>x.id) (fun x:aM=>dj x.todS) 0 bN && decide ((bN.length:Int)<=max Me 0))=true):=by
    exact J_
   obtain ⟨r0,r1,v0,v1,z0,z1⟩:=HI.I.cells;go_wp2;refine KT (v:=u_ #[a_ #[i_ j_ Me,.map (o_ (w.heap.size+1))],b_ true]) Zdp rfl ?_;exact AM
def Dj (w:w_) (Me:Int) (bN:List au) (k:Nat) (wr:w_):Prop:=
 ∃ l:List (au × Nat),l.map (·.1)=bN.take k/\eS bQ (fun x:au=>x.id) 96 81 w wr Me l/\aw (fun x:au=>x.id) (fun x:au=>ct x.toci) 0 (bN.take k)=true/\(k:Int)<=max Me 0
def rH (a:Option d_) (bN:List au) (cap:Nat) (Me:Int) (w:w_) (hl:bN.length<=1048576) (h:bm.bU w a bN) (hf: ∀ x∈bN,fM w x) (hw: ∀ x∈bN,(Lit.int j_ x.id).wf=true):
  k_ J3 54 #[s_ a bN.length cap,i_ j_ Me] w fun e w'=>jN bQ (fun x:au=>x.id) 96 w Me (aw (fun x:au=>x.id) (fun x:au=>ct x.toci) 0 bN && decide ((bN.length:Int)<=max Me 0)) bN e w':=by
 have hmk:=P4 (P:=J3) 79;have hmn:=mc;have H0:bE (eS bQ (fun x:au=>x.id) 96 81 w (((w.alloc (c_ #[i_ j_ 0,.map n_] 81)).alloc (.map #[] 0)).alloc (c_ #[i_ j_ Me,.map (o_ (w.heap.size+1))] 81)) Me []):=eS.start 81 w Me;have HL:bE (bm.bU w a bN/\(∀ x∈bN,fM w x)/\ ∀ x∈bN,(Lit.int j_ x.id).wf=true):=⟨h,hf,hw⟩
 clear h hf hw
 go_enter func54,ntmps54
 go_wp2_with fail
 go_loopw [7,15] (fun last i wr=> ∃ k:Nat,k<=bN.length/\i=i_ j_ k/\last=i_ j_ (bW (fun x:au=>x.id) 0 (bN.take k))/\bE (Dj w Me bN k wr)) (fun _ i _=>bN.length - (intOf i).toNat)
 case atStart=>exact ⟨0,Ky _,rfl,rfl,⟨[],by simp,H0.I,rfl,by simp; omega⟩⟩
 case round=>
  clear H0 hmk;obtain ⟨k,hk,rfl,rfl,HA⟩:=hrel;obtain ⟨l,hlm,hin,oC,hkm⟩:=HA.I;have HT:bE (l.map (·.1)=bN.take k/\aw (fun x:au=>x.id) (fun x:au=>ct x.toci) 0 (bN.take k)=true/\(k:Int)<=max Me 0):=⟨hlm,oC,hkm⟩
  have HI:bE (eS bQ (fun x:au=>x.id) 96 81 w wr Me l):=hin;clear HA hlm hin oC hkm;by_cases hlt:k < bN.length
  .have i0:(0:Int)<=(k:Int):=zo
   have i1:(k:Int) < (bN.length:Int):=zo
   obtain ⟨x,hx⟩: ∃ x,bN[k]? =o_ x:=⟨_,Kz hlt⟩
   have hmem:=KA hx;have HX:bE (bN[k]? =o_ x):=hx;have HF:bE (fM w x/\(Lit.int j_ x.id).wf=true):=⟨HL.I.2.1 x hmem,HL.I.2.2 x hmem⟩
   obtain ⟨gs,ha,hat⟩:=iA (HL.I.1.below HI.I.cd) hx;obtain ⟨c0,c1,c2⟩:=hat;subst ha;clear hx hmem;go_wp2_with fail;refine (gP x _).mono ?_;rintro e w2 ⟨rfl,hb2⟩;have jA:bE (eS bQ (fun x:au=>x.id) 96 81 w w2 Me l):=(HI.I.below ((Kp _ wr).alloc (Ki _) (c_ #[i_ j_ x.id,i_ j_ x.max,s_ x.ak x.Ma.length x.aq] 96))).below hb2;have HB:bE (w2.heap[wr.heap.size]? =o_ (c_ (bQ x) 96)):=(hb2.block _ zw).trans (Kj _ _);have HZ:bE (w.heap.size+1 < wr.heap.size):=by show w.heap.size+1 < wr.heap.size; have:=(J2.1 HI.I.var).1; omega
   clear hb2 HI c0 c1 c2;obtain ⟨d0,d1,d2⟩:=ia HB.I;obtain ⟨r0,r1,v0,v1,z0,z1⟩:=jA.I.cells;by_cases hle:x.id<=bW (fun x:au=>x.id) 0 (bN.take k)
   .have HN:bE ((aw (fun x:au=>x.id) (fun x:au=>ct x.toci) 0 bN && decide ((bN.length:Int)<=max Me 0))=false):=by
     show _=false
     rw [bS HX.I (fun hh=>absurd hh.2.1 (by show ¬ bW (fun x:au=>x.id) 0 (bN.take k) < x.id; omega))]; rfl
    go_wp2;refine KT (v:=u_ #[a_ #[i_ j_ 0,.map n_],b_ false]) Zdq rfl ?_;exact Zav
   have j6:bE (bW (fun x:au=>x.id) 0 (bN.take k) < x.id):=by show _ < _; omega
   have hkl:(RW (fun x:au=>x.id) l).length<=1048576:=by
    exact Q_
   go_wp2_with fail;refine (pV Me (w.heap.size+1) (RW (fun x:au=>x.id) l) x w2 jA.I.eh.map HF.I.2 hkl (HF.I.1.below jA.I.cd)).mono ?_;rintro e w3 ⟨rfl,hno,fm⟩;cases fW:iI Me (RW (fun x:au=>x.id) l) x.id (ct x.toci) with
   | false=>
    have HN:bE ((aw (fun x:au=>x.id) (fun x:au=>ct x.toci) 0 bN && decide ((bN.length:Int)<=max Me 0))=false):=iC HX.I HT.I.1 HT.I.2.1 j6.I fW;have Aw:bE (eS bQ (fun x:au=>x.id) 96 81 w w3 Me l):=jA.I.below (hno fW);clear hno fm fW jA r0 r1 v0 v1 z0 z1 d0 d1 d2 HB;obtain ⟨r0,r1,v0,v1,z0,z1⟩:=Aw.I.cells;go_wp2;refine KT (v:=u_ #[a_ #[i_ j_ 0,.map n_],b_ false]) Zdq rfl ?_;exact Zaw
   | true=>
    have HY:bE (aw (fun x:au=>x.id) (fun x:au=>ct x.toci) 0 (bN.take (k+1))=true/\((k+1:Nat):Int)<=max Me 0):=gM HX.I HT.I.1 HT.I.2.1 j6.I fW;obtain ⟨g,ph⟩:=jA.I.lay (x:=x) (e:=r_ (b_ true)) (w':=w3) ⟨rfl,(fun h=>by cases h),fun _=>fm fW⟩ (jB HT.I.1 HT.I.2.1 j6.I);have BD:bE (eS bQ (fun x:au=>x.id) 96 81 w w3 Me (l ++ [(x,g)])):=ph;have oh:bE (w3.heap[wr.heap.size]? =o_ (c_ (bQ x) 96)):=by
     exact ws
    clear hno fm fW jA r0 r1 v0 v1 z0 z1 d0 d1 d2 HB ph;obtain ⟨d0,d1,d2⟩:=ia oh.I;go_wp2_with fail;refine (gP x _).mono ?_;rintro e w5 ⟨rfl,iJ⟩;have EY:bE (eS bQ (fun x:au=>x.id) 96 81 w w5 Me (l ++ [(x,g)])):=BD.I.below iJ;have HE:bE (bW (fun x:au=>x.id) 0 (bN.take (k+1))=x.id):=eG HX.I 0;exact pl
  .have i1: ¬ (k:Int) < (bN.length:Int):=zo
   have HK:bE (bN.take k=bN/\((bN.length:Int)<=max Me 0)):=⟨KF zo,by have:=HT.I.2.2; omega⟩
   have HY:bE ((aw (fun x:au=>x.id) (fun x:au=>ct x.toci) 0 bN && decide ((bN.length:Int)<=max Me 0))=true):=by
    exact J_
   obtain ⟨r0,r1,v0,v1,z0,z1⟩:=HI.I.cells;go_wp2;refine KT (v:=u_ #[a_ #[i_ j_ Me,.map (o_ (w.heap.size+1))],b_ true]) Zdq rfl ?_;exact AM
def IW (w:w_) (Me:Int) (bN:List bD) (k:Nat) (wr:w_):Prop:=
 ∃ l:List (bD × Nat),l.map (·.1)=bN.take k/\eS eH (fun x:bD=>x.id) 89 72 w wr Me l/\aw (fun x:bD=>x.id) (fun x:bD=>gw x) 0 (bN.take k)=true/\(k:Int)<=max Me 0
def vV (a:Option d_) (bN:List bD) (cap:Nat) (Me:Int) (w:w_) (hl:bN.length<=1048576) (h:dm.bU w a bN) (hf: ∀ x∈bN,kU w x) (hw: ∀ x∈bN,(Lit.int j_ x.id).wf=true):
  k_ J3 51 #[s_ a bN.length cap,i_ j_ Me] w fun e w'=>jN eH (fun x:bD=>x.id) 89 w Me (aw (fun x:bD=>x.id) (fun x:bD=>gw x) 0 bN && decide ((bN.length:Int)<=max Me 0)) bN e w':=by
 have hmk:=P4 (P:=J3) 70;have hmn:=pb;have H0:bE (eS eH (fun x:bD=>x.id) 89 72 w (((w.alloc (c_ #[i_ j_ 0,.map n_] 72)).alloc (.map #[] 0)).alloc (c_ #[i_ j_ Me,.map (o_ (w.heap.size+1))] 72)) Me []):=eS.start 72 w Me;have HL:bE (dm.bU w a bN/\(∀ x∈bN,kU w x)/\ ∀ x∈bN,(Lit.int j_ x.id).wf=true):=⟨h,hf,hw⟩
 clear h hf hw
 go_enter func51,ntmps51
 go_wp2_with fail
 go_loopw [7,15] (fun last i wr=> ∃ k:Nat,k<=bN.length/\i=i_ j_ k/\last=i_ j_ (bW (fun x:bD=>x.id) 0 (bN.take k))/\bE (IW w Me bN k wr)) (fun _ i _=>bN.length - (intOf i).toNat)
 case atStart=>exact ⟨0,Ky _,rfl,rfl,⟨[],by simp,H0.I,rfl,by simp; omega⟩⟩
 case round=>
  clear H0 hmk;obtain ⟨k,hk,rfl,rfl,HA⟩:=hrel;obtain ⟨l,hlm,hin,oC,hkm⟩:=HA.I;have HT:bE (l.map (·.1)=bN.take k/\aw (fun x:bD=>x.id) (fun x:bD=>gw x) 0 (bN.take k)=true/\(k:Int)<=max Me 0):=⟨hlm,oC,hkm⟩
  have HI:bE (eS eH (fun x:bD=>x.id) 89 72 w wr Me l):=hin;clear HA hlm hin oC hkm;by_cases hlt:k < bN.length
  .have i0:(0:Int)<=(k:Int):=zo
   have i1:(k:Int) < (bN.length:Int):=zo
   obtain ⟨x,hx⟩: ∃ x,bN[k]? =o_ x:=⟨_,Kz hlt⟩
   have hmem:=KA hx;have HX:bE (bN[k]? =o_ x):=hx;have HF:bE (kU w x/\(Lit.int j_ x.id).wf=true):=⟨HL.I.2.1 x hmem,HL.I.2.2 x hmem⟩
   obtain ⟨gs,ha,hat⟩:=lQ (HL.I.1.below HI.I.cd) hx;obtain ⟨c0,c1,c2⟩:=hat;subst ha;clear hx hmem;go_wp2_with fail;refine (jv x _).mono ?_;rintro e w2 ⟨rfl,hb2⟩;have jA:bE (eS eH (fun x:bD=>x.id) 89 72 w w2 Me l):=(HI.I.below ((Kp _ wr).alloc (Ki _) (c_ #[i_ j_ x.id,i_ j_ x.n,i_ j_ x.max] 89))).below hb2;have HB:bE (w2.heap[wr.heap.size]? =o_ (c_ (eH x) 89)):=(hb2.block _ zw).trans (Kj _ _);have HZ:bE (w.heap.size+1 < wr.heap.size):=by show w.heap.size+1 < wr.heap.size; have:=(J2.1 HI.I.var).1; omega
   clear hb2 HI c0 c1 c2;obtain ⟨d0,d1,d2⟩:=gm HB.I;obtain ⟨r0,r1,v0,v1,z0,z1⟩:=jA.I.cells;by_cases hle:x.id<=bW (fun x:bD=>x.id) 0 (bN.take k)
   .have HN:bE ((aw (fun x:bD=>x.id) (fun x:bD=>gw x) 0 bN && decide ((bN.length:Int)<=max Me 0))=false):=by
     show _=false
     rw [bS HX.I (fun hh=>absurd hh.2.1 (by show ¬ bW (fun x:bD=>x.id) 0 (bN.take k) < x.id; omega))]; rfl
    go_wp2;refine KT (v:=u_ #[a_ #[i_ j_ 0,.map n_],b_ false]) Zdt rfl ?_;exact Zav
   have j6:bE (bW (fun x:bD=>x.id) 0 (bN.take k) < x.id):=by show _ < _; omega
   have hkl:(RW (fun x:bD=>x.id) l).length<=1048576:=by
    exact Q_
   go_wp2_with fail;refine (tU Me (w.heap.size+1) (RW (fun x:bD=>x.id) l) x w2 jA.I.eh.map HF.I.2 hkl (HF.I.1.below jA.I.cd)).mono ?_;rintro e w3 ⟨rfl,hno,fm⟩;cases fW:iI Me (RW (fun x:bD=>x.id) l) x.id (gw x) with
   | false=>
    have HN:bE ((aw (fun x:bD=>x.id) (fun x:bD=>gw x) 0 bN && decide ((bN.length:Int)<=max Me 0))=false):=iC HX.I HT.I.1 HT.I.2.1 j6.I fW;have Aw:bE (eS eH (fun x:bD=>x.id) 89 72 w w3 Me l):=jA.I.below (hno fW);clear hno fm fW jA r0 r1 v0 v1 z0 z1 d0 d1 d2 HB;obtain ⟨r0,r1,v0,v1,z0,z1⟩:=Aw.I.cells;go_wp2;refine KT (v:=u_ #[a_ #[i_ j_ 0,.map n_],b_ false]) Zdt rfl ?_;exact Zaw
   | true=>
    have HY:bE (aw (fun x:bD=>x.id) (fun x:bD=>gw x) 0 (bN.take (k+1))=true/\((k+1:Nat):Int)<=max Me 0):=gM HX.I HT.I.1 HT.I.2.1 j6.I fW;obtain ⟨g,ph⟩:=jA.I.lay (x:=x) (e:=r_ (b_ true)) (w':=w3) ⟨rfl,(fun h=>by cases h),fun _=>fm fW⟩ (jB HT.I.1 HT.I.2.1 j6.I);have BD:bE (eS eH (fun x:bD=>x.id) 89 72 w w3 Me (l ++ [(x,g)])):=ph;have oh:bE (w3.heap[wr.heap.size]? =o_ (c_ (eH x) 89)):=by
     exact ws
    clear hno fm fW jA r0 r1 v0 v1 z0 z1 d0 d1 d2 HB ph;obtain ⟨d0,d1,d2⟩:=gm oh.I;go_wp2_with fail;refine (jv x _).mono ?_;rintro e w5 ⟨rfl,iJ⟩;have EY:bE (eS eH (fun x:bD=>x.id) 89 72 w w5 Me (l ++ [(x,g)])):=BD.I.below iJ;have HE:bE (bW (fun x:bD=>x.id) 0 (bN.take (k+1))=x.id):=eG HX.I 0;exact pl
  .have i1: ¬ (k:Int) < (bN.length:Int):=zo
   have HK:bE (bN.take k=bN/\((bN.length:Int)<=max Me 0)):=⟨KF zo,by have:=HT.I.2.2; omega⟩
   have HY:bE ((aw (fun x:bD=>x.id) (fun x:bD=>gw x) 0 bN && decide ((bN.length:Int)<=max Me 0))=true):=by
    exact J_
   obtain ⟨r0,r1,v0,v1,z0,z1⟩:=HI.I.cells;go_wp2;refine KT (v:=u_ #[a_ #[i_ j_ Me,.map (o_ (w.heap.size+1))],b_ true]) Zdt rfl ?_;exact AM
def EX (w:w_) (Me:Int) (bN:List az) (k:Nat) (wr:w_):Prop:=
 ∃ l:List (az × Nat),l.map (·.1)=bN.take k/\eS cI (fun x:az=>x.id) 93 78 w wr Me l/\aw (fun x:az=>x.id) (fun x:az=>cU x) 0 (bN.take k)=true/\(k:Int)<=max Me 0
def si (a:Option d_) (bN:List az) (cap:Nat) (Me:Int) (w:w_) (hl:bN.length<=1048576) (h:bG.bU w a bN) (hf: ∀ x∈bN,gX w x) (hw: ∀ x∈bN,(Lit.int j_ x.id).wf=true):
  k_ J3 53 #[s_ a bN.length cap,i_ j_ Me] w fun e w'=>jN cI (fun x:az=>x.id) 93 w Me (aw (fun x:az=>x.id) (fun x:az=>cU x) 0 bN && decide ((bN.length:Int)<=max Me 0)) bN e w':=by
 have hmk:=P4 (P:=J3) 76;have hmn:=nr;have H0:bE (eS cI (fun x:az=>x.id) 93 78 w (((w.alloc (c_ #[i_ j_ 0,.map n_] 78)).alloc (.map #[] 0)).alloc (c_ #[i_ j_ Me,.map (o_ (w.heap.size+1))] 78)) Me []):=eS.start 78 w Me;have HL:bE (bG.bU w a bN/\(∀ x∈bN,gX w x)/\ ∀ x∈bN,(Lit.int j_ x.id).wf=true):=⟨h,hf,hw⟩
 clear h hf hw
 go_enter func53,ntmps53
 go_wp2_with fail
 go_loopw [7,15] (fun last i wr=> ∃ k:Nat,k<=bN.length/\i=i_ j_ k/\last=i_ j_ (bW (fun x:az=>x.id) 0 (bN.take k))/\bE (EX w Me bN k wr)) (fun _ i _=>bN.length - (intOf i).toNat)
 case atStart=>exact ⟨0,Ky _,rfl,rfl,⟨[],by simp,H0.I,rfl,by simp; omega⟩⟩
 case round=>
  clear H0 hmk;obtain ⟨k,hk,rfl,rfl,HA⟩:=hrel;obtain ⟨l,hlm,hin,oC,hkm⟩:=HA.I;have HT:bE (l.map (·.1)=bN.take k/\aw (fun x:az=>x.id) (fun x:az=>cU x) 0 (bN.take k)=true/\(k:Int)<=max Me 0):=⟨hlm,oC,hkm⟩
  have HI:bE (eS cI (fun x:az=>x.id) 93 78 w wr Me l):=hin;clear HA hlm hin oC hkm;by_cases hlt:k < bN.length
  .have i0:(0:Int)<=(k:Int):=zo
   have i1:(k:Int) < (bN.length:Int):=zo
   obtain ⟨x,hx⟩: ∃ x,bN[k]? =o_ x:=⟨_,Kz hlt⟩
   have hmem:=KA hx;have HX:bE (bN[k]? =o_ x):=hx;have HF:bE (gX w x/\(Lit.int j_ x.id).wf=true):=⟨HL.I.2.1 x hmem,HL.I.2.2 x hmem⟩
   obtain ⟨gs,ha,hat⟩:=jr (HL.I.1.below HI.I.cd) hx;obtain ⟨c0,c1,c2⟩:=hat;subst ha;clear hx hmem;go_wp2_with fail;refine (iq x _).mono ?_;rintro e w2 ⟨rfl,hb2⟩;have jA:bE (eS cI (fun x:az=>x.id) 93 78 w w2 Me l):=(HI.I.below ((Kp _ wr).alloc (Ki _) (c_ #[i_ j_ x.id,b_ x.shown,t_ x.text] 93))).below hb2;have HB:bE (w2.heap[wr.heap.size]? =o_ (c_ (cI x) 93)):=(hb2.block _ zw).trans (Kj _ _);have HZ:bE (w.heap.size+1 < wr.heap.size):=by show w.heap.size+1 < wr.heap.size; have:=(J2.1 HI.I.var).1; omega
   clear hb2 HI c0 c1 c2;obtain ⟨d0,d1,d2⟩:=kJ HB.I;obtain ⟨r0,r1,v0,v1,z0,z1⟩:=jA.I.cells;by_cases hle:x.id<=bW (fun x:az=>x.id) 0 (bN.take k)
   .have HN:bE ((aw (fun x:az=>x.id) (fun x:az=>cU x) 0 bN && decide ((bN.length:Int)<=max Me 0))=false):=by
     show _=false
     rw [bS HX.I (fun hh=>absurd hh.2.1 (by show ¬ bW (fun x:az=>x.id) 0 (bN.take k) < x.id; omega))]; rfl
    go_wp2;refine KT (v:=u_ #[a_ #[i_ j_ 0,.map n_],b_ false]) Zdr rfl ?_;exact Zav
   have j6:bE (bW (fun x:az=>x.id) 0 (bN.take k) < x.id):=by show _ < _; omega
   have hkl:(RW (fun x:az=>x.id) l).length<=1048576:=by
    exact Q_
   go_wp2_with fail;refine (rr Me (w.heap.size+1) (RW (fun x:az=>x.id) l) x w2 jA.I.eh.map HF.I.2 hkl (HF.I.1.below jA.I.cd)).mono ?_;rintro e w3 ⟨rfl,hno,fm⟩;cases fW:iI Me (RW (fun x:az=>x.id) l) x.id (cU x) with
   | false=>
    have HN:bE ((aw (fun x:az=>x.id) (fun x:az=>cU x) 0 bN && decide ((bN.length:Int)<=max Me 0))=false):=iC HX.I HT.I.1 HT.I.2.1 j6.I fW;have Aw:bE (eS cI (fun x:az=>x.id) 93 78 w w3 Me l):=jA.I.below (hno fW);clear hno fm fW jA r0 r1 v0 v1 z0 z1 d0 d1 d2 HB;obtain ⟨r0,r1,v0,v1,z0,z1⟩:=Aw.I.cells;go_wp2;refine KT (v:=u_ #[a_ #[i_ j_ 0,.map n_],b_ false]) Zdr rfl ?_;exact Zaw
   | true=>
    have HY:bE (aw (fun x:az=>x.id) (fun x:az=>cU x) 0 (bN.take (k+1))=true/\((k+1:Nat):Int)<=max Me 0):=gM HX.I HT.I.1 HT.I.2.1 j6.I fW;obtain ⟨g,ph⟩:=jA.I.lay (x:=x) (e:=r_ (b_ true)) (w':=w3) ⟨rfl,(fun h=>by cases h),fun _=>fm fW⟩ (jB HT.I.1 HT.I.2.1 j6.I);have BD:bE (eS cI (fun x:az=>x.id) 93 78 w w3 Me (l ++ [(x,g)])):=ph;have oh:bE (w3.heap[wr.heap.size]? =o_ (c_ (cI x) 93)):=by
     exact ws
    clear hno fm fW jA r0 r1 v0 v1 z0 z1 d0 d1 d2 HB ph;obtain ⟨d0,d1,d2⟩:=kJ oh.I;go_wp2_with fail;refine (iq x _).mono ?_;rintro e w5 ⟨rfl,iJ⟩;have EY:bE (eS cI (fun x:az=>x.id) 93 78 w w5 Me (l ++ [(x,g)])):=BD.I.below iJ;have HE:bE (bW (fun x:az=>x.id) 0 (bN.take (k+1))=x.id):=eG HX.I 0;exact pl
  .have i1: ¬ (k:Int) < (bN.length:Int):=zo
   have HK:bE (bN.take k=bN/\((bN.length:Int)<=max Me 0)):=⟨KF zo,by have:=HT.I.2.2; omega⟩
   have HY:bE ((aw (fun x:az=>x.id) (fun x:az=>cU x) 0 bN && decide ((bN.length:Int)<=max Me 0))=true):=by
    exact J_
   obtain ⟨r0,r1,v0,v1,z0,z1⟩:=HI.I.cells;go_wp2;refine KT (v:=u_ #[a_ #[i_ j_ Me,.map (o_ (w.heap.size+1))],b_ true]) Zdr rfl ?_;exact AM
def EJ (w:w_) (Me:Int) (bN:List aB) (k:Nat) (wr:w_):Prop:=
 ∃ l:List (aB × Nat),l.map (·.1)=bN.take k/\eS cG (fun x:aB=>x.id) 91 75 w wr Me l/\aw (fun x:aB=>x.id) (fun x:aB=>ey x) 0 (bN.take k)=true/\(k:Int)<=max Me 0
def rZ (a:Option d_) (bN:List aB) (cap:Nat) (Me:Int) (w:w_) (hl:bN.length<=1048576) (h:bJ.bU w a bN) (hf: ∀ x∈bN,ix w x) (hw: ∀ x∈bN,(Lit.int j_ x.id).wf=true):
  k_ J3 52 #[s_ a bN.length cap,i_ j_ Me] w fun e w'=>jN cG (fun x:aB=>x.id) 91 w Me (aw (fun x:aB=>x.id) (fun x:aB=>ey x) 0 bN && decide ((bN.length:Int)<=max Me 0)) bN e w':=by
 have hmk:=P4 (P:=J3) 73;have hmn:=mT;have H0:bE (eS cG (fun x:aB=>x.id) 91 75 w (((w.alloc (c_ #[i_ j_ 0,.map n_] 75)).alloc (.map #[] 0)).alloc (c_ #[i_ j_ Me,.map (o_ (w.heap.size+1))] 75)) Me []):=eS.start 75 w Me;have HL:bE (bJ.bU w a bN/\(∀ x∈bN,ix w x)/\ ∀ x∈bN,(Lit.int j_ x.id).wf=true):=⟨h,hf,hw⟩
 clear h hf hw
 go_enter func52,ntmps52
 go_wp2_with fail
 go_loopw [7,15] (fun last i wr=> ∃ k:Nat,k<=bN.length/\i=i_ j_ k/\last=i_ j_ (bW (fun x:aB=>x.id) 0 (bN.take k))/\bE (EJ w Me bN k wr)) (fun _ i _=>bN.length - (intOf i).toNat)
 case atStart=>exact ⟨0,Ky _,rfl,rfl,⟨[],by simp,H0.I,rfl,by simp; omega⟩⟩
 case round=>
  clear H0 hmk;obtain ⟨k,hk,rfl,rfl,HA⟩:=hrel;obtain ⟨l,hlm,hin,oC,hkm⟩:=HA.I;have HT:bE (l.map (·.1)=bN.take k/\aw (fun x:aB=>x.id) (fun x:aB=>ey x) 0 (bN.take k)=true/\(k:Int)<=max Me 0):=⟨hlm,oC,hkm⟩
  have HI:bE (eS cG (fun x:aB=>x.id) 91 75 w wr Me l):=hin;clear HA hlm hin oC hkm;by_cases hlt:k < bN.length
  .have i0:(0:Int)<=(k:Int):=zo
   have i1:(k:Int) < (bN.length:Int):=zo
   obtain ⟨x,hx⟩: ∃ x,bN[k]? =o_ x:=⟨_,Kz hlt⟩
   have hmem:=KA hx;have HX:bE (bN[k]? =o_ x):=hx;have HF:bE (ix w x/\(Lit.int j_ x.id).wf=true):=⟨HL.I.2.1 x hmem,HL.I.2.2 x hmem⟩
   obtain ⟨gs,ha,hat⟩:=j4 (HL.I.1.below HI.I.cd) hx;obtain ⟨c0,c1⟩:=hat;subst ha;clear hx hmem;go_wp2_with fail;refine (iw x _).mono ?_;rintro e w2 ⟨rfl,hb2⟩;have jA:bE (eS cG (fun x:aB=>x.id) 91 75 w w2 Me l):=(HI.I.below ((Kp _ wr).alloc (Ki _) (c_ #[i_ j_ x.id,b_ x.up] 91))).below hb2;have HB:bE (w2.heap[wr.heap.size]? =o_ (c_ (cG x) 91)):=(hb2.block _ zw).trans (Kj _ _);have HZ:bE (w.heap.size+1 < wr.heap.size):=by show w.heap.size+1 < wr.heap.size; have:=(J2.1 HI.I.var).1; omega
   clear hb2 HI c0 c1;obtain ⟨d0,d1⟩:=kF HB.I;obtain ⟨r0,r1,v0,v1,z0,z1⟩:=jA.I.cells;by_cases hle:x.id<=bW (fun x:aB=>x.id) 0 (bN.take k)
   .have HN:bE ((aw (fun x:aB=>x.id) (fun x:aB=>ey x) 0 bN && decide ((bN.length:Int)<=max Me 0))=false):=by
     show _=false
     rw [bS HX.I (fun hh=>absurd hh.2.1 (by show ¬ bW (fun x:aB=>x.id) 0 (bN.take k) < x.id; omega))]; rfl
    go_wp2;refine KT (v:=u_ #[a_ #[i_ j_ 0,.map n_],b_ false]) Zds rfl ?_;exact Zav
   have j6:bE (bW (fun x:aB=>x.id) 0 (bN.take k) < x.id):=by show _ < _; omega
   have hkl:(RW (fun x:aB=>x.id) l).length<=1048576:=by
    exact Q_
   go_wp2_with fail;refine (rC Me (w.heap.size+1) (RW (fun x:aB=>x.id) l) x w2 jA.I.eh.map HF.I.2 hkl (HF.I.1.below jA.I.cd)).mono ?_;rintro e w3 ⟨rfl,hno,fm⟩;cases fW:iI Me (RW (fun x:aB=>x.id) l) x.id (ey x) with
   | false=>
    have HN:bE ((aw (fun x:aB=>x.id) (fun x:aB=>ey x) 0 bN && decide ((bN.length:Int)<=max Me 0))=false):=iC HX.I HT.I.1 HT.I.2.1 j6.I fW;have Aw:bE (eS cG (fun x:aB=>x.id) 91 75 w w3 Me l):=jA.I.below (hno fW);clear hno fm fW jA r0 r1 v0 v1 z0 z1 d0 d1 HB;obtain ⟨r0,r1,v0,v1,z0,z1⟩:=Aw.I.cells;go_wp2;refine KT (v:=u_ #[a_ #[i_ j_ 0,.map n_],b_ false]) Zds rfl ?_;exact Zaw
   | true=>
    have HY:bE (aw (fun x:aB=>x.id) (fun x:aB=>ey x) 0 (bN.take (k+1))=true/\((k+1:Nat):Int)<=max Me 0):=gM HX.I HT.I.1 HT.I.2.1 j6.I fW;obtain ⟨g,ph⟩:=jA.I.lay (x:=x) (e:=r_ (b_ true)) (w':=w3) ⟨rfl,(fun h=>by cases h),fun _=>fm fW⟩ (jB HT.I.1 HT.I.2.1 j6.I);have BD:bE (eS cG (fun x:aB=>x.id) 91 75 w w3 Me (l ++ [(x,g)])):=ph;have oh:bE (w3.heap[wr.heap.size]? =o_ (c_ (cG x) 91)):=by
     exact ws
    clear hno fm fW jA r0 r1 v0 v1 z0 z1 d0 d1 HB ph;obtain ⟨d0,d1⟩:=kF oh.I;go_wp2_with fail;refine (iw x _).mono ?_;rintro e w5 ⟨rfl,iJ⟩;have EY:bE (eS cG (fun x:aB=>x.id) 91 75 w w5 Me (l ++ [(x,g)])):=BD.I.below iJ;have HE:bE (bW (fun x:aB=>x.id) 0 (bN.take (k+1))=x.id):=eG HX.I 0;exact pl
  .have i1: ¬ (k:Int) < (bN.length:Int):=zo
   have HK:bE (bN.take k=bN/\((bN.length:Int)<=max Me 0)):=⟨KF zo,by have:=HT.I.2.2; omega⟩
   have HY:bE ((aw (fun x:aB=>x.id) (fun x:aB=>ey x) 0 bN && decide ((bN.length:Int)<=max Me 0))=true):=by
    exact J_
   obtain ⟨r0,r1,v0,v1,z0,z1⟩:=HI.I.cells;go_wp2;refine KT (v:=u_ #[a_ #[i_ j_ Me,.map (o_ (w.heap.size+1))],b_ true]) Zds rfl ?_;exact AM
end
end Go.Proofs.YtfncpmaefninjaaGreatDoor
