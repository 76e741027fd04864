/- What the proof leans on, part 7. -/
import Derived.Test.YtckenjkcmajicaaGreatOwnG4
import Derived.Test.YtckenjkcmajicaaGreatOwnG6
set_option linter.all false
set_option maxRecDepth 100000
set_option maxHeartbeats 8000000
open Go.Proofs.Tryz
open Go renaming World->w_,Value->v_,Calls->k_,Addr->d_
open Go.Ending renaming returned->r_
open Go.IntKind renaming i64->j_
open Go.Obj renaming cells->c_
open Go.RowKit renaming Below->B_,Hid->da
open Go.Value renaming int->i_,slice->s_,bool->b_,string->t_,agg->a_,pointer->p_,tuple->u_
open Option renaming some->o_,none->n_
open Function renaming comp_def->Ls
open Go renaming wp_at_succ->Kd,wp_at_zero->Kc
open Go.Proofs.Tryz renaming prog->J3
open Go.RowKit renaming run_makeMap->P4

open Go.RowKit
namespace Go.Proofs.YtckenjkcmajicaaGreat
section
open Go.Maps
attribute [local go_sem ↓] Kc Kd
def aR:gd ao:=⟨aX,λx=>x.id,125,217,4,λx=>x.aY,λx=>x.bH,λx=>x.prog.length,λx=>fk.flat x.prog,λx a c=>{x with aY:=a,bH:=c},λ_ _ _=>rfl,λ_ _ _=>rfl,λ_ _ _=>rfl,λ_ _ _=>rfl,λ_ _ _=>rfl,λ_ _ _ _ _=>rfl⟩
def aC:gd au:=⟨bQ,λx=>x.id,137,9,1,λx=>x.ak,λx=>x.aq,λx=>x.Ma.length,λx=>bT.flat x.Ma,λx a c=>{x with ak:=a,aq:=c},λ_ _ _=>rfl,λ_ _ _=>rfl,λ_ _ _=>rfl,λ_ _ _=>rfl,λ_ _ _=>rfl,λ_ _ _ _ _=>rfl⟩
def aU:gd aM:=⟨cW,λx=>x.id,51,9,1,λx=>x.ak,λx=>x.aq,λx=>x.Ma.length,λx=>bT.flat x.Ma,λx a c=>{x with ak:=a,aq:=c},λ_ _ _=>rfl,λ_ _ _=>rfl,λ_ _ _=>rfl,λ_ _ _=>rfl,λ_ _ _=>rfl,λ_ _ _ _ _=>rfl⟩
def fY {α:Type}(N:gd α)(w:w_)(bj:Nat)(l:List (α×Nat)):Prop:=∀p∈l,Row w (N.ad p.1) (N.flat p.1)/\N.len p.1<=1048576/\∀g,N.bt p.1=o_ g->g<bj
def fY.low {α:Type}{N:gd α}{w w':w_}{bj:Nat}{l:List (α×Nat)}(h:fY N w bj l)(hb:B_ bj w w'):fY N w' bj l:=λp hp=>
 ⟨(h p hp).1.low (λq e=>(h p hp).2.2 q.block (by simp[gd.bt,e])) hb,(h p hp).2⟩
def D5:(Tryz.prog.info? 217).map (λi=>(i.zero,i.size,i.bytes))=o_ (o_ (a_ #[i_ j_ 0,i_ j_ 0,i_ j_ 0,t_ ⟨#[]⟩]),4,40):=ZbG
def zD:(Tryz.prog.info? 9).map (λi=>(i.zero,i.size,i.bytes))=o_ (o_ (t_ ⟨#[]⟩),1,16):=ZbG
def FE {l:List dN}:∀u∈fk.flat l,u.oneCell'=true:=λu hu=>by
 obtain⟨x,_,hx⟩:=Rt.1 hu;simp only[fk,CC,Kt,Ku,or_false]at hx;rcases hx with rfl|rfl|rfl|rfl<;>rfl
def yK {l:List ByteArray}:∀u∈bT.flat l,u.oneCell'=true:=λu hu=>by
 obtain⟨x,_,hx⟩:=Rt.1 hu;simp only[bT,Kt,Ku,or_false]at hx;subst hx;rfl
def FR (w:w_)(a:Option d_)(l:List dN)(cap:Nat)(h:Row w a (fk.flat l))(hl:l.length<=1048576):
  ∃a' cap' w',(Builtin.append_ #[123,123] 123 #[s_ n_ 0 0,s_ a l.length cap]).run J3 w=.ok (s_ a' l.length cap') w'/\w'.ownsRow w.heap.size 217 4 (s_ a' l.length cap') l.length (fk.flat l)/\w.grownBy w' n_:=by
 obtain⟨i,hi,e⟩:=Kw.1 D5;simp only[Kx]at e;exact sZ w _ _ 217 i _ 4 40 underlying123 hi e.1 e.2.1 e.2.2 rfl (by decide) a l.length cap _ h (fk.dM l) FE hl (by decide)
def xF (w:w_)(a:Option d_)(l:List ByteArray)(cap:Nat)(h:Row w a (bT.flat l))(hl:l.length<=1048576):
  ∃a' cap' w',(Builtin.append_ #[49,49] 49 #[s_ n_ 0 0,s_ a l.length cap]).run J3 w=.ok (s_ a' l.length cap') w'/\w'.ownsRow w.heap.size 9 1 (s_ a' l.length cap') l.length (bT.flat l)/\w.grownBy w' n_:=by
 obtain⟨i,hi,e⟩:=Kw.1 zD;simp only[Kx]at e;exact sZ w _ _ 9 i _ 1 16 underlying49 hi e.1 e.2.1 e.2.2 rfl (by decide) a l.length cap _ h (bT.dM l) yK hl (by decide)
structure kG {α:Type}(N:gd α)(w0 wr:w_)(bj b:Nat)(l l':List (α×Nat)):Prop where
 eh:Shelf N.vs N.num N.T wr bj b l'
 alike:l'.map (λp=>(N.set p.1 n_ 0,p.2))=l.map (λp=>(N.set p.1 n_ 0,p.2))
 mine:∀p∈l',N.cO wr w0.heap.size p.1
 nodup:(kids N l').Nodup
 os:wr.os=w0.os
 tape:wr.tape=w0.tape
 output:wr.output=w0.output
 size:w0.heap.size<=wr.heap.size
 same:∀g,g<w0.heap.size->g∉l.map (·.2)->wr.heap[g]? =w0.heap[g]?
def fS.owned {α:Type}{N:gd α}{w0 wr:w_}{bj b:Nat}{l l':List (α×Nat)}{left:Lit->Bool}(h:fS N w0 wr bj b l l' left)(hd:∀kl,left kl=false):kG N w0 wr bj b l l':=
 ⟨h.eh,h.alike,λp hp=>h.own p hp (hd _),h.nodup hd,h.os,h.tape,h.output,h.size,h.same⟩
def kG.below {α:Type}{N:gd α}{w0 wr:w_}{bj b:Nat}{l l':List (α×Nat)}(h:kG N w0 wr bj b l l')(hb:bj<=w0.heap.size)(hl:∀g∈l.map (·.2),bj<=g):B_ bj w0 wr:=
 ⟨h.os,h.tape,h.output,h.size,λg hg=>h.same g zw (λhm=>by have:=hl g hm;omega)⟩
structure mv (w:w_)(bj o:Nat)(q:ol)(lp:List (ao×Nat))(lf:List (au×Nat))(lq:List (aM×Nat)):Prop where
 opn:fa w o q
 L8:Shelf aX (λx:ao=>x.id) 125 w bj q.bp lp
 ae:Shelf bQ (λx:au=>x.id) 137 w bj q.bf lf
 ai:Shelf cW (λx:aM=>x.id) 51 w bj q.bq lq
 nodup:(o::((q.bp::lp.map (·.2))++((q.bf::lf.map (·.2))++(q.bq::lq.map (·.2))))).Nodup
def mv.EK {w w':w_}{bj o:Nat}{q:ol}{lp l':List (ao×Nat)}{lf:List (au×Nat)}{lq:List (aM×Nat)}(h:mv w bj o q lp lf lq)(ho:kG aR w w' bj q.bp lp l'):mv w' bj o q l' lf lq:=by
 have hbl:l'.map (·.2)=lp.map (·.2):=by
  have:=congrArg (List.map (·.2)) ho.alike
  exact Y_
 have hn:=h.nodup;rw[Lp,Kf]at hn;obtain⟨h1,h2,h3,h4⟩:=hn;have hlp:∀g,g∈(q.bf::lf.map (·.2))++(q.bq::lq.map (·.2))->g∉lp.map (·.2):=λg hg hm=>h4 g (LB _ hm) g hg rfl
 refine⟨(ho.same o (J2.1 h.opn).1 (λhm=>h1 (by simp[Lr.1 hm]))).trans h.opn,ho.eh,h.ae.same λg hg=>ho.same g (h.ae.lt g hg) (hlp g (Lz _ hg)),h.ai.same λg hg=>ho.same g (h.ai.lt g hg) (hlp g (Ly _ hg)),?_⟩;rw[hbl];exact h.nodup
def mv.Af {w w':w_}{bj o:Nat}{q:ol}{lp:List (ao×Nat)}{lf l':List (au×Nat)}{lq:List (aM×Nat)}(h:mv w bj o q lp lf lq)(ho:kG aC w w' bj q.bf lf l'):mv w' bj o q lp l' lq:=by
 have hbl:l'.map (·.2)=lf.map (·.2):=by
  have:=congrArg (List.map (·.2)) ho.alike
  exact Y_
 have hn:=h.nodup;rw[Lp,Kf,Kf]at hn;obtain⟨h1,h2,⟨h3,h5,h6⟩,h4⟩:=hn;refine⟨(ho.same o (J2.1 h.opn).1 (λhm=>h1 (by simp[Lr.1 hm]))).trans h.opn,h.L8.same λg hg=>ho.same g (h.L8.lt g hg) (λhm=>h4 g hg g (Lz _ (LB _ hm)) rfl),ho.eh,h.ai.same λg hg=>ho.same g (h.ai.lt g hg) (λhm=>h6 g (LB _ hm) g hg rfl),?_⟩;rw[hbl];exact h.nodup
def wO (o bj:Nat)(q:ol)(lp:List (ao×Nat))(lf:List (au×Nat))(lq:List (aM×Nat))(w:w_)(h:mv w bj o q lp lf lq)(hb:bj<=w.heap.size)(h1:fY aR w bj lp)(h2:fY aC w bj lf)(h3:fY aU w bj lq):
  k_ J3 106 #[p_ (o_ ⟨o,0,n_⟩)] w λe w'=>e=r_ (u_ #[])/\∃w1 w2 l0 l1 l2,kG aR w w1 bj q.bp lp l0/\kG aC w1 w2 bj q.bf lf l1/\kG aU w2 w' bj q.bq lq l2:=by
 have HT:da (mv w bj o q lp lf lq):=h;have Fy:da (bj<=w.heap.size):=hb;have Ia:da (∀g∈lp.map (·.2),bj<=g):=λg hg=>h.L8.low g (LB _ hg)
 have HLP:da (fY aR w bj lp):=h1;have I8:da (fY aC w bj lf):=h2;have ID:da (fY aU w bj lq):=h3;clear h hb h1 h2 h3
 go_enter func106,ntmps106
 have c0:w.cell? ⟨o,3,n_⟩=o_ (.map (o_ q.bp)):=HT.I.opn.cell 3;have hown:=HT.I.L8.map.1;go_wp2_with(at_range;refine wpList_range_own _ rfl _ 102 rfl 2 161 jb underlying102 od q.bp _ _ rfl hown ?_;intro w1 BW CT hs1);have HS:da (fS aR w w1 bj q.bp lp lp (Maps.has (gA (RW aR.num lp)))):=fS.start HT.I.L8 CT;have En:da (∀g∈q.bp::lp.map (·.2),g<w.heap.size):=HT.I.L8.lt;clear hown c0 CT
 go_frame
 go_loopw[3] (λ_ tD=>∃(left:Lit->Bool)(cnt:Nat)(l':List (ao×Nat)),tD.ranges J3 2 od q.bp w.heap.size (RW (λx:ao=>x.id) lp).length (gA (RW (λx:ao=>x.id) lp)) left cnt/\da (fS aR w tD bj q.bp lp l' left)) (λ_ tD=>tD.rangeLeft q.bp w.heap.size)
 case atStart=>exact⟨_,_,lp,BW,HS.I⟩
 case round=>
  rename w_=>tD
  clear HS BW hs1 w1;obtain⟨left,cnt,l0,hrg,HO⟩:=hrel;go_wp2_with(at_next;refine wpList_next_ranges _ rfl _ rfl 2 jb od (Value.int j_) dt (λkey kl hk=>Zda) (λv y hv=>Zdz) q.bp w.heap.size _ _ _ _ rfl hrg ?_ ?_)
  .intro hc0 hl0
   have VH:da (kG aR w tD bj q.bp lp l0):=HO.I.owned hl0;clear hrg HO hc0 hl0 En left cnt;have HTN:da (mv tD bj o q l0 lf lq):=HT.I.EK VH.I;clear HT;have HT:da (mv tD bj o q l0 lf lq):=HTN.I;have HLI:da (fY aC tD bj lf/\fY aU tD bj lq):=⟨I8.I.low (VH.I.below Fy.I Ia.I),ID.I.low (VH.I.below Fy.I Ia.I)⟩
   have HBN:da (bj<=tD.heap.size):=LG Fy.I VH.I.size;clear HTN Fy Ia HLP;have Fy:da (bj<=tD.heap.size):=HBN.I;have Ia:da (∀g∈lf.map (·.2),bj<=g):=λg hg=>HT.I.ae.low g (LB _ hg)
   clear I8 ID;have I8:da (fY aC tD bj lf):=HLI.I.1;have ID:da (fY aU tD bj lq):=HLI.I.2;clear HLI HBN;have c1:tD.cell? ⟨o,11,n_⟩=o_ (.map (o_ q.bf)):=HT.I.opn.cell 11;have hown:=HT.I.ae.map.1;go_wp2_with(at_range;refine wpList_range_own _ rfl _ 114 rfl 2 173 jb underlying114 od q.bf _ _ rfl hown ?_;intro w1 BW CT hs1);have HS:da (fS aC tD w1 bj q.bf lf lf (Maps.has (gA (RW aC.num lf)))):=fS.start HT.I.ae CT;have Jt:da (∀g∈q.bf::lf.map (·.2),g<tD.heap.size):=HT.I.ae.lt;clear hown c1 CT
   go_frame
   go_loopw[5] (λ_ wr2=>∃(left:Lit->Bool)(cnt:Nat)(l':List (au×Nat)),wr2.ranges J3 2 od q.bf tD.heap.size (RW (λx:au=>x.id) lf).length (gA (RW (λx:au=>x.id) lf)) left cnt/\da (fS aC tD wr2 bj q.bf lf l' left)) (λ_ wr2=>wr2.rangeLeft q.bf tD.heap.size)
   case atStart=>exact⟨_,_,lf,BW,HS.I⟩
   case round=>
    rename w_=>wr2
    clear HS BW hs1 w1;obtain⟨left,cnt,l1,hrg,HO⟩:=hrel;go_wp2_with(at_next;refine wpList_next_ranges _ rfl _ rfl 2 jb od (Value.int j_) dt (λkey kl hk=>Zda) (λv y hv=>Zdz) q.bf tD.heap.size _ _ _ _ rfl hrg ?_ ?_)
    .intro hc0 hl0
     have HD1:da (kG aC tD wr2 bj q.bf lf l1):=HO.I.owned hl0;clear hrg HO hc0 hl0 Jt left cnt;have HTN:da (mv wr2 bj o q l0 l1 lq):=HT.I.Af HD1.I;clear HT;have HT:da (mv wr2 bj o q l0 l1 lq):=HTN.I;have HLI:da (fY aU wr2 bj lq):=ID.I.low (HD1.I.below Fy.I Ia.I);have HBN:da (bj<=wr2.heap.size):=LG Fy.I HD1.I.size;clear HTN Fy Ia I8;have Fy:da (bj<=wr2.heap.size):=HBN.I;have Ia:da (∀g∈lq.map (·.2),bj<=g):=λg hg=>HT.I.ai.low g (LB _ hg)
     clear ID;have ID:da (fY aU wr2 bj lq):=HLI.I;clear HLI HBN;have c2:wr2.cell? ⟨o,13,n_⟩=o_ (.map (o_ q.bq)):=HT.I.opn.cell 13;have hown:=HT.I.ai.map.1;go_wp2_with(at_range;refine wpList_range_own _ rfl _ 117 rfl 2 89 jb underlying117 od q.bq _ _ rfl hown ?_;intro w1 BW CT hs1);have HS:da (fS aU wr2 w1 bj q.bq lq lq (Maps.has (gA (RW aU.num lq)))):=fS.start HT.I.ai CT;have HL2:da (∀g∈q.bq::lq.map (·.2),g<wr2.heap.size):=HT.I.ai.lt;clear hown c2 CT
     go_frame
     go_loopw[7] (λ_ wr3=>∃(left:Lit->Bool)(cnt:Nat)(l':List (aM×Nat)),wr3.ranges J3 2 od q.bq wr2.heap.size (RW (λx:aM=>x.id) lq).length (gA (RW (λx:aM=>x.id) lq)) left cnt/\da (fS aU wr2 wr3 bj q.bq lq l' left)) (λ_ wr3=>wr3.rangeLeft q.bq wr2.heap.size)
     case atStart=>exact⟨_,_,lq,BW,HS.I⟩
     case round=>
      rename w_=>wr3
      clear HS BW hs1 w1;obtain⟨left,cnt,l2,hrg,HO⟩:=hrel;go_wp2_with(at_next;refine wpList_next_ranges _ rfl _ rfl 2 jb od (Value.int j_) dt (λkey kl hk=>Zda) (λv y hv=>Zdz) q.bq wr2.heap.size _ _ _ _ rfl hrg ?_ ?_)
      .intro hc0 hl0
       have HD2:da (kG aU wr2 wr3 bj q.bq lq l2):=HO.I.owned hl0;clear hrg HO hc0 hl0 HL2 left cnt;go_wp2
       go_end0
       exact⟨rfl,tD,wr2,l0,l1,l2,VH.I,HD1.I,HD2.I⟩
      .intro x c kl y1 y2 w2 cnt2 hkey hlk hv hat hrg2 oX rx oE hen
       obtain⟨p,hp,rfl,rfl,rfl⟩:=HO.I.pick hkey hv hat;have hpl:p.2∈lq.map (·.2):=ZdJ
       have td:=HO.I.old p hp hlk;have hpw:=HL2.I p.2 (LB _ hpl);have lD:w2.heap[p.2]? =o_ (c_ (cW p.1) 51):=(rx.block p.2 (Kn hpw HO.I.size) (λe=>Zcb)).trans (HO.I.eh.box p hp);have hrow:Row w2 p.1.ak (bT.flat p.1.Ma):=(ID.I p td).1.same λg e=>by
        have hgb:g<bj:=(ID.I p td).2.2 g ZdO;exact K_
       obtain⟨a3,UY,w3,hap,sY,hg3⟩:=xF w2 p.1.ak p.1.Ma p.1.aq hrow (ID.I p td).2.1;have cc:w2.cell? ⟨p.2,4,n_⟩=o_ (s_ p.1.ak p.1.Ma.length p.1.aq):=by simp[World.cell?,lD,cW]
       have oG:=(hg3.block p.2 (J2.1 lD).1 zy).trans lD;have cc3:w3.cell? ⟨p.2,4,n_⟩=o_ (s_ p.1.ak p.1.Ma.length p.1.aq):=by simp[World.cell?,oG,cW]
       have cf3:w3.frozen? ⟨p.2,4,n_⟩=false:=Ze9
       have HN:=HO.I.ju (i:=4) hrg rx hrg2 HL2.I (Ki _) hp sY hg3 rfl;have Hb:da (_/\_):=HN;have j6:da (cnt2<cnt/\wr3.rangeLeft q.bq wr2.heap.size=cnt):=⟨oX,hrg.left_eq⟩
       exact F_
    .intro x c kl y1 y2 w2 cnt2 hkey hlk hv hat hrg2 oX rx oE hen
     obtain⟨p,hp,rfl,rfl,rfl⟩:=HO.I.pick hkey hv hat;have hpl:p.2∈lf.map (·.2):=ZdJ
     have td:=HO.I.old p hp hlk;have hpw:=Jt.I p.2 (LB _ hpl);have lD:w2.heap[p.2]? =o_ (c_ (bQ p.1) 137):=(rx.block p.2 (Kn hpw HO.I.size) (λe=>Zcb)).trans (HO.I.eh.box p hp);have hrow:Row w2 p.1.ak (bT.flat p.1.Ma):=(I8.I p td).1.same λg e=>by
      have hgb:g<bj:=(I8.I p td).2.2 g ZdO;exact K_
     obtain⟨a3,UY,w3,hap,sY,hg3⟩:=xF w2 p.1.ak p.1.Ma p.1.aq hrow (I8.I p td).2.1;have cc:w2.cell? ⟨p.2,2,n_⟩=o_ (s_ p.1.ak p.1.Ma.length p.1.aq):=by simp[World.cell?,lD,bQ]
     have oG:=(hg3.block p.2 (J2.1 lD).1 zy).trans lD;have cc3:w3.cell? ⟨p.2,2,n_⟩=o_ (s_ p.1.ak p.1.Ma.length p.1.aq):=by simp[World.cell?,oG,bQ]
     have cf3:w3.frozen? ⟨p.2,2,n_⟩=false:=Ze9
     have HN:=HO.I.ju (i:=2) hrg rx hrg2 Jt.I (Ki _) hp sY hg3 rfl;have Hb:da (_/\_):=HN;have j6:da (cnt2<cnt/\wr2.rangeLeft q.bf tD.heap.size=cnt):=⟨oX,hrg.left_eq⟩
     exact F_
  .intro x c kl y1 y2 w2 cnt2 hkey hlk hv hat hrg2 oX rx oE hen
   obtain⟨p,hp,rfl,rfl,rfl⟩:=HO.I.pick hkey hv hat;have hpl:p.2∈lp.map (·.2):=ZdJ
   have td:=HO.I.old p hp hlk;have hpw:=En.I p.2 (LB _ hpl);have lD:w2.heap[p.2]? =o_ (c_ (aX p.1) 125):=(rx.block p.2 (Kn hpw HO.I.size) (λe=>Zcb)).trans (HO.I.eh.box p hp);have hrow:Row w2 p.1.aY (fk.flat p.1.prog):=(HLP.I p td).1.same λg e=>by
    have hgb:g<bj:=(HLP.I p td).2.2 g (by show(p.1.aY).map (·.block)=o_ g;rw[show p.1.aY=o_ ⟨g,0,n_⟩from e];rfl);exact K_
   obtain⟨a3,UY,w3,hap,sY,hg3⟩:=FR w2 p.1.aY p.1.prog p.1.bH hrow (HLP.I p td).2.1;have cc:w2.cell? ⟨p.2,2,n_⟩=o_ (s_ p.1.aY p.1.prog.length p.1.bH):=by simp[World.cell?,lD,aX]
   have oG:=(hg3.block p.2 (J2.1 lD).1 zy).trans lD;have cc3:w3.cell? ⟨p.2,2,n_⟩=o_ (s_ p.1.aY p.1.prog.length p.1.bH):=by simp[World.cell?,oG,aX]
   have cf3:w3.frozen? ⟨p.2,2,n_⟩=false:=Ze9
   have HN:=HO.I.ju (i:=2) hrg rx hrg2 En.I (Ki _) hp sY hg3 rfl;have Hb:da (_/\_):=HN;have j6:da (cnt2<cnt/\tD.rangeLeft q.bp w.heap.size=cnt):=⟨oX,hrg.left_eq⟩
   simp only[dt]at hen;clear HN hrg hrg2 rx oE hkey hlk hv hat oX hpl td hpw lD oG hrow sY hg3;unfold dt;go_wp2_with(at_builtin;refine br _ rfl _ _ 123 rfl _ _ _ _ rfl rfl hap ?_;clear hap);go_roundw
   case rel=>exact⟨_,_,_,Hb.I.2,Hb.I.1⟩
   case measure=>exact Zel
end
section
attribute [local go_sem ↓] Kc Kd
def vk (w:w_)(b:Nat)(m:df)(Me:Int)(x:aM)(w':w_):Prop:=(w'.cell? ⟨w.heap.size,0,n_⟩=o_ (i_ j_ Me)/\w'.cell? ⟨w.heap.size,1,n_⟩=o_ (.map (o_ b))/\(∀ty,(Builtin.len_ #[117] ty #[.map (o_ b)]).run J3 w'=.ok (i_ j_ (m.length:Int)) w')/\w'.cell? ⟨w.heap.size+1,0,n_⟩=o_ (i_ j_ x.id)/\w'.cell? ⟨w.heap.size+1,1,n_⟩=o_ (b_ x.I)/\w'.cell? ⟨w.heap.size+1,2,n_⟩=o_ (b_ x.Mf)/\w'.cell? ⟨w.heap.size+1,3,n_⟩=o_ (i_ j_ x.max)/\w'.cell? ⟨w.heap.size+1,4,n_⟩=o_ (s_ x.ak x.Ma.length x.aq))/\da (fe w w' w.heap.size (w.heap.size+1) b m Me (cW x) 51 119)/\da (jf w' x)
def iW {w w':w_}{b:Nat}{m:df}{Me:Int}{x:aM}(h:fe w w' w.heap.size (w.heap.size+1) b m Me (cW x) 51 119)(hf:jf w' x):vk w b m Me x w':=
 ⟨⟨h.cells.1,h.cells.2,λty=>h.mp.len underlying117 ty,gE h.bx⟩,h,hf⟩
def tb (Me:Int)(b:Nat)(m:df)(x:aM)(w:w_)(h:cF w b m)(hw:(Lit.int j_ x.id).wf=true)(hm:m.length<=1048576)(hf:jf w x):
  k_ J3 147 #[a_ #[i_ j_ Me,.map (o_ b)],a_ (cW x)] w λe w'=>dD w b m (iI Me m x.id (dj x.todS)) x.id (cW x) 51 e w':=by
 have HF:da (fe w ((w.alloc (c_ #[i_ j_ Me,.map (o_ b)] 119)).alloc (c_ (cW x) 51)) w.heap.size (w.heap.size+1) b m Me (cW x) 51 119):=fe.start w h Me _ _ _;have HW:da ((Lit.int j_ x.id).wf=true/\¬w.heap.size+1=b/\m.length<=1048576):=⟨hw,ZdL,hm⟩
 have HI:da (jf ((w.alloc (c_ #[i_ j_ Me,.map (o_ b)] 119)).alloc (c_ (cW x) 51)) x):=hf.below ((((Kp _ w).alloc (Ki _) _)).alloc zy _);have hmn:=nY;have hmr:=vZ;obtain⟨s0,s1⟩:=HF.I.cells;obtain⟨c0,c1,c2,c3,c4⟩:=gE HF.I.bx;clear h hw hf hm;unfold cW at*
 go_enter func147,ntmps147
 go_wp2_with fail;clear s0 s1 c0 c1 c2 c3 c4;obtain⟨vA,hA⟩:∃v,(cz m x.id).isSome=v:=⟨_,rfl⟩
 obtain⟨vB,F6⟩:∃v,decide (Me<=(m.length:Int))=v:=⟨_,rfl⟩
 obtain⟨vC,hC⟩:∃v,cv x.id 1 1000=v:=⟨_,rfl⟩
 obtain⟨vD,hD⟩:∃v,dj x.todS=v:=⟨_,rfl⟩
 have HL:da (iI Me m x.id (dj x.todS)=(!vA&& !vB&&vC&&vD)/\(vA=false->cz m x.id=n_)):=⟨pi hA F6 hC hD,λe=>PX.1 (PY.1 (hA.trans e))⟩
 have HA:da (Ending.returned (b_ (cz m x.id).isSome)=r_ (b_ vA)):=al hA;have HC:da (Ending.returned (b_ (cv x.id 1 1000))=r_ (b_ vC)):=al hC;have HD:da (Ending.returned (b_ (dj x.todS))=r_ (b_ vD)):=al hD;clear hA hC hD;have u9:∀w0,vk w b m Me x w0->k_ J3 207 #[a_ (cW x)] w0 λe w'=>e=r_ (i_ j_ x.id)/\vk w b m Me x w':=λw0 h0=>(iN x w0).mono λe w2 h=>⟨h.1,iW (h0.2.1.I.below h.2) (h0.2.2.I.below h.2)⟩
 have f9:∀w0,vk w b m Me x w0->k_ J3 179 #[a_ #[i_ j_ Me,.map (o_ b)],i_ j_ x.id] w0 λe w'=>e=r_ (b_ vA)/\vk w b m Me x w':=λw0 h0=>(Bb Me b m x.id w0 h0.2.1.I.mp HW.I.1).mono λe w2 h=>⟨h.1.trans HA.I,iW (h0.2.1.I.below h.2) (h0.2.2.I.below h.2)⟩
 have p5:∀w0,vk w b m Me x w0->k_ J3 174 #[i_ j_ x.id] w0 λe w'=>e=r_ (b_ vC)/\vk w b m Me x w':=λw0 h0=>(eW x.id w0).mono λe w2 h=>⟨h.1.trans HC.I,h.2▸h0⟩
 have abz:∀w0,vk w b m Me x w0->k_ J3 208 #[a_ (cW x)] w0 λe w'=>e=r_ (b_ vD)/\vk w b m Me x w':=λw0 h0=>(wG x w0 h0.2.2.I).mono λe w2 h=>⟨h.1.trans HD.I,iW (h0.2.1.I.below h.2) (h0.2.2.I.below h.2)⟩
 unfold cW at u9 abz;have anY:∀w0,fe w w0 w.heap.size (w.heap.size+1) b m Me (cW x) 51 119->jf w0 x->vk w b m Me x w0:=λ_ h1 h2=>iW h1 h2
 have an0:=underlying117;refine aT (vk w b m Me x) ZbG (anY _ HF.I.drew (HI.I.below (Kp _ _).drew)) ?_
 exact ab
def F3 (w:w_)(Me:Int)(dg:List aM)(k:Nat)(wr:w_):Prop:=
 ∃l:List (aM×Nat),l.map (·.1)=dg.take k/\eS cW (λx:aM=>x.id) 51 119 w wr Me l/\aw (λx:aM=>x.id) (λx:aM=>dj x.todS) 0 (dg.take k)=true/\(k:Int)<=max Me 0
def tB (a:Option d_)(dg:List aM)(cap:Nat)(Me:Int)(w:w_)(hl:dg.length<=1048576)(h:bX.bU w a dg)(hf:∀x∈dg,jf w x)(hw:∀x∈dg,(Lit.int j_ x.id).wf=true):
  k_ J3 103 #[s_ a dg.length cap,i_ j_ Me] w λe w'=>jN cW (λx:aM=>x.id) 51 w Me (aw (λx:aM=>x.id) (λx:aM=>dj x.todS) 0 dg&&decide ((dg.length:Int)<=max Me 0)) dg e w':=by
 have hmk:=P4 (P:=J3) 117;have hmn:=nY;have H0:da (eS cW (λx:aM=>x.id) 51 119 w (((w.alloc (c_ #[i_ j_ 0,.map n_] 119)).alloc (.map #[] 0)).alloc (c_ #[i_ j_ Me,.map (o_ (w.heap.size+1))] 119)) Me []):=eS.start 119 w Me;have HL:da (bX.bU w a dg/\(∀x∈dg,jf w x)/\∀x∈dg,(Lit.int j_ x.id).wf=true):=⟨h,hf,hw⟩
 clear h hf hw;generalize hTB:(aw (λx:aM=>x.id) (λx:aM=>dj x.todS) 0 dg&&decide ((dg.length:Int)<=max Me 0))=anL;have HTB:da (_=anL):=hTB;clear hTB
 go_enter func103,ntmps103
 go_wp2_with fail;have alN:=@lm;have anw:=@iN;have anz:=@tb;have bA:=@gE;have anG:∀(x:aM)(W:w_)(g:Nat),W.heap[g]? =o_ (c_ (cW x) 51)->da (W.heap[g]? =o_ (c_ (cW x) 51)):=λ_ _ _ h=>h
 have anQ:=results103
 go_loopw[7,15] (λlast i wr=>∃k:Nat,k<=dg.length/\i=i_ j_ k/\last=i_ j_ (bW (·.id) 0 (dg.take k))/\da (F3 w Me dg k wr)) (λ_ i _=>dg.length-(intOf i).toNat)
 case atStart=>exact⟨0,Ky _,rfl,rfl,⟨[],zy,H0.I,rfl,ZbI⟩⟩
 case round=>
  exact aa
def rP (w:w_)(b:Nat)(m:df)(Me:Int)(x:az)(w':w_):Prop:=(w'.cell? ⟨w.heap.size,0,n_⟩=o_ (i_ j_ Me)/\w'.cell? ⟨w.heap.size,1,n_⟩=o_ (.map (o_ b))/\(∀ty,(Builtin.len_ #[111] ty #[.map (o_ b)]).run J3 w'=.ok (i_ j_ (m.length:Int)) w')/\w'.cell? ⟨w.heap.size+1,0,n_⟩=o_ (i_ j_ x.id)/\w'.cell? ⟨w.heap.size+1,1,n_⟩=o_ (b_ x.shown)/\w'.cell? ⟨w.heap.size+1,2,n_⟩=o_ (t_ x.text))/\da (fe w w' w.heap.size (w.heap.size+1) b m Me (cI x) 134 113)/\da (gX w' x)
def ii {w w':w_}{b:Nat}{m:df}{Me:Int}{x:az}(h:fe w w' w.heap.size (w.heap.size+1) b m Me (cI x) 134 113)(hf:gX w' x):rP w b m Me x w':=
 ⟨⟨h.cells.1,h.cells.2,λty=>h.mp.len underlying111 ty,kJ h.bx⟩,h,hf⟩
def rr (Me:Int)(b:Nat)(m:df)(x:az)(w:w_)(h:cF w b m)(hw:(Lit.int j_ x.id).wf=true)(hm:m.length<=1048576)(hf:gX w x):
  k_ J3 145 #[a_ #[i_ j_ Me,.map (o_ b)],a_ (cI x)] w λe w'=>dD w b m (iI Me m x.id (cU x)) x.id (cI x) 134 e w':=by
 have HF:da (fe w ((w.alloc (c_ #[i_ j_ Me,.map (o_ b)] 113)).alloc (c_ (cI x) 134)) w.heap.size (w.heap.size+1) b m Me (cI x) 134 113):=fe.start w h Me _ _ _;have HW:da ((Lit.int j_ x.id).wf=true/\¬w.heap.size+1=b/\m.length<=1048576):=⟨hw,ZdL,hm⟩
 have HI:da (gX ((w.alloc (c_ #[i_ j_ Me,.map (o_ b)] 113)).alloc (c_ (cI x) 134)) x):=hf.below ((((Kp _ w).alloc (Ki _) _)).alloc zy _);have hmn:=nr;have hmr:=tq;obtain⟨s0,s1⟩:=HF.I.cells;obtain⟨c0,c1,c2⟩:=kJ HF.I.bx;clear h hw hf hm;unfold cI at*
 go_enter func145,ntmps145
 go_wp2_with fail;clear s0 s1 c0 c1 c2;obtain⟨vA,hA⟩:∃v,(cz m x.id).isSome=v:=⟨_,rfl⟩
 obtain⟨vB,F6⟩:∃v,decide (Me<=(m.length:Int))=v:=⟨_,rfl⟩
 obtain⟨vC,hC⟩:∃v,cv x.id 1 1000=v:=⟨_,rfl⟩
 obtain⟨vD,hD⟩:∃v,cU x=v:=⟨_,rfl⟩
 have HL:da (iI Me m x.id (cU x)=(!vA&& !vB&&vC&&vD)/\(vA=false->cz m x.id=n_)):=⟨pi hA F6 hC hD,λe=>PX.1 (PY.1 (hA.trans e))⟩
 have HA:da (Ending.returned (b_ (cz m x.id).isSome)=r_ (b_ vA)):=al hA;have HC:da (Ending.returned (b_ (cv x.id 1 1000))=r_ (b_ vC)):=al hC;have HD:da (Ending.returned (b_ (cU x))=r_ (b_ vD)):=al hD;clear hA hC hD;have u9:∀w0,rP w b m Me x w0->k_ J3 236 #[a_ (cI x)] w0 λe w'=>e=r_ (i_ j_ x.id)/\rP w b m Me x w':=λw0 h0=>(iq x w0).mono λe w2 h=>⟨h.1,ii (h0.2.1.I.below h.2) (h0.2.2.I.below h.2)⟩
 have f9:∀w0,rP w b m Me x w0->k_ J3 177 #[a_ #[i_ j_ Me,.map (o_ b)],i_ j_ x.id] w0 λe w'=>e=r_ (b_ vA)/\rP w b m Me x w':=λw0 h0=>(qM Me b m x.id w0 h0.2.1.I.mp HW.I.1).mono λe w2 h=>⟨h.1.trans HA.I,ii (h0.2.1.I.below h.2) (h0.2.2.I.below h.2)⟩
 have p5:∀w0,rP w b m Me x w0->k_ J3 174 #[i_ j_ x.id] w0 λe w'=>e=r_ (b_ vC)/\rP w b m Me x w':=λw0 h0=>(eW x.id w0).mono λe w2 h=>⟨h.1.trans HC.I,h.2▸h0⟩
 have abz:∀w0,rP w b m Me x w0->k_ J3 237 #[a_ (cI x)] w0 λe w'=>e=r_ (b_ vD)/\rP w b m Me x w':=λw0 h0=>(wd x w0 h0.2.2.I).mono λe w2 h=>⟨h.1.trans HD.I,ii (h0.2.1.I.below h.2) (h0.2.2.I.below h.2)⟩
 unfold cI at u9 abz;have anY:∀w0,fe w w0 w.heap.size (w.heap.size+1) b m Me (cI x) 134 113->gX w0 x->rP w b m Me x w0:=λ_ h1 h2=>ii h1 h2
 have an0:=underlying111;refine aT (rP w b m Me x) ZbG (anY _ HF.I.drew (HI.I.below (Kp _ _).drew)) ?_
 exact ab
def EX (w:w_)(Me:Int)(dg:List az)(k:Nat)(wr:w_):Prop:=
 ∃l:List (az×Nat),l.map (·.1)=dg.take k/\eS cI (λx:az=>x.id) 134 113 w wr Me l/\aw (λx:az=>x.id) (λx:az=>cU x) 0 (dg.take k)=true/\(k:Int)<=max Me 0
def si (a:Option d_)(dg:List az)(cap:Nat)(Me:Int)(w:w_)(hl:dg.length<=1048576)(h:bG.bU w a dg)(hf:∀x∈dg,gX w x)(hw:∀x∈dg,(Lit.int j_ x.id).wf=true):
  k_ J3 101 #[s_ a dg.length cap,i_ j_ Me] w λe w'=>jN cI (λx:az=>x.id) 134 w Me (aw (λx:az=>x.id) (λx:az=>cU x) 0 dg&&decide ((dg.length:Int)<=max Me 0)) dg e w':=by
 have hmk:=P4 (P:=J3) 111;have hmn:=nr;have H0:da (eS cI (λx:az=>x.id) 134 113 w (((w.alloc (c_ #[i_ j_ 0,.map n_] 113)).alloc (.map #[] 0)).alloc (c_ #[i_ j_ Me,.map (o_ (w.heap.size+1))] 113)) Me []):=eS.start 113 w Me;have HL:da (bG.bU w a dg/\(∀x∈dg,gX w x)/\∀x∈dg,(Lit.int j_ x.id).wf=true):=⟨h,hf,hw⟩
 clear h hf hw;generalize hTB:(aw (λx:az=>x.id) (λx:az=>cU x) 0 dg&&decide ((dg.length:Int)<=max Me 0))=anL;have HTB:da (_=anL):=hTB;clear hTB
 go_enter func101,ntmps101
 go_wp2_with fail;have alN:=@jr;have anw:=@iq;have anz:=@rr;have bA:=@kJ;have anG:∀(x:az)(W:w_)(g:Nat),W.heap[g]? =o_ (c_ (cI x) 134)->da (W.heap[g]? =o_ (c_ (cI x) 134)):=λ_ _ _ h=>h
 have anQ:=results101
 go_loopw[7,15] (λlast i wr=>∃k:Nat,k<=dg.length/\i=i_ j_ k/\last=i_ j_ (bW (·.id) 0 (dg.take k))/\da (EX w Me dg k wr)) (λ_ i _=>dg.length-(intOf i).toNat)
 case atStart=>exact⟨0,Ky _,rfl,rfl,⟨[],zy,H0.I,rfl,ZbI⟩⟩
 case round=>
  exact aa
def sk (w:w_)(b:Nat)(m:df)(Me:Int)(x:aB)(w':w_):Prop:=(w'.cell? ⟨w.heap.size,0,n_⟩=o_ (i_ j_ Me)/\w'.cell? ⟨w.heap.size,1,n_⟩=o_ (.map (o_ b))/\(∀ty,(Builtin.len_ #[108] ty #[.map (o_ b)]).run J3 w'=.ok (i_ j_ (m.length:Int)) w')/\w'.cell? ⟨w.heap.size+1,0,n_⟩=o_ (i_ j_ x.id)/\w'.cell? ⟨w.heap.size+1,1,n_⟩=o_ (b_ x.up))/\da (fe w w' w.heap.size (w.heap.size+1) b m Me (cG x) 131 110)/\da (ix w' x)
def ik {w w':w_}{b:Nat}{m:df}{Me:Int}{x:aB}(h:fe w w' w.heap.size (w.heap.size+1) b m Me (cG x) 131 110)(hf:ix w' x):sk w b m Me x w':=
 ⟨⟨h.cells.1,h.cells.2,λty=>h.mp.len underlying108 ty,kF h.bx⟩,h,hf⟩
def rC (Me:Int)(b:Nat)(m:df)(x:aB)(w:w_)(h:cF w b m)(hw:(Lit.int j_ x.id).wf=true)(hm:m.length<=1048576)(hf:ix w x):
  k_ J3 144 #[a_ #[i_ j_ Me,.map (o_ b)],a_ (cG x)] w λe w'=>dD w b m (iI Me m x.id (ey x)) x.id (cG x) 131 e w':=by
 have HF:da (fe w ((w.alloc (c_ #[i_ j_ Me,.map (o_ b)] 110)).alloc (c_ (cG x) 131)) w.heap.size (w.heap.size+1) b m Me (cG x) 131 110):=fe.start w h Me _ _ _;have HW:da ((Lit.int j_ x.id).wf=true/\¬w.heap.size+1=b/\m.length<=1048576):=⟨hw,ZdL,hm⟩
 have HI:da (ix ((w.alloc (c_ #[i_ j_ Me,.map (o_ b)] 110)).alloc (c_ (cG x) 131)) x):=hf.below ((((Kp _ w).alloc (Ki _) _)).alloc zy _);have hmn:=mT;have hmr:=tp;obtain⟨s0,s1⟩:=HF.I.cells;obtain⟨c0,c1⟩:=kF HF.I.bx;clear h hw hf hm;unfold cG at*
 go_enter func144,ntmps144
 go_wp2_with fail;clear s0 s1 c0 c1;obtain⟨vA,hA⟩:∃v,(cz m x.id).isSome=v:=⟨_,rfl⟩
 obtain⟨vB,F6⟩:∃v,decide (Me<=(m.length:Int))=v:=⟨_,rfl⟩
 obtain⟨vC,hC⟩:∃v,cv x.id 1 1000=v:=⟨_,rfl⟩
 obtain⟨vD,hD⟩:∃v,ey x=v:=⟨_,rfl⟩
 have HL:da (iI Me m x.id (ey x)=(!vA&& !vB&&vC&&vD)/\(vA=false->cz m x.id=n_)):=⟨pi hA F6 hC hD,λe=>PX.1 (PY.1 (hA.trans e))⟩
 have HA:da (Ending.returned (b_ (cz m x.id).isSome)=r_ (b_ vA)):=al hA;have HC:da (Ending.returned (b_ (cv x.id 1 1000))=r_ (b_ vC)):=al hC;have HD:da (Ending.returned (b_ (ey x))=r_ (b_ vD)):=al hD;clear hA hC hD;have u9:∀w0,sk w b m Me x w0->k_ J3 233 #[a_ (cG x)] w0 λe w'=>e=r_ (i_ j_ x.id)/\sk w b m Me x w':=λw0 h0=>(iw x w0).mono λe w2 h=>⟨h.1,ik (h0.2.1.I.below h.2) (h0.2.2.I.below h.2)⟩
 have f9:∀w0,sk w b m Me x w0->k_ J3 176 #[a_ #[i_ j_ Me,.map (o_ b)],i_ j_ x.id] w0 λe w'=>e=r_ (b_ vA)/\sk w b m Me x w':=λw0 h0=>(rj Me b m x.id w0 h0.2.1.I.mp HW.I.1).mono λe w2 h=>⟨h.1.trans HA.I,ik (h0.2.1.I.below h.2) (h0.2.2.I.below h.2)⟩
 have p5:∀w0,sk w b m Me x w0->k_ J3 174 #[i_ j_ x.id] w0 λe w'=>e=r_ (b_ vC)/\sk w b m Me x w':=λw0 h0=>(eW x.id w0).mono λe w2 h=>⟨h.1.trans HC.I,h.2▸h0⟩
 have abz:∀w0,sk w b m Me x w0->k_ J3 234 #[a_ (cG x)] w0 λe w'=>e=r_ (b_ vD)/\sk w b m Me x w':=λw0 h0=>(tX x w0 h0.2.2.I).mono λe w2 h=>⟨h.1.trans HD.I,ik (h0.2.1.I.below h.2) (h0.2.2.I.below h.2)⟩
 unfold cG at u9 abz;have anY:∀w0,fe w w0 w.heap.size (w.heap.size+1) b m Me (cG x) 131 110->ix w0 x->sk w b m Me x w0:=λ_ h1 h2=>ik h1 h2
 have an0:=underlying108;refine aT (sk w b m Me x) ZbG (anY _ HF.I.drew (HI.I.below (Kp _ _).drew)) ?_
 exact ab
def EJ (w:w_)(Me:Int)(dg:List aB)(k:Nat)(wr:w_):Prop:=
 ∃l:List (aB×Nat),l.map (·.1)=dg.take k/\eS cG (λx:aB=>x.id) 131 110 w wr Me l/\aw (λx:aB=>x.id) (λx:aB=>ey x) 0 (dg.take k)=true/\(k:Int)<=max Me 0
def rZ (a:Option d_)(dg:List aB)(cap:Nat)(Me:Int)(w:w_)(hl:dg.length<=1048576)(h:bJ.bU w a dg)(hf:∀x∈dg,ix w x)(hw:∀x∈dg,(Lit.int j_ x.id).wf=true):
  k_ J3 100 #[s_ a dg.length cap,i_ j_ Me] w λe w'=>jN cG (λx:aB=>x.id) 131 w Me (aw (λx:aB=>x.id) (λx:aB=>ey x) 0 dg&&decide ((dg.length:Int)<=max Me 0)) dg e w':=by
 have hmk:=P4 (P:=J3) 108;have hmn:=mT;have H0:da (eS cG (λx:aB=>x.id) 131 110 w (((w.alloc (c_ #[i_ j_ 0,.map n_] 110)).alloc (.map #[] 0)).alloc (c_ #[i_ j_ Me,.map (o_ (w.heap.size+1))] 110)) Me []):=eS.start 110 w Me;have HL:da (bJ.bU w a dg/\(∀x∈dg,ix w x)/\∀x∈dg,(Lit.int j_ x.id).wf=true):=⟨h,hf,hw⟩
 clear h hf hw;generalize hTB:(aw (λx:aB=>x.id) (λx:aB=>ey x) 0 dg&&decide ((dg.length:Int)<=max Me 0))=anL;have HTB:da (_=anL):=hTB;clear hTB
 go_enter func100,ntmps100
 go_wp2_with fail;have alN:=@j4;have anw:=@iw;have anz:=@rC;have bA:=@kF;have anG:∀(x:aB)(W:w_)(g:Nat),W.heap[g]? =o_ (c_ (cG x) 131)->da (W.heap[g]? =o_ (c_ (cG x) 131)):=λ_ _ _ h=>h
 have anQ:=results100
 go_loopw[7,15] (λlast i wr=>∃k:Nat,k<=dg.length/\i=i_ j_ k/\last=i_ j_ (bW (·.id) 0 (dg.take k))/\da (EJ w Me dg k wr)) (λ_ i _=>dg.length-(intOf i).toNat)
 case atStart=>exact⟨0,Ky _,rfl,rfl,⟨[],zy,H0.I,rfl,ZbI⟩⟩
 case round=>
  exact aa
end
section
open Go.RowKit Go.Maps Go.Sort Go.Shelf
def tr (mb:Option Nat)(W:w_):k_ J3 122 #[.map mb] W λe w'=>e=r_ (.func (.func 160) #[] #[p_ (o_ ⟨W.heap.size,0,n_⟩)])/\w'=W.alloc (c_ #[.map mb] 114):=
 (LO (n:=5)).1 (RC Tryz.keysBuffer Fence.wide 5 trivial rfl mb W)
def oF (Bm b:Nat)(m:df)(W:w_)(hBm:Bm<W.heap.size)(hc:W.cell? ⟨Bm,0,n_⟩=o_ (.map (o_ b)))(h:cF W b m)(hm:m.length<=1048576):
  k_ J3 39 #[.func (.func 160) #[] #[p_ (o_ ⟨Bm,0,n_⟩)]] W λe w'=>∃v:v_,e=r_ v/\w'.ownsRow W.heap.size 2 1 v m.length (m.map λp=>i_ j_ p.1)/\B_ W.heap.size W w':=by
 have hsz:Maps.size (gA m)=m.length:=size_map m;have hseq:SeqGives Fence.wide 2 J3 160 #[p_ (o_ ⟨Bm,0,n_⟩)] encZ (λss=>ss.Perm (intKeys (gA m))) (Maps.size (gA m)) W:=
  RD (ρ:=Tryz.keysBuffer_ren) {Tryz.keysBuffer with} Fence.wide _ trivial rfl zw Bm b m.length (gA m) W hBm hc h.1
 have cS:=RE Tryz.sortedA Fence.wide 5 trivial trivial trivial trivial rfl zw (Tryz.sortsA _) (LP func54 ZbG rfl) 160 #[p_ (o_ ⟨Bm,0,n_⟩)] trivial (LP func160 ZbG rfl) _ _ Zcs Zdo _ hseq
 exact h_
def wt:(Tryz.prog.info? 173).map (λi=>(i.zero,i.size,i.bytes))=o_ (o_ (p_ n_),1,8):=ZbG
def wF (Me:Int)(b:Nat)(m:df)(w:w_)(h:cF w b m)(hm:m.length<=1048576)(hwf:∀p∈m,(Lit.int j_ p.1).wf=true):
  k_ J3 81 #[a_ #[i_ j_ Me,.map (o_ b)]] w λe w'=>∃a cap,e=r_ (s_ a m.length cap)/\w'.ownsRow w.heap.size 173 1 (s_ a m.length cap) m.length (m.map λp=>dt p.2)/\B_ w.heap.size w w':=by
 obtain⟨i0,hi,e0⟩:=Kw.1 wt;simp only[Kx]at e0;have HI:da (_/\_/\_/\_):=⟨hi,e0⟩
 have HM:da (cF w b m/\∀p∈m,(Lit.int j_ p.1).wf=true):=⟨h,hwf⟩
 have hbl:b<w.heap.size:=h.lt;clear hi e0 h hwf
 go_enter func81,ntmps81
 go_wp2_with(go_at_call 122;refine(tr _ _).mono ?_;rintro e w' ⟨rfl,rfl⟩);refine(oF (w.heap.size+1) b m _ zy zy (HM.I.1.below (((Kp _ w).alloc (Ki _) _).alloc zy _)) hm).mono ?_;rintro e w2 ⟨v,rfl,hown,hb2⟩;have cy:da (B_ w.heap.size w w2):=(((Kp _ w).alloc (Ki _) _).alloc zy _).trans (hb2.mono ZbI);have HS:da (w2.heap[w.heap.size]? =o_ (c_ #[i_ j_ Me,.map (o_ b)] 116)):=(hb2.block _ ZbI).trans ((PU zy).trans (Kj _ _));obtain⟨a,cap,hv,hrow⟩:=cr hown;have HR:da (Row w2 a (m.map λp=>i_ j_ p.1)):=hrow;rw[hv];clear hv hown hrow hb2 v;go_wp2_with fail;have Zc:=underlying114;have YC:=underlying171;have anF:=pS
 go_loopw[3,11] (λl i wr=>∃k:Nat,k<=m.length/\i=i_ j_ k/\∃a' cap',l=s_ a' k cap'/\da (anZ 173 w2 m k a' cap' wr)) (λ_ i _=>m.length-(intOf i).toNat)
 case atStart=>exact ZbS
 case round=>
  exact ba
def yI (mb:Option Nat)(W:w_):k_ J3 119 #[.map mb] W λe w'=>e=r_ (.func (.func 157) #[] #[p_ (o_ ⟨W.heap.size,0,n_⟩)])/\w'=W.alloc (c_ #[.map mb] 105):=
 (LO (n:=5)).1 (RC Tryz.keysSem Fence.wide 5 trivial rfl mb W)
def qR (Bm b:Nat)(m:df)(W:w_)(hBm:Bm<W.heap.size)(hc:W.cell? ⟨Bm,0,n_⟩=o_ (.map (o_ b)))(h:cF W b m)(hm:m.length<=1048576):
  k_ J3 39 #[.func (.func 157) #[] #[p_ (o_ ⟨Bm,0,n_⟩)]] W λe w'=>∃v:v_,e=r_ v/\w'.ownsRow W.heap.size 2 1 v m.length (m.map λp=>i_ j_ p.1)/\B_ W.heap.size W w':=by
 have hsz:Maps.size (gA m)=m.length:=size_map m;have hseq:SeqGives Fence.wide 2 J3 157 #[p_ (o_ ⟨Bm,0,n_⟩)] encZ (λss=>ss.Perm (intKeys (gA m))) (Maps.size (gA m)) W:=
  RD (ρ:=Tryz.keysSem_ren) {Tryz.keysSem with} Fence.wide _ trivial rfl zw Bm b m.length (gA m) W hBm hc h.1
 have cS:=RE Tryz.sortedA Fence.wide 5 trivial trivial trivial trivial rfl zw (Tryz.sortsA _) (LP func54 ZbG rfl) 157 #[p_ (o_ ⟨Bm,0,n_⟩)] trivial (LP func157 ZbG rfl) _ _ Zcs Zdo _ hseq
 exact h_
def CX:(Tryz.prog.info? 164).map (λi=>(i.zero,i.size,i.bytes))=o_ (o_ (p_ n_),1,8):=ZbG
def CS (Me:Int)(b:Nat)(m:df)(w:w_)(h:cF w b m)(hm:m.length<=1048576)(hwf:∀p∈m,(Lit.int j_ p.1).wf=true):
  k_ J3 78 #[a_ #[i_ j_ Me,.map (o_ b)]] w λe w'=>∃a cap,e=r_ (s_ a m.length cap)/\w'.ownsRow w.heap.size 164 1 (s_ a m.length cap) m.length (m.map λp=>dt p.2)/\B_ w.heap.size w w':=by
 obtain⟨i0,hi,e0⟩:=Kw.1 CX;simp only[Kx]at e0;have HI:da (_/\_/\_/\_):=⟨hi,e0⟩
 have HM:da (cF w b m/\∀p∈m,(Lit.int j_ p.1).wf=true):=⟨h,hwf⟩
 have hbl:b<w.heap.size:=h.lt;clear hi e0 h hwf
 go_enter func78,ntmps78
 go_wp2_with(go_at_call 119;refine(yI _ _).mono ?_;rintro e w' ⟨rfl,rfl⟩);refine(qR (w.heap.size+1) b m _ zy zy (HM.I.1.below (((Kp _ w).alloc (Ki _) _).alloc zy _)) hm).mono ?_;rintro e w2 ⟨v,rfl,hown,hb2⟩;have cy:da (B_ w.heap.size w w2):=(((Kp _ w).alloc (Ki _) _).alloc zy _).trans (hb2.mono ZbI);have HS:da (w2.heap[w.heap.size]? =o_ (c_ #[i_ j_ Me,.map (o_ b)] 107)):=(hb2.block _ ZbI).trans ((PU zy).trans (Kj _ _));obtain⟨a,cap,hv,hrow⟩:=cr hown;have HR:da (Row w2 a (m.map λp=>i_ j_ p.1)):=hrow;rw[hv];clear hv hown hrow hb2 v;go_wp2_with fail;have Zc:=underlying105;have YC:=underlying162;have anF:=vU
 go_loopw[3,11] (λl i wr=>∃k:Nat,k<=m.length/\i=i_ j_ k/\∃a' cap',l=s_ a' k cap'/\da (anZ 164 w2 m k a' cap' wr)) (λ_ i _=>m.length-(intOf i).toNat)
 case atStart=>exact ZbS
 case round=>
  exact ba
end
section
attribute [local go_sem ↓] Kc Kd
def ij (p:af)(st on:Int)(w:w_)(hl:p.L8.length<=1048576)(h:af.At w p):
  k_ J3 171 #[a_ p.cells,i_ j_ st,i_ j_ on] w λe w'=>(∃i:Int,e=r_ (i_ j_ i)/\dO (λx:aD=>decide (x.Md=st)&&decide (x.on=on)) p.pure.L8 p.L8.length i)/\B_ w.heap.size w w':=by
 have HB:da (av (w.alloc (c_ p.cells 46)) w.heap.size p/\af.At (w.alloc (c_ p.cells 46)) p/\B_ w.heap.size w (w.alloc (c_ p.cells 46))):=⟨Kj _ _,h.below ((Kp _ _).alloc (Ki _) _),(Kp _ _).alloc (Ki _) _⟩
 clear h;unfold af.cells at*
 go_enter func171,ntmps171
 go_wp2_with fail;generalize w.alloc (c_ p.row 46)=W at*
 go_loopw[7,8] (λb i wr=>∃(k:Nat)(z:Int),k<=p.L8.length/\i=i_ j_ k/\b=i_ j_ z/\da (dO (λx:aD=>decide (x.Md=st)&&decide (x.on=on)) p.pure.L8 k z/\B_ W.heap.size W wr)) (λ_ i _=>p.L8.length-(intOf i).toNat)
 case atStart=>exact⟨0,-1,Ky _,rfl,rfl,⟨dO.start _ _,Kp _ _⟩⟩
 case round=>
  obtain⟨k,z,hk,rfl,rfl,HA⟩:=hrel;have HW:da (av wr w.heap.size p/\af.At wr p/\B_ w.heap.size w wr):=⟨HB.I.1.below HA.I.2,HB.I.2.1.below HA.I.2,HB.I.2.2.trans (HA.I.2.mono HB.I.2.2.size)⟩
  obtain⟨-,-,m2,-⟩:=HW.I.1.cells;by_cases hlt:k<p.L8.length
  .have i0:(0:Int)<=(k:Int):=zw
   have i1:(k:Int)<(p.L8.length:Int):=zw
   obtain⟨x,hx⟩:∃x,p.L8[k]? =o_ x:=⟨_,Kz hlt⟩
   have HX:da (p.L8[k]? =o_ x/\p.pure.L8[k]? =o_ x.toaD):=⟨hx,by show(p.L8.map (·.toaD))[k]? =_;rw[Kk,hx];rfl⟩
   obtain⟨gs,ha,hat⟩:=cn HW.I.2.1.1 hx;have HG:da (p.aN=o_ ⟨gs,0,n_⟩):=ha;rw[ha]at m2;obtain⟨d0,d1,d2,d3,d4,d5,d6,d7,d8,d9,tH,tS⟩:=hat;clear hx ha;have hgl:w.heap.size<wr.heap.size:=(J2.1 HW.I.1).1;have HN:da (av (wr.alloc (c_ x.row 125)) w.heap.size p/\af.At (wr.alloc (c_ x.row 125)) p/\jx (wr.alloc (c_ x.row 125)) wr.heap.size x/\B_ W.heap.size W (wr.alloc (c_ x.row 125))):=⟨HW.I.1.below ((Kp _ _).alloc (Ki _) _),HW.I.2.1.below ((Kp _ _).alloc (Ki _) _),Kj _ _,HA.I.2.alloc HA.I.2.size _⟩
   by_cases hs:x.Md=st
   .by_cases ho:x.on=on
    .have HF:da ((λx:aD=>decide (x.Md=st)&&decide (x.on=on)) x.toaD=true):=by show _=true;simp[hs,ho]
     have e1:(x.Md !=st)=false:=Zft
     have e2:(x.on !=on)=false:=by simp[ho]
     clear hs ho;go_wp2_with fail;generalize wr.alloc (c_ x.row 125)=W5 at*;generalize wr.heap.size=X at*;clear d0 d1 d2 d3 d4 d5 d6 d7 d8 d9 tH tS m2 e1 e2 hgl;obtain⟨-,-,m2,-⟩:=HN.I.1.cells;rw[HG.I]at m2;obtain⟨-,b1,-,-,-,-,-,-,-,-,-,b11⟩:=HN.I.2.2.1.cells;by_cases hz:z<0
     .have afO:decide (z<0)=true:=decide_eq_true hz
      have HY:da (dO (λx:aD=>decide (x.Md=st)&&decide (x.on=on)) p.pure.L8 (k+1) k):=HA.I.1.first hz HX.I.2 HF.I;refine aT (λw'=>w'=W5.drew) ZbG rfl ?_
      iterate 3 (refine agj ?_)
      iterate 9 (refine ty (o_ _) rfl rfl ZbG (λ_ _ _ h=>h) (np ZbG) ?_;simp only[pt,sb,s0,s1])
      iterate 2 (refine agj ?_)
      exact Zbw
     have afO:decide (z<0)=false:=decide_eq_false hz;obtain⟨n,y0,hzn,hn,hy0,hbe⟩:=HA.I.1.got hz;subst hzn;have Fm:da (dO (λx:aD=>decide (x.Md=st)&&decide (x.on=on)) p.pure.L8 (k+1) (if dF x.toaD y0 then(k:Int)else(n:Int))):=dO.next hn hy0 hbe HX.I.2 HF.I;obtain⟨y,hy,rfl⟩:∃y,p.L8[n]? =o_ y/\y.toaD=y0:=by
      have h5:(p.L8.map (·.toaD))[n]? =o_ y0:=hy0;rw[Kk,Kw]at h5;exact h5
     have j0:(0:Int)<=(n:Int):=zw
     have j1:(n:Int)<(p.L8.length:Int):=zw
     obtain⟨gs2,ha2,g8⟩:=cn HN.I.2.1.1 hy;rw[HG.I]at ha2;cases ha2;obtain⟨-,y1,-,-,-,-,-,-,-,-,-,y11⟩:=g8;clear hy hy0 hbe hz;by_cases hp:y.RX<x.RX
     .have dp:decide (y.RX<x.RX)=true:=decide_eq_true hp
      have HY:da (dO (λx:aD=>decide (x.Md=st)&&decide (x.on=on)) p.pure.L8 (k+1) k):=by have h5:=Fm.I;rwa[show dF x.toaD y.toaD=true by unfold dF;rw[if_neg (by intro e;have e2:x.RX=y.RX:=e;omega)];exact decide_eq_true hp,if_pos rfl]at h5
      clear hp Fm;refine aT (λw'=>w'=W5.drew) ZbG rfl ?_
      iterate 14 (refine agj ?_)
      exact Zbw
     have dp:decide (y.RX<x.RX)=false:=decide_eq_false hp;by_cases hq:x.RX=y.RX
     .have dq:(x.RX==y.RX)=true:=by simp[hq]
      by_cases hr:x.RU<y.RU
      .have ya:decide (x.RU<y.RU)=true:=decide_eq_true hr
       have HY:da (dO (λx:aD=>decide (x.Md=st)&&decide (x.on=on)) p.pure.L8 (k+1) k):=by have h5:=Fm.I;rwa[show dF x.toaD y.toaD=true by unfold dF;rw[if_pos hq];exact ya,if_pos rfl]at h5
       clear hp hr Fm hq;refine aT (λw'=>w'=W5.drew) ZbG rfl ?_
       iterate 35 (refine agj ?_)
       exact E_
      .have ya:decide (x.RU<y.RU)=false:=decide_eq_false hr
       have HY:da (dO (λx:aD=>decide (x.Md=st)&&decide (x.on=on)) p.pure.L8 (k+1) n):=by have h5:=Fm.I;rwa[show dF x.toaD y.toaD=false by unfold dF;rw[if_pos hq];exact ya,if_neg Bool.false_ne_true]at h5
       clear hp hr Fm hq;refine aT (λw'=>w'=W5.drew) ZbG rfl ?_
       iterate 35 (refine agj ?_)
       exact Zad
     .have dq:(x.RX==y.RX)=false:=by simp[hq]
      have HY:da (dO (λx:aD=>decide (x.Md=st)&&decide (x.on=on)) p.pure.L8 (k+1) n):=by have h5:=Fm.I;rwa[show dF x.toaD y.toaD=false by unfold dF;rw[if_neg hq];exact dp,if_neg Bool.false_ne_true]at h5
      clear hp Fm hq;refine aT (λw'=>w'=W5.drew) ZbG rfl ?_
      iterate 24 (refine agj ?_)
      iterate 9 (refine ty (o_ _) rfl rfl ZbG (λ_ _ _ h=>h) (np ZbG) ?_;simp only[pt,sb,s0,s1])
      iterate 2 (refine agj ?_)
      exact Zad
    .have HY:da (dO (λx:aD=>decide (x.Md=st)&&decide (x.on=on)) p.pure.L8 (k+1) z):=HA.I.1.skip HX.I.2 (by simp[ho])
     have e1:(x.Md !=st)=false:=Zft
     have e2:(x.on !=on)=true:=by simp[ho]
     clear hs ho;exact ZaM
   .have HY:da (dO (λx:aD=>decide (x.Md=st)&&decide (x.on=on)) p.pure.L8 (k+1) z):=HA.I.1.skip HX.I.2 Zft
    have e1:(x.Md !=st)=true:=Zft
    clear hs;exact ZaM
  .have i1:¬(k:Int)<(p.L8.length:Int):=zw
   have HE:da (dO (λx:aD=>decide (x.Md=st)&&decide (x.on=on)) p.pure.L8 p.L8.length z):=by have h5:=HA.I.1;rwa[show k=p.L8.length by omega]at h5
   go_wp2;go_ret;exact⟨⟨z,rfl,HE.I⟩,HW.I.2.2⟩
end
end Go.Proofs.YtckenjkcmajicaaGreat
