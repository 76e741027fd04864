/- What the proof leans on, part 23. -/
import Derived.Test.YtckenjkcmajicaaGreatOwnG20
import Derived.Test.YtckenjkcmajicaaGreatOwnG21
import Derived.Test.YtckenjkcmajicaaGreatOwnG22
set_option linter.all false
set_option maxRecDepth 100000
set_option maxHeartbeats 8000000
open Go.Proofs.Tryz
open Go renaming World->w_,Value->v_,Calls->k_,Addr->d_,TypeId->T_,below_setRow->q_
open Go.Ending renaming returned->r_
open Go.IntKind renaming i64->j_
open Go.Obj renaming cells->c_
open Go.RowKit renaming Below->B_,Hid->da
open Go.Value renaming int->i_,slice->s_,bool->b_,string->t_,agg->a_,pointer->p_,tuple->u_
open Option renaming some->o_,none->n_
open Go renaming wp_at_succ->Kd,wp_at_zero->Kc
open Go.Proofs.Tryz renaming prog->J3
open List renaming getElem_cons_succ->K1,getElem_cons_zero->K0,getElem_toArray->KZ

open Go.RowKit
namespace Go.Proofs.YtckenjkcmajicaaGreat
section
open Go.Maps
attribute [local go_sem ↓] Kc Kd
def opP_1 {bE:Int}{x:aD}{o:dN}{p:aE}(h:o.1=1):lX bE x o p=GY x o p:=Zb3
def opP_2 {bE:Int}{x:aD}{o:dN}{p:aE}(h:o.1=2):lX bE x o p=kC 2 0 rM (bE+o.2.1) x.id p:=Zb3
def opP_3 {bE:Int}{x:aD}{o:dN}{p:aE}(h:o.1=3):lX bE x o p=mh o bE x.id p:=Zb3
def opP_4 {bE:Int}{x:aD}{o:dN}{p:aE}(h:o.1=4):lX bE x o p=gJ o x.id p:=Zb3
def opP_5 {bE:Int}{x:aD}{o:dN}{p:aE}(h:o.1=5):lX bE x o p=dE o bE x.id p:=Zb3
def opP_6 {bE:Int}{x:aD}{o:dN}{p:aE}(h:o.1=6):lX bE x o p=dE o bE x.id p:=Zb3
def opP_7 {bE:Int}{x:aD}{o:dN}{p:aE}(h:o.1=7):lX bE x o p=dE o bE x.id p:=Zb3
def opP_8 {bE:Int}{x:aD}{o:dN}{p:aE}(h:o.1=8):lX bE x o p=lc o bE x.id p:=Zb3
def opP_9 {bE:Int}{x:aD}{o:dN}{p:aE}(h:o.1=9):lX bE x o p=ka o bE x.id p:=Zb3
def opP_10 {bE:Int}{x:aD}{o:dN}{p:aE}(h:o.1=10):lX bE x o p=dC o bE x.id p:=Zb3
def opP_11 {bE:Int}{x:aD}{o:dN}{p:aE}(h:o.1=11):lX bE x o p=dC o bE x.id p:=Zb3
def opP_12 {bE:Int}{x:aD}{o:dN}{p:aE}(h:o.1=12):lX bE x o p=dC o bE x.id p:=Zb3
def opP_13 {bE:Int}{x:aD}{o:dN}{p:aE}(h:o.1=13):lX bE x o p=ig o x.id p:=Zb3
def opP_14 {bE:Int}{x:aD}{o:dN}{p:aE}(h:o.1=14):lX bE x o p=gC o x.id p:=Zb3
def opP_15 {bE:Int}{x:aD}{o:dN}{p:aE}(h:o.1=15):lX bE x o p=jU o x.id p:=Zb3
def opP_16 {bE:Int}{x:aD}{o:dN}{p:aE}(h:o.1=16):lX bE x o p=lg o x.id p:=Zb3
def opP_17 {bE:Int}{x:aD}{o:dN}{p:aE}(h:o.1=17):lX bE x o p={p with L8:=ce x.id (λy=>{y with pc:=0}) p.L8}:=Zb3
def nR (w:w_)(o:Obj):(w.alloc o).heap.size=w.heap.size+1:=zy
def Fr.more {w W:w_}{M M2 bj:Nat}{q0 z q:af}(h:Fr w M bj q0 z q W)(hq:∀g∈q.Mc,g∈q0.Mc)(hM:M<=M2/\M2<=W.heap.size):Fr w M2 bj q0 z q W:=⟨h.box,h.own,h.kept,λg hg=>.inl (hq g hg),h.lo,ZdY,hM.2,h.sz.2.2⟩
def G6 (q:af)(n bj:Nat)(x:ao)(bE:Int)(w:w_)(h:ap w bj q)(hb:bj<=w.heap.size)(hr:aQ q.pure)(hx:q.L8[n]? =o_ x)(hs:x.Md=1)(hn:q.next<=999999990)(eu:0<=bE/\bE<=1000000000):
  k_ J3 172 #[a_ q.cells,i_ j_ n,i_ j_ bE] w (jH w bj q (lX bE x.toaD (opAt x.toaD) q.pure)):=by
 have ho:=(AW (bE:=bE) hr (iu hx) hs hn eu).1;have k1:=(hr.proc (iu hx)).2.1;have hop:=iT k1 Zfn;have hlen:x.prog.length<=20:=by have h5:=iF k1;unfold jY at h5;simp only[J7]at h5;exact(lK h5.1.1.1.2).2
 obtain⟨k,hk⟩:∃k:Nat,x.pc=(k:Int):=⟨x.pc.toNat,by have:=hop.1;omega⟩
 have hkl:k<x.prog.length:=by have:=hop.2;have e:x.toaD.pc=x.pc:=rfl;omega
 have hoa:x.prog[k]? =o_ (opAt x.toaD):=by unfold opAt;rw[show x.toaD.pc.toNat=k by rw[show x.toaD.pc=(k:Int)from hk];rfl,Kz hkl];rfl
 have hl:x.left=x.toaD.left:=rfl;have hlb:(opAt x.toaD).1=1->0<=x.left/\x.left<(opAt x.toaD).2.1:=λe=>by
  rw[fG,J7]at k1;have h3:=k1.2;unfold bO at h3;rw[if_neg Zfn,if_pos hs]at h3;simp only[J7]at h3;have h4:=h3.1.1.1.2;unfold jJ at h4;rw[if_pos e]at h4;simp only[J7,decide_eq_true_eq]at h4;exact h4
 generalize opAt x.toaD=o at*;have HR:da (aQ q.pure/\q.L8[n]? =o_ x/\x.Md=1/\q.next<=999999990/\(0<=bE/\bE<=1000000000)/\kc o=true/\x.prog[k]? =o_ o/\(o.1=1->0<=x.left/\x.left<o.2.1)):=⟨hr,hx,hs,hn,eu,ho,hoa,hlb⟩
 have b1:=dT w (c_ q.cells 46) (c_ ar 46);have h2:=cZ w (c_ q.cells 46) (c_ ar 46);have S:da (Fr w (w.heap.size+2) bj q q q ((w.alloc (c_ q.cells 46)).alloc (c_ ar 46))/\((w.alloc (c_ q.cells 46)).alloc (c_ ar 46)).heap[w.heap.size+1]? =o_ (c_ ar 46)/\((w.alloc (c_ q.cells 46)).alloc (c_ ar 46)).heap.size=w.heap.size+2):=⟨Fr.start h hb h2.1 b1 ⟨zw,by have:=(J2.1 h2.2).1;omega⟩,h2.2,by rw[nR,nR]⟩
 have j0:(0:Int)<=(n:Int):=zw
 have j1:(n:Int)<(q.L8.length:Int):=ZdS
 have j2:(0:Int)<=(k:Int):=zw
 have Xg:(k:Int)<(x.prog.length:Int):=zw
 obtain⟨n0,n1⟩:=eu;have HK:da (x.pc=(k:Int)):=hk;clear h hb hr hx hs hn b1 h2 ho hop hlen hkl hoa hlb hl hk k1
 go_enter func172,ntmps172
 go_upto_region 1 with fail;generalize(w.alloc (c_ q.cells 46)).alloc (c_ ar 46)=A at*;obtain⟨gs,ha,hat⟩:=cn S.I.1.own.at.1 HR.I.2.1;have m2:=S.I.1.box.cells.2.2.1;rw[ha]at m2;obtain⟨d0,d1,d2,d3,d4,d5,d6,d7,d8,d9,tH,tS⟩:=hat;have HA:da (q.aN=o_ ⟨gs,0,n_⟩):=ha;clear ha;have h5:=(Kp A.heap.size A).alloc (Ki _) (c_ x.row 125);have hxb:=Kj A (c_ x.row 125);have hsz:=S.I.2.2;rw[hsz]at hxb;have h6:=S.I.1.reads h5;have S2:=aA (And.intro h6.1 (And.intro ((h6.2 (w.heap.size+1) zw).trans S.I.2.1) (And.intro hxb (show(A.alloc (c_ x.row 125)).heap.size=w.heap.size+3 by rw[nR,hsz]))));have HSZ:da (A.heap.size=w.heap.size+2):=hsz;clear h5 h6 hxb hsz S;go_upto_region 2 with fail;rw[HSZ.I];generalize A.alloc (c_ x.row 125)=B at*;clear m2 d0 d1 d2 d3 d4 d5 d6 d7 d8 d9 tH tS HSZ;obtain⟨-,-,x2,-,x4,x5,-⟩:=bo (x:=x) S2.I.2.2.1;rw[HK.I]at x4;obtain⟨afz,hgq,hoc⟩:=Kind.bU.at (K:=fk) ⟨lA S2.I.1.own.at.1 HR.I.2.1,by simp[fk]⟩ HR.I.2.2.2.2.2.2.1;rw[hgq]at x2;have o0:=hoc 0 _ rfl;have o1:=hoc 1 _ rfl;have o2:=hoc 2 _ rfl;have o3:=hoc 3 _ rfl;rw[show fk.n=4 from rfl]at o0 o1 o2 o3;simp only[Nat.add_zero]at o0;have h5:=(Kp B.heap.size B).alloc (Ki _) (c_ (j9 o) 217);have hob:=Kj B (c_ (j9 o) 217);have hsz:=S2.I.2.2.2;rw[hsz]at hob;have h6:=S2.I.1.reads h5;have S:=aA (And.intro (h6.1.more (M2:=w.heap.size+4) (λg hg=>hg) ⟨zw,by rw[nR,hsz];omega⟩) (And.intro ((h6.2 (w.heap.size+1) zw).trans S2.I.2.1) (And.intro ((h5.block (w.heap.size+2) zw).trans S2.I.2.2.1) hob)));have HSZ:da (B.heap.size=w.heap.size+3):=hsz;clear h5 h6 hob hsz S2 hgq hoc;unfold j9 at S;go_upto_region 3 with fail;rw[HSZ.I];generalize B.alloc (c_ #[i_ j_ o.1,i_ j_ o.2.1,i_ j_ o.2.2.1,t_ o.2.2.2] 217)=C at*;clear o0 o1 o2 o3 x2 x4 x5 j2 Xg HSZ;have HO:da (oo C (w.heap.size+3) o):=S.I.2.2.2;obtain⟨-,-,-,-,-,x5,-⟩:=bo (x:=x) S.I.2.2.1;obtain⟨f0,f1,f2,f3,f4⟩:=dv HR.I.2.2.2.2.2.1;have hM:=bz.1 f2;obtain⟨kd,N,M,s⟩:=o;simp only at f0 f1 hM;obtain⟨o0,o1,o2,o3⟩:=HO.I.cells;simp only at o0 o1 o2 o3;clear f2 f3 f4;have zN:da (kd=1\/kd=2\/kd=3\/kd=4\/kd=5\/kd=6\/kd=7\/kd=8\/kd=9\/kd=10\/kd=11\/kd=12\/kd=13\/kd=14\/kd=15\/kd=16\/kd=17):=by show _\/_;omega
 clear f0;rcases zN.I with rfl|rfl|rfl|rfl|rfl|rfl|rfl|rfl|rfl|rfl|rfl|rfl|rfl|rfl|rfl|rfl|rfl
 focus
  have hlb:=HR.I.2.2.2.2.2.2.2 rfl;simp only at hlb;have hN:=f1 (by decide);clear f1 zN;have HE:=aA (opP_1 (bE:=bE) (x:=x.toaD) (o:=(1,N,M,s)) (p:=q.pure) rfl);have IC:da (lX bE x.toaD (1,N,M,s) q.pure=if(if x.left=0 then N else x.left)=1 then bu 0 x.id q.pure else{q.pure with L8:=ce x.id (λy=>{y with left:=(if x.left=0 then N else x.left)-1}) q.pure.L8}):=HE.I;clear HE;obtain⟨lf,hlf⟩:∃lf:Int,lf=if x.left=0 then N else x.left:=⟨_,rfl⟩
  rw[<-hlf]at IC;have hlb2:1<=lf/\lf<=1000:=by rw[hlf];split<;>omega
  have HL:da (1<=lf/\lf<=1000):=hlb2;go_upto_region 5 with fail;clear o0;have hgo:∀e0:Bool,(x.left==0)=e0->lf=if e0 then N else x.left:=λe0 he=>by rw[hlf];subst he;by_cases h7:x.left=0<;>simp[h7]
  cases e0:(x.left==0)
  .have hv:=hgo _ e0
   simp only[J5,if_false]at hv;clear hgo hlf hlb hlb2 hN;by_cases h1:lf=1
   .have e1:(x.left==1)=true:=by rw[<-hv];simp[h1]
    exact Zbp
   have e1:(x.left==1)=false:=by rw[<-hv];simp[h1]
   have HE:da (lX bE x.toaD (1,N,M,s) q.pure={q.pure with L8:=ce x.id (λy=>{y with left:=lf-1}) q.pure.L8}):=IC.I.trans (if_neg h1);have hw:IntKind.wrap j_ (x.left-1)=x.left-1:=by rw[K8];have:=HL.I;omega
   have HV:da (lf=x.left):=hv;obtain⟨s1,⟨u,c⟩,f⟩:=eY (n:=n) (j:=5) (v:=i_ j_ (x.left-1)) (y:={x with left:=x.left-1}) S.I.1.own HR.I.2.1 HA.I ⟨rfl,rfl,rfl⟩ (by decide) rfl;have m2:=S.I.1.box.cells.2.2.1;rw[HA.I]at m2;have h5:=S.I.1.call s1;have H5:=aA (And.intro h5.1 ((h5.2 (w.heap.size+1) zw zw).trans S.I.2.1));clear h1 hv IC s1 h5;go_upto_region 11 with fail;generalize C.setCell ⟨gs,n*12+5,n_⟩ (i_ j_ (x.left-1))=D at*;clear m2 c f u hw;have HP:da (({q with L8:=q.L8.set n {x with left:=x.left-1}}:af).pure={q.pure with L8:=ce x.id (λy=>{y with left:=lf-1}) q.pure.L8}):=ZeJ
   exact ws
  .have hv:=hgo _ e0
   simp only[if_true]at hv;clear hgo hlf hlb hlb2 hN;by_cases h1:lf=1
   .have e1:(N==1)=true:=by rw[<-hv];simp[h1]
    exact Zbp
   have e1:(N==1)=false:=by rw[<-hv];simp[h1]
   have HE:da (lX bE x.toaD (1,N,M,s) q.pure={q.pure with L8:=ce x.id (λy=>{y with left:=lf-1}) q.pure.L8}):=IC.I.trans (if_neg h1);have hw:IntKind.wrap j_ (N-1)=N-1:=by rw[K8];have:=HL.I;omega
   have HV:da (lf=N):=hv;obtain⟨s1,⟨u,c⟩,f⟩:=eY (n:=n) (j:=5) (v:=i_ j_ (N-1)) (y:={x with left:=N-1}) S.I.1.own HR.I.2.1 HA.I ⟨rfl,rfl,rfl⟩ (by decide) rfl;have m2:=S.I.1.box.cells.2.2.1;rw[HA.I]at m2;have h5:=S.I.1.call s1;have H5:=aA (And.intro h5.1 ((h5.2 (w.heap.size+1) zw zw).trans S.I.2.1));clear h1 hv IC s1 h5;go_upto_region 11 with fail;generalize C.setCell ⟨gs,n*12+5,n_⟩ (i_ j_ (N-1))=D at*;clear m2 c f u hw;have HP:da (({q with L8:=q.L8.set n {x with left:=N-1}}:af).pure={q.pure with L8:=ce x.id (λy=>{y with left:=lf-1}) q.pure.L8}):=ZeJ
   exact ws
 focus
  have hN:=f1 (by decide);have HE:=aA (opP_2 (bE:=bE) (x:=x.toaD) (o:=(2,N,M,s)) (p:=q.pure) rfl);have Mb:=sT q n bj x 2 0 N bE ⟨#[]⟩ C S.I.1.own ZbU HR.I.1 HR.I.2.1 Zde HR.I.2.2.2.2.1 ⟨zw,hN.2⟩;rw[show kZ bE N=bE+N by unfold kZ;rw[if_pos zw]]at Mb;clear f1 zN hN hM;go_wp2_with(refine eT _ S.I.1.box ?_);exact e_
 focus
  have HE:=aA (opP_3 (bE:=bE) (x:=x.toaD) (o:=(3,N,M,s)) (p:=q.pure) rfl);have Mb:=CR q n bj x bE (3,N,M,s) C S.I.1.own ZbU HR.I.1 HR.I.2.1 HR.I.2.2.1 HR.I.2.2.2.1 HR.I.2.2.2.2.1 HR.I.2.2.2.2.2.1 rfl;clear f1 zN hM;go_wp2_with(first|(refine eT _ S.I.1.box ?_)|(refine LS rfl 217 (.tmp 8) rfl (w.heap.size+3) (by rfl) 217 (j9 (3,N,M,s)) (0,0) _ S.I.2.2.2 underlying217 rfl ZbG ?_));exact e_
 focus
  have HE:=aA (opP_4 (bE:=bE) (x:=x.toaD) (o:=(4,N,M,s)) (p:=q.pure) rfl);have Mb:=zE q n bj x bE (4,N,M,s) C S.I.1.own ZbU HR.I.1 HR.I.2.1 HR.I.2.2.1 HR.I.2.2.2.1 HR.I.2.2.2.2.1 HR.I.2.2.2.2.2.1 rfl;clear f1 zN hM;go_wp2_with(first|(refine eT _ S.I.1.box ?_)|(refine LS rfl 217 (.tmp 8) rfl (w.heap.size+3) (by rfl) 217 (j9 (4,N,M,s)) (0,0) _ S.I.2.2.2 underlying217 rfl ZbG ?_));exact e_
 focus
  have HE:=aA (opP_5 (bE:=bE) (x:=x.toaD) (o:=(5,N,M,s)) (p:=q.pure) rfl);have Mb:=Ey q n bj x bE (5,N,M,s) C S.I.1.own ZbU HR.I.1 HR.I.2.1 HR.I.2.2.1 HR.I.2.2.2.1 HR.I.2.2.2.2.1 HR.I.2.2.2.2.2.1 rfl;clear f1 zN hM;go_wp2_with(first|(refine eT _ S.I.1.box ?_)|(refine LS rfl 217 (.tmp 8) rfl (w.heap.size+3) (by rfl) 217 (j9 (5,N,M,s)) (0,0) _ S.I.2.2.2 underlying217 rfl ZbG ?_));exact e_
 focus
  have HE:=aA (opP_6 (bE:=bE) (x:=x.toaD) (o:=(6,N,M,s)) (p:=q.pure) rfl);have Mb:=Ab q n bj x bE (6,N,M,s) C S.I.1.own ZbU HR.I.1 HR.I.2.1 HR.I.2.2.1 HR.I.2.2.2.1 HR.I.2.2.2.2.1 HR.I.2.2.2.2.2.1 rfl;clear f1 zN hM;go_wp2_with(first|(refine eT _ S.I.1.box ?_)|(refine LS rfl 217 (.tmp 8) rfl (w.heap.size+3) (by rfl) 217 (j9 (6,N,M,s)) (0,0) _ S.I.2.2.2 underlying217 rfl ZbG ?_));exact e_
 focus
  have HE:=aA (opP_7 (bE:=bE) (x:=x.toaD) (o:=(7,N,M,s)) (p:=q.pure) rfl);have Mb:=BE q n bj x bE (7,N,M,s) C S.I.1.own ZbU HR.I.1 HR.I.2.1 HR.I.2.2.1 HR.I.2.2.2.1 HR.I.2.2.2.2.1 HR.I.2.2.2.2.2.1 rfl;clear f1 zN hM;go_wp2_with(first|(refine eT _ S.I.1.box ?_)|(refine LS rfl 217 (.tmp 8) rfl (w.heap.size+3) (by rfl) 217 (j9 (7,N,M,s)) (0,0) _ S.I.2.2.2 underlying217 rfl ZbG ?_));exact e_
 focus
  have HE:=aA (opP_8 (bE:=bE) (x:=x.toaD) (o:=(8,N,M,s)) (p:=q.pure) rfl);have Mb:=CD q n bj x bE (8,N,M,s) C S.I.1.own ZbU HR.I.1 HR.I.2.1 HR.I.2.2.1 HR.I.2.2.2.1 HR.I.2.2.2.2.1 HR.I.2.2.2.2.2.1 rfl;clear f1 zN hM;go_wp2_with(first|(refine eT _ S.I.1.box ?_)|(refine LS rfl 217 (.tmp 8) rfl (w.heap.size+3) (by rfl) 217 (j9 (8,N,M,s)) (0,0) _ S.I.2.2.2 underlying217 rfl ZbG ?_));exact e_
 focus
  have HE:=aA (opP_9 (bE:=bE) (x:=x.toaD) (o:=(9,N,M,s)) (p:=q.pure) rfl);have Mb:=C0 q n bj x bE (9,N,M,s) C S.I.1.own ZbU HR.I.1 HR.I.2.1 HR.I.2.2.1 HR.I.2.2.2.1 HR.I.2.2.2.2.1 HR.I.2.2.2.2.2.1 rfl;clear f1 zN hM;go_wp2_with(first|(refine eT _ S.I.1.box ?_)|(refine LS rfl 217 (.tmp 8) rfl (w.heap.size+3) (by rfl) 217 (j9 (9,N,M,s)) (0,0) _ S.I.2.2.2 underlying217 rfl ZbG ?_));exact e_
 focus
  have HE:=aA (opP_10 (bE:=bE) (x:=x.toaD) (o:=(10,N,M,s)) (p:=q.pure) rfl);have Mb:=CA q n bj x bE (10,N,M,s) C S.I.1.own ZbU HR.I.1 HR.I.2.1 HR.I.2.2.1 HR.I.2.2.2.1 HR.I.2.2.2.2.1 HR.I.2.2.2.2.2.1 rfl;clear f1 zN hM;go_wp2_with(first|(refine eT _ S.I.1.box ?_)|(refine LS rfl 217 (.tmp 8) rfl (w.heap.size+3) (by rfl) 217 (j9 (10,N,M,s)) (0,0) _ S.I.2.2.2 underlying217 rfl ZbG ?_));exact e_
 focus
  have HE:=aA (opP_11 (bE:=bE) (x:=x.toaD) (o:=(11,N,M,s)) (p:=q.pure) rfl);have Mb:=AS q n bj x bE (11,N,M,s) C S.I.1.own ZbU HR.I.1 HR.I.2.1 HR.I.2.2.1 HR.I.2.2.2.1 HR.I.2.2.2.2.1 HR.I.2.2.2.2.2.1 rfl;clear f1 zN hM;go_wp2_with(first|(refine eT _ S.I.1.box ?_)|(refine LS rfl 217 (.tmp 8) rfl (w.heap.size+3) (by rfl) 217 (j9 (11,N,M,s)) (0,0) _ S.I.2.2.2 underlying217 rfl ZbG ?_));exact e_
 focus
  have HE:=aA (opP_12 (bE:=bE) (x:=x.toaD) (o:=(12,N,M,s)) (p:=q.pure) rfl);have Mb:=Cl q n bj x bE (12,N,M,s) C S.I.1.own ZbU HR.I.1 HR.I.2.1 HR.I.2.2.1 HR.I.2.2.2.1 HR.I.2.2.2.2.1 HR.I.2.2.2.2.2.1 rfl;clear f1 zN hM;go_wp2_with(first|(refine eT _ S.I.1.box ?_)|(refine LS rfl 217 (.tmp 8) rfl (w.heap.size+3) (by rfl) 217 (j9 (12,N,M,s)) (0,0) _ S.I.2.2.2 underlying217 rfl ZbG ?_));exact e_
 focus
  have HE:=aA (opP_13 (bE:=bE) (x:=x.toaD) (o:=(13,N,M,s)) (p:=q.pure) rfl);have Mb:=Av q n bj x (13,N,M,s) C S.I.1.own ZbU HR.I.1 HR.I.2.1 HR.I.2.2.1 HR.I.2.2.2.1 HR.I.2.2.2.2.2.1 rfl;clear f1 zN hM;go_wp2_with(first|(refine eT _ S.I.1.box ?_)|(refine LS rfl 217 (.tmp 8) rfl (w.heap.size+3) (by rfl) 217 (j9 (13,N,M,s)) (0,0) _ S.I.2.2.2 underlying217 rfl ZbG ?_));exact e_
 focus
  have HE:=aA (opP_14 (bE:=bE) (x:=x.toaD) (o:=(14,N,M,s)) (p:=q.pure) rfl);have Mb:=BS q n bj x (14,N,M,s) C S.I.1.own ZbU HR.I.1 HR.I.2.1 HR.I.2.2.1 HR.I.2.2.2.1 HR.I.2.2.2.2.2.1 rfl;clear f1 zN hM;go_wp2_with(first|(refine eT _ S.I.1.box ?_)|(refine LS rfl 217 (.tmp 8) rfl (w.heap.size+3) (by rfl) 217 (j9 (14,N,M,s)) (0,0) _ S.I.2.2.2 underlying217 rfl ZbG ?_));exact e_
 focus
  have HE:=aA (opP_15 (bE:=bE) (x:=x.toaD) (o:=(15,N,M,s)) (p:=q.pure) rfl);have Mb:=BU q n bj x (15,N,M,s) C S.I.1.own ZbU HR.I.1 HR.I.2.1 HR.I.2.2.1 HR.I.2.2.2.1 HR.I.2.2.2.2.2.1 rfl;clear f1 zN hM;go_wp2_with(first|(refine eT _ S.I.1.box ?_)|(refine LS rfl 217 (.tmp 8) rfl (w.heap.size+3) (by rfl) 217 (j9 (15,N,M,s)) (0,0) _ S.I.2.2.2 underlying217 rfl ZbG ?_));exact e_
 focus
  have HE:=aA (opP_16 (bE:=bE) (x:=x.toaD) (o:=(16,N,M,s)) (p:=q.pure) rfl);have Mb:=C9 q n bj x (16,N,M,s) C S.I.1.own ZbU HR.I.1 HR.I.2.1 HR.I.2.2.1 HR.I.2.2.2.1 HR.I.2.2.2.2.2.1 rfl;clear f1 zN hM;go_wp2_with(first|(refine eT _ S.I.1.box ?_)|(refine LS rfl 217 (.tmp 8) rfl (w.heap.size+3) (by rfl) 217 (j9 (16,N,M,s)) (0,0) _ S.I.2.2.2 underlying217 rfl ZbG ?_));exact e_
 have HE:=aA (opP_17 (bE:=bE) (x:=x.toaD) (o:=(17,N,M,s)) (p:=q.pure) rfl);clear f1 zN hM;obtain⟨s1,⟨u,c⟩,f⟩:=eY (n:=n) (j:=4) (v:=i_ j_ 0) (y:={x with pc:=0}) S.I.1.own HR.I.2.1 HA.I ⟨rfl,rfl,rfl⟩ (by decide) rfl;have m2:=S.I.1.box.cells.2.2.1;rw[HA.I]at m2;have h5:=S.I.1.call s1;have H5:=aA (And.intro h5.1 ((h5.2 (w.heap.size+1) zw zw).trans S.I.2.1));clear s1 h5;go_upto_region 34 with fail;generalize C.setCell ⟨gs,n*12+4,n_⟩ (i_ j_ 0)=D at*;clear m2 c f u;have HP:da (({q with L8:=q.L8.set n {x with pc:=0}}:af).pure={q.pure with L8:=ce x.id (λy=>{y with pc:=0}) q.pure.L8}):=g7 (nx:=q.next) HR.I.1.kW HR.I.2.1 rfl;exact ws
def zx (p:af)(bE:Int)(w:w_)(hf:p.Fit)(hs:∀x∈p.L8,x.dX)(h:af.At w p)(hr:aQ p.pure)(hn:p.next<=999999980)(eu:0<=bE/\bE<=1000000000):
  k_ J3 141 #[a_ p.cells,i_ j_ bE] w λe w'=>∃q:af,e=r_ (a_ q.cells)/\q.pure=mS bE p.pure/\ap w' w.heap.size q/\B_ w.heap.size w w':=by
 have b1:=dT w (c_ p.cells 46) (c_ ar 46);have h2:=cZ w (c_ p.cells 46) (c_ ar 46);have hA:af.At ((w.alloc (c_ p.cells 46)).alloc (c_ ar 46)) p:=h.below b1;have S:da (av ((w.alloc (c_ p.cells 46)).alloc (c_ ar 46)) w.heap.size p/\B_ w.heap.size w ((w.alloc (c_ p.cells 46)).alloc (c_ ar 46))/\((w.alloc (c_ p.cells 46)).alloc (c_ ar 46)).heap[w.heap.size+1]? =o_ (c_ ar 46)):=⟨h2.1,b1,h2.2⟩
 have HR:da (aQ p.pure/\p.next<=999999980/\(0<=bE/\bE<=1000000000)/\p.Fit/\(∀x∈p.L8,x.dX)):=⟨hr,hn,eu,hf,hs⟩
 have Mb:=fR p _ hf hs hA;clear h b1 h2 hA hr hn eu hf hs
 go_enter func141,ntmps141
 go_upto_region 1 with fail;generalize(w.alloc (c_ p.cells 46)).alloc (c_ ar 46)=A at*;go_wp2_with(refine eT _ S.I.1 ?_);refine Mb.mono ?_;clear Mb;rintro e af8 ⟨q,rfl,hown,gn,hb1⟩;have hsz:=(J2.1 S.I.2.2).1;replace S:da (B_ w.heap.size w af8/\af8.heap[w.heap.size+1]? =o_ (c_ ar 46)/\w.heap.size+1<A.heap.size/\A.heap.size<=af8.heap.size):=⟨S.I.2.1.trans (hb1.mono S.I.2.1.size),(hb1.block _ hsz).trans S.I.2.2,hsz,hb1.size⟩
 have Pv:∀x∈q.L8,x.prog.length<=1048576:=λx hx=>by
  have h5:x.toaD∈p.pure.L8:=by rw[<-gn];exact Lr.2 ⟨x,hx,rfl⟩
  obtain⟨y,hy,e⟩:=Lr.1 h5;have h6:=(HR.I.2.2.2.2 y hy).1;have h7:y.prog=x.prog:=congrArg aD.prog e;rw[<-h7];exact h6
 have Mb:=ti q bE A.heap.size af8 hown hb1.size (by rw[gn];exact af9.of HR.I.1 HR.I.2.1) Pv;rw[gn]at Mb;clear hsz hown gn hb1 Pv;go_wp2_with fail;refine Mb.mono ?_;clear Mb;rintro e A2 ⟨q2,rfl,hp2,DU,hb2⟩;have h5:=(Kp A2.heap.size A2).alloc (Ki _) (c_ q2.cells 46);replace S:da (B_ w.heap.size w A2/\A2.heap[w.heap.size+1]? =o_ (c_ ar 46)/\w.heap.size+1<A.heap.size/\ap A2 A.heap.size q2/\q2.pure=gj bE p.pure/\A.heap.size<=A2.heap.size):=⟨S.I.1.trans (hb2.mono ZeW),(hb2.block _ S.I.2.2.1).trans S.I.2.1,S.I.2.2.1,DU,hp2,LG S.I.2.2.2 hb2.size⟩
 clear hp2 DU hb2 h5;go_upto_region 2 with(refine ec _ _ q2.cells (Kj _ _) ?_);have lW:B_ A2.heap.size A2 ((A2.alloc (c_ ar 46)).setRow A2.heap.size q2.cells):=q_ ((Kp _ _).alloc (Ki _) _) (Ki _) _;replace S:da (B_ w.heap.size w ((A2.alloc (c_ ar 46)).setRow A2.heap.size q2.cells)/\((A2.alloc (c_ ar 46)).setRow A2.heap.size q2.cells).heap[w.heap.size+1]? =o_ (c_ ar 46)/\w.heap.size+1<A.heap.size/\ap ((A2.alloc (c_ ar 46)).setRow A2.heap.size q2.cells) A.heap.size q2/\q2.pure=gj bE p.pure/\av ((A2.alloc (c_ ar 46)).setRow A2.heap.size q2.cells) A2.heap.size q2/\A.heap.size<=A2.heap.size/\A2.heap.size<((A2.alloc (c_ ar 46)).setRow A2.heap.size q2.cells).heap.size/\(∀g∈q2.Mc,g<A2.heap.size)):=⟨S.I.1.trans (lW.mono S.I.1.size),(lW.block _ (by have:=S.I.2.2;omega)).trans S.I.2.1,S.I.2.2.1,S.I.2.2.2.1.below lW,S.I.2.2.2.2.1,KU _ _ _ _ _ _ (Kj _ _),S.I.2.2.2.2.2,zy,λg hg=>(S.I.2.2.2.1.lt g hg).2⟩
 clear lW;generalize(A2.alloc (c_ ar 46)).setRow A2.heap.size q2.cells=B at*;generalize A2.heap.size=X at*;have HW:=aA (ru (bE:=bE) HR.I.1 (by have h5:=HR.I.2.1;have e:p.pure.next=p.next:=rfl;omega));have HWR:da (aQ q2.pure):=by show aQ q2.pure;rw[S.I.2.2.2.2.1];exact HW.I.1
 have Mb:=ij q2 1 0 B (by have:=(dW HWR.I).1;omega) S.I.2.2.2.1.at;go_wp2_with(refine eT _ S.I.2.2.2.2.2.1 ?_);refine Mb.mono ?_;clear Mb;rintro e B2 ⟨⟨z,rfl,gV⟩,hb2⟩;replace S:da (B_ w.heap.size w B2/\B2.heap[w.heap.size+1]? =o_ (c_ ar 46)/\w.heap.size+1<A.heap.size/\ap B2 A.heap.size q2/\q2.pure=gj bE p.pure/\av B2 X q2/\A.heap.size<=X/\X<B2.heap.size/\(∀g∈q2.Mc,g<X)):=⟨S.I.1.trans (hb2.mono S.I.1.size),(hb2.block _ (by have:=S.I.2.2;omega)).trans S.I.2.1,S.I.2.2.1,S.I.2.2.2.1.below hb2,S.I.2.2.2.2.1,S.I.2.2.2.2.2.1.below hb2,S.I.2.2.2.2.2.2.1,by have:=hb2.size;have:=S.I.2.2.2.2.2.2.2.1;omega,S.I.2.2.2.2.2.2.2.2⟩
 clear hb2;rcases pp gV with⟨hz,hw⟩|⟨i,v,hz,hi,hw⟩
 .have afO:decide (z<0)=true:=decide_eq_true hz
  have HE:da (q2.pure=mS bE p.pure):=by show q2.pure=_;unfold mS;rw[<-S.I.2.2.2.2.1,hw]
  clear gV hz hw;go_wp2_with(first|(refine eT _ S.I.2.2.2.2.2.1 ?_)|(refine ec _ _ q2.cells S.I.2.1 ?_));refine gZ results141 S.I.2.1 ?_;exact⟨q2,rfl,HE.I,(S.I.2.2.2.1.lower ZeW).same λg hg=>KH _ _ _ _ (by have:=(S.I.2.2.2.1.lt g hg).1;have:=S.I.2.2.1;omega),q_ S.I.1 zw _⟩
 subst hz;have afO:decide ((i:Int)<0)=false:=decide_eq_false zw;have hm:=ft hw;have HE:da (lX bE v.toaD (opAt v.toaD) q2.pure=mS bE p.pure):=by show lX bE v.toaD (opAt v.toaD) q2.pure=_;unfold mS;rw[<-S.I.2.2.2.2.1,hw]
 have Mb:=G6 q2 i A.heap.size v bE B2 S.I.2.2.2.1 (by have:=S.I.2.2.2.2.2.2;omega) HWR.I hi hm.2.1 (by have h5:=HW.I.2.2;have h6:q2.next=(gj bE p.pure).next:=congrArg aE.next S.I.2.2.2.2.1;have h7:=HR.I.2.1;have e:p.pure.next=p.next:=rfl;omega) HR.I.2.2.1;rw[HE.I]at Mb;clear gV hi hw hm;go_wp2_with(refine eT _ S.I.2.2.2.2.2.1 ?_);refine Mb.mono ?_;clear Mb afO;rintro e B3 ⟨q3,rfl,wu,ht⟩;have S3:da (B_ w.heap.size w B3/\B3.heap[w.heap.size+1]? =o_ (c_ ar 46)/\ap B3 A.heap.size q3/\q3.pure=mS bE p.pure/\w.heap.size+1<A.heap.size):=by
  have hlt:=S.I.2.2.1;have hbb:=S.I.2.2.2.2.2.2;have hlo:∀g∈q2.Mc,A.heap.size<=g:=λg hg=>(S.I.2.2.2.1.lt g hg).1
  exact⟨S.I.1.trans ((ht.kept.below zw hlo).mono zw),(ht.kept.same _ zw (λhm=>by have:=hlo _ hm;omega)).trans S.I.2.1,ht.own,wu,hlt⟩
 clear wu ht S;go_wp2_with(refine ec _ _ q3.cells S3.I.2.1 ?_);refine gZ results141 S3.I.2.1 ?_;exact⟨q3,rfl,S3.I.2.2.2.1,(S3.I.2.2.1.lower (by have:=S3.I.2.2.2.2;omega)).same λg hg=>KH _ _ _ _ (by have:=(S3.I.2.2.1.lt g hg).1;have:=S3.I.2.2.2.2;omega),q_ S3.I.1 zw _⟩
end
section
def iR {p p':aE}:((cB p p').getD cN).Small:=by
 unfold cB
 split
 .rename_i h
  simp only[J7]at h;exact ta ((ch _).1 h.2)
 .exact hY
def Qy {p p':aE}{q:af}{M:Int}(h:q.pure=(cB p p').getD cN)(hm:0<=M/\p'.next<=M):0<=M/\q.next<=M:=by
 have e:q.next=((cB p p').getD cN).next:=congrArg aE.next h;refine⟨hm.1,?_⟩;rw[e];unfold cB
 split
 .exact hm.2
 .exact hm.1
def Si {p:aE}{q:af}{M id:Int}(h:q.pure=(kD p id).getD cN)(hm:0<=M/\p.next<=M):0<=M+1/\q.next<=M+1:=by
 have e:q.next=((kD p id).getD cN).next:=congrArg aE.next h;refine⟨zw,?_⟩;rw[e];unfold kD hU
 repeat' split
 .show p.next+1<=_
  omega
 all_goals show(0:Int)<=_;omega
def wZ {p:aE}{id:Int}(hp:p.Small):((kD p id).getD cN).Small:=by
 unfold kD;refine zJ hp λh y _ hy=>?_
 have h2:=IZ h;exact⟨hy.1,hy.2.1,hy.2.2.1,h2⟩
def ap.S6 {W:w_}{bj:Nat}{q:af}(h:ap W bj q)(id nx:Int):ap W bj {q with id:=id,next:=nx}:=⟨h.L8,h.aj,h.L9,h.ag,h.ae,h.ai,h.eI,h.eE,h.eR,h.nodup⟩
def EV {id:Int}(_h:cv id 1 6=true):(⟨id,1,[],n_,0,[],n_,0,[],n_,0,[],n_,0,[],n_,0,[],n_,0⟩:af).pure.Small:=⟨Ky _,Ky _,Ky _,Ky _,Ky _,Ky _,(λx hx=>Zcl),(λx hx=>Zcl),(λx hx=>Zcl),(λx hx=>Zcl),(λx hx=>Zcl),(λx hx=>Zcl)⟩
def vP:∀os:List dN,gO os=fk.flat os
 |[]=>rfl
 |o::os=>by
  show _=fk.vals o++fk.flat os
  rw[<-vP os];rfl
def gG.setRow {r X:Nat}{w W:w_}(h:gG r w W)(hX:w.heap.size<=X)(cs:Array v_):gG r w (W.setRow X cs):=
 ⟨h.os,h.tape,h.output,by simpa using h.size,λk h1 h2=>(KH _ _ _ _ zw).trans (h.block k h1 h2)⟩
structure S4 (M:Int)(r:Nat)(a:Option d_)(len cap:Nat)(w:w_)(X:Nat)(q:af)(W:w_):Prop where
 rd:Rd r a len cap W
 st:Rd r a len cap w
 but:gG r w W
 own:ap W (w.heap.size+1) q
 nin:X∉q.Mc
 small:q.pure.Small
 low:0<=M/\q.next<=M
 box:av W X q
 mK:W.heap[w.heap.size]? =o_ (c_ ar 46)
 hx:w.heap.size<X
section
variable {r len cap X:Nat}{a:Option d_}{w W W2:w_}{q q2:af}{M M2:Int}
def S4.drawn (h:S4 M r a len cap w X q W)(hb:gG r W W2)(hr:Rd r a len cap W2):S4 M r a len cap w X q W2:=by
 have hl:=h.st.lt;have hx:=h.hx;exact⟨hr,h.st,h.but.trans hb,h.own.same λg hg=>hb.block g (h.own.lt g hg).2 Zeg,h.nin,h.small,h.low,(hb.block _ (av.lt h.box) zw).trans h.box,(hb.block _ (J2.1 h.mK).1 zw).trans h.mK,hx⟩
def S4.up (h:S4 M r a len cap w X q W)(hm:M<=M2):S4 M2 r a len cap w X q W:=⟨h.rd,h.st,h.but,h.own,h.nin,h.small,⟨by have:=h.low;omega,by have:=h.low;omega⟩,h.box,h.mK,h.hx⟩
def S4.reads (h:S4 M r a len cap w X q W)(hb:B_ W.heap.size W W2):S4 M r a len cap w X q W2:=h.drawn (gG.dI hb) (h.rd.below hb)
def S4.put (h:S4 M r a len cap w X q W)(hb:B_ W.heap.size W W2)(ho:ap W2 W.heap.size q2)(hs:q2.pure.Small)(hn:0<=M2/\q2.next<=M2):S4 M2 r a len cap w X q2 (W2.setRow X q2.cells):=by
 have h1:=h.reads hb;have hx:=h.hx;have hl:=h.st.lt;have hXW:=av.lt h.box;have hrl:=h1.rd;refine⟨⟨?_,h.st.2.but (h1.but.setRow zw _)⟩,h.st,h1.but.setRow zw _,(ho.lower zw).same λg hg=>KH _ _ _ _ (by have:=(ho.lt g hg).1;omega),λhm=>by have:=(ho.lt X hm).1;omega,hs,hn,KU _ _ _ _ _ _ h1.box,(KH _ _ _ _ zw).trans h1.mK,hx⟩;obtain⟨p,hp,hc⟩:=hrl.1;exact⟨p,hp,(KH _ _ _ _ zw).trans hc⟩
def S4.first (hr:Rd r a len cap W)(st:Rd r a len cap w)(hb:gG r w W)(ho:ap W (w.heap.size+1) q)(hs:q.pure.Small)(hn:0<=M/\q.next<=M)(ha:W.heap[w.heap.size]? =o_ (c_ ar 46)):S4 M r a len cap w W.heap.size q ((W.alloc (c_ ar 46)).setRow W.heap.size q.cells):=by
 have hl:=(J2.1 ha).1;have h1:B_ W.heap.size W ((W.alloc (c_ ar 46)).setRow W.heap.size q.cells):=q_ ((Kp _ _).alloc (Ki _) _) (Ki _) _;exact⟨hr.below h1,st,hb.trans (gG.dI h1),ho.below h1,λhm=>by have:=(ho.lt _ hm).2;omega,hs,hn,KU _ _ _ _ _ _ (Kj _ _),(h1.block _ hl).trans ha,hl⟩
def S4.fin (h:S4 M r a len cap w X q W){cs:Array v_}:ap (W.setRow w.heap.size cs) w.heap.size q/\q.pure.Small/\q.next<=M/\gG r w (W.setRow w.heap.size cs)/\Rd r a len cap (W.setRow w.heap.size cs):=by
 have hx:=h.hx;have hl:=h.st.lt;refine⟨(h.own.lower zw).same λg hg=>KH _ _ _ _ Zeg,h.small,h.low.2,h.but.setRow (Ki _) _,?_,h.st.2.but (h.but.setRow (Ki _) _)⟩;obtain⟨p,hp,hc⟩:=h.rd.1;exact⟨p,hp,(KH _ _ _ _ zw).trans hc⟩
def S4.cell {x y:ao}{gs n j:Nat}{v:v_}(h:S4 M r a len cap w X q W)(hx:q.L8[n]? =o_ x)(ha:q.aN=o_ ⟨gs,0,n_⟩)(hy:y.prog=x.prog/\y.aY=x.aY/\y.bH=x.bH)(hj:j<12)(hv:bg.vals y=(bg.vals x).set j v)(hs:({q with L8:=q.L8.set n y}:af).pure.Small):
  S4 M r a len cap w X ({q with L8:=q.L8.set n y}:af) (W.setCell ⟨gs,n*12+j,n_⟩ v)/\(∃u,W.cell? ⟨gs,n*12+j,n_⟩=o_ u)/\W.frozen? ⟨gs,n*12+j,n_⟩=false:=by
 obtain⟨s1,h2⟩:=eY h.own hx ha hy hj hv;have hg:gs∈q.Mc:=tN ha;have hgl:=h.own.lt gs hg;have hl:=h.st.lt;have hb:gG r w (W.setCell ⟨gs,n*12+j,n_⟩ v):=⟨h.but.os,h.but.tape,h.but.output,by rw[ja];exact h.but.size,λk h5 h6=>(aH zw).trans (h.but.block k h5 h6)⟩
 have hne:X≠gs:=λe=>h.nin (e▸hg)
 have hbl:({q with L8:=q.L8.set n y}:af).Mc=q.Mc:=nT (nx:=q.next) hx hy.2.1;refine⟨⟨⟨?_,h.st.2.but hb⟩,h.st,hb,s1.own,by rw[hbl];exact h.nin,hs,h.low,?_,(aH zw).trans h.mK,h.hx⟩,h2⟩
 .obtain ⟨p,hp,hc⟩:=h.rd.1
  exact⟨p,hp,(aH zw).trans hc⟩
 .have h5:=(aH (i:=n*12+j) (v:=v) hne).trans h.box
  unfold av at h5⊢;simpa only[LI]using h5
end
end
section
open Go.Maps
attribute [local go_sem ↓] Kc Kd
def FL (r:Nat)(a:Option d_)(len cap:Nat)(id:Int)(w:w_)(hl:len<=1048576)(hid:cv id 1 6=true)(h:Rd r a len cap w):
  k_ J3 57 #[p_ (o_ ⟨r,0,n_⟩),i_ j_ id] w λe w'=>∃q:af,e=r_ (a_ q.cells)/\ap w' w.heap.size q/\q.pure.Small/\q.next<=4/\gG r w w'/\Rd r a len cap w':=by
 have Mb:=tJ id (w.alloc (c_ ar 46));simp only[hid,if_true,mn]at Mb;have h5:=(Kp w.heap.size w).alloc (Ki _) (c_ ar 46);have S:da (Rd r a len cap w/\B_ w.heap.size w (w.alloc (c_ ar 46))/\(w.alloc (c_ ar 46)).heap[w.heap.size]? =o_ (c_ ar 46)/\w.heap.size<(w.alloc (c_ ar 46)).heap.size):=⟨h,h5,Kj _ _,zy⟩
 clear h h5
 go_enter func57,ntmps57
 go_upto_region 1 with fail;generalize w.alloc (c_ ar 46)=A at*;go_wp2_with fail;refine Mb.mono ?_;clear Mb;rintro e A2 ⟨rfl,hb⟩;have hba:=(Kp A2.heap.size A2).alloc (Ki _) (c_ #[i_ j_ id,i_ j_ 1,s_ n_ 0 0,s_ n_ 0 0,s_ n_ 0 0,s_ n_ 0 0,s_ n_ 0 0,s_ n_ 0 0] 46);have HD:da (S4 1 r a len cap w A2.heap.size (⟨id,1,[],n_,0,[],n_,0,[],n_,0,[],n_,0,[],n_,0,[],n_,0⟩:af) (A2.alloc (c_ #[i_ j_ id,i_ j_ 1,s_ n_ 0 0,s_ n_ 0 0,s_ n_ 0 0,s_ n_ 0 0,s_ n_ 0 0,s_ n_ 0 0] 46))):=by
  have hs:=hb.size;have h6:=S.I.2.1.trans ((hb.trans (hba.mono hs)).mono S.I.2.1.size);exact⟨S.I.1.below h6,S.I.1,gG.dI h6,(Ai (A2.alloc (c_ #[i_ j_ id,i_ j_ 1,s_ n_ 0 0,s_ n_ 0 0,s_ n_ 0 0,s_ n_ 0 0,s_ n_ 0 0,s_ n_ 0 0] 46)) _).S6 id 1,by simp[af.Mc,blk],EV hid,⟨by decide,(by decide:(1:Int)<=1)⟩,Kj _ _,((hb.trans (hba.mono hs)).block _ S.I.2.2.2).trans S.I.2.2.1,by have:=S.I.2.2.2;omega⟩
 clear hba hb S;go_upto_region 2 with fail;generalize A2.alloc (c_ #[i_ j_ id,i_ j_ 1,s_ n_ 0 0,s_ n_ 0 0,s_ n_ 0 0,s_ n_ 0 0,s_ n_ 0 0,s_ n_ 0 0] 46)=B at*;generalize A2.heap.size=X at*;generalize nu:(⟨id,1,[],n_,0,[],n_,0,[],n_,0,[],n_,0,[],n_,0,[],n_,0⟩:af)=q0 at*;clear nu hid;go_wp2_with fail
 go_loopw[7] (λi wr=>∃(k:Int)(q:af),i=i_ j_ k/\1<=k/\k<=3/\da (S4 1 r a len cap w X q wr)) (λi _=>(3-Go.RowKit.intOf i).toNat)
 case atStart=>exact⟨1,q0,rfl,zw,zw,HD⟩
 case round=>
  clear HD;obtain⟨k,q,rfl,k0,k1,HD⟩:=hrel;have hwf:=pT (n:=k) zw zw;have hwf2:=pT (n:=k+2) zw zw;by_cases hk:k<=2
  .skip
   go_upto_region 5 with fail
   go_cut []from 18 to 30 (λwx=>∃q2:af,da (S4 1 r a len cap w X q2 wx))
   case first=>
    replace HD:=aA (HD.I.reads (Kp _ _).drew);refine Kr (S:=λ_=>True) ZbG trivial (λ_=>?_);generalize World.drew _=V at*;refine tt 1 trivial ?_;refine tt 2 trivial ?_;refine tt 4 trivial ?_;refine KW (rs:=[0,3]) ZbG zy ?_;refine KX rfl (λK hK=>?_) (KX rfl (λK hK=>?_) KY)
    focus
     simp only[KZ,K0];rw[if_pos (by rfl)];refine LX 46 (.tmp 5) rfl X rfl 46 q.cells (0,0) _ HD.I.box underlying46 rfl ZbG ?_;refine hK.out _ _ trivial (λ_=>?_);clear hK K
     try simp only[pt,sb,s0,s1]
     refine L7 3 (λK hK=>?_);go_wp2_with fail;refine(dh r a len cap 2 _ hl zw zw HD.I.rd).mono ?_;rintro e W1 ⟨u,an3,ub,rfl,hb1,hr1⟩;replace HD:=aA (HD.I.drawn hb1 hr1);clear hb1 hr1;refine hK.out _ _ trivial (λ_=>?_);clear hK K
     try simp only[pt,sb,s0,s1]
     refine L7 5 (λK hK=>?_);go_wp2_with fail;refine(dh r a len cap 2 _ hl zw zw HD.I.rd).mono ?_;rintro e W2 ⟨v,va,vb,rfl,hb1,hr1⟩;replace HD:=aA (HD.I.drawn hb1 hr1);clear hb1 hr1;refine hK.out _ _ trivial (λ_=>?_);clear hK K
     try simp only[pt,sb,s0,s1]
     refine tt 6 trivial ?_;refine tt 7 trivial ?_
    rotate_left
    focus
     simp only[KZ,K0,K1];rw[if_pos (by rfl)];go_wp2_with fail;refine(dh r a len cap 2 _ hl zw zw HD.I.rd).mono ?_;rintro e W1 ⟨u,an3,ub,rfl,hb1,hr1⟩;replace HD:=aA (HD.I.drawn hb1 hr1);clear hb1 hr1;refine hK.out _ _ trivial (λ_=>?_);clear hK K
     try simp only[pt,sb,s0,s1]
     refine KW (rs:=[0,5]) ZbG zy ?_;refine KX rfl (λK hK=>?_) (KX rfl (λK hK=>?_) KY)
     focus
      simp only[KZ,K0];rw[if_pos (by rfl)];refine LX 46 (.tmp 5) rfl X rfl 46 q.cells (0,0) _ HD.I.box underlying46 rfl ZbG ?_;refine hK.out _ _ trivial (λ_=>?_);clear hK K
      try simp only[pt,sb,s0,s1]
      refine L7 5 (λK hK=>?_);go_wp2_with fail;refine(dh r a len cap 2 _ hl zw zw HD.I.rd).mono ?_;rintro e W2 ⟨v,va,vb,rfl,hb1,hr1⟩;replace HD:=aA (HD.I.drawn hb1 hr1);clear hb1 hr1;refine hK.out _ _ trivial (λ_=>?_);clear hK K
      try simp only[pt,sb,s0,s1]
      refine tt 6 trivial ?_;refine tt 7 trivial ?_
     rotate_left
     focus
      simp only[KZ,K0,K1];rw[if_pos (by rfl)];go_wp2_with fail;refine(dh r a len cap 2 _ hl zw zw HD.I.rd).mono ?_;rintro e W2 ⟨v,va,vb,rfl,hb1,hr1⟩;replace HD:=aA (HD.I.drawn hb1 hr1);clear hb1 hr1;refine hK.out _ _ trivial (λ_=>?_);clear hK K
      try simp only[pt,sb,s0,s1]
      refine tt 6 trivial ?_;refine tt 7 trivial ?_;refine L7 0 (λK hK=>?_);refine LX 46 (.tmp 5) rfl X rfl 46 q.cells (0,0) _ HD.I.box underlying46 rfl ZbG ?_;refine hK.out _ _ trivial (λ_=>?_);clear hK K
      try simp only[pt,sb,s0,s1]
    all_goals
     refine L7 8 (λK hK=>?_);go_wp2_with fail;refine(tF q ⟨k,u,_⟩ W2 (w.heap.size+1) hwf HD.I.small HD.I.own).mono ?_;rintro e el ⟨q2,rfl,ho,hp,hb⟩;have HB:=aA ((HD.I.reads hb).box);replace HD:=aA (HD.I.put hb ho Zdb (Qy hp HD.I.low));clear hb ho hp;refine hK.out _ _ trivial (λ_=>?_);clear hK K;refine tt 9 trivial ?_;refine tt 10 trivial ?_;refine tt 11 trivial ?_;refine L7 12 (λK hK=>?_);refine LY 46 (.tmp 5) (.tmp 28) rfl X q2.cells rfl rfl _ _ HB.I ZbG rfl ZbG ?_;refine hK.out _ _ trivial (λ_=>?_);clear hK K;refine K3 ZbG ?_ _;clear HB;go_wp2_with fail;go_meet;exact⟨q2,HD⟩
   case rest=>
    clear HD;obtain⟨ajQ,qP⟩:∃ajQ:af,ajQ=q:=⟨_,rfl⟩
    subst qP;obtain⟨q,HD⟩:=hcut;have Mb:=rz q k _ (w.heap.size+1) hwf HD.I.small HD.I.own;go_wp2_with(refine eT _ HD.I.box ?_);refine Mb.mono ?_;clear Mb;rintro e Wb1 ⟨q2,rfl,ho,hp,hb⟩;have HB:=aA ((HD.I.reads hb).box);replace HD:=aA (HD.I.put hb ho Zdb (Qy hp HD.I.low));clear hb ho hp;go_upto_region 7 with(refine ec _ _ q2.cells HB.I ?_);generalize Wb1.setRow X q2.cells=Wc1 at*;clear HB;obtain⟨ajQ,qP⟩:∃ajQ:af,ajQ=q:=⟨_,rfl⟩
    subst qP;obtain⟨q,qP⟩:∃q:af,q=q2:=⟨_,rfl⟩
    subst qP;have Mb:=ra q k _ (w.heap.size+1) hwf HD.I.small HD.I.own;go_wp2_with(refine eT _ HD.I.box ?_);refine Mb.mono ?_;clear Mb;rintro e Wb2 ⟨q2,rfl,ho,hp,hb⟩;have HB:=aA ((HD.I.reads hb).box);replace HD:=aA (HD.I.put hb ho Zdb (Qy hp HD.I.low));clear hb ho hp;go_upto_region 8 with(refine ec _ _ q2.cells HB.I ?_);generalize Wb2.setRow X q2.cells=Wc2 at*;clear HB;obtain⟨ajQ,qP⟩:∃ajQ:af,ajQ=q:=⟨_,rfl⟩
    subst qP;obtain⟨q,qP⟩:∃q:af,q=q2:=⟨_,rfl⟩
    subst qP;go_upto_region 8 with fail;simp only[aaH]
    go_cut []from 42 to 51 (λwx=>∃q2:af,da (S4 1 r a len cap w X q2 wx))
    case first=>
     replace HD:=aA (HD.I.reads (Kp _ _).drew);refine Kr (S:=λ_=>True) ZbG trivial (λ_=>?_);generalize World.drew _=V at*;refine tt 1 trivial ?_;refine tt 2 trivial ?_;refine KW (rs:=[0,3]) ZbG zy ?_;refine KX rfl (λK hK=>?_) (KX rfl (λK hK=>?_) KY)
     focus
      simp only[KZ,K0];rw[if_pos (by rfl)];refine LX 46 (.tmp 5) rfl X rfl 46 q.cells (0,0) _ HD.I.box underlying46 rfl ZbG ?_;refine hK.out _ _ trivial (λ_=>?_);clear hK K
      try simp only[pt,sb,s0,s1]
      refine L7 3 (λK hK=>?_);go_wp2_with fail;refine(dh r a len cap 2 _ hl zw zw HD.I.rd).mono ?_;rintro e W2 ⟨u,an3,ub,rfl,hb1,hr1⟩;replace HD:=aA (HD.I.drawn hb1 hr1);clear hb1 hr1;refine hK.out _ _ trivial (λ_=>?_);clear hK K
      try simp only[pt,sb,s0,s1]
      refine tt 4 trivial ?_
     rotate_left
     focus
      simp only[KZ,K0,K1];rw[if_pos (by rfl)];go_wp2_with fail;refine(dh r a len cap 2 _ hl zw zw HD.I.rd).mono ?_;rintro e W2 ⟨u,an3,ub,rfl,hb1,hr1⟩;replace HD:=aA (HD.I.drawn hb1 hr1);clear hb1 hr1;refine hK.out _ _ trivial (λ_=>?_);clear hK K
      try simp only[pt,sb,s0,s1]
      refine tt 4 trivial ?_;refine L7 0 (λK hK=>?_);refine LX 46 (.tmp 5) rfl X rfl 46 q.cells (0,0) _ HD.I.box underlying46 rfl ZbG ?_;refine hK.out _ _ trivial (λ_=>?_);clear hK K
      try simp only[pt,sb,s0,s1]
     all_goals
      refine L7 5 (λK hK=>?_);go_wp2_with fail;refine(qh q k _ W2 (w.heap.size+1) hwf HD.I.small HD.I.own).mono ?_;rintro e el ⟨q2,rfl,ho,hp,hb⟩;have HB:=aA ((HD.I.reads hb).box);replace HD:=aA (HD.I.put hb ho Zdb (Qy hp HD.I.low));clear hb ho hp;refine hK.out _ _ trivial (λ_=>?_);clear hK K;refine tt 6 trivial ?_;refine tt 7 trivial ?_;refine tt 8 trivial ?_;refine L7 9 (λK hK=>?_);refine LY 46 (.tmp 5) (.tmp 49) rfl X q2.cells rfl rfl _ _ HB.I ZbG rfl ZbG ?_;refine hK.out _ _ trivial (λ_=>?_);clear hK K;refine K3 ZbG ?_ _;clear HB;go_wp2_with fail;go_meet;exact⟨q2,HD⟩
    case rest=>
     clear HD;obtain⟨ajQ,qP⟩:∃ajQ:af,ajQ=q:=⟨_,rfl⟩
     subst qP;obtain⟨q,HD⟩:=hcut;have Mb:=nd q ⟨⟨k,k==1,true,2,[]⟩,n_,0⟩ _ (w.heap.size+1) hwf HD.I.small HD.I.own;go_wp2_with(refine eT _ HD.I.box ?_);refine Mb.mono ?_;clear Mb;rintro e Wb3 ⟨q2,rfl,ho,hp,hb⟩;have HB:=aA ((HD.I.reads hb).box);replace HD:=aA (HD.I.put hb ho Zdb (Qy hp HD.I.low));clear hb ho hp;go_upto_region 10 with(refine ec _ _ q2.cells HB.I ?_);generalize Wb3.setRow X q2.cells=Wc3 at*;clear HB;obtain⟨ajQ,qP⟩:∃ajQ:af,ajQ=q:=⟨_,rfl⟩
     subst qP;obtain⟨q,qP⟩:∃q:af,q=q2:=⟨_,rfl⟩
     subst qP;have e2:IntKind.wrap j_ (k+2)=k+2:=Zca
     have Mb:=nd q ⟨⟨k+2,k==1,false,1,[]⟩,n_,0⟩ _ (w.heap.size+1) hwf2 HD.I.small HD.I.own;go_wp2_with(refine eT _ HD.I.box ?_);refine Mb.mono ?_;clear Mb;rintro e Wb4 ⟨q2,rfl,ho,hp,hb⟩;have HB:=aA ((HD.I.reads hb).box);replace HD:=aA (HD.I.put hb ho Zdb (Qy hp HD.I.low));clear hb ho hp;go_upto_region 4 with(refine ec _ _ q2.cells HB.I ?_);generalize Wb4.setRow X q2.cells=Wc4 at*;clear HB;obtain⟨ajQ,qP⟩:∃ajQ:af,ajQ=q:=⟨_,rfl⟩
     subst qP;obtain⟨q,qP⟩:∃q:af,q=q2:=⟨_,rfl⟩
     subst qP;have e3:IntKind.wrap j_ (k+1)=k+1:=Zca
     go_wp2_with fail;go_roundw
     case rel=>exact⟨k+1,q,rfl,zw,zw,HD⟩
     case measure=>exact ZbL
  clear hwf hwf2;go_wp2_with fail;refine(dh r a len cap 3 _ hl zw zw HD.I.rd).mono ?_;rintro e W1 ⟨u,an3,ub,rfl,hb1,hr1⟩;replace HD:=aA (HD.I.drawn hb1 hr1);clear hb1 hr1;have e1:IntKind.wrap j_ (1+u)=1+u:=Zca
  go_wp2_with fail
  go_loopw[8] (λi wr=>∃(k:Int)(q:af),i=i_ j_ k/\0<=k/\k<=3/\da (S4 (4-k) r a len cap w X q wr)) (λi _=>(Go.RowKit.intOf i).toNat)
  case atStart=>exact⟨1+u,q,rfl,zw,zw,aA (HD.I.up zw)⟩
  case round=>
   clear HD;obtain⟨ajQ,qP⟩:∃ajQ:af,ajQ=q:=⟨_,rfl⟩
   subst qP;obtain⟨u7,hko⟩:∃u7:Int,u7=k:=⟨_,rfl⟩
   subst hko;obtain⟨k,q,rfl,u5,kt,HD⟩:=hrel;have hwf:=pT (n:=k) zw zw;by_cases hk2:0<k
   .skip
    go_upto_region 14 with fail
    go_cut []from 77 to 88 (λwx=>∃q2:af,da (S4 (4-k) r a len cap w X q2 wx))
    case first=>
     replace HD:=aA (HD.I.reads (Kp _ _).drew);refine Kr (S:=λ_=>True) ZbG trivial (λ_=>?_);generalize World.drew _=V at*;refine tt 1 trivial ?_;refine tt 2 trivial ?_;refine tt 5 trivial ?_;refine KW (rs:=[0,3]) ZbG zy ?_;refine KX rfl (λK hK=>?_) (KX rfl (λK hK=>?_) KY)
     focus
      simp only[KZ,K0];rw[if_pos (by rfl)];refine LX 46 (.tmp 5) rfl X rfl 46 q.cells (0,0) _ HD.I.box underlying46 rfl ZbG ?_;refine hK.out _ _ trivial (λ_=>?_);clear hK K
      try simp only[pt,sb,s0,s1]
      refine L7 3 (λK hK=>?_);go_wp2_with fail;refine(dh r a len cap 3 _ hl zw zw HD.I.rd).mono ?_;rintro e W3 ⟨v,va,vb,rfl,hb1,hr1⟩;replace HD:=aA (HD.I.drawn hb1 hr1);clear hb1 hr1;refine hK.out _ _ trivial (λ_=>?_);clear hK K
      try simp only[pt,sb,s0,s1]
      refine tt 4 trivial ?_;refine L7 6 (λK hK=>?_);go_wp2_with fail;refine(uz r a len cap _ hl HD.I.rd).mono ?_;rintro e W2 ⟨g,c,os,rfl,hos,hpg⟩;have HPG:=aA (And.intro hos hpg);replace HD:=aA (HD.I.drawn hpg.but hpg.rd);clear hos hpg;refine hK.out _ _ trivial (λ_=>?_);clear hK K
      try simp only[pt,sb,s0,s1]
     rotate_left
     focus
      simp only[KZ,K0,K1];rw[if_pos (by rfl)];go_wp2_with fail;refine(dh r a len cap 3 _ hl zw zw HD.I.rd).mono ?_;rintro e W3 ⟨v,va,vb,rfl,hb1,hr1⟩;replace HD:=aA (HD.I.drawn hb1 hr1);clear hb1 hr1;refine hK.out _ _ trivial (λ_=>?_);clear hK K
      try simp only[pt,sb,s0,s1]
      refine tt 4 trivial ?_;refine KW (rs:=[0,6]) ZbG zy ?_;refine KX rfl (λK hK=>?_) (KX rfl (λK hK=>?_) KY)
      focus
       simp only[KZ,K0];rw[if_pos (by rfl)];refine LX 46 (.tmp 5) rfl X rfl 46 q.cells (0,0) _ HD.I.box underlying46 rfl ZbG ?_;refine hK.out _ _ trivial (λ_=>?_);clear hK K
       try simp only[pt,sb,s0,s1]
       refine L7 6 (λK hK=>?_);go_wp2_with fail;refine(uz r a len cap _ hl HD.I.rd).mono ?_;rintro e W2 ⟨g,c,os,rfl,hos,hpg⟩;have HPG:=aA (And.intro hos hpg);replace HD:=aA (HD.I.drawn hpg.but hpg.rd);clear hos hpg;refine hK.out _ _ trivial (λ_=>?_);clear hK K
       try simp only[pt,sb,s0,s1]
      rotate_left
      focus
       simp only[KZ,K0,K1];rw[if_pos (by rfl)];go_wp2_with fail;refine(uz r a len cap _ hl HD.I.rd).mono ?_;rintro e W2 ⟨g,c,os,rfl,hos,hpg⟩;have HPG:=aA (And.intro hos hpg);replace HD:=aA (HD.I.drawn hpg.but hpg.rd);clear hos hpg;refine hK.out _ _ trivial (λ_=>?_);clear hK K
       try simp only[pt,sb,s0,s1]
       refine L7 0 (λK hK=>?_);refine LX 46 (.tmp 5) rfl X rfl 46 q.cells (0,0) _ HD.I.box underlying46 rfl ZbG ?_;refine hK.out _ _ trivial (λ_=>?_);clear hK K
       try simp only[pt,sb,s0,s1]
     all_goals
      refine L7 7 (λK hK=>?_);go_wp2_with fail;refine(sB q k _ (o_ ⟨g,0,n_⟩) os c W2 (w.heap.size+1) hwf ⟨by have:=HPG.I.1;omega,λo ho=>by have:=HPG.I.2.sz o ho;omega⟩ (by rw[<-vP];exact nP HPG.I.2.own) HD.I.small HD.I.own).mono ?_;rintro e el ⟨q2,rfl,ho,hp,hb⟩;have HB:=aA ((HD.I.reads hb).box);replace HD:=aA (HD.I.put hb ho Zdb (Qy hp HD.I.low));clear hb ho hp;refine hK.out _ _ trivial (λ_=>?_);clear hK K;refine tt 8 trivial ?_;refine tt 9 trivial ?_;refine tt 10 trivial ?_;refine L7 11 (λK hK=>?_);refine LY 46 (.tmp 5) (.tmp 86) rfl X q2.cells rfl rfl _ _ HB.I ZbG rfl ZbG ?_;refine hK.out _ _ trivial (λ_=>?_);clear hK K;refine K3 ZbG ?_ _;clear HB;go_wp2_with fail;go_meet;exact⟨q2,HD⟩
    case rest=>
     clear HD;obtain⟨ajQ,qP⟩:∃ajQ:af,ajQ=q:=⟨_,rfl⟩
     subst qP;obtain⟨q,HD⟩:=hcut;go_wp2_with fail;refine(jt r a len cap 3 _ hl zw zw HD.I.rd).mono ?_;rintro e W4 ⟨b,rfl,hb1,hr1⟩;replace HD:=aA (HD.I.drawn hb1 hr1);clear hb1 hr1;have e3:IntKind.wrap j_ (k-1)=k-1:=Zca
     cases b
     .skip
      have Mb:=tK q k W4 (dV HD.I.small) (λx hx=>(cY HD.I.small hx).1) HD.I.own.at;go_wp2_with(refine eT _ HD.I.box ?_);refine Mb.mono ?_;clear Mb;rintro e Wb5 ⟨q2,rfl,ho,hp,hb⟩;have HB:=aA ((HD.I.reads hb).box);replace HD:=aA (HD.I.put hb ho (by rw[hp];exact wZ HD.I.small) (Si hp HD.I.low));clear hb ho hp;go_upto_region 13 with(refine ec _ _ q2.cells HB.I ?_);generalize Wb5.setRow X q2.cells=Wc5 at*;clear HB;obtain⟨ajQ,qP⟩:∃ajQ:af,ajQ=q:=⟨_,rfl⟩
      subst qP;obtain⟨q,qP⟩:∃q:af,q=q2:=⟨_,rfl⟩
      subst qP;go_wp2_with fail;exact ZaF
     .go_wp2_with fail
      exact ZaF
   go_wp2_with(first|(refine eT _ HD.I.box ?_)|(refine ec _ _ q.cells HD.I.mK ?_));refine gZ results57 HD.I.mK ?_;exact⟨q,rfl,(HD.I.up zw).fin⟩
def aoD (w:w_)(r:Option kd)(e:Ending)(w':w_):Prop:=∃q:eA,e=r_ (u_ #[a_ q.row,b_ r.isSome])/\gp w' w.heap.size q/\q.pure=r.getD ZG/\B_ w.heap.size w w'/\(r.isSome=true->∃g,q.vb=o_ ⟨g,0,n_⟩/\g<w'.heap.size)
def aoc {w w':w_}{r:Option kd}(h:r=n_)(hb:B_ w.heap.size w w'):aoD w r (r_ (u_ #[a_ T9,b_ false])) w':=by
 subst h;obtain⟨q,e,ho,hp,hb2⟩:=Zv (r:=n_) rfl hb;exact⟨q,e,ho,hp,hb2,λh=>ZcF⟩
def stamped (k:eA)(t:Int):eA:={k with bE:=t}
def gp.stamp {w:w_}{bj:Nat}{k:eA}(h:gp w bj k)(t:Int):gp w bj (stamped k t):=⟨h.fn,h.parts,h.eC,h.mine,h.nodup⟩
def ao4 {k:kd}{p:aE}{n:Nat}{id bE:Int}(hx:k.parts[n]? =o_ p)(hi:p.id=id)(hf:∀y∈k.parts.take n,¬y.id=id):(k.put n (mS bE p)).parts=aok id bE k.parts:=
 (acp hx (decide_eq_true hi) λy hy=>decide_eq_false (hf y hy)).symm
def aoM (k:eA)(g:Nat)(w:w_)(hs:k.pure.Small)(hk:eP k.pure=true)(hg:k.vb=o_ ⟨g,0,n_⟩/\g<w.heap.size)(h:eA.At w k):
  k_ J3 95 #[a_ k.row] w λe w'=>aoD w (aog k.pure) e w':=by
 have S:=aA (KZK.first h);have HF:=aA (And.intro hs (And.intro hk hg));have HA:=aA h;clear hs hk hg h
 go_enter func95,ntmps95
 go_upto_region 1 with fail;generalize(w.alloc (c_ k.row 30)).alloc (c_ T9 30)=W0 at*;obtain⟨m0,m1,m2,m3,m4⟩:=S.I.ks.box.cells;have Mb:=aaz k W0 (Ug HF.I.1) S.I.ks.MT;go_wp2_with fail;clear m0 m1 m2 m3 m4;refine Mb.mono ?_;clear Mb;rintro e W4 ⟨k4,g4,rfl,ho4,hp4,hg4,hb4⟩;have hb:B_ W0.heap.size W0 (W4.alloc (c_ k4.row 30)):=hb4.alloc hb4.size _;have HO:da (gp (W4.alloc (c_ k4.row 30)) W0.heap.size k4/\Tk (W4.alloc (c_ k4.row 30)) W4.heap.size k4/\W4.heap.size∉k4.Mc/\W0.heap.size<=W4.heap.size/\g4<W4.heap.size):=⟨ho4.below ((Kp _ _).alloc (Ki _) _),Kj _ _,λhm=>by have:=(ho4.lt hm).2;omega,hb4.size,hg4.2⟩
 have HP:da (k4.pure=k.pure/\k4.vb=o_ ⟨g4,0,n_⟩):=⟨hp4,hg4.1⟩
 have HR:da (w.heap.size+1<W0.heap.size):=(J2.1 S.I.I).1;replace S:=aA (S.I.below hb);clear ho4 hp4 hg4 hb4 hb;go_upto_region 2 with fail;generalize W4.alloc (c_ k4.row 30)=W5 at*;generalize W4.heap.size=X at*;obtain⟨f1,f2,f3,f4⟩:=apc (show nn k.major k.fn.length (sz k.fn)=true by have h5:=HF.I.2.1;simp only[eP,J7]at h5;exact h5.1.1.1.1.2);have eu:=aob HF.I.2.1;have hgl:g<W5.heap.size:=by have:=S.I.ks.low.size;have:=HF.I.2.2.2;omega
 have Mb:=aoZ k.major k.bE g k.fn.length k.Te (sz k.fn) W5 f3 f1 f2 f4 eu.1 ZfF (Uq hgl (by have h5:=S.I.ks.MT.fn;rw[HF.I.2.2.1]at h5;exact h5));obtain⟨m0,m1,m2,m3,m4⟩:=S.I.ks.box.cells;rw[HF.I.2.2.1]at m2;go_wp2_with fail;clear m0 m1 m2 m3 m4 f1 f2 f3 f4 eu hgl;refine Mb.mono ?_;clear Mb;rintro e W6 ⟨rfl,jQ⟩;have hxl:=(J2.1 HO.I.2.1).1;replace HO:da (gp W6 W0.heap.size k4/\Tk W6 X k4/\X∉k4.Mc/\W0.heap.size<=X/\g4<X/\X<W6.heap.size):=⟨HO.I.1.below jQ,(jQ.block _ hxl).trans HO.I.2.1,HO.I.2.2.1,HO.I.2.2.2.1,HO.I.2.2.2.2,by have:=jQ.size;omega⟩
 replace S:=aA (S.I.below jQ);clear jQ hxl
 -- the place of the owner's partition
 obtain⟨m0,m1,m2,m3,m4⟩:=S.I.ks.box.cells;have Mb:=Ua k (aof k.pure) W6 (Ug HF.I.1).sC S.I.ks.MT;rw[show an5 (sz k.fn) k.fn.length (k.bE%k.major)=aof k.pure from rfl];go_wp2_with fail;clear m0 m1 m2 m3 m4;refine Mb.mono ?_;clear Mb;rintro e an1 ⟨rfl,gh⟩;replace HO:da (gp an1 W0.heap.size k4/\Tk an1 X k4/\X∉k4.Mc/\W0.heap.size<=X/\g4<X/\X<an1.heap.size):=⟨HO.I.1.below gh,(gh.block _ HO.I.2.2.2.2.2).trans HO.I.2.1,HO.I.2.2.1,HO.I.2.2.2.1,HO.I.2.2.2.2.1,by have:=gh.size;have:=HO.I.2.2.2.2.2;omega⟩
 replace S:=aA (S.I.below gh);clear gh;have e3:IntKind.wrap j_ (k.bE+1)=k.bE+1:=by have h5:=aob HF.I.2.1;rw[K8];have:0<=k.bE/\k.bE<=500000000:=h5;omega
 obtain⟨m0,m1,m2,m3,m4⟩:=S.I.ks.box.cells;obtain⟨x0,x1,x2,x3,x4⟩:=HO.I.2.1.cells;have z0:an1.frozen? ⟨X,0,n_⟩=false:=Ko _ _ _ _ _ HO.I.2.1;go_upto_region 5 with fail;clear m0 m1 m2 m3 m4 x0 x1 x2 x3 x4 z0;have HO8:da (gp (an1.setCell ⟨X,0,n_⟩ (i_ j_ (k.bE+1))) W0.heap.size (stamped k4 (k.bE+1))/\Tk (an1.setCell ⟨X,0,n_⟩ (i_ j_ (k.bE+1))) X (stamped k4 (k.bE+1))/\X∉(stamped k4 (k.bE+1)).Mc/\W0.heap.size<=X/\g4<X/\X<(an1.setCell ⟨X,0,n_⟩ (i_ j_ (k.bE+1))).heap.size):=by
  refine⟨((HO.I.1.same (w':=an1.setCell ⟨X,0,n_⟩ (i_ j_ (k.bE+1))) λb hb=>K6 an1 _ _ b (by show¬b=X;rintro rfl;exact HO.I.2.2.1 hb))).stamp _,?_,HO.I.2.2.1,HO.I.2.2.2.1,HO.I.2.2.2.2.1,by simpa using HO.I.2.2.2.2.2⟩;exact K7 an1 X 0 k4.row _ _ HO.I.2.1
 replace HP:da ((stamped k4 (k.bE+1)).pure={k.pure with bE:=k.bE+1}/\(stamped k4 (k.bE+1)).vb=o_ ⟨g4,0,n_⟩):=⟨by rw[<-HP.I.1];rfl,HP.I.2⟩
 replace S:da (KZK w k (an1.setCell ⟨X,0,n_⟩ (i_ j_ (k.bE+1)))):=by
  have h1:=HR.I;have h2:=HO.I.2.2.2.1;exact⟨⟨(K6 an1 _ _ _ (by show¬w.heap.size=X;omega)).trans S.I.ks.box,HA.I.below (S.I.ks.low.setCell (by show w.heap.size<=X;omega) _),S.I.ks.low.setCell (by show w.heap.size<=X;omega) _⟩,(K6 an1 _ _ _ (by show¬w.heap.size+1=X;omega)).trans S.I.I⟩
 clear HO;generalize an1.setCell ⟨X,0,n_⟩ (i_ j_ (k.bE+1))=W8 at*;generalize stamped k4 (k.bE+1)=k5 at*;rcases ua (num:=λp:af=>p.id) (aof k.pure) k.parts 0 with⟨h1,h2⟩|⟨n,x,h1,hx,hxi,h2⟩
 .have HN:da (aog k.pure=o_ {k.pure with bE:=k.bE+1}):=by
   show aog k.pure=_
   unfold aog;rw[show hP (λp:aE=>p.id) (aof k.pure) k.pure.parts=n_ by show hP (λp:aE=>p.id) (aof k.pure) (k.parts.map (·.pure))=n_;rw[WJ,h2];rfl];rfl
  rw[h1];clear h1 h2;obtain⟨x0,x1,x2,x3,x4⟩:=HO8.I.2.1.cells;go_wp2_with(refine stK 2 23 k5.row S.I.I ?_);refine aaf results95 (b_ true) S.I.I ?_;rw[HN.I];have hr:=HR.I;have ho:=HO8.I.2.2.2;exact⟨k5,rfl,(HO8.I.1.lower zw).same λb hb=>KH _ _ _ _ (by have:=(HO8.I.1.lt hb).1;omega),HP.I.1,q_ S.I.ks.low zw _,λ_=>⟨g4,HP.I.2,by rw[setRow_size];omega⟩⟩
 rw[h1,Li];have hlt:n<k.parts.length:=(Lj.1 hx).1;have i0:¬(n:Int)<0:=zw
 have i1:(n:Int)<(k.parts.length:Int):=zw
 have i2:(0:Int)<=(n:Int):=zw
 obtain⟨gs,ha,⟨c0,c1,c2,c3,c4,c5,c6,c7⟩,hat⟩:=ic S.I.ks.MT.parts hx;have HX:da (k.parts[n]? =o_ x/\x.id=aof k.pure/\k.qn=o_ ⟨gs,0,n_⟩/\hP (λp:aE=>p.id) (aof k.pure) k.pure.parts=o_ x.pure/\∀y∈k.parts.take n,¬y.id=aof k.pure):=⟨hx,hxi,ha,by show hP (λp:aE=>p.id) (aof k.pure) (k.parts.map (·.pure))=_;rw[WJ,h2];rfl,ab9 (i:=0) h1⟩
 have HG:da (∀W,B_ w.heap.size w W->af.In W gs n x/\af.At W x):=λW hW=>by obtain⟨g2,h5,h6,h7⟩:=ic (HA.I.below hW).parts hx;rw[ha]at h5;cases h5;exact⟨h6,h7⟩
 have Mb:=uy x W8;obtain⟨m0,m1,m2,m3,m4⟩:=S.I.ks.box.cells;rw[ha]at m3;clear h1 h2 hx hat ha hxi hlt;unfold af.cells at Mb;go_wp2_with fail;clear m0 m1 m2 m3 m4 c0 c1 c2 c3 c4 c5 c6 c7;refine Mb.mono ?_;clear Mb;rintro e W9 ⟨rfl,kN⟩;replace HO8:da (gp W9 W0.heap.size k5/\Tk W9 X k5/\X∉k5.Mc/\W0.heap.size<=X/\g4<X/\X<W9.heap.size):=⟨HO8.I.1.below kN,(kN.block _ HO8.I.2.2.2.2.2).trans HO8.I.2.1,HO8.I.2.2.1,HO8.I.2.2.2.1,HO8.I.2.2.2.2.1,by have:=kN.size;have:=HO8.I.2.2.2.2.2;omega⟩
 replace S:=aA (S.I.below kN);clear kN;by_cases hroom:¬x.next<=999999980
 .have HN:da (aog k.pure=n_):=by
   show aog k.pure=_
   unfold aog;rw[HX.I.2.2.2.1];exact if_neg hroom
  rw[decide_eq_false hroom];clear hroom;go_wp2_with(refine stK 2 31 T9 S.I.I ?_);refine aaf results95 (b_ false) S.I.I ?_;exact aoc HN.I (q_ S.I.ks.low zw _)
 replace hroom:=Decidable.not_not.1 hroom;have HN:da (x.next<=999999980/\aog k.pure=o_ {k.pure with bE:=k.bE+1,parts:=abI (aof k.pure) (aok (aof k.pure) k.bE k.pure.parts) k.eC}):=by
  refine⟨hroom,?_⟩;unfold aog;rw[HX.I.2.2.2.1];exact if_pos hroom
 rw[decide_eq_true hroom];clear hroom;go_upto_region 9 with fail;obtain⟨x5,hx5,hx5i⟩:∃x5,k5.parts[n]? =o_ x5/\x5.pure=x.pure:=by
  have h5:k5.parts.map (·.pure)=k.parts.map (·.pure):=congrArg kd.parts HP.I.1;have h6:=congrArg (·[n]?) h5;simp only[Kk,HX.I.1,Option.map_some]at h6;cases h7:k5.parts[n]?with
  |none=>rw[h7]at h6;cases h6
  |some y=>rw[h7]at h6;exact⟨y,rfl,KC h6⟩
 obtain⟨gr,hgr,-,hgrl,-,-⟩:=Zz x5 HO8.I.1.parts hx5;have bR:gr∈k5.Mc:=Ly _ (Lz _ (by rw[hgr];simp[blk]));have rL:n<k5.parts.length:=(Lj.1 hx5).1;have i3:(n:Int)<(k5.parts.length:Int):=zw
 have HX5:da (k5.parts[n]? =o_ x5/\k5.qn=o_ ⟨gr,0,n_⟩/\gr<W9.heap.size/\W0.heap.size<=gr/\X≠gr/\w.heap.size+1<gr):=⟨hx5,hgr,hgrl,(HO8.I.1.lt bR).1,λe=>HO8.I.2.2.1 (e▸bR),by have:=(HO8.I.1.lt bR).1;have:=HR.I;omega⟩
 clear hx5 hgr hgrl rL hx5i bR;refine ZN (λa0 a' w'=>∃(e0 e1 e2 e3 e4 e5 e6 e7 e8 e9 Pn e11:v_)(y:af)(V:w_),a'=Zk a0 [(32,e0),(33,e1),(34,e2),(35,e3),(36,e4),(37,e5),(38,e6),(39,e7),(40,e8),(41,e9),(42,Pn),(43,e11)]/\ap V W9.heap.size y/\y.pure=mS k.bE x.pure/\B_ W9.heap.size W9 V/\w'=bn V gr (n*8) (kp.vals y)) ?_ ?_
 .have HS:da (Tk W9.drew X k5/\B_ w.heap.size w W9.drew/\Tk W9.drew w.heap.size k):=⟨HO8.I.2.1,S.I.ks.low.drew,S.I.ks.box⟩
  refine Kr (S:=λW=>Tk W X k5/\B_ w.heap.size w W/\Tk W w.heap.size k) ZbG HS.I (λ_=>?_);have HSD:da (B_ W9.heap.size W9 W9.drew):=(Kp _ _).drew;have HZ:da (W9.drew.heap.size=W9.heap.size):=rfl;generalize W9.drew=YI at*;refine tt 0 HS.I ?_;refine tt 1 HS.I ?_ (hy:=λw0 hS0=>by obtain⟨m0,m1,m2,m3,m4⟩:=hS0.1.cells;rw[HX5.I.2.1]at m3;go_simp;try with_reducible rfl);refine tt 2 HS.I ?_;refine tt 3 HS.I ?_;refine tt 4 HS.I ?_ (hy:=λw0 hS0=>by obtain⟨m0,m1,m2,m3,m4⟩:=hS0.2.2.cells;rw[HX.I.2.2.1]at m3;go_simp;try with_reducible rfl);refine tt 5 HS.I ?_;refine tt 6 HS.I ?_;refine tt 7 HS.I ?_ (hy:=λw0 hS0=>by obtain⟨q0,q1,q2,q3,q4,q5,q6,q7⟩:=(HG.I w0 hS0.2.1).1;go_simp;try with_reducible rfl);refine tt 8 HS.I ?_;refine tt 9 HS.I ?_ (hy:=λw0 hS0=>by obtain⟨m0,m1,m2,m3,m4⟩:=hS0.2.2.cells;go_simp;try with_reducible rfl)
  try simp only[pt,sb,s0,s1]
  refine L7 10 (λQ hQ=>?_);have qY:=pC HF.I.1 (KA HX.I.1);have eu:=aob HF.I.2.1;have Mb:=zx x k.bE YI (dV qY) (λz hz=>(cY qY hz).1) (HG.I YI HS.I.2.1).2 (Ww HF.I.2.1 x.pure (Lr.2 ⟨x,KA HX.I.1,rfl⟩)) HN.I.1 ⟨eu.1,ZfF⟩;clear qY eu;unfold af.cells at Mb;go_wp2_with fail;refine Mb.mono ?_;clear Mb;rintro e V ⟨y,rfl,hpy,hoy,hby⟩;rw[HZ.I]at hoy;have hxl:=(J2.1 HS.I.1).1;have hkl:=(J2.1 HS.I.2.2).1;have HY:da (ap V W9.heap.size y/\y.pure=mS k.bE x.pure/\B_ W9.heap.size W9 V/\Tk V X k5/\B_ w.heap.size w V/\Tk V w.heap.size k):=⟨hoy,hpy,HSD.I.trans (hby.mono HSD.I.size),(hby.block _ hxl).trans HS.I.1,HS.I.2.1.trans (hby.mono HS.I.2.1.size),(hby.block _ hkl).trans HS.I.2.2⟩
  clear hoy hpy hby hxl hkl;refine hQ.out _ _ HY.I.2.2.2 (λ_=>?_);clear hQ Q
  try simp only[pt,sb,s0,s1]
  refine tt 11 HY.I.2.2.2 ?_;refine L7 12 (λQ hQ=>?_);obtain⟨g',hg',-,-,hcell,-⟩:=Zz y (cR HO8.I.1.parts HY.I.2.2.1) HX5.I.1;rw[HX5.I.2.1]at hg';cases hg';have HV:da (Tk (bn V gr (n*8) (kp.vals y)) X k5/\B_ w.heap.size w (bn V gr (n*8) (kp.vals y))/\Tk (bn V gr (n*8) (kp.vals y)) w.heap.size k):=⟨(de _ HX5.I.2.2.2.2.1).trans HY.I.2.2.2.1,eU _ (by have:=HX5.I.2.2.2.2.2;omega) HY.I.2.2.2.2.1,(de _ (by have:=HX5.I.2.2.2.2.2;omega)).trans HY.I.2.2.2.2.2⟩
  refine wp_store_mid 46 _ _ rfl gr (n*8) y.cells rfl rfl hcell ZbG ZbG ?_;rw[iL];refine hQ.out _ _ HV.I (λ_=>?_);clear hQ Q;refine K3 ZbG ?_ _;exact⟨_,_,_,_,_,_,_,_,_,_,_,_,y,V,Zcx,HY.I.1,HY.I.2.1,HY.I.2.2.1,rfl⟩
 .rintro a' p4 ⟨e0,e1,e2,e3,e4,e5,e6,e7,e8,e9,Pn,e11,y,V,rfl,hoy,hpy,hbV,hWA⟩
  simp only[Zk,pt,sb,s0,s1];have hot:∀q,q≠gr->p4.heap[q]? =V.heap[q]?:=λq hq=>by rw[hWA];exact de _ hq
  have hsz:p4.heap.size=V.heap.size:=by rw[hWA];exact fH _
  have hz5:=hbV.size;have hown:gp p4 W0.heap.size (k5.put n y k5.qn k5.sa):=by
   rw[hWA];exact(HO8.I.1.below hbV).put HX5.I.1 HX5.I.2.1 (hoy.lower (by have:=HO8.I.2.2.2;omega)) λb hb hm=>by have:=(hoy.lt b hb).1;have:=(HO8.I.1.lt hm).2;omega
  have gn:(k5.put n y k5.qn k5.sa).pure={k.pure with bE:=k.bE+1,parts:=aok (aof k.pure) k.bE k.pure.parts}:=by
   rw [aai,HP.I.1,hpy];have h5:=ao4 (k:=k.pure) (p:=x.pure) (n:=n) (id:=aof k.pure) (bE:=k.bE) (by show (k.parts.map (·.pure))[n]? =_; rw [Kk,HX.I.1]; rfl) HX.I.2.1 (λz hz=>by
    have h6:z∈(k.parts.map (·.pure)).take n:=hz;rw[<-List.map_take]at h6;obtain⟨z',hz',rfl⟩:=Lr.1 h6;exact HX.I.2.2.2.2 z' hz')
   rw[<-h5];rfl
  obtain⟨t1,t2⟩:=aow (bE:=k.bE) (Ww HF.I.2.1) HX.I.2.2.2.1 HN.I.1 (by have h5:=aob HF.I.2.1;exact⟨h5.1,by have:k.bE<=500000000:=h5.2;omega⟩);have pE:da ((k5.put n y k5.qn k5.sa).pure={k.pure with bE:=k.bE+1,parts:=aok (aof k.pure) k.bE k.pure.parts}/\(k5.put n y k5.qn k5.sa).pure.Small/\(∀c∈(k5.put n y k5.qn k5.sa).eC,pa (k5.put n y k5.qn k5.sa).pure.parts c=true)/\(∀p∈(k5.put n y k5.qn k5.sa).pure.parts,∀q∈p.ai,dj q=true)/\(k5.put n y k5.qn k5.sa).vb=o_ ⟨g4,0,n_⟩):=by
   refine⟨gn,?_,λc hc=>?_,?_,HP.I.2⟩
   .rw [gn]
    exact aoq HF.I.1 (by simpa using congrArg List.length t1) t2
   .rw [show(k5.put n y k5.qn k5.sa).eC=k.pure.eC from congrArg kd.eC gn]at hc
    rw[gn];exact((aom t1 c).1).trans ((Xo HF.I.2.1).2.2.2 c hc)
   .rw [gn]
    exactλp hp q hq=>(cK (t2 p hp).ai q hq).2
  have HB6:da (Tk p4 X (k5.put n y k5.qn k5.sa)/\p4.heap[w.heap.size+1]? =o_ (c_ T9 30)/\B_ w.heap.size w p4/\W0.heap.size<=p4.heap.size/\g4<W9.heap.size/\W9.heap.size<=p4.heap.size):=by
   have hx9:=HO8.I.2.2.2;have hx5:=HX5.I.2.2;refine⟨?_,(hot _ zw).trans ((hbV.block _ (J2.1 S.I.I).1).trans S.I.I),?_,zw,zw,zw⟩
   .show p4.heap[X]? =_
    rw[hot X hx5.2.2.1,hbV.block X hx9.2.2,HO8.I.2.1,aaJ]
   .rw [hWA]
    exact eU _ zw (S.I.ks.low.trans (hbV.mono S.I.ks.low.size))
  have HW:=aA hown;clear hoy hpy hbV hWA hot hsz hz5 hown gn t1 t2;generalize k5.put n y k5.qn k5.sa=k6 at*;have Mb:=acP k6 (aof k.pure) W0.heap.size p4 pE.I.2.1 pE.I.2.2.1 pE.I.2.2.2.1 HB6.I.2.2.2.1 HW.I;obtain⟨x0,x1,x2,x3,x4⟩:=HB6.I.1.cells;go_wp2_with fail;clear x0 x1 x2 x3 x4;refine Mb.mono ?_;clear Mb;rintro e an2 ⟨l,rfl,hL,hpl,-⟩;have HL:da (abx p4 W0.heap.size k6 l [] an2/\l.map (·.pure)=abI (aof k.pure) (aok (aof k.pure) k.bE k.pure.parts) k.eC):=⟨hL,by rw[hpl,pE.I.1,show k6.eC=k.eC from congrArg kd.eC pE.I.1]⟩
  have hlow:∀b∈k6.Mc,W0.heap.size<=b:=λb hb=>(HW.I.lt hb).1
  have hr:=HR.I;have HWB:da (an2.heap[w.heap.size+1]? =o_ (c_ T9 30)/\B_ w.heap.size w an2/\g4<an2.heap.size):=⟨(hL.kept.same _ (by have:=HB6.I.2.2.2;omega) λhm=>ZdG).trans HB6.I.2.1,HB6.I.2.2.1.trans (hL.kept.below HB6.I.2.2.1.size λb hb=>by have:=hlow b hb;omega),by have:=hL.kept.size;have:=HB6.I.2.2.2;omega⟩
  clear hL hpl hlow;go_wp2_with(refine stK 2 46 k6.row HWB.I.1 ?_);refine aaf results95 (b_ true) HWB.I.1 ?_;rw[HN.I.2];refine⟨k6.wp l,by rw[HL.I.1.row];rfl,(HL.I.1.own.lower zw).same λb hb=>KH _ _ _ _ ZfE,?_,q_ HWB.I.2.1 zw _,λ_=>⟨g4,pE.I.2.2.2.2,by rw[setRow_size];exact HWB.I.2.2⟩⟩
  show kd.mk k6.bE k6.major k6.fn (l.map (·.pure)) k6.eC=kd.mk (k.bE+1) k.major k.fn (abI (aof k.pure) (aok (aof k.pure) k.bE k.pure.parts) k.eC) k.eC
  have h5:=pE.I.1;rw[HL.I.2,show k6.bE=k.bE+1 from congrArg kd.bE h5,show k6.major=k.major from congrArg kd.major h5,show k6.fn=k.fn from congrArg kd.fn h5,show k6.eC=k.eC from congrArg kd.eC h5]
end
section
def ap8:∀(n:Nat)(xs:List v_),xs.length=n*3->akE xs->∃l:List pA,l.length=n/\jq.flat l=xs/\∀x∈l,(-1000<=x.at_/\x.at_<=1000)/\(-1000<=x.len/\x.len<=1000)/\(-1000<=x.part/\x.part<=1000)
 |0,xs,h,_=>⟨[],rfl,(List.length_eq_zero_iff.1 (by omega:xs.length=0)).symm,λx hx=>Zcl⟩
 |n+1,xs,h,hs=>by
  match xs,h,hs with
  |a::b::c::s,h,hs=>
   obtain⟨x,rfl,hx⟩:=hs a zy;obtain⟨y,rfl,hy⟩:=hs b zy;obtain⟨z,rfl,hz⟩:=hs c zy;obtain⟨l,h1,h2,h3⟩:=ap8 n s (by simp at h;omega) (λu hu=>hs u (by simp[hu]));exact⟨⟨x,y,z⟩::l,Zea,by rw[<-h2];rfl,List.forall_mem_cons.2 ⟨⟨hx,hy,hz⟩,h3⟩⟩
  |[],h,_=>simp at h
  |[_],h,_=>simp at h;omega
  |[_,_],h,_=>simp at h;omega
def aqx {l:List pA}(h:∀x∈l,(-1000<=x.at_/\x.at_<=1000)/\(-1000<=x.len/\x.len<=1000)/\(-1000<=x.part/\x.part<=1000))(j:Nat): -9223372036854775808<=sz l j/\sz l j<=9223372036854775807:=by
 unfold sz;cases hx:l[j/3]?with
 |none=>simp
 |some x=>
  have h5:=h x (KA hx);simp only
  split
  .omega
  .split<;>omega
def aqj {A B C D:List Nat}(hA:A.Nodup)(hB:B.Nodup)(hC:C.Nodup)(hD:D.Nodup)(h1:∀g∈A,g∉B/\g∉C/\g∉D)(h2:∀g∈B,g∉C/\g∉D)(h3:∀g∈C,g∉D):(A++(B++(C++D))).Nodup:=by
 refine Kf.2 ⟨hA,Kf.2 ⟨hB,Kf.2 ⟨hC,hD,λg hg x hx e=>h3 g hg (e▸hx)⟩,λg hg x hx e=>?_⟩,λg hg x hx e=>?_⟩
 .subst e
  exact(Kg.1 hx).elim (h2 g hg).1 (h2 g hg).2
 .subst e
  rcases Kg.1 hx with hx|hx
  .exact (h1 g hg).1 hx
  .exact (Kg.1 hx).elim (h1 g hg).2.1 (h1 g hg).2.2
section
variable {b c:Nat}{k:eA}{w w':w_}{a:Option d_}
def gp.pg (h:gp w b k):YR b b k.parts k.qn k.sa w:=by
 refine⟨h.parts,h.mine,?_⟩;obtain⟨-,h2,-⟩:=Kf.1 h.nodup;obtain⟨h4,h5,h6⟩:=Kf.1 h2;obtain⟨-,h8,-⟩:=Kf.1 h5;exact Kf.2 ⟨h4,h8,λg hg x hx=>h6 g hg x (Ly _ hx)⟩
def gp.aqo {q:af}(h:gp w b k)(hf:∀g∈q.Mc,g∉k.Mc)(hp:YR b b (k.parts++[q]) a c w')(hk:aI w w' (blk k.qn))(ha:∀g∈blk a,g∈blk k.qn\/w.heap.size<=g):gp w' b {k with parts:=k.parts++[q],qn:=a,sa:=c}:=by
 obtain⟨a1,a2,a3⟩:=h.apart;obtain⟨hn,hN⟩:=Kf.1 hp.nodup;have eF:(k.parts++[q]).flatMap af.Mc=k.parts.flatMap af.Mc++q.Mc:=zy
 have hA:∀g∈blk k.vb,g<w.heap.size/\g∉q.Mc:=λg hg=>⟨(cf h.fn hg).2,λhm=>hf g hm (Lz _ hg)⟩
 have hC:∀g∈blk k.qi,g<w.heap.size/\g∉q.Mc:=λg hg=>⟨(cf h.eC hg).2,λhm=>hf g hm (Ly _ (Ly _ (Lz _ hg)))⟩
 refine⟨aL h.fn λg hg=>hk.same g (hA g hg).1 (a1 g hg).1,hp.own,aL h.eC λg hg=>hk.same g (hC g hg).1 λhm=>(a2 g hm).1 hg,hp.mine,aqj (fN _) hn (fN _) hN.1 (λg hg=>⟨λhm=>?_,(a1 g hg).2.1,λhm=>?_⟩) (λg hg=>⟨λhm=>?_,λhm=>hN.2 g hg g hm rfl⟩) (λg hg hm=>?_)⟩
 .rcases ha g hm with h5|h5
  .exact (a1 g hg).1 h5
  .have:=(hA g hg).1;omega
 .rw [eF]at hm
  exact(Kg.1 hm).elim (a1 g hg).2.2 (hA g hg).2
 .rcases ha g hg with h5|h5
  .exact (a2 g h5).1 hm
  .have:=(hC g hm).1;omega
 .rw [eF]at hm
  exact(Kg.1 hm).elim (a3 g hg) (hC g hg).2
def gp.aqs {x:eQ}(h:gp w b k)(ho:w'.ownsRow b 37 4 (s_ a (k.eC.length+1) c) (k.eC.length+1) (hM.flat k.eC++(nx x).toList))(hk:aI w w' (blk k.qi))(ha:∀g∈blk a,g∈blk k.qi\/w.heap.size<=g):gp w' b {k with eC:=k.eC++[x],qi:=a,tC:=c}:=by
 obtain⟨a1,a2,a3⟩:=h.apart;obtain⟨-,h2,-⟩:=Kf.1 h.nodup;obtain⟨-,h5,-⟩:=Kf.1 h2;obtain⟨-,h8,-⟩:=Kf.1 h5;have hF:∀g∈k.parts.flatMap af.Mc,g<w.heap.size:=λg hg=>by
  obtain⟨p,hp,l9⟩:=Rt.1 hg;exact((h.mine p hp).lt g l9).2
 refine⟨aL h.fn λg hg=>hk.same g (cf h.fn hg).2 (a1 g hg).2.1,aL h.parts λg hg=>hk.same g (cf h.parts hg).2 (a2 g hg).1,?_,λp hp=>(h.mine p hp).same λg hg=>hk.same g ((h.mine p hp).lt g hg).2 λhm=>a3 g hm (Rt.2 ⟨p,hp,hg⟩),aqj (fN _) (fN _) (fN _) h8 (λg hg=>⟨(a1 g hg).1,λhm=>?_,(a1 g hg).2.2⟩) (λg hg=>⟨λhm=>?_,(a2 g hg).2⟩) (λg hg hm=>?_)⟩
 .rw [Lf,List.length_singleton,hM.dc,show hM.flat [x]=(nx x).toList by simp[Kind.flat,hM,Vg]]
  exact ho
 .rcases ha g hm with h6|h6
  .exact (a1 g hg).2.1 h6
  .have:=(cf h.fn hg).2;omega
 .rcases ha g hm with h6|h6
  .exact (a2 g hg).1 h6
  .have:=(cf h.parts hg).2;omega
 .rcases ha g hg with h6|h6
  .exact a3 g h6 hm
  .have:=hF g hm;omega
end
structure aoy (r:Nat)(a:Option d_)(len cap:Nat)(w:w_)(X:Nat)(k:eA)(W:w_):Prop where
 rd:Rd r a len cap W
 st:Rd r a len cap w
 but:gG r w W
 own:gp W (w.heap.size+1) k
 nin:X∉k.Mc
 small:k.pure.Small
 win:∃g,k.vb=o_ ⟨g,0,n_⟩/\g<W.heap.size
 box:Tk W X k
 mK:W.heap[w.heap.size]? =o_ (c_ T9 30)
 hx:w.heap.size<X
 ne:0<k.fn.length
section
variable {r len cap X:Nat}{a:Option d_}{w W W2:w_}{k:eA}{q:af}{x:eQ}
def aoy.lt (h:aoy r a len cap w X k W):X<W.heap.size:=(J2.1 h.box).1
def aoy.drawn (h:aoy r a len cap w X k W)(hb:gG r W W2)(hr:Rd r a len cap W2):aoy r a len cap w X k W2:=by
 have hl:=h.st.lt;have hx:=h.hx;obtain⟨g,hg,hgl⟩:=h.win;exact⟨hr,h.st,h.but.trans hb,h.own.same λb hm=>hb.block b (h.own.lt hm).2 Zdy,h.nin,h.small,⟨g,hg,Kn hgl hb.size⟩,(hb.block _ h.lt zw).trans h.box,(hb.block _ (J2.1 h.mK).1 zw).trans h.mK,hx,h.ne⟩
def aoy.reads (h:aoy r a len cap w X k W)(hb:B_ W.heap.size W W2):aoy r a len cap w X k W2:=h.drawn (gG.dI hb) (h.rd.below hb)
def aoy.put {k2:eA}{i:Nat}{v:v_}{bs:List Nat}(h:aoy r a len cap w X k W)(hk:aI W W2 bs)(hbs:∀g∈bs,g∈k.Mc)(ho:gp W2 (w.heap.size+1) k2)(hn:X∉k2.Mc)(hs:k2.pure.Small)(hg:k2.vb=k.vb/\k2.fn=k.fn)(hv:k2.row=k.row.setIfInBounds i v):Tk W2 X k/\aoy r a len cap w X k2 (W2.setCell ⟨X,i,n_⟩ v):=by
 have hl:=h.st.lt;have hx:=h.hx;have hlow:∀g∈bs,w.heap.size+1<=g:=λg hm=>(h.own.lt (hbs g hm)).1
 have hw:gG r w W2:=⟨hk.os.trans h.but.os,hk.tape.trans h.but.tape,hk.output.trans h.but.output,LG h.but.size hk.size,λg h1 h2=>(hk.same g (Kn h1 h.but.size) λhm=>ZdH).trans (h.but.block g h1 h2)⟩
 have hb:gG r w (W2.setCell ⟨X,i,n_⟩ v):=hw.sF _ _ _ zw;have hsz:=h.but.size;have lW:Tk W2 X k:=(hk.same X h.lt λhm=>h.nin (hbs X hm)).trans h.box;have hans:=(hk.same w.heap.size (J2.1 h.mK).1 λhm=>ZdG).trans h.mK;obtain⟨g,CT,hg2⟩:=h.win;obtain⟨p,hp,hc⟩:=h.rd.1;exact⟨lW,⟨⟨p,hp,(aH zw).trans ((hk.same r zw λhm=>by have:=hlow r hm;omega).trans hc)⟩,h.st.2.but hb⟩,h.st,hb,ho.same λb hm=>aH λe=>hn (e▸hm),hn,hs,⟨g,hg.1.trans CT,by rw[ja];exact Kn hg2 hk.size⟩,by unfold Tk;rw[hv];exact K7 _ _ _ _ _ _ lW,(aH zw).trans hans,hx,by rw[hg.2];exact h.ne⟩
def aoy.part (h:aoy r a len cap w X k W)(hb:gG r W W2)(hr:Rd r a len cap W2)(hq:ap W2 W.heap.size q)(hs:q.pure.Small)(hn:k.parts.length<=3):
  ∃a' c' w',(Builtin.append_ #[27,27] 27 #[s_ k.qn k.parts.length k.sa,s_ (o_ ⟨W2.heap.size,0,n_⟩) 1 1]).run J3 (W2.alloc (c_ q.cells 46))=.ok (s_ a' (k.parts.length+1) c') w'/\Tk w' X k/\aoy r a len cap w X {k with parts:=k.parts++[q],qn:=a',sa:=c'} (w'.setCell ⟨X,3,n_⟩ (s_ a' (k.parts.length+1) c')):=by
 have hl:=h.st.lt;have hx:=h.hx;have h2:=h.drawn hb hr;have hXW:=h.lt;have hsz:=h.but.size;have hz2:=hb.size;have hf:∀g∈q.Mc,g∉k.Mc:=λg hg hm=>by
  have:=(hq.lt g hg).1
  have:=(h.own.lt hm).2
  omega
 have hq1:ap W2 (w.heap.size+1) q:=hq.lower zw;have hpg:=h2.own.pg;have hin:∀g∈blk k.qn,g∈k.Mc:=λg hg=>Ly _ (Lz _ hg)
 obtain⟨a',c',w',h3,h4,h5,h6⟩:=aaw hpg hq1 (λg hg hm=>hf g hg ((Kg.1 hm).elim (hin g) λhm=>Ly _ (Ly _ (Ly _ hm)))) zw zw;have hk:=h2.own.aqo hf h4 h5 h6;refine⟨a',c',w',h3,h2.put h5 hin hk (λhm=>?_) ⟨h.small.Ts,by have:=h.small.sC;simp[eA.pure];omega,h.small.w8,h.small.win,λp hp=>?_,h.small.eC⟩ ⟨rfl,rfl⟩ (by simp[eA.row])⟩
 .simp only[eA.Mc,Kg,List.flatMap_append]at hm
  have hni:=h.nin;simp only[eA.Mc,Kg,not_or]at hni;rcases hm with hm|hm|hm|hm|hm
  .exact hni.1 hm
  .rcases h6 X hm with h7|h7
   .exact hni.2.1 h7
   .omega
  .exact hni.2.2.1 hm
  .exact hni.2.2.2 hm
  .have:=(hq.lt X (by simpa using hm)).1
   omega
 .simp only[eA.pure,Kl,Kg,Lt,QV,KB]at hp
  rcases hp with hp|rfl
  .exact h.small.parts p hp
  .exact hs
def aoy.chan (h:aoy r a len cap w X k W)(hb:gG r W W2)(hr:Rd r a len cap W2)(hs:x.Wf)(hn:k.eC.length<=1000):
  ∃a' c' w',(Builtin.append_ #[28,28] 28 #[s_ k.qi k.eC.length k.tC,s_ (o_ ⟨W2.heap.size,0,n_⟩) 1 1]).run J3 (W2.alloc (c_ (nx x) 37))=.ok (s_ a' (k.eC.length+1) c') w'/\Tk w' X k/\aoy r a len cap w X {k with eC:=k.eC++[x],qi:=a',tC:=c'} (w'.setCell ⟨X,4,n_⟩ (s_ a' (k.eC.length+1) c'))/\(∀g,g<W2.heap.size->g∉blk k.qi->w'.heap[g]? =W2.heap[g]?)/\∀g∈blk a',g∈blk k.qi\/W2.heap.size<=g:=by
 have hx:=h.hx;have h2:=h.drawn hb hr;have hXW:=h2.lt;have hsz:=h2.but.size;have hin:∀g∈blk k.qi,g∈k.Mc:=λg hg=>Ly _ (Ly _ (Lz _ hg))
 obtain ⟨a',c',w',h3,h4,h5,h6⟩:=aad underlying28 aa8 rfl (by decide) (by decide) (nx x) rfl (λu hu=>by
  simp only[Kt,Ku,or_false]at hu;rcases hu with rfl|rfl|rfl|rfl<;>rfl) h2.own.eC zw zw
 have hd:Tk w' X k/\aoy r a len cap w X {k with eC:=k.eC++[x],qi:=a',tC:=c'} (w'.setCell ⟨X,4,n_⟩ (s_ a' (k.eC.length+1) c')):=by
  refine h2.put h5 hin (h2.own.aqs h4 h5 h6) (λhm=>?_) ⟨h.small.Ts,h.small.sC,by have:=h.small.w8;simp[eA.pure];omega,h.small.win,h.small.parts,λp hp=>?_⟩ ⟨rfl,rfl⟩ (by simp[eA.row])
  .simp only[eA.Mc,Kg]at hm
   have hni:=h.nin;simp only[eA.Mc,Kg,not_or]at hni;rcases hm with hm|hm|hm|hm
   .exact hni.1 hm
   .exact hni.2.1 hm
   .rcases h6 X hm with h7|h7
    .exact hni.2.2.1 h7
    .omega
   .exact hni.2.2.2 hm
  .simp only[eA.pure,Kg,KB]at hp
   rcases hp with hp|rfl
   .exact h.small.eC p hp
   .exact hs
 exact⟨a',c',w',h3,hd.1,hd.2,h5.same,h6⟩
def aoy.ju {k2:eA}(h:aoy r a len cap w X k W)(ho:gp W (X+1) k2)(hs:k2.pure.Small)(hg:∃g,k2.vb=o_ ⟨g,0,n_⟩/\g<W.heap.size)(hne:0<k2.fn.length):aoy r a len cap w X k2 (W.setRow X k2.row):=by
 have hl:=h.st.lt;have hx:=h.hx;have hb:gG r w (W.setRow X k2.row):=h.but.setRow zw _;obtain⟨p,hp,hc⟩:=h.rd.1;obtain⟨g,CT,hg2⟩:=hg;exact⟨⟨⟨p,hp,(KH _ _ _ _ zw).trans hc⟩,h.st.2.but hb⟩,h.st,hb,(ho.lower zw).same λb hm=>KH _ _ _ _ Zdl,λhm=>Zdl,hs,⟨g,CT,by rw[setRow_size];exact hg2⟩,KU _ _ _ _ _ _ h.box,(KH _ _ _ _ zw).trans h.mK,hx,hne⟩
def aoy.time {z:Int}(h:aoy r a len cap w X k W):aoy r a len cap w X {k with bE:=z} (W.setCell ⟨X,0,n_⟩ (i_ j_ z)):=
 (h.put (k2:={k with bE:=z}) (aI.refl _ _) (bs:=[]) (λg hg=>by cases hg) ⟨h.own.fn,h.own.parts,h.own.eC,h.own.mine,h.own.nodup⟩ h.nin ⟨h.small.Ts,h.small.sC,h.small.w8,h.small.win,h.small.parts,h.small.eC⟩ ⟨rfl,rfl⟩ (by simp[eA.row])).2
def aoy.fin (h:aoy r a len cap w X k W):gp (W.setRow w.heap.size k.row) w.heap.size k/\k.pure.Small/\((∃g,k.vb=o_ ⟨g,0,n_⟩/\g<(W.setRow w.heap.size k.row).heap.size)/\0<k.fn.length)/\gG r w (W.setRow w.heap.size k.row)/\Rd r a len cap (W.setRow w.heap.size k.row):=by
 have hx:=h.hx;have hl:=h.st.lt;obtain⟨p,hp,hc⟩:=h.rd.1;have hb:=h.but.setRow (Ki _) k.row;exact⟨(h.own.lower zw).same λb hm=>KH _ _ _ _ Zdy,h.small,⟨by rw[setRow_size];exact h.win,h.ne⟩,hb,⟨p,hp,(KH _ _ _ _ zw).trans hc⟩,h.st.2.but hb⟩
def aoy.first {g n c:Nat}{major:Int}{xs:List v_}(hr:Rd r a len cap W)(st:Rd r a len cap w)(hb:gG r w W)(hn:0<n/\n<=4)(hs:akE xs)(ho:W.ownsRow (w.heap.size+1) 62 3 (s_ (o_ ⟨g,0,n_⟩) n c) n xs)(ha:W.heap[w.heap.size]? =o_ (c_ T9 30)):
  ∃l:List pA,l.length=n/\aoy r a len cap w W.heap.size ⟨0,major,l,o_ ⟨g,0,n_⟩,c,[],n_,0,[],n_,0⟩ ((W.alloc (c_ T9 30)).setRow W.heap.size #[i_ j_ 0,i_ j_ major,s_ (o_ ⟨g,0,n_⟩) n c,s_ n_ 0 0,s_ n_ 0 0]):=by
 have hl:=(J2.1 ha).1;obtain⟨l,rfl,rfl,h3⟩:=ap8 n xs ho.1 hs;have h1:B_ W.heap.size W ((W.alloc (c_ T9 30)).setRow W.heap.size (⟨0,major,l,o_ ⟨g,0,n_⟩,c,[],n_,0,[],n_,0⟩:eA).row):=q_ ((Kp _ _).alloc (Ki _) _) (Ki _) _;have hg:=cf ho (g:=g) Zee;have hz:=h1.size;refine⟨l,rfl,hr.below h1,st,hb.trans (gG.dI h1),⟨cR ho h1,Ke _ _ _ _,Ke _ _ _ _,(λp hp=>ZfO),Zee⟩,?_,⟨by show l.length<=_;omega,Ky _,Ky _,aqx h3,(λx hx=>Zcl),(λx hx=>Zcl)⟩,⟨g,rfl,Kn hg.2 hz⟩,KU _ _ _ _ _ _ (Kj _ _),(h1.block _ hl).trans ha,hl,hn.1⟩;simp[eA.Mc,blk];omega
def aq2:∀{n:Nat}{k k':kd},aoe n k=o_ k'->k'.fn=k.fn
 |0,k,k',he=>by cases he;rfl
 |n+1,k,k',he=>by
  simp only[aoe]at he;obtain⟨k2,h1,h2⟩:=Option.bind_eq_some_iff.1 he;refine Eq.trans ?_ (aq2 h1);unfold aog at h2
  split at h2
  .cases h2;rfl
  .split at h2
   .cases h2;rfl
   .cases h2
structure apU (r:Nat)(a:Option d_)(len cap:Nat)(w:w_)(X:Nat)(k:eA)(Y:Nat)(q:eA)(ok:Bool)(cs:Array v_)(W:w_):Prop where
 dk:aoy r a len cap w X k W
 box:W.heap[Y]? =o_ (c_ cs 30)
 hy:X<Y
 aoj:Y∉k.Mc
 nq:Y∉q.Mc
 good:ok=true->gp W (X+1) q/\q.pure.Small/\(q.eC.length<=10/\0<q.fn.length)/\∃g,q.vb=o_ ⟨g,0,n_⟩/\g<W.heap.size
def apT {n:Int}{e:Ending}(h:aoy r a len cap w X k W)(hr:aoD W (aoS k.pure n) e W2):∃(q:eA)(ok:Bool),e=r_ (u_ #[a_ q.row,b_ ok])/\gp W2 W.heap.size q/\B_ W.heap.size W W2/\(ok=true->q.pure.Small/\(q.eC.length<=10/\0<q.fn.length)/\∃g,q.vb=o_ ⟨g,0,n_⟩/\g<W2.heap.size):=by
 obtain⟨q,he,ho,hp,hb,hw⟩:=hr;refine⟨q,_,he,ho,hb,λhi=>?_⟩;have hwn:=hw hi;cases hk:aoS k.pure n with
 |none=>rw[hk]at hi;cases hi
 |some k2=>
  have hq:q.pure=k2:=by rw[hp,hk];rfl
  unfold aoS at hk
  split at hk
  .rename_i hh
   have h5:=aoA (n:=n.toNat) hh.1 h.small (by rw[Int.toNat_of_nonneg (bz.1 hh.2.1).1];exact hh.2.2) hk;have h6:=(Xo h5.1).2.2.1;have h7:=aq2 hk;rw[<-hq]at h6 h7;exact⟨by rw[hq];exact h5.2.1,⟨h6,by rw[show q.fn=k.fn from h7];exact h.ne⟩,hwn⟩
  .cases hk
def aoy.ran1 {n:Int}{Y:Nat}{e:Ending}{cs:Array v_}(h:aoy r a len cap w X k W)(hz:W.heap[Y]? =o_ (c_ cs 30))(hy:X<Y)(hk:Y∉k.Mc)(hr:aoD W (aoS k.pure n) e W2):∃(q:eA)(ok:Bool),e=r_ (u_ #[a_ q.row,b_ ok])/\apU r a len cap w X k Y q ok cs W2:=by
 obtain⟨q,ok,he,ho,hb,hg⟩:=apT h hr;have hl:=(J2.1 hz).1;have hx:=h.lt;exact⟨q,ok,he,h.reads hb,(hb.block _ hl).trans hz,hy,hk,λhm=>Zdl,λhi=>⟨ho.lower zw,hg hi⟩⟩
def aoy.ran2 {n:Int}{e:Ending}(h:aoy r a len cap w X k W)(hr:aoD W (aoS k.pure n) e W2):∃(q:eA)(ok:Bool),e=r_ (u_ #[a_ q.row,b_ ok])/\Tk W2 X k/\apU r a len cap w X k W2.heap.size q ok T9 (W2.alloc (c_ T9 30)):=by
 obtain⟨q,ok,he,ho,hb,hg⟩:=apT h hr;have hx:=h.lt;have hs:=hb.size;have hb2:B_ W2.heap.size W2 (W2.alloc (c_ T9 30)):=(Kp _ _).alloc (Ki _) _;refine⟨q,ok,he,(h.reads hb).box,(h.reads hb).reads hb2,Kj _ _,zw,λhm=>by have:=(h.own.lt hm).2;omega,λhm=>by have:=(ho.lt hm).2;omega,λhi=>⟨(ho.below hb2).lower zw,(hg hi).1,(hg hi).2.1,?_⟩⟩;obtain⟨g,h1,h2⟩:=(hg hi).2.2;exact⟨g,h1,Kn h2 hb2.size⟩
def apU.put {Y:Nat}{q:eA}{ok:Bool}{cs c2:Array v_}(h:apU r a len cap w X k Y q ok cs W):apU r a len cap w X k Y q ok c2 (W.setRow Y c2):=by
 have hy:=h.hy;have hx:=h.dk.hx;have hl:=h.dk.st.lt;have e:∀b,b≠Y->(W.setRow Y c2).heap[b]? =W.heap[b]?:=λb hb=>KH _ _ _ _ hb
 obtain⟨p,hp,hc⟩:=h.dk.rd.1;have hb:=h.dk.but.setRow (X:=Y) zw c2;refine⟨⟨⟨⟨p,hp,(e r zw).trans hc⟩,h.dk.st.2.but hb⟩,h.dk.st,hb,h.dk.own.same λb hm=>e b λhh=>h.aoj (hh▸hm),h.dk.nin,h.dk.small,by rw[setRow_size];exact h.dk.win,(e X zw).trans h.dk.box,(e _ zw).trans h.dk.mK,hx,h.dk.ne⟩,KU _ _ _ _ _ _ h.box,hy,h.aoj,h.nq,λhi=>?_⟩;obtain⟨h1,h2,h3,h4⟩:=h.good hi;exact⟨h1.same λb hm=>e b λhh=>h.nq (hh▸hm),h2,h3,by rw[setRow_size];exact h4⟩
end
end
section
open Go.Maps
attribute [local go_sem ↓] Kc Kd
def aoI {k:kd}{j:Nat}(h:aoe j k=n_):∀{n:Nat},j<=n->aoe n k=n_
 |0,hn=>by rw[<-Nat.le_zero.1 hn];exact h
 |n+1,hn=>by
  rcases Nat.lt_or_ge j (n+1)with hl|hl
  .simp only[aoe,aoI h (Nat.le_of_lt_succ hl)];rfl
  .rw [<-Nat.le_antisymm hn hl];exact h
structure apo (w:w_)(X:Nat)(r:Option kd)(q:eA)(W:w_):Prop where
 low:B_ w.heap.size w W
 I:W.heap[w.heap.size+1]? =o_ (c_ T9 30)
 hx:w.heap.size+1<X
 box:Tk W X q
 own:gp W (w.heap.size+2) q
 nin:X∉q.Mc
 pure:q.pure=r.getD ZG
 win:r.isSome=true->∃g,q.vb=o_ ⟨g,0,n_⟩/\g<W.heap.size
def apo.next {w W V:w_}{X:Nat}{r r2:Option kd}{q:eA}{e:Ending}(h:apo w X r q W)(hs:aoD W r2 e V):∃q2:eA,e=r_ (u_ #[a_ q2.row,b_ r2.isSome])/\Tk V X q/\apo w X r2 q2 (V.setRow X q2.row):=by
 obtain⟨q2,e2,ho,hp,hb,hw⟩:=hs;have hx:=(J2.1 h.box).1;have hx1:=h.hx;have lW:Tk V X q:=(hb.block _ hx).trans h.box;refine⟨q2,e2,lW,q_ (h.low.trans (hb.mono h.low.size)) zw _,(KH _ _ _ _ zw).trans ((hb.block _ zw).trans h.I),hx1,KU _ _ _ _ _ _ lW,(ho.lower zw).same λb hb2=>KH _ _ _ _ (by have:=(ho.lt hb2).1;omega),λhm=>Zdl,hp,λhi=>?_⟩;obtain⟨g,h1,h2⟩:=hw hi;exact⟨g,h1,by rw[setRow_size];exact h2⟩
def ao0 (k:eA)(n:Int)(g:Nat)(w:w_)(hs:k.pure.Small)(hg:k.vb=o_ ⟨g,0,n_⟩/\g<w.heap.size)(h:eA.At w k):
  k_ J3 59 #[a_ k.row,i_ j_ n] w λe w'=>aoD w (aoS k.pure n) e w':=by
 have S:=aA (KZK.first h);have HF:=aA (And.intro hs hg);clear hs hg h
 go_enter func59,ntmps59
 go_upto_region 1 with fail;generalize(w.alloc (c_ k.row 30)).alloc (c_ T9 30)=W0 at*;obtain⟨m0,m1,m2,m3,m4⟩:=S.I.ks.box.cells;have Mb:=FO k g W0 (Ug HF.I.1) ⟨HF.I.2.1,Zfc⟩ S.I.ks.MT;go_wp2_with fail;clear m0 m1 m2 m3 m4;refine Mb.mono ?_;clear Mb;rintro e W1 ⟨rfl,hb1⟩;replace S:=aA (S.I.below hb1);clear hb1;cases hk:eP k.pure
 .have HN:da (aoS k.pure n=n_):=if_neg λhh=>by rw[hk]at hh;cases hh.1
  clear hk;exact TZ
 have HK:=aA hk;clear hk;have Mb:=dx n 0 200 W1;go_wp2_with fail;refine Mb.mono ?_;clear Mb;rintro e W2 ⟨rfl,rfl⟩;cases h5:cv n 0 200
 .have HN:da (aoS k.pure n=n_):=if_neg λhh=>by rw[h5]at hh;cases hh.2.1
  clear h5;exact TZ
 have HI:=aA h5;clear h5;have hn:=bz.1 HI.I;have eu:0<=k.bE/\k.bE<=500000000:=aob HK.I;have e3:IntKind.wrap j_ (k.bE+n)=k.bE+n:=Zca
 obtain⟨m0,m1,m2,m3,m4⟩:=S.I.ks.box.cells;by_cases hgt:500000000<k.bE+n
 .have HN:da (aoS k.pure n=n_):=if_neg λhh=>by have:k.bE+n<=500000000:=hh.2.2;omega
  clear hn eu;exact TZ
 obtain⟨m,rfl⟩:∃m:Nat,n=(m:Int):=⟨n.toNat,zw⟩
 have HM:da (k.bE+m<=500000000/\m<=200/\aoS k.pure m=aoe m k.pure):=⟨zw,zw,if_pos ⟨HK.I,HI.I,by show k.bE+m<=_;omega⟩⟩
 clear hn eu HI;have Mb:=aaz k W2 (Ug HF.I.1) S.I.ks.MT;go_wp2_with fail;clear m0 m1 m2 m3 m4 e3 hgt;refine Mb.mono ?_;clear Mb;rintro e W3 ⟨k3,g3,rfl,Bn,wu,hg3,hb3⟩;have HR:da (apo w W3.heap.size (o_ k.pure) k3 (W3.alloc (c_ k3.row 30))):=by
  have hl:=(J2.1 S.I.I).1;have hz:=hb3.size;have hb:B_ W2.heap.size W2 (W3.alloc (c_ k3.row 30)):=hb3.alloc hz _;exact⟨(S.I.below hb).ks.low,(S.I.below hb).I,zw,Kj _ _,(Bn.below ((Kp _ _).alloc (Ki _) _)).lower zw,λhm=>by have:=(Bn.lt hm).2;omega,wu,λ_=>⟨g3,hg3.1,by have:=hg3.2;simp;omega⟩⟩
 clear Bn wu hg3 hb3 S;go_upto_region 4 with fail;generalize W3.alloc (c_ k3.row 30)=W4 at*;generalize W3.heap.size=X at*;go_wp2_with fail
 go_loopw[7,8] (λok i wr=>∃(j:Nat)(r:Option kd)(q:eA),ok=b_ r.isSome/\i=i_ j_ j/\j<=m/\da (apo w X r q wr/\r=aoe j k.pure)) (λ_ i _=>m-(Go.RowKit.intOf i).toNat)
 case atStart=>exact⟨0,o_ k.pure,k3,rfl,rfl,Ky _,HR.I,rfl⟩
 case round=>
  clear HR;obtain⟨j,r,q,rfl,rfl,hj,HR⟩:=hrel;by_cases hlt:j<m
  .have i1:(j:Int)<(m:Int):=zw
   have e3:IntKind.wrap j_ ((j:Int)+1)=(j:Int)+1:=by have h5:=HM.I.2.1;rw[K8];omega
   cases hr:r with
   |none=>
    have HN:da (aoS k.pure m=n_):=by show _=_;rw[HM.I.2.2];exact aoI (HR.I.2.symm.trans hr) hj
    exact Zaz
   |some k2=>
    subst hr;have HP:da (q.pure=k2/\eP k2=true/\k2.Small):=by
     obtain⟨a1,a2,-⟩:=aoA HK.I HF.I.1 (n:=j) (by have h5:=HM.I.1;show k.bE+j<=_;omega) HR.I.2.symm;exact⟨HR.I.1.pure,a1,a2⟩
    obtain⟨afz,hgq⟩:=HR.I.1.win rfl;have Mb:=aoM q afz wr (by rw[HP.I.1];exact HP.I.2.2) (by rw[HP.I.1];exact HP.I.2.1) hgq HR.I.1.own.at;rw[HP.I.1]at Mb;clear hgq;obtain⟨x0,x1,x2,x3,x4⟩:=HR.I.1.box.cells;go_wp2_with fail;clear x0 x1 x2 x3 x4;refine Mb.mono ?_;clear Mb;intro e V hV;obtain⟨q2,rfl,lW,hI⟩:=HR.I.1.next hV;have HV:da (Tk V X q/\apo w X (aog k2) q2 (V.setRow X q2.row)/\aog k2=aoe (j+1) k.pure):=⟨lW,hI,by rw[aoe,<-HR.I.2];rfl⟩
    clear hV lW hI;go_wp2_with(refine stK 6 38 q2.row HV.I.1 ?_);go_roundw
    case rel=>exact⟨j+1,aog k2,q2,rfl,zy,zw,HV.I.2⟩
    case measure=>exact ZbL
  .have i1:¬(j:Int)<(m:Int):=zw
   have hjm:j=m:=zw
   subst hjm;cases hr:r with
   |none=>
    have HN:da (aoS k.pure j=n_):=by show _=_;rw[HM.I.2.2,<-HR.I.2,hr]
    exact Zaz
   |some k2=>
    subst hr;have HN:da (aoS k.pure j=o_ k2):=by show _=_;rw[HM.I.2.2,<-HR.I.2]
    obtain⟨x0,x1,x2,x3,x4⟩:=HR.I.1.box.cells;go_wp2_with(refine stK 4 43 q.row HR.I.1.I ?_);refine aaf results59 (b_ true) HR.I.1.I ?_;rw[HN.I];obtain⟨afz,h1,h2⟩:=HR.I.1.win rfl;exact⟨q,rfl,(HR.I.1.own.lower zw).same λb hb=>KH _ _ _ _ (by have:=(HR.I.1.own.lt hb).1;omega),HR.I.1.pure,q_ HR.I.1.low zw _,λ_=>⟨afz,h1,by rw[setRow_size];exact h2⟩⟩

structure th (A:w_)(a:Option d_)(len cap X:Nat)(q:af)(W:w_):Prop where
 rd:Rd A.heap.size a len cap W
 low:B_ A.heap.size A W
 own:ap W (A.heap.size+1) q
 small:q.pure.Small
 box:av W X q
 hx:A.heap.size<X
section
variable {len cap X:Nat}{a:Option d_}{A af8 W W2:w_}{q:af}
def th.drawn (h:th A a len cap X q W)(hb:gG A.heap.size W W2)(hr:Rd A.heap.size a len cap W2):th A a len cap X q W2:=by
 have hx:=h.hx;exact⟨hr,h.low.trans (hb.below (Ki _) h.low.size),h.own.same λg hg=>hb.block g (h.own.lt g hg).2 Zeg,h.small,(hb.block _ (av.lt h.box) zw).trans h.box,hx⟩
def th.reads (h:th A a len cap X q W)(hb:B_ W.heap.size W W2):th A a len cap X q W2:=h.drawn (gG.dI hb) (h.rd.below hb)
def th.first (h1:B_ A.heap.size A af8)(hr1:Rd A.heap.size a len cap af8)(hb:gG A.heap.size af8 W)(ho:ap W af8.heap.size q)(hs:q.pure.Small)(hr:Rd A.heap.size a len cap W):th A a len cap W.heap.size q ((W.alloc (c_ ar 46)).setRow W.heap.size q.cells):=by
 have hz:B_ W.heap.size W ((W.alloc (c_ ar 46)).setRow W.heap.size q.cells):=q_ ((Kp _ _).alloc (Ki _) _) (Ki _) _;have h2:=hr1.lt;have h3:=h1.size;have h4:=hb.size;exact⟨hr.below hz,h1.trans ((hb.below (Ki _) h3).trans (hz.mono zw)),(ho.lower zw).below hz,hs,KU _ _ _ _ _ _ (Kj _ _),zw⟩
end
end
section
open Go.Maps
structure JR (w0:w_)(a:Option d_)(len:Nat)(L:List (Nat×af))(B:List (Nat×Array v_×T_))(W:w_):Prop where
 ins:∀x∈L,o8 W x.1 w0.heap.size x.2
 box:∀x∈B,oc x.2.1 x.2.2 x.1 W
 low:B_ w0.heap.size w0 W
 bytes:Bytes W a len
section
variable {w0 W A:w_}{a:Option d_}{len:Nat}{L:List (Nat×af)}{B:List (Nat×Array v_×T_)}{q:af}
def JR.below (h:JR w0 a len L B W)(hb:B_ W.heap.size W A):JR w0 a len L B A:=
 ⟨λx hx=>(h.ins x hx).below hb,λx hx=>(h.box x hx).below hb,h.low.trans (hb.mono h.low.size),h.bytes.below hb⟩
def JR.add (h:JR w0 a len L B A){X:Nat}(hp:o8 A X w0.heap.size q):JR w0 a len ((X,q)::L) B A:=
 ⟨λx hx=>(Kt.1 hx).elim (λe=>by rw[e];exact hp) (h.ins x),h.box,h.low,h.bytes⟩
def JR.put (h:JR w0 a len L B W)(hb:B_ W.heap.size W A)(ho:ap A W.heap.size q):JR w0 a len ((A.heap.size,q)::L) B ((A.alloc (c_ ar 46)).setRow A.heap.size q.cells):=by
 have hz:B_ A.heap.size A ((A.alloc (c_ ar 46)).setRow A.heap.size q.cells):=q_ ((Kp _ _).alloc (Ki _) _) (Ki _) _;exact((h.below hb).below hz).add ⟨KU _ _ _ _ _ _ (Kj _ _),(ho.lower h.low.size).below hz⟩
end
end
section
open Go.Maps
attribute [local go_sem ↓] Kc Kd
def Nn (p q:af)(w:w_)(bp bq:Nat)(hsp:p.pure.Small)(hop:ap w bp p)(Pv:q.pure.Small)(hoq:ap w bq q)(h:p.pure=q.pure):
  k_ J3 26 #[a_ p.cells,a_ q.cells] w λe w'=>e=r_ (b_ true)/\B_ w.heap.size w w':=by
 have e0:(p.id==q.id)=true:=by have:=congrArg aE.id h;simpa[af.pure]using this
 have e1:(p.next==q.next)=true:=by have:=congrArg aE.next h;simpa[af.pure]using this
 have e2:((p.L8.length:Int)==(q.L8.length:Int))=true:=by have:=congrArg (λx:aE=>x.L8.length) h;simp only[af.pure,KG]at this;simp[this]
 have hz:B_ w.heap.size w ((w.alloc (c_ p.cells 46)).alloc (c_ q.cells 46)):=((Kp _ _).alloc (Ki _) _).alloc zy _;have S:da (o8 ((w.alloc (c_ p.cells 46)).alloc (c_ q.cells 46)) w.heap.size bp p/\o8 ((w.alloc (c_ p.cells 46)).alloc (c_ q.cells 46)) (w.heap.size+1) bq q/\B_ w.heap.size w ((w.alloc (c_ p.cells 46)).alloc (c_ q.cells 46))):=⟨⟨(((Kp _ _).alloc (Ki _) _).block _ zy).trans (Kj _ _),hop.below hz⟩,⟨Kq _ _ _,hoq.below hz⟩,hz⟩
 have HS:da (p.pure.Small/\q.pure.Small/\p.pure=q.pure):=⟨hsp,Pv,h⟩
 clear hsp hop Pv hoq h hz
 go_enter func26,ntmps26
 go_upto_region 1 with fail;generalize(w.alloc (c_ p.cells 46)).alloc (c_ q.cells 46)=A at*;generalize hX:w.heap.size+1=X at*;clear hX;have NR:da (∀W W2:w_,da (o8 W w.heap.size bp p/\o8 W X bq q/\B_ w.heap.size w W)->B_ W.heap.size W W2->da (o8 W2 w.heap.size bp p/\o8 W2 X bq q/\B_ w.heap.size w W2)):=λW W2 h hb=>⟨h.I.1.below hb,h.I.2.1.below hb,h.I.2.2.trans (hb.mono h.I.2.2.size)⟩
 refine aT (λW=>da (o8 W w.heap.size bp p/\o8 W X bq q/\B_ w.heap.size w W)) ZbG (NR.I _ _ S (Kp _ _).drew) ?_
 iterate 23 (refine PI ?_ (hy:=λw0 hS0=>Zb8))
 refine b9 (NF p.pure) 45 #[a_ p.row] (λw0 h0=>(MS p w0 (dV HS.I.1) (λx hx=>(cY HS.I.1 hx).1) h0.I.1.2.at).mono λe w1 h=>⟨h.1,NR.I _ _ h0 h.2⟩) ?_;refine PI ?_ (hy:=λw0 hS0=>Zb8);refine b9 (NF p.pure) 45 #[a_ q.row] (λw0 h0=>(MS q w0 (dV HS.I.2.1) (λx hx=>(cY HS.I.2.1 hx).1) h0.I.2.1.2.at).mono λe w1 h=>⟨by rw[HS.I.2.2];exact h.1,NR.I _ _ h0 h.2⟩) ?_;generalize NF p.pure=T at*
 iterate 3 (refine PI ?_ (hy:=λw0 hS0=>Zb8))
 refine bk ZbG (λA2 y5=>?_) _;clear S NR;go_wp2;go_ret;exact⟨al zy,y5.I.2.2⟩
end
end Go.Proofs.YtckenjkcmajicaaGreat
