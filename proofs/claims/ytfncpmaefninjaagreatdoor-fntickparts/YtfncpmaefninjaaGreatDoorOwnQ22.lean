/- What the proof leans on, part 22. -/
import Derived.Test.YtfncpmaefninjaaGreatDoorOwnQ15
import Derived.Test.YtfncpmaefninjaaGreatDoorOwnQ20
import Derived.Test.YtfncpmaefninjaaGreatDoorOwnQ21
import Derived.Deep.CutRange
set_option linter.all false
set_option maxRecDepth 100000
set_option maxHeartbeats 8000000
open Go.Proofs.Tryz
open Go renaming World->w_,Value->v_,Calls->k_,Addr->d_,TypeId->T_,below_setRow->q_
open Go.Ending renaming returned->r_
open Go.IntKind renaming i64->j_
open Go.Obj renaming cells->c_
open Go.RowKit renaming Below->B_,Hid->bN
open Go.Value renaming int->i_,slice->s_,bool->b_,string->t_,agg->a_,pointer->p_,tuple->u_
open Option renaming some->o_,none->n_
open Go renaming wp_at_succ->Kd,wp_at_zero->Kc
open Go.Proofs.Tryz renaming prog->J3
open List renaming getElem_cons_succ->K1,getElem_cons_zero->K0,getElem_toArray->KZ,length_nil->K4

open Go.RowKit
namespace Go.Proofs.YtfncpmaefninjaaGreatDoor
section
open Go.Maps
attribute [local go_sem ↓] Kc Kd
def opP_1 {bC:Int} {x:aD} {o:dN} {p:aE} (h:o.1=1):lX bC x o p=GY x o p:=by unfold lX; simp [h]
def opP_2 {bC:Int} {x:aD} {o:dN} {p:aE} (h:o.1=2):lX bC x o p=kC 2 0 rM (bC+o.2.1) x.id p:=by unfold lX; simp [h]
def opP_3 {bC:Int} {x:aD} {o:dN} {p:aE} (h:o.1=3):lX bC x o p=mh o bC x.id p:=by unfold lX; simp [h]
def opP_4 {bC:Int} {x:aD} {o:dN} {p:aE} (h:o.1=4):lX bC x o p=gJ o x.id p:=by unfold lX; simp [h]
def opP_5 {bC:Int} {x:aD} {o:dN} {p:aE} (h:o.1=5):lX bC x o p=dE o bC x.id p:=by unfold lX; simp [h]
def opP_6 {bC:Int} {x:aD} {o:dN} {p:aE} (h:o.1=6):lX bC x o p=dE o bC x.id p:=by unfold lX; simp [h]
def opP_7 {bC:Int} {x:aD} {o:dN} {p:aE} (h:o.1=7):lX bC x o p=dE o bC x.id p:=by unfold lX; simp [h]
def opP_8 {bC:Int} {x:aD} {o:dN} {p:aE} (h:o.1=8):lX bC x o p=lc o bC x.id p:=by unfold lX; simp [h]
def opP_9 {bC:Int} {x:aD} {o:dN} {p:aE} (h:o.1=9):lX bC x o p=ka o bC x.id p:=by unfold lX; simp [h]
def opP_10 {bC:Int} {x:aD} {o:dN} {p:aE} (h:o.1=10):lX bC x o p=dC o bC x.id p:=by unfold lX; simp [h]
def opP_11 {bC:Int} {x:aD} {o:dN} {p:aE} (h:o.1=11):lX bC x o p=dC o bC x.id p:=by unfold lX; simp [h]
def opP_12 {bC:Int} {x:aD} {o:dN} {p:aE} (h:o.1=12):lX bC x o p=dC o bC x.id p:=by unfold lX; simp [h]
def opP_13 {bC:Int} {x:aD} {o:dN} {p:aE} (h:o.1=13):lX bC x o p=ig o x.id p:=by unfold lX; simp [h]
def opP_14 {bC:Int} {x:aD} {o:dN} {p:aE} (h:o.1=14):lX bC x o p=gC o x.id p:=by unfold lX; simp [h]
def opP_15 {bC:Int} {x:aD} {o:dN} {p:aE} (h:o.1=15):lX bC x o p=jU o x.id p:=by unfold lX; simp [h]
def opP_16 {bC:Int} {x:aD} {o:dN} {p:aE} (h:o.1=16):lX bC x o p=lg o x.id p:=by unfold lX; simp [h]
def opP_17 {bC:Int} {x:aD} {o:dN} {p:aE} (h:o.1=17):lX bC x o p= { p with L8:=ce x.id (fun y=> { y with pc:=0 }) p.L8 } :=by unfold lX; simp [h]
def nR (w:w_) (o:Obj):(w.alloc o).heap.size=w.heap.size+1:=by simp
def Fr.more {w W:w_} {M M2 bj:Nat} {q0 z q:af} (h:Fr w M bj q0 z q W) (hq: ∀ g∈q.Mc,g∈q0.Mc) (hM:M<=M2/\M2<=W.heap.size):Fr w M2 bj q0 z q W:=⟨h.box,h.own,h.kept,fun g hg=> .inl (hq g hg),h.lo,by have:=h.sz; omega,hM.2,h.sz.2.2⟩
def G6 (q:af) (n bj:Nat) (x:ao) (bC:Int) (w:w_) (h:ap w bj q) (hb:bj<=w.heap.size) (hr:aQ q.pure) (hx:q.L8[n]? =o_ x) (hs:x.Md=1) (hn:q.next<=999999990) (eu:0<=bC/\bC<=1000000000):
  k_ J3 45 #[a_ q.cells,i_ j_ n,i_ j_ bC] w (jH w bj q (lX bC x.toaD (opAt x.toaD) q.pure)):=by
 have ho:=(AW (bC:=bC) hr (iu hx) hs hn eu).1;have k1:=(hr.proc (iu hx)).2.1;have hop:=iT k1 (by rw [show x.toaD.Md=1 from hs]; decide);have hlen:x.prog.length<=20:=by have h5:=iF k1; unfold jY at h5; simp only [J7] at h5; exact (lK h5.1.1.1.2).2
 obtain ⟨k,hk⟩: ∃ k:Nat,x.pc=(k:Int):=⟨x.pc.toNat,by have:=hop.1; omega⟩
 have hkl:k < x.prog.length:=by have:=hop.2; have e:x.toaD.pc=x.pc:=rfl; omega
 have hoa:x.prog[k]? =o_ (opAt x.toaD):=by unfold opAt; rw [show x.toaD.pc.toNat=k by rw [show x.toaD.pc=(k:Int) from hk]; rfl,Kz hkl]; rfl
 have hl:x.left=x.toaD.left:=rfl;have hlb:(opAt x.toaD).1=1->0<=x.left/\x.left < (opAt x.toaD).2.1:=fun e=>by
  rw [fG,J7] at k1;have h3:=k1.2;unfold bO at h3;rw [if_neg (by rw [show x.toaD.Md=1 from hs]; decide),if_pos hs] at h3;simp only [J7] at h3;have h4:=h3.1.1.1.2;unfold jJ at h4;rw [if_pos e] at h4;simp only [J7,decide_eq_true_eq] at h4;exact h4
 generalize opAt x.toaD=o at *;have HR:bN (aQ q.pure/\q.L8[n]? =o_ x/\x.Md=1/\q.next<=999999990/\(0<=bC/\bC<=1000000000)/\kc o=true/\x.prog[k]? =o_ o/\(o.1=1->0<=x.left/\x.left < o.2.1)):=⟨hr,hx,hs,hn,eu,ho,hoa,hlb⟩
 have b1:=dT w (c_ q.cells 31) (c_ ar 31);have h2:=cZ w (c_ q.cells 31) (c_ ar 31);have S:bN (Fr w (w.heap.size+2) bj q q q ((w.alloc (c_ q.cells 31)).alloc (c_ ar 31))/\((w.alloc (c_ q.cells 31)).alloc (c_ ar 31)).heap[w.heap.size+1]? =o_ (c_ ar 31)/\((w.alloc (c_ q.cells 31)).alloc (c_ ar 31)).heap.size=w.heap.size+2):=⟨Fr.start h hb h2.1 b1 ⟨zo,by have:=(J2.1 h2.2).1; omega⟩,h2.2,by rw [nR,nR]⟩
 have j0:(0:Int)<=(n:Int):=zo
 have j1:(n:Int) < (q.L8.length:Int):=by have:=(Lj.1 hx).1; omega
 have j2:(0:Int)<=(k:Int):=zo
 have Xg:(k:Int) < (x.prog.length:Int):=zo
 obtain ⟨n0,n1⟩:=eu;have HK:bN (x.pc=(k:Int)):=hk;clear h hb hr hx hs hn b1 h2 ho hop hlen hkl hoa hlb hl hk k1
 go_enter func45,ntmps45
 go_upto_region 1 with fail;generalize (w.alloc (c_ q.cells 31)).alloc (c_ ar 31)=A at *;obtain ⟨gs,ha,hat⟩:=cn S.I.1.own.at.1 HR.I.2.1;have m2:=S.I.1.box.cells.2.2.1;rw [ha] at m2;obtain ⟨d0,d1,d2,d3,d4,d5,d6,d7,d8,d9,tH,tS⟩:=hat;have HA:bN (q.aN=o_ ⟨gs,0,n_⟩):=ha;clear ha;have h5:=(Kp A.heap.size A).alloc (Ki _) (c_ x.row 41);have hxb:=Kj A (c_ x.row 41);have hsz:=S.I.2.2;rw [hsz] at hxb;have h6:=S.I.1.reads h5;have S2:=aA (And.intro h6.1 (And.intro ((h6.2 (w.heap.size+1) zo).trans S.I.2.1) (And.intro hxb (show (A.alloc (c_ x.row 41)).heap.size=w.heap.size+3 by rw [nR,hsz]))));have HSZ:bN (A.heap.size=w.heap.size+2):=hsz;clear h5 h6 hxb hsz S;go_upto_region 2 with fail;rw [HSZ.I];generalize A.alloc (c_ x.row 41)=B at *;clear m2 d0 d1 d2 d3 d4 d5 d6 d7 d8 d9 tH tS HSZ;obtain ⟨-,-,x2,-,x4,x5,-⟩:=bo (x:=x) S2.I.2.2.1;rw [HK.I] at x4;obtain ⟨afz,hgq,hoc⟩:=Kind.bU.at (K:=fk) ⟨lA S2.I.1.own.at.1 HR.I.2.1,by simp [fk]⟩ HR.I.2.2.2.2.2.2.1;rw [hgq] at x2;have o0:=hoc 0 _ rfl;have o1:=hoc 1 _ rfl;have o2:=hoc 2 _ rfl;have o3:=hoc 3 _ rfl;rw [show fk.n=4 from rfl] at o0 o1 o2 o3;simp only [Nat.add_zero] at o0;have h5:=(Kp B.heap.size B).alloc (Ki _) (c_ (j9 o) 45);have hob:=Kj B (c_ (j9 o) 45);have hsz:=S2.I.2.2.2;rw [hsz] at hob;have h6:=S2.I.1.reads h5;have S:=aA (And.intro (h6.1.more (M2:=w.heap.size+4) (fun g hg=>hg) ⟨zo,by rw [nR,hsz]; omega⟩) (And.intro ((h6.2 (w.heap.size+1) zo).trans S2.I.2.1) (And.intro ((h5.block (w.heap.size+2) zo).trans S2.I.2.2.1) hob)));have HSZ:bN (B.heap.size=w.heap.size+3):=hsz;clear h5 h6 hob hsz S2 hgq hoc;unfold j9 at S;go_upto_region 3 with fail;rw [HSZ.I];generalize B.alloc (c_ #[i_ j_ o.1,i_ j_ o.2.1,i_ j_ o.2.2.1,t_ o.2.2.2] 45)=C at *;clear o0 o1 o2 o3 x2 x4 x5 j2 Xg HSZ;have HO:bN (oo C (w.heap.size+3) o):=S.I.2.2.2;obtain ⟨-,-,-,-,-,x5,-⟩:=bo (x:=x) S.I.2.2.1;obtain ⟨f0,f1,f2,f3,f4⟩:=dv HR.I.2.2.2.2.2.1;have hM:=bz.1 f2;obtain ⟨kd,N,M,s⟩:=o;simp only at f0 f1 hM;obtain ⟨o0,o1,o2,o3⟩:=HO.I.cells;simp only at o0 o1 o2 o3;clear f2 f3 f4;have zN:bN (kd=1\/kd=2\/kd=3\/kd=4\/kd=5\/kd=6\/kd=7\/kd=8\/kd=9\/kd=10\/kd=11\/kd=12\/kd=13\/kd=14\/kd=15\/kd=16\/kd=17):=by show _\/_; omega
 clear f0;rcases zN.I with rfl | rfl | rfl | rfl | rfl | rfl | rfl | rfl | rfl | rfl | rfl | rfl | rfl | rfl | rfl | rfl | rfl
 focus
  have hlb:=HR.I.2.2.2.2.2.2.2 rfl;simp only at hlb;have hN:=f1 (by decide);clear f1 zN;have HE:=aA (opP_1 (bC:=bC) (x:=x.toaD) (o:=(1,N,M,s)) (p:=q.pure) rfl);have IC:bN (lX bC x.toaD (1,N,M,s) q.pure=if (if x.left=0 then N else x.left)=1 then bu 0 x.id q.pure else { q.pure with L8:=ce x.id (fun y=> { y with left:=(if x.left=0 then N else x.left) - 1 }) q.pure.L8 }):=HE.I;clear HE;obtain ⟨lf,hlf⟩: ∃ lf:Int,lf=if x.left=0 then N else x.left:=⟨_,rfl⟩
  rw [<- hlf] at IC;have hlb2:1<=lf/\lf<=1000:=by rw [hlf]; split <;> omega
  have HL:bN (1<=lf/\lf<=1000):=hlb2;go_upto_region 5 with fail;clear o0;have hgo: ∀ e0:Bool,(x.left == 0)=e0->lf=if e0 then N else x.left:=fun e0 he=>by rw [hlf]; subst he; by_cases h7:x.left=0 <;> simp [h7]
  cases e0:(x.left == 0)
  .have hv:=hgo _ e0
   simp only [J5,if_false] at hv;clear hgo hlf hlb hlb2 hN;by_cases h1:lf=1
   .have e1:(x.left == 1)=true:=by rw [<- hv]; simp [h1]
    exact Zb8
   have e1:(x.left == 1)=false:=by rw [<- hv]; simp [h1]
   have HE:bN (lX bC x.toaD (1,N,M,s) q.pure= { q.pure with L8:=ce x.id (fun y=> { y with left:=lf - 1 }) q.pure.L8 }):=IC.I.trans (if_neg h1);have hw:IntKind.wrap j_ (x.left - 1)=x.left - 1:=by rw [K8]; have:=HL.I; omega
   have HV:bN (lf=x.left):=hv;obtain ⟨s1,⟨u,c⟩,f⟩:=eY (n:=n) (j:=5) (v:=i_ j_ (x.left - 1)) (y:= { x with left:=x.left - 1 }) S.I.1.own HR.I.2.1 HA.I ⟨rfl,rfl,rfl⟩ (by decide) rfl;have m2:=S.I.1.box.cells.2.2.1;rw [HA.I] at m2;have h5:=S.I.1.call s1;have H5:=aA (And.intro h5.1 ((h5.2 (w.heap.size+1) zo zo).trans S.I.2.1));clear h1 hv IC s1 h5;go_upto_region 11 with fail;generalize C.setCell ⟨gs,n * 12+5,n_⟩ (i_ j_ (x.left - 1))=D at *;clear m2 c f u hw;have HP:bN (({ q with L8:=q.L8.set n { x with left:=x.left - 1 } } :af).pure= { q.pure with L8:=ce x.id (fun y=> { y with left:=lf - 1 }) q.pure.L8 }):=by rw [HV.I]; exact g7 (nx:=q.next) HR.I.1.kW HR.I.2.1 rfl
   exact z_
  .have hv:=hgo _ e0
   simp only [if_true] at hv;clear hgo hlf hlb hlb2 hN;by_cases h1:lf=1
   .have e1:(N == 1)=true:=by rw [<- hv]; simp [h1]
    exact Zb8
   have e1:(N == 1)=false:=by rw [<- hv]; simp [h1]
   have HE:bN (lX bC x.toaD (1,N,M,s) q.pure= { q.pure with L8:=ce x.id (fun y=> { y with left:=lf - 1 }) q.pure.L8 }):=IC.I.trans (if_neg h1);have hw:IntKind.wrap j_ (N - 1)=N - 1:=by rw [K8]; have:=HL.I; omega
   have HV:bN (lf=N):=hv;obtain ⟨s1,⟨u,c⟩,f⟩:=eY (n:=n) (j:=5) (v:=i_ j_ (N - 1)) (y:= { x with left:=N - 1 }) S.I.1.own HR.I.2.1 HA.I ⟨rfl,rfl,rfl⟩ (by decide) rfl;have m2:=S.I.1.box.cells.2.2.1;rw [HA.I] at m2;have h5:=S.I.1.call s1;have H5:=aA (And.intro h5.1 ((h5.2 (w.heap.size+1) zo zo).trans S.I.2.1));clear h1 hv IC s1 h5;go_upto_region 11 with fail;generalize C.setCell ⟨gs,n * 12+5,n_⟩ (i_ j_ (N - 1))=D at *;clear m2 c f u hw;have HP:bN (({ q with L8:=q.L8.set n { x with left:=N - 1 } } :af).pure= { q.pure with L8:=ce x.id (fun y=> { y with left:=lf - 1 }) q.pure.L8 }):=by rw [HV.I]; exact g7 (nx:=q.next) HR.I.1.kW HR.I.2.1 rfl
   exact z_
 focus
  have hN:=f1 (by decide);have HE:=aA (opP_2 (bC:=bC) (x:=x.toaD) (o:=(2,N,M,s)) (p:=q.pure) rfl);have Mb:=sT q n bj x 2 0 N bC ⟨#[]⟩ C S.I.1.own Zcv HR.I.1 HR.I.2.1 ZcV HR.I.2.2.2.2.1 ⟨zo,hN.2⟩;rw [show kZ bC N=bC+N by unfold kZ; rw [if_pos zo]] at Mb;clear f1 zN hN hM;go_wp2_with (refine eT _ S.I.1.box ?_);exact ac
 focus
  have HE:=aA (opP_3 (bC:=bC) (x:=x.toaD) (o:=(3,N,M,s)) (p:=q.pure) rfl);have Mb:=CR q n bj x bC (3,N,M,s) C S.I.1.own Zcv HR.I.1 HR.I.2.1 HR.I.2.2.1 HR.I.2.2.2.1 HR.I.2.2.2.2.1 HR.I.2.2.2.2.2.1 rfl;clear f1 zN hM;go_wp2_with (first | (refine eT _ S.I.1.box ?_) | (refine LS rfl 45 (.tmp 8) rfl (w.heap.size+3) (by rfl) 45 (j9 (3,N,M,s)) (0,0) _ S.I.2.2.2 underlying45 rfl Zcq ?_));exact ac
 focus
  have HE:=aA (opP_4 (bC:=bC) (x:=x.toaD) (o:=(4,N,M,s)) (p:=q.pure) rfl);have Mb:=zE q n bj x bC (4,N,M,s) C S.I.1.own Zcv HR.I.1 HR.I.2.1 HR.I.2.2.1 HR.I.2.2.2.1 HR.I.2.2.2.2.1 HR.I.2.2.2.2.2.1 rfl;clear f1 zN hM;go_wp2_with (first | (refine eT _ S.I.1.box ?_) | (refine LS rfl 45 (.tmp 8) rfl (w.heap.size+3) (by rfl) 45 (j9 (4,N,M,s)) (0,0) _ S.I.2.2.2 underlying45 rfl Zcq ?_));exact ac
 focus
  have HE:=aA (opP_5 (bC:=bC) (x:=x.toaD) (o:=(5,N,M,s)) (p:=q.pure) rfl);have Mb:=Ey q n bj x bC (5,N,M,s) C S.I.1.own Zcv HR.I.1 HR.I.2.1 HR.I.2.2.1 HR.I.2.2.2.1 HR.I.2.2.2.2.1 HR.I.2.2.2.2.2.1 rfl;clear f1 zN hM;go_wp2_with (first | (refine eT _ S.I.1.box ?_) | (refine LS rfl 45 (.tmp 8) rfl (w.heap.size+3) (by rfl) 45 (j9 (5,N,M,s)) (0,0) _ S.I.2.2.2 underlying45 rfl Zcq ?_));exact ac
 focus
  have HE:=aA (opP_6 (bC:=bC) (x:=x.toaD) (o:=(6,N,M,s)) (p:=q.pure) rfl);have Mb:=Ab q n bj x bC (6,N,M,s) C S.I.1.own Zcv HR.I.1 HR.I.2.1 HR.I.2.2.1 HR.I.2.2.2.1 HR.I.2.2.2.2.1 HR.I.2.2.2.2.2.1 rfl;clear f1 zN hM;go_wp2_with (first | (refine eT _ S.I.1.box ?_) | (refine LS rfl 45 (.tmp 8) rfl (w.heap.size+3) (by rfl) 45 (j9 (6,N,M,s)) (0,0) _ S.I.2.2.2 underlying45 rfl Zcq ?_));exact ac
 focus
  have HE:=aA (opP_7 (bC:=bC) (x:=x.toaD) (o:=(7,N,M,s)) (p:=q.pure) rfl);have Mb:=BE q n bj x bC (7,N,M,s) C S.I.1.own Zcv HR.I.1 HR.I.2.1 HR.I.2.2.1 HR.I.2.2.2.1 HR.I.2.2.2.2.1 HR.I.2.2.2.2.2.1 rfl;clear f1 zN hM;go_wp2_with (first | (refine eT _ S.I.1.box ?_) | (refine LS rfl 45 (.tmp 8) rfl (w.heap.size+3) (by rfl) 45 (j9 (7,N,M,s)) (0,0) _ S.I.2.2.2 underlying45 rfl Zcq ?_));exact ac
 focus
  have HE:=aA (opP_8 (bC:=bC) (x:=x.toaD) (o:=(8,N,M,s)) (p:=q.pure) rfl);have Mb:=CD q n bj x bC (8,N,M,s) C S.I.1.own Zcv HR.I.1 HR.I.2.1 HR.I.2.2.1 HR.I.2.2.2.1 HR.I.2.2.2.2.1 HR.I.2.2.2.2.2.1 rfl;clear f1 zN hM;go_wp2_with (first | (refine eT _ S.I.1.box ?_) | (refine LS rfl 45 (.tmp 8) rfl (w.heap.size+3) (by rfl) 45 (j9 (8,N,M,s)) (0,0) _ S.I.2.2.2 underlying45 rfl Zcq ?_));exact ac
 focus
  have HE:=aA (opP_9 (bC:=bC) (x:=x.toaD) (o:=(9,N,M,s)) (p:=q.pure) rfl);have Mb:=C0 q n bj x bC (9,N,M,s) C S.I.1.own Zcv HR.I.1 HR.I.2.1 HR.I.2.2.1 HR.I.2.2.2.1 HR.I.2.2.2.2.1 HR.I.2.2.2.2.2.1 rfl;clear f1 zN hM;go_wp2_with (first | (refine eT _ S.I.1.box ?_) | (refine LS rfl 45 (.tmp 8) rfl (w.heap.size+3) (by rfl) 45 (j9 (9,N,M,s)) (0,0) _ S.I.2.2.2 underlying45 rfl Zcq ?_));exact ac
 focus
  have HE:=aA (opP_10 (bC:=bC) (x:=x.toaD) (o:=(10,N,M,s)) (p:=q.pure) rfl);have Mb:=CA q n bj x bC (10,N,M,s) C S.I.1.own Zcv HR.I.1 HR.I.2.1 HR.I.2.2.1 HR.I.2.2.2.1 HR.I.2.2.2.2.1 HR.I.2.2.2.2.2.1 rfl;clear f1 zN hM;go_wp2_with (first | (refine eT _ S.I.1.box ?_) | (refine LS rfl 45 (.tmp 8) rfl (w.heap.size+3) (by rfl) 45 (j9 (10,N,M,s)) (0,0) _ S.I.2.2.2 underlying45 rfl Zcq ?_));exact ac
 focus
  have HE:=aA (opP_11 (bC:=bC) (x:=x.toaD) (o:=(11,N,M,s)) (p:=q.pure) rfl);have Mb:=AS q n bj x bC (11,N,M,s) C S.I.1.own Zcv HR.I.1 HR.I.2.1 HR.I.2.2.1 HR.I.2.2.2.1 HR.I.2.2.2.2.1 HR.I.2.2.2.2.2.1 rfl;clear f1 zN hM;go_wp2_with (first | (refine eT _ S.I.1.box ?_) | (refine LS rfl 45 (.tmp 8) rfl (w.heap.size+3) (by rfl) 45 (j9 (11,N,M,s)) (0,0) _ S.I.2.2.2 underlying45 rfl Zcq ?_));exact ac
 focus
  have HE:=aA (opP_12 (bC:=bC) (x:=x.toaD) (o:=(12,N,M,s)) (p:=q.pure) rfl);have Mb:=Cl q n bj x bC (12,N,M,s) C S.I.1.own Zcv HR.I.1 HR.I.2.1 HR.I.2.2.1 HR.I.2.2.2.1 HR.I.2.2.2.2.1 HR.I.2.2.2.2.2.1 rfl;clear f1 zN hM;go_wp2_with (first | (refine eT _ S.I.1.box ?_) | (refine LS rfl 45 (.tmp 8) rfl (w.heap.size+3) (by rfl) 45 (j9 (12,N,M,s)) (0,0) _ S.I.2.2.2 underlying45 rfl Zcq ?_));exact ac
 focus
  have HE:=aA (opP_13 (bC:=bC) (x:=x.toaD) (o:=(13,N,M,s)) (p:=q.pure) rfl);have Mb:=Av q n bj x (13,N,M,s) C S.I.1.own Zcv HR.I.1 HR.I.2.1 HR.I.2.2.1 HR.I.2.2.2.1 HR.I.2.2.2.2.2.1 rfl;clear f1 zN hM;go_wp2_with (first | (refine eT _ S.I.1.box ?_) | (refine LS rfl 45 (.tmp 8) rfl (w.heap.size+3) (by rfl) 45 (j9 (13,N,M,s)) (0,0) _ S.I.2.2.2 underlying45 rfl Zcq ?_));exact ac
 focus
  have HE:=aA (opP_14 (bC:=bC) (x:=x.toaD) (o:=(14,N,M,s)) (p:=q.pure) rfl);have Mb:=BS q n bj x (14,N,M,s) C S.I.1.own Zcv HR.I.1 HR.I.2.1 HR.I.2.2.1 HR.I.2.2.2.1 HR.I.2.2.2.2.2.1 rfl;clear f1 zN hM;go_wp2_with (first | (refine eT _ S.I.1.box ?_) | (refine LS rfl 45 (.tmp 8) rfl (w.heap.size+3) (by rfl) 45 (j9 (14,N,M,s)) (0,0) _ S.I.2.2.2 underlying45 rfl Zcq ?_));exact ac
 focus
  have HE:=aA (opP_15 (bC:=bC) (x:=x.toaD) (o:=(15,N,M,s)) (p:=q.pure) rfl);have Mb:=BU q n bj x (15,N,M,s) C S.I.1.own Zcv HR.I.1 HR.I.2.1 HR.I.2.2.1 HR.I.2.2.2.1 HR.I.2.2.2.2.2.1 rfl;clear f1 zN hM;go_wp2_with (first | (refine eT _ S.I.1.box ?_) | (refine LS rfl 45 (.tmp 8) rfl (w.heap.size+3) (by rfl) 45 (j9 (15,N,M,s)) (0,0) _ S.I.2.2.2 underlying45 rfl Zcq ?_));exact ac
 focus
  have HE:=aA (opP_16 (bC:=bC) (x:=x.toaD) (o:=(16,N,M,s)) (p:=q.pure) rfl);have Mb:=C9 q n bj x (16,N,M,s) C S.I.1.own Zcv HR.I.1 HR.I.2.1 HR.I.2.2.1 HR.I.2.2.2.1 HR.I.2.2.2.2.2.1 rfl;clear f1 zN hM;go_wp2_with (first | (refine eT _ S.I.1.box ?_) | (refine LS rfl 45 (.tmp 8) rfl (w.heap.size+3) (by rfl) 45 (j9 (16,N,M,s)) (0,0) _ S.I.2.2.2 underlying45 rfl Zcq ?_));exact ac
 have HE:=aA (opP_17 (bC:=bC) (x:=x.toaD) (o:=(17,N,M,s)) (p:=q.pure) rfl);clear f1 zN hM;obtain ⟨s1,⟨u,c⟩,f⟩:=eY (n:=n) (j:=4) (v:=i_ j_ 0) (y:= { x with pc:=0 }) S.I.1.own HR.I.2.1 HA.I ⟨rfl,rfl,rfl⟩ (by decide) rfl;have m2:=S.I.1.box.cells.2.2.1;rw [HA.I] at m2;have h5:=S.I.1.call s1;have H5:=aA (And.intro h5.1 ((h5.2 (w.heap.size+1) zo zo).trans S.I.2.1));clear s1 h5;go_upto_region 34 with fail;generalize C.setCell ⟨gs,n * 12+4,n_⟩ (i_ j_ 0)=D at *;clear m2 c f u;have HP:bN (({ q with L8:=q.L8.set n { x with pc:=0 } } :af).pure= { q.pure with L8:=ce x.id (fun y=> { y with pc:=0 }) q.pure.L8 }):=g7 (nx:=q.next) HR.I.1.kW HR.I.2.1 rfl;exact z_
def zx (p:af) (bC:Int) (w:w_) (hf:p.Fit) (hs: ∀ x∈p.L8,x.dX) (h:af.At w p) (hr:aQ p.pure) (hn:p.next<=999999980) (eu:0<=bC/\bC<=1000000000):
  k_ J3 29 #[a_ p.cells,i_ j_ bC] w fun e w'=> ∃ q:af,e=r_ (a_ q.cells)/\q.pure=mS bC p.pure/\ap w' w.heap.size q/\B_ w.heap.size w w':=by
 have b1:=dT w (c_ p.cells 31) (c_ ar 31);have h2:=cZ w (c_ p.cells 31) (c_ ar 31);have hA:af.At ((w.alloc (c_ p.cells 31)).alloc (c_ ar 31)) p:=h.below b1;have S:bN (av ((w.alloc (c_ p.cells 31)).alloc (c_ ar 31)) w.heap.size p/\B_ w.heap.size w ((w.alloc (c_ p.cells 31)).alloc (c_ ar 31))/\((w.alloc (c_ p.cells 31)).alloc (c_ ar 31)).heap[w.heap.size+1]? =o_ (c_ ar 31)):=⟨h2.1,b1,h2.2⟩
 have HR:bN (aQ p.pure/\p.next<=999999980/\(0<=bC/\bC<=1000000000)/\p.Fit/\(∀ x∈p.L8,x.dX)):=⟨hr,hn,eu,hf,hs⟩
 have Mb:=fR p _ hf hs hA;clear h b1 h2 hA hr hn eu hf hs
 go_enter func29,ntmps29
 go_upto_region 1 with fail;generalize (w.alloc (c_ p.cells 31)).alloc (c_ ar 31)=A at *;go_wp2_with (refine eT _ S.I.1 ?_);refine Mb.mono ?_;clear Mb;rintro e af8 ⟨q,rfl,hown,gn,hb1⟩;have hsz:=(J2.1 S.I.2.2).1;replace S:bN (B_ w.heap.size w af8/\af8.heap[w.heap.size+1]? =o_ (c_ ar 31)/\w.heap.size+1 < A.heap.size/\A.heap.size<=af8.heap.size):=⟨S.I.2.1.trans (hb1.mono S.I.2.1.size),(hb1.block _ hsz).trans S.I.2.2,hsz,hb1.size⟩
 have Pv: ∀ x∈q.L8,x.prog.length<=1048576:=fun x hx=>by
  have h5:x.toaD∈p.pure.L8:=by rw [<- gn]; exact Lr.2 ⟨x,hx,rfl⟩
  obtain ⟨y,hy,e⟩:=Lr.1 h5;have h6:=(HR.I.2.2.2.2 y hy).1;have h7:y.prog=x.prog:=congrArg aD.prog e;rw [<- h7]; exact h6
 have Mb:=ti q bC A.heap.size af8 hown hb1.size (by rw [gn]; exact af9.of HR.I.1 HR.I.2.1) Pv;rw [gn] at Mb;clear hsz hown gn hb1 Pv;go_wp2_with fail;refine Mb.mono ?_;clear Mb;rintro e A2 ⟨q2,rfl,hp2,DU,hb2⟩;have h5:=(Kp A2.heap.size A2).alloc (Ki _) (c_ q2.cells 31);replace S:bN (B_ w.heap.size w A2/\A2.heap[w.heap.size+1]? =o_ (c_ ar 31)/\w.heap.size+1 < A.heap.size/\ap A2 A.heap.size q2/\q2.pure=gj bC p.pure/\A.heap.size<=A2.heap.size):=⟨S.I.1.trans (hb2.mono (by have:=S.I.2.2.1; omega)),(hb2.block _ S.I.2.2.1).trans S.I.2.1,S.I.2.2.1,DU,hp2,LG S.I.2.2.2 hb2.size⟩
 clear hp2 DU hb2 h5;go_upto_region 2 with (refine ec _ _ q2.cells (Kj _ _) ?_);have lW:B_ A2.heap.size A2 ((A2.alloc (c_ ar 31)).setRow A2.heap.size q2.cells):=q_ ((Kp _ _).alloc (Ki _) _) (Ki _) _;replace S:bN (B_ w.heap.size w ((A2.alloc (c_ ar 31)).setRow A2.heap.size q2.cells)/\((A2.alloc (c_ ar 31)).setRow A2.heap.size q2.cells).heap[w.heap.size+1]? =o_ (c_ ar 31)/\w.heap.size+1 < A.heap.size/\ap ((A2.alloc (c_ ar 31)).setRow A2.heap.size q2.cells) A.heap.size q2/\q2.pure=gj bC p.pure/\av ((A2.alloc (c_ ar 31)).setRow A2.heap.size q2.cells) A2.heap.size q2/\A.heap.size<=A2.heap.size/\A2.heap.size < ((A2.alloc (c_ ar 31)).setRow A2.heap.size q2.cells).heap.size/\(∀ g∈q2.Mc,g < A2.heap.size)):=⟨S.I.1.trans (lW.mono S.I.1.size),(lW.block _ (by have:=S.I.2.2; omega)).trans S.I.2.1,S.I.2.2.1,S.I.2.2.2.1.below lW,S.I.2.2.2.2.1,KU _ _ _ _ _ _ (Kj _ _),S.I.2.2.2.2.2,by simp,fun g hg=>(S.I.2.2.2.1.lt g hg).2⟩
 clear lW;generalize (A2.alloc (c_ ar 31)).setRow A2.heap.size q2.cells=B at *;generalize A2.heap.size=X at *;have HW:=aA (ru (bC:=bC) HR.I.1 (by have h5:=HR.I.2.1; have e:p.pure.next=p.next:=rfl; omega));have HWR:bN (aQ q2.pure):=by show aQ q2.pure; rw [S.I.2.2.2.2.1]; exact HW.I.1
 have Mb:=ij q2 1 0 B (by have:=(dW HWR.I).1; omega) S.I.2.2.2.1.at;go_wp2_with (refine eT _ S.I.2.2.2.2.2.1 ?_);refine Mb.mono ?_;clear Mb;rintro e B2 ⟨⟨z,rfl,gV⟩,hb2⟩;replace S:bN (B_ w.heap.size w B2/\B2.heap[w.heap.size+1]? =o_ (c_ ar 31)/\w.heap.size+1 < A.heap.size/\ap B2 A.heap.size q2/\q2.pure=gj bC p.pure/\av B2 X q2/\A.heap.size<=X/\X < B2.heap.size/\(∀ g∈q2.Mc,g < X)):=⟨S.I.1.trans (hb2.mono S.I.1.size),(hb2.block _ (by have:=S.I.2.2; omega)).trans S.I.2.1,S.I.2.2.1,S.I.2.2.2.1.below hb2,S.I.2.2.2.2.1,S.I.2.2.2.2.2.1.below hb2,S.I.2.2.2.2.2.2.1,by have:=hb2.size; have:=S.I.2.2.2.2.2.2.2.1; omega,S.I.2.2.2.2.2.2.2.2⟩
 clear hb2;rcases pp gV with ⟨hz,hw⟩ | ⟨i,v,hz,hi,hw⟩
 .have afO:decide (z < 0)=true:=decide_eq_true hz
  have HE:bN (q2.pure=mS bC p.pure):=by show q2.pure=_; unfold mS; rw [<- S.I.2.2.2.2.1,hw]
  clear gV hz hw;go_wp2_with (first | (refine eT _ S.I.2.2.2.2.2.1 ?_) | (refine ec _ _ q2.cells S.I.2.1 ?_));refine gZ results29 S.I.2.1 ?_;exact ⟨q2,rfl,HE.I,(S.I.2.2.2.1.lower (by have:=S.I.2.2.1; omega)).same fun g hg=>KH _ _ _ _ (by have:=(S.I.2.2.2.1.lt g hg).1; have:=S.I.2.2.1; omega),q_ S.I.1 zo _⟩
 subst hz;have afO:decide ((i:Int) < 0)=false:=decide_eq_false zo;have hm:=ft hw;have HE:bN (lX bC v.toaD (opAt v.toaD) q2.pure=mS bC p.pure):=by show lX bC v.toaD (opAt v.toaD) q2.pure=_; unfold mS; rw [<- S.I.2.2.2.2.1,hw]
 have Mb:=G6 q2 i A.heap.size v bC B2 S.I.2.2.2.1 (by have:=S.I.2.2.2.2.2.2; omega) HWR.I hi hm.2.1 (by have h5:=HW.I.2.2; have h6:q2.next=(gj bC p.pure).next:=congrArg aE.next S.I.2.2.2.2.1; have h7:=HR.I.2.1; have e:p.pure.next=p.next:=rfl; omega) HR.I.2.2.1;rw [HE.I] at Mb;clear gV hi hw hm;go_wp2_with (refine eT _ S.I.2.2.2.2.2.1 ?_);refine Mb.mono ?_;clear Mb afO;rintro e B3 ⟨q3,rfl,wu,ht⟩;have S3:bN (B_ w.heap.size w B3/\B3.heap[w.heap.size+1]? =o_ (c_ ar 31)/\ap B3 A.heap.size q3/\q3.pure=mS bC p.pure/\w.heap.size+1 < A.heap.size):=by
  have hlt:=S.I.2.2.1;have hbb:=S.I.2.2.2.2.2.2;have hlo: ∀ g∈q2.Mc,A.heap.size<=g:=fun g hg=>(S.I.2.2.2.1.lt g hg).1
  exact ⟨S.I.1.trans ((ht.kept.below zo hlo).mono zo),(ht.kept.same _ zo (fun hm=>by have:=hlo _ hm; omega)).trans S.I.2.1,ht.own,wu,hlt⟩
 clear wu ht S;go_wp2_with (refine ec _ _ q3.cells S3.I.2.1 ?_);refine gZ results29 S3.I.2.1 ?_;exact ⟨q3,rfl,S3.I.2.2.2.1,(S3.I.2.2.1.lower (by have:=S3.I.2.2.2.2; omega)).same fun g hg=>KH _ _ _ _ Zdq,q_ S3.I.1 zo _⟩
def vu (p:af) (bC:Int) (w:w_) (hf:p.Fit) (hs: ∀ x∈p.L8,x.dX) (h:af.At w p):
  k_ J3 10 #[a_ p.cells,i_ j_ bC] w fun e w'=>gI w (hZ p.pure bC) e w':=by
 have b1:=dT w (c_ p.cells 31) (c_ ar 31);have h2:=cZ w (c_ p.cells 31) (c_ ar 31);have S:bN (av ((w.alloc (c_ p.cells 31)).alloc (c_ ar 31)) w.heap.size p/\af.At ((w.alloc (c_ p.cells 31)).alloc (c_ ar 31)) p/\B_ w.heap.size w ((w.alloc (c_ p.cells 31)).alloc (c_ ar 31))/\((w.alloc (c_ p.cells 31)).alloc (c_ ar 31)).heap[w.heap.size+1]? =o_ (c_ ar 31)):=⟨h2.1,h.below b1,b1,h2.2⟩
 have fl:bN (p.Fit/\ ∀ x∈p.L8,x.dX):=⟨hf,hs⟩
 clear h hf hs b1 h2
 go_enter func10,ntmps10
 go_upto_region 1 with fail;generalize (w.alloc (c_ p.cells 31)).alloc (c_ ar 31)=A at *;have Mb:=eV p A fl.I.1 fl.I.2 S.I.2.1;go_wp2_with (refine eT _ S.I.1 ?_);refine Mb.mono ?_;clear Mb;rintro e af8 ⟨rfl,hb⟩;replace S:bN (av (af8) w.heap.size p/\af.At (af8) p/\B_ w.heap.size w (af8)/\(af8).heap[w.heap.size+1]? =o_ (c_ ar 31)):=⟨S.I.1.below hb,S.I.2.1.below hb,S.I.2.2.1.trans (hb.mono S.I.2.2.1.size),(hb.block _ (J2.1 S.I.2.2.2).1).trans S.I.2.2.2⟩
 clear hb;cases h4:bK p.pure
 .have HN:bN (hZ p.pure bC=n_):=by show hZ _ _=n_; simp [hZ,h4]
  clear h4;exact Zad
 have H4:bN (bK p.pure=true):=h4;clear h4;have Mb:=dx bC 0 1000000000 af8;go_wp2_with fail;refine Mb.mono ?_;clear Mb;rintro e A2 ⟨rfl,rfl⟩;cases h5:cv bC 0 1000000000
 .have HN:bN (hZ p.pure bC=n_):=by show hZ _ _=n_; simp [hZ,h5]
  clear h5;exact Zad
 have H5:bN (cv bC 0 1000000000=true):=h5;clear h5;have Mb:=uy p A2;unfold af.cells at Mb;obtain ⟨m0,m1,m2,m3,m4,m5,m6,m7⟩:=S.I.1.cells;go_wp2_with fail;clear m0 m1 m2 m3 m4 m5 m6 m7;refine Mb.mono ?_;clear Mb;rintro e A3 ⟨rfl,hb⟩;replace S:bN (av (A3) w.heap.size p/\af.At (A3) p/\B_ w.heap.size w (A3)/\(A3).heap[w.heap.size+1]? =o_ (c_ ar 31)):=⟨S.I.1.below hb,S.I.2.1.below hb,S.I.2.2.1.trans (hb.mono S.I.2.2.1.size),(hb.block _ (J2.1 S.I.2.2.2).1).trans S.I.2.2.2⟩
 clear hb;by_cases h6:p.next<=999999980;rotate_left
 .have HN:bN (hZ p.pure bC=n_):=by show hZ _ _=n_; have h7:decide (p.pure.next<=999999980)=false:=decide_eq_false h6; simp only [hZ,h7,PP]; rfl
  have d6:decide (p.next<=999999980)=false:=decide_eq_false h6;clear h6;exact Zad
 have HN:bN (hZ p.pure bC=o_ (mS bC p.pure)):=by show hZ _ _=o_ _; have h7:decide (p.pure.next<=999999980)=true:=decide_eq_true h6; simp only [hZ,H4.I,H5.I,h7,Bool.and_true]; rfl
 have d6:decide (p.next<=999999980)=true:=decide_eq_true h6;have Mb:=zx p bC A3 fl.I.1 fl.I.2 S.I.2.1 ((ch _).1 H4.I) h6 (bz.1 H5.I);clear h6;go_wp2_with (refine eT _ S.I.1 ?_);refine Mb.mono ?_;clear Mb d6;rintro e afT ⟨q,rfl,hp,ho,hb⟩;have hlt:=(J2.1 S.I.2.2.2).1;have S3:bN (B_ w.heap.size w afT/\afT.heap[w.heap.size+1]? =o_ (c_ ar 31)/\ap afT A3.heap.size q/\q.pure=mS bC p.pure/\w.heap.size+1 < A3.heap.size):=⟨S.I.2.2.1.trans (hb.mono S.I.2.2.1.size),(hb.block _ hlt).trans S.I.2.2.2,ho,hp,hlt⟩
 clear hp ho hb hlt S;go_wp2_with (refine ec _ _ q.cells S3.I.2.1 ?_);refine mG results10 (b_ true) S3.I.2.1 ?_;rw [HN.I];exact ⟨q,rfl,(S3.I.2.2.1.lower (by have:=S3.I.2.2.2.2; omega)).same fun g hg=>KH _ _ _ _ Zdq,S3.I.2.2.2.1,q_ S3.I.1 zo _⟩
end
section
def iR {p p':aE} :((cB p p').getD cN).Small:=by
 unfold cB
 split
 .rename_i h
  simp only [J7] at h;exact ta ((ch _).1 h.2)
 .exact hY
def Qy {p p':aE} {q:af} {M:Int} (h:q.pure=(cB p p').getD cN) (hm:0<=M/\p'.next<=M):0<=M/\q.next<=M:=by
 have e:q.next=((cB p p').getD cN).next:=congrArg aE.next h;refine ⟨hm.1,?_⟩;rw [e];unfold cB
 split
 .exact hm.2
 .exact hm.1
def Sk {p:aE} {q:af} {M bC:Int} (h:q.pure=(hZ p bC).getD cN) (hm:0<=M/\p.next<=M):0<=M+13/\q.next<=M+13:=by
 have e:q.next=((hZ p bC).getD cN).next:=congrArg aE.next h;refine ⟨zo,?_⟩;rw [e];unfold hZ
 split
 .rename_i h
  simp only [J7,decide_eq_true_eq] at h
  have:=(DA ((ch _).1 h.1.1) h.2 (bz.1 h.1.2)).2.2
  show (mS bC p).next<=_
  omega
 .show (0:Int)<=_
  omega
def Si {p:aE} {q:af} {M id:Int} (h:q.pure=(kD p id).getD cN) (hm:0<=M/\p.next<=M):0<=M+1/\q.next<=M+1:=by
 have e:q.next=((kD p id).getD cN).next:=congrArg aE.next h;refine ⟨zo,?_⟩;rw [e];unfold kD hU
 repeat' split
 .show p.next+1<=_
  omega
 all_goals show (0:Int)<=_; omega
def wZ {p:aE} {id:Int} (hp:p.Small):((kD p id).getD cN).Small:=by
 unfold kD;refine zJ hp fun h y _ hy=> ?_
 have h2:=IZ h;exact ⟨hy.1,hy.2.1,hy.2.2.1,h2⟩
def ap.S6 {W:w_} {bj:Nat} {q:af} (h:ap W bj q) (id nx:Int):ap W bj { q with id:=id,next:=nx } :=⟨h.L8,h.aj,h.L9,h.ag,h.ae,h.ai,h.eI,h.eE,h.eR,h.nodup⟩
def EV {id:Int} (_h:cv id 1 6=true):(⟨id,1,[],n_,0,[],n_,0,[],n_,0,[],n_,0,[],n_,0,[],n_,0⟩:af).pure.Small:=⟨Ky _,Ky _,Ky _,Ky _,Ky _,Ky _,(fun x hx=>by cases hx),(fun x hx=>by cases hx),(fun x hx=>by cases hx),(fun x hx=>by cases hx),(fun x hx=>by cases hx),(fun x hx=>by cases hx)⟩
def vP: ∀ os:List dN,gO os=fk.flat os
 | [] =>rfl
 | o :: os=>by
  show _=fk.vals o ++ fk.flat os
  rw [<- vP os];rfl
def gG.setRow {r X:Nat} {w W:w_} (h:gG r w W) (hX:w.heap.size<=X) (cs:Array v_):gG r w (W.setRow X cs):=
 ⟨h.os,h.tape,h.output,by simpa using h.size,fun k h1 h2=>(KH _ _ _ _ zo).trans (h.block k h1 h2)⟩
structure S4 (M:Int) (r:Nat) (a:Option d_) (len cap:Nat) (w:w_) (X:Nat) (q:af) (W:w_):Prop where
 rd:Rd r a len cap W
 st:Rd r a len cap w
 but:gG r w W
 own:ap W (w.heap.size+1) q
 nin:X∉q.Mc
 small:q.pure.Small
 low:0<=M/\q.next<=M
 box:av W X q
 mK:W.heap[w.heap.size]? =o_ (c_ ar 31)
 hx:w.heap.size < X
section
variable {r len cap X:Nat} {a:Option d_} {w W W2:w_} {q q2:af} {M M2:Int}
def S4.drawn (h:S4 M r a len cap w X q W) (hb:gG r W W2) (hr:Rd r a len cap W2):S4 M r a len cap w X q W2:=by
 have hl:=h.st.lt;have hx:=h.hx;exact ⟨hr,h.st,h.but.trans hb,h.own.same fun g hg=>hb.block g (h.own.lt g hg).2 Zdh,h.nin,h.small,h.low,(hb.block _ (av.lt h.box) zo).trans h.box,(hb.block _ (J2.1 h.mK).1 zo).trans h.mK,hx⟩
def S4.up (h:S4 M r a len cap w X q W) (hm:M<=M2):S4 M2 r a len cap w X q W:=⟨h.rd,h.st,h.but,h.own,h.nin,h.small,⟨by have:=h.low; omega,by have:=h.low; omega⟩,h.box,h.mK,h.hx⟩
def S4.reads (h:S4 M r a len cap w X q W) (hb:B_ W.heap.size W W2):S4 M r a len cap w X q W2:=h.drawn (gG.dI hb) (h.rd.below hb)
def S4.put (h:S4 M r a len cap w X q W) (hb:B_ W.heap.size W W2) (ho:ap W2 W.heap.size q2) (hs:q2.pure.Small) (hn:0<=M2/\q2.next<=M2):S4 M2 r a len cap w X q2 (W2.setRow X q2.cells):=by
 have h1:=h.reads hb;have hx:=h.hx;have hl:=h.st.lt;have hXW:=av.lt h.box;have hrl:=h1.rd;refine ⟨⟨?_,h.st.2.but (h1.but.setRow zo _)⟩,h.st,h1.but.setRow zo _,(ho.lower zo).same fun g hg=>KH _ _ _ _ (by have:=(ho.lt g hg).1; omega),fun hm=>by have:=(ho.lt X hm).1; omega,hs,hn,KU _ _ _ _ _ _ h1.box,(KH _ _ _ _ zo).trans h1.mK,hx⟩;obtain ⟨p,hp,hc⟩:=hrl.1;exact ⟨p,hp,(KH _ _ _ _ zo).trans hc⟩
def S4.first (hr:Rd r a len cap W) (st:Rd r a len cap w) (hb:gG r w W) (ho:ap W (w.heap.size+1) q) (hs:q.pure.Small) (hn:0<=M/\q.next<=M) (ha:W.heap[w.heap.size]? =o_ (c_ ar 31)):S4 M r a len cap w W.heap.size q ((W.alloc (c_ ar 31)).setRow W.heap.size q.cells):=by
 have hl:=(J2.1 ha).1;have h1:B_ W.heap.size W ((W.alloc (c_ ar 31)).setRow W.heap.size q.cells):=q_ ((Kp _ _).alloc (Ki _) _) (Ki _) _;exact ⟨hr.below h1,st,hb.trans (gG.dI h1),ho.below h1,fun hm=>by have:=(ho.lt _ hm).2; omega,hs,hn,KU _ _ _ _ _ _ (Kj _ _),(h1.block _ hl).trans ha,hl⟩
def S4.fin (h:S4 M r a len cap w X q W) {cs:Array v_} :ap (W.setRow w.heap.size cs) w.heap.size q/\q.pure.Small/\q.next<=M/\gG r w (W.setRow w.heap.size cs)/\Rd r a len cap (W.setRow w.heap.size cs):=by
 have hx:=h.hx;have hl:=h.st.lt;refine ⟨(h.own.lower zo).same fun g hg=>KH _ _ _ _ Zdh,h.small,h.low.2,h.but.setRow (Ki _) _,?_,h.st.2.but (h.but.setRow (Ki _) _)⟩;obtain ⟨p,hp,hc⟩:=h.rd.1;exact ⟨p,hp,(KH _ _ _ _ zo).trans hc⟩
def S4.cell {x y:ao} {gs n j:Nat} {v:v_} (h:S4 M r a len cap w X q W) (hx:q.L8[n]? =o_ x) (ha:q.aN=o_ ⟨gs,0,n_⟩) (hy:y.prog=x.prog/\y.aY=x.aY/\y.bH=x.bH) (hj:j < 12) (hv:bg.vals y=(bg.vals x).set j v) (hs:({ q with L8:=q.L8.set n y } :af).pure.Small):
  S4 M r a len cap w X ({ q with L8:=q.L8.set n y } :af) (W.setCell ⟨gs,n * 12+j,n_⟩ v)/\(∃ u,W.cell? ⟨gs,n * 12+j,n_⟩=o_ u)/\W.frozen? ⟨gs,n * 12+j,n_⟩=false:=by
 obtain ⟨s1,h2⟩:=eY h.own hx ha hy hj hv;have hg:gs∈q.Mc:=tN ha;have hgl:=h.own.lt gs hg;have hl:=h.st.lt;have hb:gG r w (W.setCell ⟨gs,n * 12+j,n_⟩ v):=⟨h.but.os,h.but.tape,h.but.output,by rw [ja]; exact h.but.size,fun k h5 h6=>(aH zo).trans (h.but.block k h5 h6)⟩
 have hne:X≠gs:=fun e=>h.nin (e ▸ hg)
 have hbl:({ q with L8:=q.L8.set n y } :af).Mc=q.Mc:=nT (nx:=q.next) hx hy.2.1;refine ⟨⟨⟨?_,h.st.2.but hb⟩,h.st,hb,s1.own,by rw [hbl]; exact h.nin,hs,h.low,?_,(aH zo).trans h.mK,h.hx⟩,h2⟩
 .obtain ⟨p,hp,hc⟩:=h.rd.1
  exact ⟨p,hp,(aH zo).trans hc⟩
 .have h5:=(aH (i:=n * 12+j) (v:=v) hne).trans h.box
  unfold av at h5 ⊢;simpa only [LI] using h5
def Ao {x:ao} {n:Nat} {v:Int} (h:q.pure.Small) (hx:q.L8[n]? =o_ x) (hv:(Lit.int j_ v).wf=true):({ q with L8:=q.L8.set n { x with RU:=v } } :af).pure.Small:=by
 have hp:=h.L8 x.toaD (iu hx);refine ⟨by have h5:=h.dl; simpa [af.pure] using h5,h.fx,h.cD,h.cC,h.cb,h.dH,fun y hy=> ?_,h.aj,h.L9,h.ag,h.ae,h.ai⟩;obtain ⟨z,hz,rfl⟩:=Lr.1 hy;rcases PO hz with hz | rfl
 .exact h.L8 z.toaD (Lr.2 ⟨z,hz,rfl⟩)
 .exact ⟨hp.1,hp.2.1,hp.2.2.1,hv⟩
def Ax {x:ao} {n:Nat} {v:Int} (h:q.pure.Small) (hx:q.L8[n]? =o_ x):({ q with L8:=q.L8.set n { x with Md:=v } } :af).pure.Small:=by
 have hp:=h.L8 x.toaD (iu hx);refine ⟨by have h5:=h.dl; simpa [af.pure] using h5,h.fx,h.cD,h.cC,h.cb,h.dH,fun y hy=> ?_,h.aj,h.L9,h.ag,h.ae,h.ai⟩;obtain ⟨z,hz,rfl⟩:=Lr.1 hy;rcases PO hz with hz | rfl
 .exact h.L8 z.toaD (Lr.2 ⟨z,hz,rfl⟩)
 .exact ⟨hp.1,hp.2.1,hp.2.2.1,hp.2.2.2⟩
end
end
section
open Go.Maps
attribute [local go_sem ↓] Kc Kd
def FL (r:Nat) (a:Option d_) (len cap:Nat) (id:Int) (w:w_) (hl:len<=1048576) (hid:cv id 1 6=true) (h:Rd r a len cap w):
  k_ J3 38 #[p_ (o_ ⟨r,0,n_⟩),i_ j_ id] w fun e w'=> ∃ q:af,e=r_ (a_ q.cells)/\ap w' w.heap.size q/\q.pure.Small/\q.next<=4/\gG r w w'/\Rd r a len cap w':=by
 have Mb:=tJ id (w.alloc (c_ ar 31));simp only [hid,if_true,mn] at Mb;have h5:=(Kp w.heap.size w).alloc (Ki _) (c_ ar 31);have S:bN (Rd r a len cap w/\B_ w.heap.size w (w.alloc (c_ ar 31))/\(w.alloc (c_ ar 31)).heap[w.heap.size]? =o_ (c_ ar 31)/\w.heap.size < (w.alloc (c_ ar 31)).heap.size):=⟨h,h5,Kj _ _,by simp⟩
 clear h h5
 go_enter func38,ntmps38
 go_upto_region 1 with fail;generalize w.alloc (c_ ar 31)=A at *;go_wp2_with fail;refine Mb.mono ?_;clear Mb;rintro e A2 ⟨rfl,hb⟩;have hba:=(Kp A2.heap.size A2).alloc (Ki _) (c_ #[i_ j_ id,i_ j_ 1,s_ n_ 0 0,s_ n_ 0 0,s_ n_ 0 0,s_ n_ 0 0,s_ n_ 0 0,s_ n_ 0 0] 31);have HD:bN (S4 1 r a len cap w A2.heap.size (⟨id,1,[],n_,0,[],n_,0,[],n_,0,[],n_,0,[],n_,0,[],n_,0⟩:af) (A2.alloc (c_ #[i_ j_ id,i_ j_ 1,s_ n_ 0 0,s_ n_ 0 0,s_ n_ 0 0,s_ n_ 0 0,s_ n_ 0 0,s_ n_ 0 0] 31))):=by
  have hs:=hb.size;have h6:=S.I.2.1.trans ((hb.trans (hba.mono hs)).mono S.I.2.1.size);exact ⟨S.I.1.below h6,S.I.1,gG.dI h6,(Ai (A2.alloc (c_ #[i_ j_ id,i_ j_ 1,s_ n_ 0 0,s_ n_ 0 0,s_ n_ 0 0,s_ n_ 0 0,s_ n_ 0 0,s_ n_ 0 0] 31)) _).S6 id 1,by simp [af.Mc,blk],EV hid,⟨by decide,(by decide:(1:Int)<=1)⟩,Kj _ _,((hb.trans (hba.mono hs)).block _ S.I.2.2.2).trans S.I.2.2.1,by have:=S.I.2.2.2; omega⟩
 clear hba hb S;go_upto_region 2 with fail;generalize A2.alloc (c_ #[i_ j_ id,i_ j_ 1,s_ n_ 0 0,s_ n_ 0 0,s_ n_ 0 0,s_ n_ 0 0,s_ n_ 0 0,s_ n_ 0 0] 31)=B at *;generalize A2.heap.size=X at *;generalize nu:(⟨id,1,[],n_,0,[],n_,0,[],n_,0,[],n_,0,[],n_,0,[],n_,0⟩:af)=q0 at *;clear nu hid;go_wp2_with fail
 go_loopw [7] (fun i wr=> ∃ (k:Int) (q:af),i=i_ j_ k/\1<=k/\k<=3/\bN (S4 1 r a len cap w X q wr)) (fun i _=>(3 - Go.RowKit.intOf i).toNat)
 case atStart=>exact ⟨1,q0,rfl,zo,zo,HD⟩
 case round=>
  clear HD;obtain ⟨k,q,rfl,k0,k1,HD⟩:=hrel;have hwf:=pT (n:=k) zo zo;have hwf2:=pT (n:=k+2) zo zo;by_cases hk:k<=2
  .skip
   go_upto_region 5 with fail
   go_cut [] from 18 to 30 (fun wx=> ∃ q2:af,bN (S4 1 r a len cap w X q2 wx))
   case first=>
    replace HD:=aA (HD.I.reads (Kp _ _).drew);refine Kr (S:=fun _=>True) Zcq trivial (fun _=> ?_);generalize World.drew _=V at *;refine tt 1 trivial ?_;refine tt 2 trivial ?_;refine tt 4 trivial ?_;refine KW (rs:= [0,3]) Zcq zw ?_;refine KX rfl (fun K hK=> ?_) (KX rfl (fun K hK=> ?_) KY)
    focus
     simp only [KZ,K0];rw [if_pos (by rfl)];refine LX 31 (.tmp 5) rfl X rfl 31 q.cells (0,0) _ HD.I.box underlying31 rfl Zcq ?_;refine hK.out _ _ trivial (fun _=> ?_);clear hK K
     try simp only [pt,sb,s0,s1]
     refine L7 3 (fun K hK=> ?_);go_wp2_with fail;refine (dh r a len cap 2 _ hl zo zo HD.I.rd).mono ?_;rintro e W1 ⟨u,ua,ub,rfl,hb1,hr1⟩;replace HD:=aA (HD.I.drawn hb1 hr1);clear hb1 hr1;refine hK.out _ _ trivial (fun _=> ?_);clear hK K
     try simp only [pt,sb,s0,s1]
     refine L7 5 (fun K hK=> ?_);go_wp2_with fail;refine (dh r a len cap 2 _ hl zo zo HD.I.rd).mono ?_;rintro e W2 ⟨v,va,vb,rfl,hb1,hr1⟩;replace HD:=aA (HD.I.drawn hb1 hr1);clear hb1 hr1;refine hK.out _ _ trivial (fun _=> ?_);clear hK K
     try simp only [pt,sb,s0,s1]
     refine tt 6 trivial ?_;refine tt 7 trivial ?_
    rotate_left
    focus
     simp only [KZ,K0,K1];rw [if_pos (by rfl)];go_wp2_with fail;refine (dh r a len cap 2 _ hl zo zo HD.I.rd).mono ?_;rintro e W1 ⟨u,ua,ub,rfl,hb1,hr1⟩;replace HD:=aA (HD.I.drawn hb1 hr1);clear hb1 hr1;refine hK.out _ _ trivial (fun _=> ?_);clear hK K
     try simp only [pt,sb,s0,s1]
     refine KW (rs:= [0,5]) Zcq zw ?_;refine KX rfl (fun K hK=> ?_) (KX rfl (fun K hK=> ?_) KY)
     focus
      simp only [KZ,K0];rw [if_pos (by rfl)];refine LX 31 (.tmp 5) rfl X rfl 31 q.cells (0,0) _ HD.I.box underlying31 rfl Zcq ?_;refine hK.out _ _ trivial (fun _=> ?_);clear hK K
      try simp only [pt,sb,s0,s1]
      refine L7 5 (fun K hK=> ?_);go_wp2_with fail;refine (dh r a len cap 2 _ hl zo zo HD.I.rd).mono ?_;rintro e W2 ⟨v,va,vb,rfl,hb1,hr1⟩;replace HD:=aA (HD.I.drawn hb1 hr1);clear hb1 hr1;refine hK.out _ _ trivial (fun _=> ?_);clear hK K
      try simp only [pt,sb,s0,s1]
      refine tt 6 trivial ?_;refine tt 7 trivial ?_
     rotate_left
     focus
      simp only [KZ,K0,K1];rw [if_pos (by rfl)];go_wp2_with fail;refine (dh r a len cap 2 _ hl zo zo HD.I.rd).mono ?_;rintro e W2 ⟨v,va,vb,rfl,hb1,hr1⟩;replace HD:=aA (HD.I.drawn hb1 hr1);clear hb1 hr1;refine hK.out _ _ trivial (fun _=> ?_);clear hK K
      try simp only [pt,sb,s0,s1]
      refine tt 6 trivial ?_;refine tt 7 trivial ?_;refine L7 0 (fun K hK=> ?_);refine LX 31 (.tmp 5) rfl X rfl 31 q.cells (0,0) _ HD.I.box underlying31 rfl Zcq ?_;refine hK.out _ _ trivial (fun _=> ?_);clear hK K
      try simp only [pt,sb,s0,s1]
    all_goals
     refine L7 8 (fun K hK=> ?_);go_wp2_with fail;refine (tF q ⟨k,u,_⟩ W2 (w.heap.size+1) hwf HD.I.small HD.I.own).mono ?_;rintro e el ⟨q2,rfl,ho,hp,hb⟩;have HB:=aA ((HD.I.reads hb).box);replace HD:=aA (HD.I.put hb ho ZcU (Qy hp HD.I.low));clear hb ho hp;refine hK.out _ _ trivial (fun _=> ?_);clear hK K;refine tt 9 trivial ?_;refine tt 10 trivial ?_;refine tt 11 trivial ?_;refine L7 12 (fun K hK=> ?_);refine LY 31 (.tmp 5) (.tmp 28) rfl X q2.cells rfl rfl _ _ HB.I Zcq rfl Zcq ?_;refine hK.out _ _ trivial (fun _=> ?_);clear hK K;refine K3 Zcq ?_ _;clear HB;go_wp2_with fail;go_meet;exact ⟨q2,HD⟩
   case rest=>
    clear HD;obtain ⟨ajQ,qP⟩: ∃ ajQ:af,ajQ=q:=⟨_,rfl⟩
    subst qP;obtain ⟨q,HD⟩:=hcut;have Mb:=rz q k _ (w.heap.size+1) hwf HD.I.small HD.I.own;go_wp2_with (refine eT _ HD.I.box ?_);refine Mb.mono ?_;clear Mb;rintro e Wb1 ⟨q2,rfl,ho,hp,hb⟩;have HB:=aA ((HD.I.reads hb).box);replace HD:=aA (HD.I.put hb ho ZcU (Qy hp HD.I.low));clear hb ho hp;go_upto_region 7 with (refine ec _ _ q2.cells HB.I ?_);generalize Wb1.setRow X q2.cells=Wc1 at *;clear HB;obtain ⟨ajQ,qP⟩: ∃ ajQ:af,ajQ=q:=⟨_,rfl⟩
    subst qP;obtain ⟨q,qP⟩: ∃ q:af,q=q2:=⟨_,rfl⟩
    subst qP;have Mb:=ra q k _ (w.heap.size+1) hwf HD.I.small HD.I.own;go_wp2_with (refine eT _ HD.I.box ?_);refine Mb.mono ?_;clear Mb;rintro e Wb2 ⟨q2,rfl,ho,hp,hb⟩;have HB:=aA ((HD.I.reads hb).box);replace HD:=aA (HD.I.put hb ho ZcU (Qy hp HD.I.low));clear hb ho hp;go_upto_region 8 with (refine ec _ _ q2.cells HB.I ?_);generalize Wb2.setRow X q2.cells=Wc2 at *;clear HB;obtain ⟨ajQ,qP⟩: ∃ ajQ:af,ajQ=q:=⟨_,rfl⟩
    subst qP;obtain ⟨q,qP⟩: ∃ q:af,q=q2:=⟨_,rfl⟩
    subst qP;go_upto_region 8 with fail;simp only [aaH]
    go_cut [] from 42 to 51 (fun wx=> ∃ q2:af,bN (S4 1 r a len cap w X q2 wx))
    case first=>
     replace HD:=aA (HD.I.reads (Kp _ _).drew);refine Kr (S:=fun _=>True) Zcq trivial (fun _=> ?_);generalize World.drew _=V at *;refine tt 1 trivial ?_;refine tt 2 trivial ?_;refine KW (rs:= [0,3]) Zcq zw ?_;refine KX rfl (fun K hK=> ?_) (KX rfl (fun K hK=> ?_) KY)
     focus
      simp only [KZ,K0];rw [if_pos (by rfl)];refine LX 31 (.tmp 5) rfl X rfl 31 q.cells (0,0) _ HD.I.box underlying31 rfl Zcq ?_;refine hK.out _ _ trivial (fun _=> ?_);clear hK K
      try simp only [pt,sb,s0,s1]
      refine L7 3 (fun K hK=> ?_);go_wp2_with fail;refine (dh r a len cap 2 _ hl zo zo HD.I.rd).mono ?_;rintro e W2 ⟨u,ua,ub,rfl,hb1,hr1⟩;replace HD:=aA (HD.I.drawn hb1 hr1);clear hb1 hr1;refine hK.out _ _ trivial (fun _=> ?_);clear hK K
      try simp only [pt,sb,s0,s1]
      refine tt 4 trivial ?_
     rotate_left
     focus
      simp only [KZ,K0,K1];rw [if_pos (by rfl)];go_wp2_with fail;refine (dh r a len cap 2 _ hl zo zo HD.I.rd).mono ?_;rintro e W2 ⟨u,ua,ub,rfl,hb1,hr1⟩;replace HD:=aA (HD.I.drawn hb1 hr1);clear hb1 hr1;refine hK.out _ _ trivial (fun _=> ?_);clear hK K
      try simp only [pt,sb,s0,s1]
      refine tt 4 trivial ?_;refine L7 0 (fun K hK=> ?_);refine LX 31 (.tmp 5) rfl X rfl 31 q.cells (0,0) _ HD.I.box underlying31 rfl Zcq ?_;refine hK.out _ _ trivial (fun _=> ?_);clear hK K
      try simp only [pt,sb,s0,s1]
     all_goals
      refine L7 5 (fun K hK=> ?_);go_wp2_with fail;refine (qh q k _ W2 (w.heap.size+1) hwf HD.I.small HD.I.own).mono ?_;rintro e el ⟨q2,rfl,ho,hp,hb⟩;have HB:=aA ((HD.I.reads hb).box);replace HD:=aA (HD.I.put hb ho ZcU (Qy hp HD.I.low));clear hb ho hp;refine hK.out _ _ trivial (fun _=> ?_);clear hK K;refine tt 6 trivial ?_;refine tt 7 trivial ?_;refine tt 8 trivial ?_;refine L7 9 (fun K hK=> ?_);refine LY 31 (.tmp 5) (.tmp 49) rfl X q2.cells rfl rfl _ _ HB.I Zcq rfl Zcq ?_;refine hK.out _ _ trivial (fun _=> ?_);clear hK K;refine K3 Zcq ?_ _;clear HB;go_wp2_with fail;go_meet;exact ⟨q2,HD⟩
    case rest=>
     clear HD;obtain ⟨ajQ,qP⟩: ∃ ajQ:af,ajQ=q:=⟨_,rfl⟩
     subst qP;obtain ⟨q,HD⟩:=hcut;have Mb:=nd q ⟨⟨k,k == 1,true,2,[]⟩,n_,0⟩ _ (w.heap.size+1) hwf HD.I.small HD.I.own;go_wp2_with (refine eT _ HD.I.box ?_);refine Mb.mono ?_;clear Mb;rintro e Wb3 ⟨q2,rfl,ho,hp,hb⟩;have HB:=aA ((HD.I.reads hb).box);replace HD:=aA (HD.I.put hb ho ZcU (Qy hp HD.I.low));clear hb ho hp;go_upto_region 10 with (refine ec _ _ q2.cells HB.I ?_);generalize Wb3.setRow X q2.cells=Wc3 at *;clear HB;obtain ⟨ajQ,qP⟩: ∃ ajQ:af,ajQ=q:=⟨_,rfl⟩
     subst qP;obtain ⟨q,qP⟩: ∃ q:af,q=q2:=⟨_,rfl⟩
     subst qP;have e2:IntKind.wrap j_ (k+2)=k+2:=by rw [K8]; omega
     have Mb:=nd q ⟨⟨k+2,k == 1,false,1,[]⟩,n_,0⟩ _ (w.heap.size+1) hwf2 HD.I.small HD.I.own;go_wp2_with (refine eT _ HD.I.box ?_);refine Mb.mono ?_;clear Mb;rintro e Wb4 ⟨q2,rfl,ho,hp,hb⟩;have HB:=aA ((HD.I.reads hb).box);replace HD:=aA (HD.I.put hb ho ZcU (Qy hp HD.I.low));clear hb ho hp;go_upto_region 4 with (refine ec _ _ q2.cells HB.I ?_);generalize Wb4.setRow X q2.cells=Wc4 at *;clear HB;obtain ⟨ajQ,qP⟩: ∃ ajQ:af,ajQ=q:=⟨_,rfl⟩
     subst qP;obtain ⟨q,qP⟩: ∃ q:af,q=q2:=⟨_,rfl⟩
     subst qP;have e3:IntKind.wrap j_ (k+1)=k+1:=by rw [K8]; omega
     go_wp2_with fail;go_roundw
     case rel=>exact ⟨k+1,q,rfl,zo,zo,HD⟩
     case measure=>simp [Go.RowKit.intOf]; omega
  clear hwf hwf2;go_wp2_with fail;refine (dh r a len cap 3 _ hl zo zo HD.I.rd).mono ?_;rintro e W1 ⟨u,ua,ub,rfl,hb1,hr1⟩;replace HD:=aA (HD.I.drawn hb1 hr1);clear hb1 hr1;have e1:IntKind.wrap j_ (1+u)=1+u:=by rw [K8]; omega
  go_wp2_with fail
  go_loopw [8] (fun i wr=> ∃ (k:Int) (q:af),i=i_ j_ k/\0<=k/\k<=3/\bN (S4 (4 - k) r a len cap w X q wr)) (fun i _=>(Go.RowKit.intOf i).toNat)
  case atStart=>exact ⟨1+u,q,rfl,zo,zo,aA (HD.I.up zo)⟩
  case round=>
   clear HD;obtain ⟨ajQ,qP⟩: ∃ ajQ:af,ajQ=q:=⟨_,rfl⟩
   subst qP;obtain ⟨u7,hko⟩: ∃ u7:Int,u7=k:=⟨_,rfl⟩
   subst hko;obtain ⟨k,q,rfl,u5,kt,HD⟩:=hrel;have hwf:=pT (n:=k) zo zo;by_cases hk2:0 < k
   .skip
    go_upto_region 14 with fail
    go_cut [] from 77 to 88 (fun wx=> ∃ q2:af,bN (S4 (4 - k) r a len cap w X q2 wx))
    case first=>
     replace HD:=aA (HD.I.reads (Kp _ _).drew);refine Kr (S:=fun _=>True) Zcq trivial (fun _=> ?_);generalize World.drew _=V at *;refine tt 1 trivial ?_;refine tt 2 trivial ?_;refine tt 5 trivial ?_;refine KW (rs:= [0,3]) Zcq zw ?_;refine KX rfl (fun K hK=> ?_) (KX rfl (fun K hK=> ?_) KY)
     focus
      simp only [KZ,K0];rw [if_pos (by rfl)];refine LX 31 (.tmp 5) rfl X rfl 31 q.cells (0,0) _ HD.I.box underlying31 rfl Zcq ?_;refine hK.out _ _ trivial (fun _=> ?_);clear hK K
      try simp only [pt,sb,s0,s1]
      refine L7 3 (fun K hK=> ?_);go_wp2_with fail;refine (dh r a len cap 3 _ hl zo zo HD.I.rd).mono ?_;rintro e W3 ⟨v,va,vb,rfl,hb1,hr1⟩;replace HD:=aA (HD.I.drawn hb1 hr1);clear hb1 hr1;refine hK.out _ _ trivial (fun _=> ?_);clear hK K
      try simp only [pt,sb,s0,s1]
      refine tt 4 trivial ?_;refine L7 6 (fun K hK=> ?_);go_wp2_with fail;refine (uz r a len cap _ hl HD.I.rd).mono ?_;rintro e W2 ⟨g,c,os,rfl,hos,hpg⟩;have HPG:=aA (And.intro hos hpg);replace HD:=aA (HD.I.drawn hpg.but hpg.rd);clear hos hpg;refine hK.out _ _ trivial (fun _=> ?_);clear hK K
      try simp only [pt,sb,s0,s1]
     rotate_left
     focus
      simp only [KZ,K0,K1];rw [if_pos (by rfl)];go_wp2_with fail;refine (dh r a len cap 3 _ hl zo zo HD.I.rd).mono ?_;rintro e W3 ⟨v,va,vb,rfl,hb1,hr1⟩;replace HD:=aA (HD.I.drawn hb1 hr1);clear hb1 hr1;refine hK.out _ _ trivial (fun _=> ?_);clear hK K
      try simp only [pt,sb,s0,s1]
      refine tt 4 trivial ?_;refine KW (rs:= [0,6]) Zcq zw ?_;refine KX rfl (fun K hK=> ?_) (KX rfl (fun K hK=> ?_) KY)
      focus
       simp only [KZ,K0];rw [if_pos (by rfl)];refine LX 31 (.tmp 5) rfl X rfl 31 q.cells (0,0) _ HD.I.box underlying31 rfl Zcq ?_;refine hK.out _ _ trivial (fun _=> ?_);clear hK K
       try simp only [pt,sb,s0,s1]
       refine L7 6 (fun K hK=> ?_);go_wp2_with fail;refine (uz r a len cap _ hl HD.I.rd).mono ?_;rintro e W2 ⟨g,c,os,rfl,hos,hpg⟩;have HPG:=aA (And.intro hos hpg);replace HD:=aA (HD.I.drawn hpg.but hpg.rd);clear hos hpg;refine hK.out _ _ trivial (fun _=> ?_);clear hK K
       try simp only [pt,sb,s0,s1]
      rotate_left
      focus
       simp only [KZ,K0,K1];rw [if_pos (by rfl)];go_wp2_with fail;refine (uz r a len cap _ hl HD.I.rd).mono ?_;rintro e W2 ⟨g,c,os,rfl,hos,hpg⟩;have HPG:=aA (And.intro hos hpg);replace HD:=aA (HD.I.drawn hpg.but hpg.rd);clear hos hpg;refine hK.out _ _ trivial (fun _=> ?_);clear hK K
       try simp only [pt,sb,s0,s1]
       refine L7 0 (fun K hK=> ?_);refine LX 31 (.tmp 5) rfl X rfl 31 q.cells (0,0) _ HD.I.box underlying31 rfl Zcq ?_;refine hK.out _ _ trivial (fun _=> ?_);clear hK K
       try simp only [pt,sb,s0,s1]
     all_goals
      refine L7 7 (fun K hK=> ?_);go_wp2_with fail;refine (sB q k _ (o_ ⟨g,0,n_⟩) os c W2 (w.heap.size+1) hwf ⟨by have:=HPG.I.1; omega,fun o ho=>by have:=HPG.I.2.sz o ho; omega⟩ (by rw [<- vP]; exact nP HPG.I.2.own) HD.I.small HD.I.own).mono ?_;rintro e el ⟨q2,rfl,ho,hp,hb⟩;have HB:=aA ((HD.I.reads hb).box);replace HD:=aA (HD.I.put hb ho ZcU (Qy hp HD.I.low));clear hb ho hp;refine hK.out _ _ trivial (fun _=> ?_);clear hK K;refine tt 8 trivial ?_;refine tt 9 trivial ?_;refine tt 10 trivial ?_;refine L7 11 (fun K hK=> ?_);refine LY 31 (.tmp 5) (.tmp 86) rfl X q2.cells rfl rfl _ _ HB.I Zcq rfl Zcq ?_;refine hK.out _ _ trivial (fun _=> ?_);clear hK K;refine K3 Zcq ?_ _;clear HB;go_wp2_with fail;go_meet;exact ⟨q2,HD⟩
    case rest=>
     clear HD;obtain ⟨ajQ,qP⟩: ∃ ajQ:af,ajQ=q:=⟨_,rfl⟩
     subst qP;obtain ⟨q,HD⟩:=hcut;go_wp2_with fail;refine (jt r a len cap 3 _ hl zo zo HD.I.rd).mono ?_;rintro e W4 ⟨b,rfl,hb1,hr1⟩;replace HD:=aA (HD.I.drawn hb1 hr1);clear hb1 hr1;have e3:IntKind.wrap j_ (k - 1)=k - 1:=by rw [K8]; omega
     cases b
     .skip
      have Mb:=tK q k W4 (dV HD.I.small) (fun x hx=>(cY HD.I.small hx).1) HD.I.own.at;go_wp2_with (refine eT _ HD.I.box ?_);refine Mb.mono ?_;clear Mb;rintro e Wb5 ⟨q2,rfl,ho,hp,hb⟩;have HB:=aA ((HD.I.reads hb).box);replace HD:=aA (HD.I.put hb ho (by rw [hp]; exact wZ HD.I.small) (Si hp HD.I.low));clear hb ho hp;go_upto_region 13 with (refine ec _ _ q2.cells HB.I ?_);generalize Wb5.setRow X q2.cells=Wc5 at *;clear HB;obtain ⟨ajQ,qP⟩: ∃ ajQ:af,ajQ=q:=⟨_,rfl⟩
      subst qP;obtain ⟨q,qP⟩: ∃ q:af,q=q2:=⟨_,rfl⟩
      subst qP;go_wp2_with fail;exact Za9
     .go_wp2_with fail
      exact Za9
   go_wp2_with (first | (refine eT _ HD.I.box ?_) | (refine ec _ _ q.cells HD.I.mK ?_));refine gZ results38 HD.I.mK ?_;exact ⟨q,rfl,(HD.I.up zo).fin⟩
def GN (r:Nat) (a:Option d_) (len cap:Nat) (w:w_) (hl:len<=1048576) (h:Rd r a len cap w):
  k_ J3 22 #[p_ (o_ ⟨r,0,n_⟩)] w fun e w'=> ∃ (q:af) (bC:Int),e=r_ (u_ #[a_ q.cells,i_ j_ bC])/\(0<=bC/\bC<=26)/\ap w' w.heap.size q/\q.pure.Small/\q.next<=1000/\gG r w w'/\Rd r a len cap w':=by
 have h5:=(Kp w.heap.size w).alloc (Ki _) (c_ ar 31);have S:bN (Rd r a len cap w/\Rd r a len cap (w.alloc (c_ ar 31))/\gG r w (w.alloc (c_ ar 31))/\(w.alloc (c_ ar 31)).heap[w.heap.size]? =o_ (c_ ar 31)/\(w.alloc (c_ ar 31)).heap.size=w.heap.size+1):=⟨h,h.below h5,gG.dI h5,Kj _ _,by simp⟩
 clear h h5
 go_enter func22,ntmps22
 go_upto_region 1 with fail;generalize w.alloc (c_ ar 31)=A at *;go_wp2_with fail;refine (FL r a len cap 1 A hl rfl S.I.2.1).mono ?_;rintro e A2 ⟨q,rfl,ho,hs,hn,hb,hr⟩;have HD:bN (S4 4 r a len cap w A2.heap.size q ((A2.alloc (c_ ar 31)).setRow A2.heap.size q.cells)):=by
  have hz:=S.I.2.2.2.2;have hrl:=S.I.1.lt;exact S4.first hr S.I.1 (S.I.2.2.1.trans hb) (ho.lower zo) hs ⟨by decide,hn⟩ ((hb.block _ zo zo).trans S.I.2.2.2.1)
 clear ho hs hn hb hr S;go_upto_region 2 with (refine ec _ _ q.cells (Kj _ _) ?_);generalize (A2.alloc (c_ ar 31)).setRow A2.heap.size q.cells=B at *;generalize A2.heap.size=X at *;go_wp2_with fail;refine (dh r a len cap 14 _ hl zo zo HD.I.rd).mono ?_;rintro e B1 ⟨u,ua,ub,rfl,hb1,hr1⟩;replace HD:=aA (HD.I.drawn hb1 hr1);clear hb1 hr1;go_wp2_with fail
 go_loopw [5,6] (fun n i wr=> ∃ (k bC:Int) (q:af),i=i_ j_ k/\n=i_ j_ bC/\0<=k/\k<=13/\0<=bC/\bC+2 * k<=26/\bN (S4 (4+13 * (13 - k)) r a len cap w X q wr)) (fun _ i _=>(Go.RowKit.intOf i).toNat)
 case atStart=>exact ⟨u,0,q,rfl,rfl,ua,zo,zo,zo,aA (HD.I.up zo)⟩
 case round=>
  clear HD;obtain ⟨ajQ,qP⟩: ∃ ajQ:af,ajQ=q:=⟨_,rfl⟩
  subst qP;obtain ⟨k,bC,q,rfl,rfl,k0,k1,n0,n1,HD⟩:=hrel;by_cases hk:0 < k
  .have Mb:=vu q bC _ (dV HD.I.small) (fun x hx=>(cY HD.I.small hx).1) HD.I.own.at
   go_wp2_with (refine eT _ HD.I.box ?_);refine Mb.mono ?_;clear Mb;rintro e W1 ⟨q2,rfl,ho,hp,hb⟩;have HB:=aA ((HD.I.reads hb).box);replace HD:=aA (HD.I.put hb ho (by rw [hp]; exact za) (Sk hp HD.I.low));clear hb ho hp;go_upto_region 7 with (refine ec _ _ q2.cells HB.I ?_);generalize W1.setRow X q2.cells=W2 at *;clear HB;have e3:IntKind.wrap j_ (k - 1)=k - 1:=by rw [K8]; omega
   go_wp2_with fail;refine (dh r a len cap 2 _ hl zo zo HD.I.rd).mono ?_;rintro e W3 ⟨v,va,vb,rfl,hb1,hr1⟩;replace HD:=aA (HD.I.drawn hb1 hr1);clear hb1 hr1;have e4:IntKind.wrap j_ (1+v)=1+v:=by rw [K8]; omega
   have e5:IntKind.wrap j_ (bC+(1+v))=bC+(1+v):=by rw [K8]; omega
   go_wp2_with fail;go_roundw
   case rel=>exact ⟨k - 1,bC+(1+v),q2,rfl,rfl,zo,zo,zo,zo,aA (HD.I.up zo)⟩
   case measure=>simp [Go.RowKit.intOf]; omega
  go_wp2_with fail;refine (dh r a len cap 40 _ hl zo zo HD.I.rd).mono ?_;rintro e W3 ⟨v,va,vb,rfl,hb1,hr1⟩;replace HD:=aA (HD.I.drawn hb1 hr1);clear hb1 hr1;by_cases h38:v=38
  .have e1:(v == 38)=true:=by simp [h38]
   clear h38;rcases hps:q.L8 with _ | ⟨x,xs⟩
   .exact Zcg
   have hx:q.L8[0]? =o_ x:=by rw [hps]; rfl
   have il:0 < q.L8.length:=by rw [hps]; simp
   have il2:(0:Int) < (q.L8.length:Int):=zo
   have il3: ¬ q.L8.length=0:=zo
   have HX:bN (q.L8[0]? =o_ x):=hx;clear hps hx;obtain ⟨gs,ha,-⟩:=cn HD.I.own.at.1 HX.I;have m2:=HD.I.box.cells.2.2.1;rw [ha] at m2;have HA:bN (q.aN=o_ ⟨gs,0,n_⟩):=ha;clear ha;go_upto_region 11 with fail;clear m2;replace HD:=aA (HD.I.reads (Kp _ _).drew);refine Kr (S:=fun w'=>av w' X q) Zcq HD.I.box (fun bE=> ?_);generalize World.drew _=V at *;refine tt 0 bE ?_ (hy:=fun w0 hS0=>by have q0:=hS0.cells.2.2.1; rw [HA.I] at q0; go_simp; try with_reducible rfl);refine tt 1 bE ?_ (hy:=fun w0 hS0=>by have q0:=hS0.cells.2.2.1; rw [HA.I] at q0; go_simp; try with_reducible rfl);refine tt 2 bE ?_ (hy:=fun w0 hS0=>by have q0:=hS0.cells.2.2.1; rw [HA.I] at q0; go_simp; try with_reducible rfl);clear bE;refine L7 3 (fun K hK=> ?_);go_wp2_with fail;refine (Gk r a len cap 0 3 _ hl zo zo zo HD.I.rd).mono ?_;rintro e V2 ⟨z,rfl,hzw,hb1,hr1⟩;replace HD:=aA (HD.I.drawn hb1 hr1);have HZ:bN ((Lit.int j_ z).wf=true):=hzw;clear hb1 hr1 hzw;refine hK.out _ _ HD.I.box (fun bE=> ?_);clear hK K
   try simp only [pt,sb,s0,s1]
   refine tt 4 bE ?_ (hy:=fun w0 hS0=>by have q0:=hS0.cells.2.2.1; rw [HA.I] at q0; go_simp; try with_reducible rfl);refine tt 5 bE ?_ (hy:=fun w0 hS0=>by have q0:=hS0.cells.2.2.1; rw [HA.I] at q0; go_simp; try with_reducible rfl);clear bE;obtain ⟨s1,⟨u9,c⟩,f⟩:=HD.I.cell (n:=0) (j:=11) (v:=i_ j_ z) (y:= { x with RU:=z }) HX.I HA.I ⟨rfl,rfl,rfl⟩ (by decide) rfl (Ao HD.I.small HX.I HZ.I);simp only [Nat.zero_mul,Li] at s1 c f;have HS:=aA s1;clear s1;refine L7 6 (fun K hK=> ?_);go_wp2_with fail;refine hK.out _ _ Zde (fun bE=> ?_);clear hK K;refine K3 Zcq ?_ _;clear c f u9 HD bE;have HD:=HS;clear HS;obtain ⟨q9,hq9⟩: ∃ q9:af,q9= { q with L8:=q.L8.set 0 { x with RU:=z } } :=⟨_,rfl⟩
   rw [<- hq9] at HD;clear hq9;go_upto_region 15 with fail;generalize V2.setCell ⟨gs,11,n_⟩ (i_ j_ z)=V3 at *;exact Zap
  have e1:(v == 38)=false:=by simp [h38]
  clear h38;by_cases h39:v=39
  .have e2:(v == 39)=true:=by simp [h39]
   clear h39;rcases hps:q.L8 with _ | ⟨x,xs⟩
   .exact Zcg
   have hx:q.L8[0]? =o_ x:=by rw [hps]; rfl
   have il:0 < q.L8.length:=by rw [hps]; simp
   have il2:(0:Int) < (q.L8.length:Int):=zo
   have il3: ¬ q.L8.length=0:=zo
   have HX:bN (q.L8[0]? =o_ x):=hx;clear hps hx;obtain ⟨gs,ha,-⟩:=cn HD.I.own.at.1 HX.I;have m2:=HD.I.box.cells.2.2.1;rw [ha] at m2;have HA:bN (q.aN=o_ ⟨gs,0,n_⟩):=ha;clear ha;go_upto_region 14 with fail;clear m2;replace HD:=aA (HD.I.reads (Kp _ _).drew);refine Kr (S:=fun w'=>av w' X q) Zcq HD.I.box (fun bE=> ?_);generalize World.drew _=V at *;refine tt 0 bE ?_ (hy:=fun w0 hS0=>by have q0:=hS0.cells.2.2.1; rw [HA.I] at q0; go_simp; try with_reducible rfl);refine tt 1 bE ?_ (hy:=fun w0 hS0=>by have q0:=hS0.cells.2.2.1; rw [HA.I] at q0; go_simp; try with_reducible rfl);refine tt 2 bE ?_ (hy:=fun w0 hS0=>by have q0:=hS0.cells.2.2.1; rw [HA.I] at q0; go_simp; try with_reducible rfl);clear bE;refine L7 3 (fun K hK=> ?_);go_wp2_with fail;refine (Gk r a len cap 0 7 _ hl zo zo zo HD.I.rd).mono ?_;rintro e V2 ⟨z,rfl,hzw,hb1,hr1⟩;replace HD:=aA (HD.I.drawn hb1 hr1);have HZ:bN ((Lit.int j_ z).wf=true):=hzw;clear hb1 hr1 hzw;refine hK.out _ _ HD.I.box (fun bE=> ?_);clear hK K
   try simp only [pt,sb,s0,s1]
   refine tt 4 bE ?_ (hy:=fun w0 hS0=>by have q0:=hS0.cells.2.2.1; rw [HA.I] at q0; go_simp; try with_reducible rfl);refine tt 5 bE ?_ (hy:=fun w0 hS0=>by have q0:=hS0.cells.2.2.1; rw [HA.I] at q0; go_simp; try with_reducible rfl);clear bE;obtain ⟨s1,⟨u9,c⟩,f⟩:=HD.I.cell (n:=0) (j:=3) (v:=i_ j_ z) (y:= { x with Md:=z }) HX.I HA.I ⟨rfl,rfl,rfl⟩ (by decide) rfl (Ax HD.I.small HX.I);simp only [Nat.zero_mul,Li] at s1 c f;have HS:=aA s1;clear s1;refine L7 6 (fun K hK=> ?_);go_wp2_with fail;refine hK.out _ _ Zde (fun bE=> ?_);clear hK K;refine K3 Zcq ?_ _;clear c f u9 HD bE;have HD:=HS;clear HS;obtain ⟨q9,hq9⟩: ∃ q9:af,q9= { q with L8:=q.L8.set 0 { x with Md:=z } } :=⟨_,rfl⟩
   rw [<- hq9] at HD;clear hq9;go_upto_region 15 with fail;generalize V2.setCell ⟨gs,3,n_⟩ (i_ j_ z)=V3 at *;exact Zap
  have e2:(v == 39)=false:=by simp [h39]
  clear h39;exact H_
end
section
attribute [local go_sem ↓] Kc Kd
def aiU {p q:aE} {bC:Int} {n:Nat} (hp:aQ p) (h:agL bC p n=o_ q):aQ q:=by
 cases n with
 | zero=>
  rw [<- KC h];exact hp
 | succ n=>
  obtain ⟨r,-,h2⟩:=Option.bind_eq_some_iff.1 (show (agL bC p n).bind _=o_ q from h);exact agt h2
def agT {p q:aE} {bC n:Int} (h:agc p bC n=o_ q):aQ q:=by
 unfold agc at h
 split at h
 .rename_i h5
  rw [J7] at h5;exact aiU ((ch _).1 h5.1) h
 .cases h
def agI.more {p q r:aE} {bC:Int} {i:Nat} (h:agI bC p i q) (hr:hZ q (bC+i)=o_ r):agI bC p (i+1) r:=by
 refine ⟨?_,agt hr,?_⟩
 .show (agL bC p i).bind _=_
  rw [h.is];exact hr
 .unfold hZ at hr
  split at hr
  .rename_i h5
   simp only [J7] at h5
   have:=bz.1 h5.1.2
   exact .inr zo
  .cases hr
def agI.fail {p q:aE} {bC:Int} {i:Nat} (h:agI bC p i q) (hr:hZ q (bC+i)=n_):agL bC p (i+1)=n_:=by
 show (agL bC p i).bind _=_
 rw [h.is];exact hr
structure SyI (w:w_) (X:Nat) (p:aE) (bC n:Int) (k:Nat) (b:Bool) (q:af) (wr:w_):Prop where
 cd:B_ w.heap.size w wr
 box:wr.heap[w.heap.size+1]? =o_ (c_ ar 31)
 I:wr.heap[X]? =o_ (c_ q.cells 31)
 hx:w.heap.size+1 < X
 yes:b=true->(q.Fit/\(∀ x∈q.L8,x.dX)/\af.At wr q)/\agI bC p k q.pure
 no:b=false->agc p bC n=n_
 pr:b=true->bK p=true
def ait {q:af} (h:aQ q.pure):q.Fit/\ ∀ x∈q.L8,x.dX:=⟨dV (ta h),fun _ hx=>(cY (ta h) hx).1⟩
def ahR (p:af) (bC n:Int) (w:w_) (hf:p.Fit) (hs: ∀ x∈p.L8,x.dX) (h:af.At w p) (hw: -9223372036854775808<=bC/\bC<=9223372036854775807):
  k_ J3 20 #[a_ p.cells,i_ j_ bC,i_ j_ n] w fun e w'=>gI w (agc p.pure bC n) e w':=by
 have b1:=dT w (c_ p.cells 31) (c_ ar 31);have h2:=cZ w (c_ p.cells 31) (c_ ar 31);have S:bN (av ((w.alloc (c_ p.cells 31)).alloc (c_ ar 31)) w.heap.size p/\af.At ((w.alloc (c_ p.cells 31)).alloc (c_ ar 31)) p/\B_ w.heap.size w ((w.alloc (c_ p.cells 31)).alloc (c_ ar 31))/\((w.alloc (c_ p.cells 31)).alloc (c_ ar 31)).heap[w.heap.size+1]? =o_ (c_ ar 31)):=⟨h2.1,h.below b1,b1,h2.2⟩
 have fl:bN (p.Fit/\ ∀ x∈p.L8,x.dX):=⟨hf,hs⟩
 clear h hf hs b1 h2
 go_enter func20,ntmps20
 go_upto_region 1 with fail;generalize (w.alloc (c_ p.cells 31)).alloc (c_ ar 31)=A at *;have Mb:=dx n 0 200 A;go_wp2_with fail;refine Mb.mono ?_;clear Mb;rintro e A2 ⟨rfl,rfl⟩;cases h5:cv n 0 200
 .have HN:bN (agc p.pure bC n=n_):=by show agc _ _ _=n_; unfold agc; rw [h5,PP]; rfl
  clear h5;go_wp2_with (refine ec _ _ ar S.I.2.2.2 ?_);refine mG results20 (b_ false) S.I.2.2.2 ?_;exact ca HN.I (q_ S.I.2.2.1 zo _)
 obtain ⟨m,rfl⟩: ∃ m:Nat,n=(m:Int):=⟨n.toNat,by have:=bz.1 h5; omega⟩
 have HN:bN (agc p.pure bC m=if bK p.pure then agL bC p.pure m else n_):=by show agc _ _ _=_; unfold agc; rw [h5,Bool.and_true]; rfl
 have hm:m<=200:=by have:=bz.1 h5; omega
 clear h5;have hS:av A2.drew w.heap.size p:=S.I.1;replace S:bN (af.At A2.drew p/\B_ w.heap.size w A2.drew/\A2.drew.heap[w.heap.size+1]? =o_ (c_ ar 31)):=⟨S.I.2.1,S.I.2.2.1.drew,S.I.2.2.2⟩
 go_wp2_with fail;refine Kr (S:=fun W=>av W w.heap.size p) Zcq hS (fun _=> ?_)
 revert S hS
 generalize A2.drew=V;intro hS S;refine tkr 0 (v:=a_ p.cells) rfl (Ib (by rfl) 31 _ rfl w.heap.size (by rfl) 31 _ _ (fun _ h=>h) underlying31 rfl Zcq) hS ?_; simp only [pt,sb,s0,s1];refine tkr 1 (v:=a_ p.cells) rfl (Ib (by rfl) 31 _ rfl w.heap.size (by rfl) 31 _ _ (fun _ h=>h) underlying31 rfl Zcq) hS ?_; simp only [pt,sb,s0,s1];refine KW (rs:= [2,3]) Zcq zw ?_;refine KX rfl (fun K hK=> ?_) (KX rfl (fun K hK=> ?_) KY)
 case' refine_1=>
  simp only [Y5,gz,gs]; rw [if_pos (by rfl)];go_wp2_with fail;refine (eV p V fl.I.1 fl.I.2 S.I.1).mono ?_;rintro e V1 ⟨rfl,hb⟩;have cm:=hS.below hb;have hz:B_ V1.heap.size V1 (V1.alloc (c_ ar 31)):=(Kp _ _).alloc (Ki _) _;have hz2:B_ V1.heap.size V1 ((V1.alloc (c_ ar 31)).setRow V1.heap.size p.cells):=q_ hz (Ki _) _;have HI:bN (SyI w V1.heap.size p.pure bC m 0 (bK p.pure) p ((V1.alloc (c_ ar 31)).setRow V1.heap.size p.cells)):=by
   have hb2:=hb.trans (hz2.mono hb.size);have hl:=(J2.1 S.I.2.2).1;exact ⟨S.I.2.1.trans (hb2.mono S.I.2.1.size),(hb2.block _ hl).trans S.I.2.2,KU _ _ _ _ _ _ (Kj _ _),by have:=hb.size; omega,fun e=>⟨⟨fl.I.1,fl.I.2,S.I.1.below hb2⟩,agI.start ((ch _).1 e)⟩,(fun e=>by rw [HN.I,e]; rfl),fun e=>e⟩
  have y5:=cm.below hz;have NO:=cm.below hz2;clear hb hz hz2;go_wp2_with fail;refine hK.out _ _ cm (fun _=> ?_); clear hK K; try simp only [pt,sb,s0,s1]
  refine L7 3 (fun K hK=> ?_);go_wp2_with fail;refine hK.out _ _ y5 (fun _=> ?_); clear hK K; try simp only [pt,sb,s0,s1]
  refine L7 4 (fun K hK=> ?_);refine qd 31 (.tmp 8) (.tmp 15) rfl V1.heap.size _ ar p.cells rfl rfl (Kj _ _) Zcq rfl Zcq ?_;refine hK.out _ _ NO (fun _=> ?_); clear hK K;refine tk 5 (v:= ?_) ?_ NO ?_; rotate_left; (intro w0 hS0; go_simp; try with_reducible rfl); simp only [pt];refine K3 Zcq ?_ _;clear cm y5 NO hS S fl
  revert HI
  generalize (V1.alloc (c_ ar 31)).setRow V1.heap.size p.cells=U;generalize V1.heap.size=X;intro HI
 case' refine_2=>
  simp only [Y5,gz,gs]; rw [if_pos (by rfl)];have hz:B_ V.heap.size V (V.alloc (c_ ar 31)):=(Kp _ _).alloc (Ki _) _;have cm:=hS.below hz;have hzo:(V.alloc (c_ ar 31)).heap[V.heap.size]? =o_ (c_ ar 31):=Kj _ _;have HZ:=aA hz;clear hz;go_wp2_with fail;refine hK.out _ _ cm (fun _=> ?_); clear hK K; try simp only [pt,sb,s0,s1]
  refine L7 2 (fun K hK=> ?_);go_wp2_with fail;refine (eV p _ fl.I.1 fl.I.2 (S.I.1.below HZ.I)).mono ?_;rintro e V1 ⟨rfl,hb⟩;have hZ1:V1.heap[V.heap.size]? =o_ (c_ ar 31):=(hb.block _ (J2.1 hzo).1).trans hzo;have hb1:B_ V.heap.size V V1:=HZ.I.trans (hb.mono HZ.I.size);have hz2:B_ V.heap.size V (V1.setRow V.heap.size p.cells):=q_ hb1 (Ki _) _;have HI:bN (SyI w V.heap.size p.pure bC m 0 (bK p.pure) p (V1.setRow V.heap.size p.cells)):=by
   have hl:=(J2.1 S.I.2.2).1;exact ⟨S.I.2.1.trans (hz2.mono S.I.2.1.size),(hz2.block _ hl).trans S.I.2.2,KU _ _ _ _ _ _ hZ1,hl,fun e=>⟨⟨fl.I.1,fl.I.2,S.I.1.below hz2⟩,agI.start ((ch _).1 e)⟩,(fun e=>by rw [HN.I,e]; rfl),fun e=>e⟩
  have y5:=hS.below hb1;have NO:=hS.below hz2;clear hb hb1 hz2 hzo;go_wp2_with fail;refine hK.out _ _ y5 (fun _=> ?_); clear hK K; try simp only [pt,sb,s0,s1]
  refine L7 4 (fun K hK=> ?_);refine qd 31 (.tmp 8) (.tmp 15) rfl V.heap.size _ ar p.cells rfl rfl hZ1 Zcq rfl Zcq ?_;refine hK.out _ _ NO (fun _=> ?_); clear hK K;refine tk 5 (v:= ?_) ?_ NO ?_; rotate_left; (intro w0 hS0; go_simp; try with_reducible rfl); simp only [pt];refine K3 Zcq ?_ _;clear cm y5 NO hS S fl hZ1
  revert HI
  generalize V1.setRow V.heap.size p.cells=U;generalize V.heap.size=X;intro HI
 all_goals
  go_wp2_with fail
  go_loopw [9,10] (fun okv i wr=> ∃ (k:Nat) (b:Bool),k<=m/\okv=b_ b/\i=i_ j_ k/\bN (∃ q,SyI w X p.pure bC m k b q wr)) (fun _ i _=>m - (Go.RowKit.intOf i).toNat)
  case atStart=>exact ⟨0,_,Ky _,rfl,rfl,p,HI.I⟩
  case round=>
   clear HI;obtain ⟨k,b,hk,rfl,rfl,HI⟩:=hrel;obtain ⟨q,h5⟩:=HI.I;replace HI:=aA h5;clear h5;by_cases hlt:k < m
   .have i1:(k:Int) < (m:Int):=zo
    cases b with
    | false=>
     exact Za3
    | true=>
     have hts:=(HI.I.yes rfl).2;have r0: -9223372036854775808<=bC+(k:Int):=by rcases hts.akr with h5 | h5 <;> omega
     have r1:bC+(k:Int)<=9223372036854775807:=by rcases hts.akr with h5 | h5 <;> omega
     clear hts;go_wp2_with (refine eT _ HI.I.I ?_);refine (vu q (bC+k) wr (HI.I.yes rfl).1.1 (HI.I.yes rfl).1.2.1 (HI.I.yes rfl).1.2.2).mono ?_;rintro e w2 ⟨r,rfl,ho,hp,hb⟩;have hx2:w2.heap[X]? =o_ (c_ q.cells 31):=(hb.block _ (J2.1 HI.I.I).1).trans HI.I.I;have HF:bN (SyI w X p.pure bC m (k+1) (hZ q.pure (bC+k)).isSome r (w2.setRow X r.cells)):=by
      have hl:=(J2.1 HI.I.I).1;have hxx:=HI.I.hx;refine ⟨q_ (HI.I.cd.trans (hb.mono HI.I.cd.size)) zo _,((KH _ _ _ _ zo).trans (hb.block _ (J2.1 HI.I.box).1)).trans HI.I.box,KU _ _ _ _ _ _ hx2,hxx,fun e=> ?_,fun e=> ?_,fun _=>HI.I.pr rfl⟩
      .obtain ⟨z,hz⟩:=Option.isSome_iff_exists.1 e
       rw [hz] at hp;have hr:aQ r.pure:=by rw [hp]; exact agt hz
       exact ⟨⟨(ait hr).1,(ait hr).2,(ho.same fun g hg=>KH _ _ _ _ (by have:=(ho.lt g hg).1; omega)).at⟩,by rw [hp]; exact (HI.I.yes rfl).2.more hz⟩
      .rw [HN.I,ah6 ((HI.I.yes rfl).2.fail (PX.1 (by simpa using e))) hlt]
       split <;> rfl
     clear ho hp hb;go_wp2_with (refine ec _ _ r.cells hx2 ?_);go_roundw
     case rel=>exact ⟨k+1,_,zo,rfl,by go_num,r,HF.I⟩
     case measure=>simp [Go.RowKit.intOf]; omega
   .obtain rfl:k=m:=zo
    clear hlt hk;cases b with
    | false=>
     exact Za3
    | true=>
     go_wp2_with (refine eT _ HI.I.I ?_);refine (fR q wr (HI.I.yes rfl).1.1 (HI.I.yes rfl).1.2.1 (HI.I.yes rfl).1.2.2).mono ?_;rintro e w3 ⟨r,rfl,ho,hp,hb⟩;have H3:bN (ap w3 wr.heap.size r/\B_ w.heap.size w w3/\w3.heap[w.heap.size+1]? =o_ (c_ ar 31)/\agc p.pure bC k=o_ r.pure/\w.heap.size+1 < wr.heap.size):=by
      have hl:=(J2.1 HI.I.box).1;exact ⟨ho,HI.I.cd.trans (hb.mono HI.I.cd.size),(hb.block _ hl).trans HI.I.box,by rw [HN.I,HI.I.pr rfl,if_pos rfl,(HI.I.yes rfl).2.is,hp],hl⟩
     clear ho hp hb HN HI;go_wp2_with (refine ec _ _ r.cells H3.I.2.2.1 ?_);refine mG results20 (b_ true) H3.I.2.2.1 ?_;exact Zaz
end
section
open Go.Maps
attribute [local go_sem ↓] Kc Kd
structure th (A:World) (a:Option Addr) (len cap X:Nat) (q:af) (W:World):Prop where
 rd:Rd A.heap.size a len cap W
 low:Below A.heap.size A W
 own:ap W (A.heap.size+1) q
 small:q.pure.Small
 box:av W X q
 hx:A.heap.size < X
section
variable {len cap X:Nat} {a:Option Addr} {A af8 W W2:World} {q:af}
def th.drawn (h:th A a len cap X q W) (hb:gG A.heap.size W W2) (hr:Rd A.heap.size a len cap W2):th A a len cap X q W2:=by
 have hx:=h.hx;exact ⟨hr,h.low.trans (hb.below (Ki _) h.low.size),h.own.same fun g hg=>hb.block g (h.own.lt g hg).2 Zdh,h.small,(hb.block _ (av.lt h.box) zo).trans h.box,hx⟩
def th.reads (h:th A a len cap X q W) (hb:Below W.heap.size W W2):th A a len cap X q W2:=h.drawn (gG.dI hb) (h.rd.below hb)
def th.first (h1:Below A.heap.size A af8) (hr1:Rd A.heap.size a len cap af8) (hb:gG A.heap.size af8 W) (ho:ap W af8.heap.size q) (hs:q.pure.Small) (hr:Rd A.heap.size a len cap W):th A a len cap W.heap.size q ((W.alloc (.cells ar 31)).setRow W.heap.size q.cells):=by
 have hz:Below W.heap.size W ((W.alloc (.cells ar 31)).setRow W.heap.size q.cells):=below_setRow ((Kp _ _).alloc (Ki _) _) (Ki _) _;have h2:=hr1.lt;have h3:=h1.size;have h4:=hb.size;exact ⟨hr.below hz,h1.trans ((hb.below (Ki _) h3).trans (hz.mono zo)),(ho.lower zo).below hz,hs,KU _ _ _ _ _ _ (Kj _ _),zo⟩
end
def JS {P:Program} {fn:Func} {p u v:Tmp} {ty:TypeId} (h:fn.results= #[.cell p ty,.tmp u,.tmp v]) (tmps:Array Value) (w:World) (g:Nat) (t:TypeId) (cs:Array Value) (fr:Nat × Nat) (d:TypeDesc)
  (hp:tmps.getD p undef= .pointer (some ⟨g,0,none⟩)) (hg:w.heap[g]? =some (.cells cs t fr)) (hu:P.underlying ty=some d) (hd:(match d with | .struct _ | .array _ _=>true | _=>false)=true) (hi:(P.info? ty).map (·.size)=some cs.size):
  (results fn tmps).run P w= .ok (.tuple #[.agg cs,tmps.getD u undef,tmps.getD v undef]) w:=by
 have hp':tmps[p]?.getD undef= .pointer (some ⟨g,0,none⟩):=by simpa using hp
 simp [results,h,hp',asAddr,run_loadVar_row w g t ty cs fr d hg hu hd hi]
abbrev I64 (n:Int):Prop:= -9223372036854775808<=n/\n<=9223372036854775807
def wf_i64 {n:Int} (h:(Lit.int j_ n).wf=true):I64 n:=by
 have e1:IntKind.min j_= -9223372036854775808:=by decide
 have e2:IntKind.max j_=9223372036854775807:=by decide
 simp only [Lit.wf,J7,decide_eq_true_eq,e1,e2] at h;exact h
def alQ (a:Option d_) (len cap:Nat) (w:w_) (hl:len<=1048576) (hb:Bytes w a len):
  k_ J3 8 #[s_ a len cap] w fun e w'=> ∃ (q:af) (bC:Int),e=r_ (u_ #[a_ q.cells,i_ j_ bC])/\I64 bC/\ap w' w.heap.size q/\q.pure.Small/\q.next<=1000/\B_ w.heap.size w w':=by
 have h5:B_ w.heap.size w (w.alloc (c_ ar 31)):=(Kp w.heap.size w).alloc (Ki _) _;have S:bN (B_ w.heap.size w (w.alloc (c_ ar 31))/\(w.alloc (c_ ar 31)).heap[w.heap.size]? =o_ (c_ ar 31)/\(w.alloc (c_ ar 31)).heap.size=w.heap.size+1/\Bytes (w.alloc (c_ ar 31)) a len):=⟨h5,(Kj _ _),by simp,hb.below h5⟩
 clear hb h5
 go_enter func8,ntmps8
 go_upto_region 1 with fail;generalize w.alloc (c_ ar 31)=A at *;go_wp2_with fail;refine (Gj a len cap A S.I.2.2.2).mono ?_;rintro e af8 ⟨rfl,hb1,hr1,-⟩;have Mb:=GN A.heap.size a len cap af8 hl hr1;go_wp2_with fail;refine Mb.mono ?_;clear Mb;rintro e A2 ⟨q,bC,rfl,hnw,ho,hs,hnx,hb2,hr2⟩;have HNW:=aA hnw; clear hnw; have Jf:=aA hnx; clear hnx;have HD:=aA (th.first hb1 hr1 hb2 ho hs hr2);clear hb1 hr1 hb2 ho hs hr2;go_upto_region 3 with (refine ec _ _ q.cells (Kj _ _) ?_);generalize (A2.alloc (c_ ar 31)).setRow A2.heap.size q.cells=B at *;generalize A2.heap.size=X at *;go_wp2_with fail;refine (jt A.heap.size a len cap 24 _ hl zo zo HD.I.rd).mono ?_;rintro e B1 ⟨bb,rfl,hb1,hr1⟩;replace HD:=aA (HD.I.drawn hb1 hr1);clear hb1 hr1;cases bb
 case true=>
  go_upto_region 4 with fail;replace HD:=aA (HD.I.reads (Kp _ _).drew);refine Kr (S:=fun W=>av W X q) Zcq HD.I.box (fun _=> ?_);generalize World.drew _=V at *;refine tkr 0 (v:=a_ q.cells) rfl (Ib (by rfl) 31 _ rfl X (by rfl) 31 _ _ (fun _ h=>h) underlying31 rfl Zcq) HD.I.box ?_; simp only [pt,sb,s0,s1];refine tt 1 HD.I.box ?_;refine KW (rs:= [2]) Zcq zw ?_;refine KX rfl (fun K hK=> ?_) KY;simp only [KZ,K0,K1];rw [if_pos (by rfl)];go_wp2_with fail;refine (Gk A.heap.size a len cap 0 1000000000 _ hl zo zo zo HD.I.rd).mono ?_;rintro e W1 ⟨u,rfl,hu,hb1,hr1⟩;have HU:=aA hu;replace HD:=aA (HD.I.drawn hb1 hr1);clear hb1 hr1 hu;refine hK.out _ _ HD.I.box (fun _=> ?_);clear hK K
  try simp only [pt,sb,s0,s1]
  have n0:=S.I.2.2.1;have hx:=HD.I.hx;have ha:=(HD.I.low.block _ zo).trans S.I.2.1;refine KW (rs:= [3]) Zcq zw ?_;refine KX rfl (fun K hK=> ?_) KY;simp only [KZ,K0,K1];rw [if_pos (by rfl)];refine LY 31 (.tmp 2) (.tmp 16) rfl w.heap.size q.cells rfl rfl _ _ ha Zcq rfl Zcq ?_;have b1:=(KH W1 w.heap.size X q.cells zo).trans HD.I.box;refine hK.out _ _ b1 (fun _=> ?_);clear hK K;refine tk 4 (v:= ?_) ?_ b1 ?_; rotate_left; (intro w0 hS0; go_simp; try with_reducible rfl); simp only [pt];refine K3 Zcq ?_ _;go_wp2_with fail;refine mG results8 (i_ j_ u) ha ?_;exact ⟨q,u,rfl,wf_i64 HU.I,(HD.I.own.lower zo).same fun g hg=>KH _ _ _ _ Zdb,HD.I.small,Jf.I,q_ (S.I.1.trans (HD.I.low.mono S.I.1.size)) (Ki _) _⟩
 go_upto_region 5 with fail;replace HD:=aA (HD.I.reads (Kp _ _).drew);refine Kr (S:=fun W=>av W X q) Zcq HD.I.box (fun _=> ?_);generalize World.drew _=V at *;refine tkr 0 (v:=a_ q.cells) rfl (Ib (by rfl) 31 _ rfl X (by rfl) 31 _ _ (fun _ h=>h) underlying31 rfl Zcq) HD.I.box ?_; simp only [pt,sb,s0,s1];refine tt 1 HD.I.box ?_;refine tt 2 HD.I.box ?_;refine KW (rs:= [3]) Zcq zw ?_;refine KX rfl (fun K hK=> ?_) KY;simp only [KZ,K0,K1];rw [if_pos (by rfl)];go_wp2_with fail;refine (dh A.heap.size a len cap 4 _ hl zo zo HD.I.rd).mono ?_;rintro e W1 ⟨u,ua,ub,rfl,hb1,hr1⟩;replace HD:=aA (HD.I.drawn hb1 hr1);clear hb1 hr1;refine hK.out _ _ HD.I.box (fun _=> ?_);clear hK K
 try simp only [pt,sb,s0,s1]
 refine tt 4 HD.I.box ?_;have n0:=S.I.2.2.1;have hx:=HD.I.hx;have ha:=(HD.I.low.block _ zo).trans S.I.2.1;refine KW (rs:= [5]) Zcq zw ?_;refine KX rfl (fun K hK=> ?_) KY;simp only [KZ,K0,K1];rw [if_pos (by rfl)];refine LY 31 (.tmp 2) (.tmp 19) rfl w.heap.size q.cells rfl rfl _ _ ha Zcq rfl Zcq ?_;have b1:=(KH W1 w.heap.size X q.cells zo).trans HD.I.box;refine hK.out _ _ b1 (fun _=> ?_);clear hK K;refine tk 6 (v:= ?_) ?_ b1 ?_; rotate_left; (intro w0 hS0; go_simp; try with_reducible rfl); simp only [pt];refine K3 Zcq ?_ _;go_wp2_with fail;refine mG results8 (i_ j_ (IntKind.wrap j_ (bC+u))) ha ?_;exact ⟨q,IntKind.wrap j_ (bC+u),rfl,(by rw [K8]; have:=HNW.I; omega),(HD.I.own.lower zo).same fun g hg=>KH _ _ _ _ Zdb,HD.I.small,Jf.I,q_ (S.I.1.trans (HD.I.low.mono S.I.1.size)) (Ki _) _⟩
structure af3 (A:w_) (a:Option d_) (len cap X r:Nat) (q:af) (W:w_):Prop where
 rd:Rd r a len cap W
 low:B_ A.heap.size A W
 own:ap W A.heap.size q
 box:av W X q
 hx:A.heap.size<=X/\X < r
 far: ∀ g∈q.Mc,g < r
section
variable {len cap X r:Nat} {a:Option d_} {A af8 W W2:w_} {q:af}
def af3.drawn (h:af3 A a len cap X r q W) (hb:gG r W W2) (hr:Rd r a len cap W2):af3 A a len cap X r q W2:=by
 have hx:=h.hx;have hz:=h.low.size;exact ⟨hr,h.low.trans (hb.below zo hz),h.own.same fun g hg=>hb.block g (h.own.lt g hg).2 (by have:=h.far g hg; omega),(hb.block _ (av.lt h.box) zo).trans h.box,hx,h.far⟩
def af3.first (hb:B_ A.heap.size A af8) (ho:ap af8 A.heap.size q):ap ((af8.alloc (c_ ar 31)).setRow af8.heap.size q.cells) A.heap.size q/\B_ A.heap.size A ((af8.alloc (c_ ar 31)).setRow af8.heap.size q.cells)/\av ((af8.alloc (c_ ar 31)).setRow af8.heap.size q.cells) af8.heap.size q/\A.heap.size<=af8.heap.size/\af8.heap.size < ((af8.alloc (c_ ar 31)).setRow af8.heap.size q.cells).heap.size/\ ∀ g∈q.Mc,g < af8.heap.size:=by
 have hz:B_ af8.heap.size af8 ((af8.alloc (c_ ar 31)).setRow af8.heap.size q.cells):=q_ ((Kp _ _).alloc (Ki _) _) (Ki _) _;exact ⟨ho.below hz,hb.trans (hz.mono hb.size),KU _ _ _ _ _ _ (Kj _ _),hb.size,av.lt (q:=q) (KU _ _ _ _ _ _ (Kj _ _)),fun g hg=>(ho.lt g hg).2⟩
def af3.opened (h1:ap W A.heap.size q/\B_ A.heap.size A W/\av W X q/\A.heap.size<=X/\X < W.heap.size/\ ∀ g∈q.Mc,g < X) (hb:B_ W.heap.size W W2) (hr:Rd W.heap.size a len cap W2):af3 A a len cap X W.heap.size q W2:=by
 obtain ⟨h1,h2,h3,h4,h5,h6⟩:=h1;exact ⟨hr,h2.trans (hb.mono h2.size),h1.below hb,(hb.block _ h5).trans h3,⟨h4,h5⟩,fun g hg=>by have:=h6 g hg; omega⟩
end
def anj (a:Option d_) (len cap:Nat) (w:w_) (hl:len<=1048576) (hb:Bytes w a len):
  k_ J3 18 #[s_ a len cap] w fun e w'=> ∃ (q:af) (bC n:Int),e=r_ (u_ #[a_ q.cells,i_ j_ bC,i_ j_ n])/\I64 bC/\(0<=n/\n < 30)/\ap w' w.heap.size q/\q.pure.Small/\B_ w.heap.size w w':=by
 have h5:B_ w.heap.size w (w.alloc (c_ ar 31)):=(Kp w.heap.size w).alloc (Ki _) _;have S:bN (B_ w.heap.size w (w.alloc (c_ ar 31))/\(w.alloc (c_ ar 31)).heap[w.heap.size]? =o_ (c_ ar 31)/\(w.alloc (c_ ar 31)).heap.size=w.heap.size+1/\Bytes (w.alloc (c_ ar 31)) a len):=⟨h5,(Kj _ _),by simp,hb.below h5⟩
 clear hb h5
 go_enter func18,ntmps18
 go_upto_region 1 with fail;generalize w.alloc (c_ ar 31)=A at *;have Mb:=alQ a len cap A hl S.I.2.2.2;go_wp2_with fail;refine Mb.mono ?_;clear Mb;rintro e af8 ⟨q,bC,rfl,hi,ho,hs,-,hb⟩;have HI:=aA hi;have HS:=aA hs;have HF:=aA (af3.first hb ho);clear hi ho hs hb;go_upto_region 2 with (refine ec _ _ q.cells (Kj _ _) ?_);generalize (af8.alloc (c_ ar 31)).setRow af8.heap.size q.cells=B at *;generalize af8.heap.size=X at *;have Mb:=Gj a len cap B (S.I.2.2.2.below HF.I.2.1);go_wp2_with fail;refine Mb.mono ?_;clear Mb;rintro e B1 ⟨rfl,hb1,hr1,-⟩;have HD:=aA (af3.opened HF.I hb1 hr1);clear HF hb1 hr1;go_upto_region 3 with fail;generalize B.heap.size=r at *;replace HD:=aA (HD.I.drawn (gG.dI (Kp _ _).drew) (HD.I.rd.below (Kp _ _).drew));refine Kr (S:=fun W=>av W X q) Zcq HD.I.box (fun _=> ?_);generalize World.drew _=V at *;refine tkr 0 (v:=a_ q.cells) rfl (Ib (by rfl) 31 _ rfl X (by rfl) 31 _ _ (fun _ h=>h) underlying31 rfl Zcq) HD.I.box ?_; simp only [pt,sb,s0,s1];refine tt 1 HD.I.box ?_;refine tt 2 HD.I.box ?_;refine KW (rs:= [3]) Zcq zw ?_;refine KX rfl (fun K hK=> ?_) KY;simp only [KZ,K0,K1];rw [if_pos (by rfl)];go_wp2_with fail;refine (dh r a len cap 30 _ hl zo zo HD.I.rd).mono ?_;rintro e W1 ⟨u,ua,ub,rfl,hb1,hr1⟩;replace HD:=aA (HD.I.drawn hb1 hr1);clear hb1 hr1;refine hK.out _ _ HD.I.box (fun _=> ?_);clear hK K
 try simp only [pt,sb,s0,s1]
 have n0:=S.I.2.2.1;have hx:=HD.I.hx;have ha:=(HD.I.low.block _ zo).trans S.I.2.1;refine KW (rs:= [4]) Zcq zw ?_;refine KX rfl (fun K hK=> ?_) KY;simp only [KZ,K0,K1];rw [if_pos (by rfl)];refine LY 31 (.tmp 2) (.tmp 15) rfl w.heap.size q.cells rfl rfl _ _ ha Zcq rfl Zcq ?_;have b1:=(KH W1 w.heap.size X q.cells zo).trans HD.I.box;refine hK.out _ _ b1 (fun _=> ?_);clear hK K;refine tk 5 (v:= ?_) ?_ b1 ?_; rotate_left; (intro w0 hS0; go_simp; try with_reducible rfl); simp only [pt];refine tk 6 (v:= ?_) ?_ b1 ?_; rotate_left; (intro w0 hS0; go_simp; try with_reducible rfl); simp only [pt];refine K3 Zcq ?_ _;go_wp2_with fail;refine KT (v:=u_ #[a_ q.cells,i_ j_ bC,i_ j_ u]) (JS results18 _ _ w.heap.size _ _ (0,0) _ rfl (KU _ _ _ _ _ _ ha) underlying31 rfl Zcq) rfl ?_;exact ⟨q,bC,u,rfl,HI.I,⟨ua,ub⟩,(HD.I.own.lower zo).same fun g hg=>KH _ _ _ _ Zdb,HS.I,q_ (S.I.1.trans (HD.I.low.mono S.I.1.size)) (Ki _) _⟩
end
section
open Go.Maps
structure JR (w0:w_) (a:Option d_) (len:Nat) (L:List (Nat × af)) (B:List (Nat × Array v_ × T_)) (W:w_):Prop where
 ins: ∀ x∈L,o8 W x.1 w0.heap.size x.2
 box: ∀ x∈B,oc x.2.1 x.2.2 x.1 W
 low:B_ w0.heap.size w0 W
 bytes:Bytes W a len
section
variable {w0 W A:w_} {a:Option d_} {len:Nat} {L:List (Nat × af)} {B:List (Nat × Array v_ × T_)} {q:af}
def JR.below (h:JR w0 a len L B W) (hb:B_ W.heap.size W A):JR w0 a len L B A:=
 ⟨fun x hx=>(h.ins x hx).below hb,fun x hx=>(h.box x hx).below hb,h.low.trans (hb.mono h.low.size),h.bytes.below hb⟩
def JR.add (h:JR w0 a len L B A) {X:Nat} (hp:o8 A X w0.heap.size q):JR w0 a len ((X,q) :: L) B A:=
 ⟨fun x hx=>(Kt.1 hx).elim (fun e=>by rw [e]; exact hp) (h.ins x),h.box,h.low,h.bytes⟩
def JR.put (h:JR w0 a len L B W) (hb:B_ W.heap.size W A) (ho:ap A W.heap.size q):JR w0 a len ((A.heap.size,q) :: L) B ((A.alloc (c_ ar 31)).setRow A.heap.size q.cells):=by
 have hz:B_ A.heap.size A ((A.alloc (c_ ar 31)).setRow A.heap.size q.cells):=q_ ((Kp _ _).alloc (Ki _) _) (Ki _) _;exact ((h.below hb).below hz).add ⟨KU _ _ _ _ _ _ (Kj _ _),(ho.lower h.low.size).below hz⟩
end
structure TqS (w0:w_) (L:List (Nat × af)) (B:List (Nat × ao)) (O:List (Nat × dN)) (W:w_):Prop where
 ins: ∀ x∈L,o8 W x.1 w0.heap.size x.2/\x.2.pure.Small/\w0.heap.size<=x.1
 box: ∀ x∈B,W.heap[x.1]? =o_ (c_ (aX x.2) 41)
 row: ∀ x∈B,Row W x.2.aY (fk.flat x.2.prog)
 ops: ∀ x∈O,W.heap[x.1]? =o_ (c_ #[i_ j_ x.2.1,i_ j_ x.2.2.1,i_ j_ x.2.2.2.1,t_ x.2.2.2.2] 45)
 low:B_ w0.heap.size w0 W
section
variable {w0 W A:w_} {L:List (Nat × af)} {B B':List (Nat × ao)} {O:List (Nat × dN)} {p q:af} {x:ao} {o:dN} {X:Nat}
def TqS.good (h:TqS w0 L B O W) {x:Nat × af} (hx:x∈L):x.2.Good W:=uG (h.ins x hx).2.1 (h.ins x hx).1.2
def TqS.below (h:TqS w0 L B O W) (hb:B_ W.heap.size W A):TqS w0 L B O A:=
 ⟨fun x hx=>⟨(h.ins x hx).1.below hb,(h.ins x hx).2⟩,fun y hy=>(hb.block _ (J2.1 (h.box y hy)).1).trans (h.box y hy),fun y hy=>(h.row y hy).below hb,fun y hy=>(hb.block _ (J2.1 (h.ops y hy)).1).trans (h.ops y hy),h.low.trans (hb.mono h.low.size)⟩
def TqS.put (h:TqS w0 L B O W) (hb:B_ W.heap.size W A) (ho:ap A W.heap.size q) (hs:q.pure.Small):TqS w0 ((A.heap.size,q) :: L) B O ((A.alloc (c_ ar 31)).setRow A.heap.size q.cells):=by
 have hz:B_ A.heap.size A ((A.alloc (c_ ar 31)).setRow A.heap.size q.cells):=q_ ((Kp _ _).alloc (Ki _) _) (Ki _) _;have h2:=(h.below hb).below hz;exact ⟨fun x hx=>(Kt.1 hx).elim (fun e=>by rw [e]; exact ⟨⟨KU _ _ _ _ _ _ (Kj _ _),(ho.lower h.low.size).below hz⟩,hs,(h.below hb).low.size⟩) (h2.ins x),h2.box,h2.row,h2.ops,h2.low⟩
def TqS.op (h:TqS w0 L B O W) (hx:(X,o)∈O):W.cell? ⟨X,0,n_⟩=o_ (i_ j_ o.1)/\W.cell? ⟨X,1,n_⟩=o_ (i_ j_ o.2.1):=by
 have h1:=h.ops _ hx;simp only at h1;simp [World.cell?,h1]
end
def agJ {p:aE} {bC n:Int} :((agc p bC n).getD cN).Small:=(agP fun _=>agT).1
section
variable {bC n k:Int} {p q:aE}
def ana {q:aE} (h:agc p bC n=o_ q):cv n 0 200=true/\(n=0\/0<=bC/\bC<=1000000000):=by
 unfold agc at h
 split at h
 case isFalse=>cases h
 rename_i hc;simp only [J7] at hc;have hn:=bz.1 hc.2;refine ⟨hc.2,?_⟩;by_cases h0:n=0
 .exact .inl h0
 .refine .inr ?_
  obtain ⟨m,hm⟩: ∃ m:Nat,n.toNat=1+m:=⟨n.toNat - 1,zo⟩
  rw [hm,amd] at h;cases hr:agL bC p 1 with
  | none=>rw [hr] at h; cases h
  | some a=>
   have h2:=(alT (bC:=bC+(0:Nat)) (p:=p) (q:=a) hr).2.1;simpa using h2
def anP {R:Option aE} (h:R=agc p bC n) (hs:R.isSome=true) (hk:0<=k/\k<=n):(bC+k=bC\/0<=bC/\bC<=1000000000)/\n<=200/\((agc ((agc p bC k).getD cN) (bC+k) (n - k)).isSome=true/\(agc ((agc p bC k).getD cN) (bC+k) (n - k)).getD cN=R.getD cN):=by
 obtain ⟨q,rfl⟩:=Option.isSome_iff_exists.1 hs;obtain ⟨a,h1,h2⟩:=am4 h.symm hk;have h3:=ana h.symm;have h4:=bz.1 h3.1;refine ⟨?_,h4.2,?_⟩
 .rcases h3.2 with h3 | h3
  .exact .inl zo
  .exact .inr h3
 .rw [h1]
  show (agc a (bC+k) (n - k)).isSome=true/\_
  rw [show (agc ((o_ a).getD cN) (bC+k) (n - k))=o_ q from h2];exact ⟨by rw [h2]; rfl,rfl⟩
end
end
end Go.Proofs.YtfncpmaefninjaaGreatDoor
