/- What the proof leans on, part 20. -/
import Derived.Test.YtckenjkcmajicaaGreatOwnF16
set_option linter.all false
set_option maxRecDepth 100000
set_option maxHeartbeats 8000000
open Go.Proofs.Tryz
open Go renaming World->w_,Value->v_,Calls->k_,Addr->d_,TypeId->T_
open Go.IntKind renaming i64->j_
open Go.Obj renaming cells->c_
open Go.RowKit renaming Below->B_,Hid->bN
open Go.Value renaming int->i_,slice->s_,bool->b_,string->t_,agg->a_
open Option renaming some->o_,none->n_
open Go renaming wp_at_succ->Kd,wp_at_zero->Kc
open Go.Proofs.Tryz renaming prog->J3
open List renaming length_cons->Lg,length_nil->K4,nil_append->Ll

open Go.RowKit
open Nat renaming le_refl->Ki
namespace Go.Proofs.YtckenjkcmajicaaGreat
open Go.Maps
attribute [local go_sem ↓] Kc Kd
theorem fy.drew {α:Type} {K:Kind α} {T:T_} {t8:Array v_} {W w:w_} {acc:List α} {a:Option d_} {c:Nat} (h:fy K T t8 W w acc a c):fy K T t8 W w.drew acc a c:=⟨aL h.own fun _ _=>rfl,h.ne,h.cd.drew,h.box⟩
theorem DY {p q:af} {w W W2 w9:w_} {o b0 n9 c9:Nat} {x:aM} {xp:dS} {t8:Array v_} {acc:List aM} {a9:Option d_} (hB:av W2 w.heap.size p/\ap W2 b0 p/\B_ w.heap.size w W2/\W2.heap[w.heap.size+1+1]? =o_ (c_ ar 46))
  (hQ:av W2 o q/\ap W2 W.heap.size q/\q.pure=p.pure/\(∀ g∈q.Mc,g < o)/\W.heap.size<=o/\w.heap.size+1+1 < W.heap.size/\o < W2.heap.size) (hpb: ∀ g∈p.Mc,g < w.heap.size) (hl:fy bX 51 t8 W2 w9 acc a9 c9) (ha:acc=bY (fun y:aM=>y.id) x q.ai) (hn:acc.length=n9) (hx:x.todS=xp)
  (hk: ∀ g,aU.bt x=o_ g->g∉q.Mc/\g≠o) (hm:aU.cO W2 W.heap.size x):
  (av (w9.setCell ⟨o,7,n_⟩ (s_ a9 n9 c9)) w.heap.size p/\ap (w9.setCell ⟨o,7,n_⟩ (s_ a9 n9 c9)) b0 p/\B_ w.heap.size w (w9.setCell ⟨o,7,n_⟩ (s_ a9 n9 c9))/\(w9.setCell ⟨o,7,n_⟩ (s_ a9 n9 c9)).heap[w.heap.size+1+1]? =o_ (c_ ar 46))/\av (w9.setCell ⟨o,7,n_⟩ (s_ a9 n9 c9)) o ({ q with ai:=acc,aK:=a9,aV:=c9 } :af)/\ap (w9.setCell ⟨o,7,n_⟩ (s_ a9 n9 c9)) W.heap.size ({ q with ai:=acc,aK:=a9,aV:=c9 } :af)/\({ q with ai:=acc,aK:=a9,aV:=c9 } :af).pure= { p.pure with ai:=bY (·.id) xp p.pure.ai } :=by
 have hb:=hl.cd;have nW:=hQ.2.2.2.1;have sm: ∀ g,g < W2.heap.size->g≠o->(w9.setCell ⟨o,7,n_⟩ (s_ a9 n9 c9)).heap[g]? =W2.heap[g]? :=fun g hg hne=>(aH hne).trans (hb.block _ hg)
 have lY:B_ w.heap.size w (w9.setCell ⟨o,7,n_⟩ (s_ a9 n9 c9)):=bP (hB.2.2.1.trans (hb.mono zw)) zw;have iH: ∀ g∈acc.filterMap aU.bt,g∈q.ai.filterMap aU.bt\/aU.bt x=o_ g:=fun g hg=>by
  exact V_
 have hin: ∀ g∈q.ai.filterMap aU.bt,g∈q.Mc:=fun g hg=>by simp only [af.Mc,Kg]; simp [hg]
 refine ⟨⟨(sm _ zw zw).trans hB.1,hB.2.1.same fun g hg=>sm g Zca Zca,lY,(sm _ zw zw).trans hB.2.2.2⟩,?_,?_,?_⟩
 .have h5:=cx (i:=7) (v:=s_ a9 n9 c9) ((hb.block _ hQ.2.2.2.2.2.2).trans hQ.1)
  unfold av;simp only [hn];exact h5
 .refine hQ.2.1.Jb (B:=W2.heap.size) zw (fun g hg=>by have:=nW g hg; omega) (fun g hg=>sm g Zcc Zcc) ?_ (fun z hz=> ?_) ?_ (fun g hg=> ?_) (fun g hg=> ?_)
  .exact Za4
  .rw [ha] at hz
   rcases fq.1 hz with rfl | hz
   .exact Zbe
   .refine (hQ.2.1.eR z hz).same fun g hg=> ?_
    exact ZaG
  .have h5:=hQ.2.1.nodup
   simp only [af.Mc,Kf] at h5;have h6:(q.ai.filterMap aU.bt).Nodup:=h5.2.1.2.1.2.1.2.1.2.1.2.1.2.1.2.1;have hp:(acc.filterMap aU.bt).Perm ((x :: q.ai).filterMap aU.bt):=by rw [ha]; exact (pz x _).filterMap _
   refine hp.nodup_iff.2 ?_;cases he:aU.bt x with
   | none=>rw [List.filterMap_cons_none he]; exact h6
   | some g=>rw [List.filterMap_cons_some he]; exact Lp.2 ⟨fun h7=>(hk g he).1 (hin g h7),h6⟩
  .exact ZaS
  .exact ZaB
 .show ({ q.pure with ai:=acc.map (·.todS) } :aE)=_
  have e1:q.ai.map (·.todS)=p.pure.ai:=congrArg aE.ai hQ.2.2.1;rw [ha,rF (je:=(·.id)) (fun y:aM=>y.todS) (fun _=>rfl),e1,hx,hQ.2.2.1]
theorem nd (p:af) (z:aM) (w:w_) (b0:Nat) (hwf:(Lit.int j_ z.id).wf=true) (qY:p.pure.Small) (h:ap w b0 p):
  k_ J3 91 #[a_ p.cells,a_ #[i_ j_ z.id,b_ z.I,b_ z.Mf,i_ j_ z.max,s_ z.ak z.Ma.length z.aq]] w fun e w'=>gI w (cB p.pure { p.pure with ai:=bY (·.id) (⟨z.id,z.I,z.Mf,z.max,[]⟩:dS) p.pure.ai }) e w':=by
 have HB:bN (av (((w.alloc (c_ p.cells 46)).alloc (c_ #[i_ j_ z.id,b_ z.I,b_ z.Mf,i_ j_ z.max,s_ z.ak z.Ma.length z.aq] 51)).alloc (c_ ar 46)) w.heap.size p/\ap (((w.alloc (c_ p.cells 46)).alloc (c_ #[i_ j_ z.id,b_ z.I,b_ z.Mf,i_ j_ z.max,s_ z.ak z.Ma.length z.aq] 51)).alloc (c_ ar 46)) b0 p/\B_ w.heap.size w (((w.alloc (c_ p.cells 46)).alloc (c_ #[i_ j_ z.id,b_ z.I,b_ z.Mf,i_ j_ z.max,s_ z.ak z.Ma.length z.aq] 51)).alloc (c_ ar 46))/\(((w.alloc (c_ p.cells 46)).alloc (c_ #[i_ j_ z.id,b_ z.I,b_ z.Mf,i_ j_ z.max,s_ z.ak z.Ma.length z.aq] 51)).alloc (c_ ar 46)).heap[w.heap.size+1+1]? =o_ (c_ ar 46)):=by
  have b1:B_ w.heap.size w (((w.alloc (c_ p.cells 46)).alloc (c_ #[i_ j_ z.id,b_ z.I,b_ z.Mf,i_ j_ z.max,s_ z.ak z.Ma.length z.aq] 51)).alloc (c_ ar 46)):=fg _ _ _ _;have h3:=dR w (c_ p.cells 46) (c_ #[i_ j_ z.id,b_ z.I,b_ z.Mf,i_ j_ z.max,s_ z.ak z.Ma.length z.aq] 51) (c_ ar 46);exact ⟨h3.1,h.below b1,b1,h3.2.2.1⟩
 have Cj:bN ((((w.alloc (c_ p.cells 46)).alloc (c_ #[i_ j_ z.id,b_ z.I,b_ z.Mf,i_ j_ z.max,s_ z.ak z.Ma.length z.aq] 51)).alloc (c_ ar 46)).heap[w.heap.size+1]? =o_ (c_ #[i_ j_ z.id,b_ z.I,b_ z.Mf,i_ j_ z.max,s_ z.ak z.Ma.length z.aq] 51)):=(dR _ _ _ _).2.1;have fl:bN (p.Fit/\(∀ x∈p.L8,x.dX)/\p.pure.Small/\(Lit.int j_ z.id).wf=true):=⟨dV qY,fun x hx=>(cY qY hx).1,qY,hwf⟩
 have hpl:p.ai.length<=1048576:=fl.I.1.short.ai;have pd: ∀ g∈p.Mc,g < w.heap.size:=fun g hg=>(h.lt g hg).2
 clear h qY hwf;obtain ⟨m0,m1,m2,m3,m4,m5,m6,m7⟩:=HB.I.1.cells;unfold af.cells at *
 go_enter func91,ntmps91
 go_wp2_with fail;generalize ((w.alloc (c_ p.row 46)).alloc (c_ #[i_ j_ z.id,b_ z.I,b_ z.Mf,i_ j_ z.max,s_ z.ak z.Ma.length z.aq] 51)).alloc (c_ ar 46)=W at *;clear m0 m1 m2 m3 m4 m5 m6 m7;refine (fR p W fl.I.1 fl.I.2.1 HB.I.2.1.at).mono ?_;rintro e W1 ⟨q,rfl,hown,gn,hb1⟩;have hb2:B_ W1.heap.size W1 (W1.alloc (c_ q.cells 46)):=(Kp _ _).alloc (Ki _) _;have hlt:w.heap.size+1+1 < W.heap.size:=(J2.1 HB.I.2.2.2).1;have hb3:B_ W.heap.size W (W1.alloc (c_ q.cells 46)):=hb1.trans (hb2.mono hb1.size);have hq1: ∀ g∈q.Mc,g < W1.heap.size:=fun g hg=>(hown.lt g hg).2
 have hql:q.ai.length<=1048576:=by have e1:=congrArg (fun z=>z.ai.length) gn; simp only [af.pure,KG] at e1; omega
 have HQ:bN (av (W1.alloc (c_ q.cells 46)) W1.heap.size q/\ap (W1.alloc (c_ q.cells 46)) W.heap.size q/\q.pure=p.pure/\(∀ g∈q.Mc,g < W1.heap.size)/\W.heap.size<=W1.heap.size/\w.heap.size+1+1 < W.heap.size/\W1.heap.size < (W1.alloc (c_ q.cells 46)).heap.size):=⟨Kj _ _,hown.below hb2,gn,hq1,hb1.size,hlt,by simp⟩
 replace HB:bN (av (W1.alloc (c_ q.cells 46)) w.heap.size p/\ap (W1.alloc (c_ q.cells 46)) b0 p/\B_ w.heap.size w (W1.alloc (c_ q.cells 46))/\(W1.alloc (c_ q.cells 46)).heap[w.heap.size+1+1]? =o_ (c_ ar 46)):=⟨HB.I.1.below hb3,HB.I.2.1.below hb3,HB.I.2.2.1.trans (hb3.mono HB.I.2.2.1.size),(hb3.block _ hlt).trans HB.I.2.2.2⟩
 replace Cj:bN ((W1.alloc (c_ q.cells 46)).heap[w.heap.size+1]? =o_ (c_ #[i_ j_ z.id,b_ z.I,b_ z.Mf,i_ j_ z.max,s_ z.ak z.Ma.length z.aq] 51)):=(hb3.block _ zw).trans Cj.I;have hbz:B_ (W1.alloc (c_ q.cells 46)).heap.size (W1.alloc (c_ q.cells 46)) ((W1.alloc (c_ q.cells 46)).alloc (c_ #[] 51)):=(Kp _ _).alloc (Ki _) _;obtain ⟨z0,z1,z2,z3,z4⟩:=gE (x:=z) ((hbz.block _ (by have:=hb3.size; omega)).trans Cj.I);clear hbz;have Au:bN (∀ g∈p.Mc,g < w.heap.size):=fun g hg=>pd g hg
 clear hown gn hb1 hb2 hb3 hq1 hlt pd;have En:bN (fy bX 51 #[i_ j_ z.id,b_ z.I,b_ z.Mf,i_ j_ z.max,s_ n_ 0 0] (W1.alloc (c_ q.cells 46)) (((W1.alloc (c_ q.cells 46)).alloc (c_ #[] 51)).alloc (c_ #[i_ j_ z.id,b_ z.I,b_ z.Mf,i_ j_ z.max,s_ n_ 0 0] 51)) [] (o_ ⟨(W1.alloc (c_ q.cells 46)).heap.size,0,n_⟩) 0):=fy.start;have Hw:(W1.alloc (c_ q.cells 46)).heap.size=W1.heap.size+1:=by simp
 have HW:bN ((W1.alloc (c_ q.cells 46)).heap.size=W1.heap.size+1):=Hw;clear Hw;unfold af.cells at *;go_wp2_with fail;clear z0 z1 z2 z3 z4;generalize W1.alloc (c_ q.row 46)=W2 at *;generalize W1.heap.size=o at *
 go_loopw [7,9,10] (fun l d i wr=> ∃ (k:Nat) (dn:Bool) (acc:List aM) (a:Option d_) (c:Nat),k<=q.ai.length/\i=i_ j_ k/\d=b_ dn/\l=s_ a acc.length c/\bN (fy bX 51 #[i_ j_ z.id,b_ z.I,b_ z.Mf,i_ j_ z.max,s_ n_ 0 0] W2 wr acc a c/\gY (fun y:aM=>y.id) (⟨⟨z.id,z.I,z.Mf,z.max,[]⟩,n_,0⟩:aM) q.ai k dn acc)) (fun _ _ i _=>q.ai.length - (Go.RowKit.intOf i).toNat)
 case atStart=>exact ⟨0,false,[],o_ ⟨W2.heap.size,0,n_⟩,0,Ky _,rfl,rfl,by rw [HW.I]; rfl,⟨En.I,gY.start _ _⟩⟩
 case round=>
  obtain ⟨k,dn,acc,a,c,hk,rfl,rfl,rfl,HA⟩:=hrel;have i0:(0:Int)<=(k:Int):=zw
  have mo0:wr.cell? ⟨o,7,n_⟩=o_ (s_ q.aK q.ai.length q.aV):=(HQ.I.1.below HA.I.1.cd).cells.2.2.2.2.2.2.2;have hal:=HA.I.2.le;by_cases hlt:k < q.ai.length
  .have i1:(k:Int) < (q.ai.length:Int):=zw
   replace HA:bN (fy bX 51 #[i_ j_ z.id,b_ z.I,b_ z.Mf,i_ j_ z.max,s_ n_ 0 0] W2 wr.drew acc a c/\gY (fun y:aM=>y.id) (⟨⟨z.id,z.I,z.Mf,z.max,[]⟩,n_,0⟩:aM) q.ai k dn acc):=⟨HA.I.1.drew,HA.I.2⟩
   have hbr:=HA.I.1.cd;have ajP:wr.drew.cell? ⟨o,7,n_⟩=o_ (s_ q.aK q.ai.length q.aV):=(HQ.I.1.below hbr).cells.2.2.2.2.2.2.2;have ali:wr.drew.cell? ⟨w.heap.size+1,0,n_⟩=o_ (i_ j_ z.id):=(gE (x:=z) ((hbr.block _ (by have:=HQ.I.2.2.2.2; omega)).trans Cj.I)).1;obtain ⟨y,hy⟩: ∃ y,q.ai[k]? =o_ y:=⟨_,Kz hlt⟩
   have HY:bN (q.ai[k]? =o_ y):=hy;obtain ⟨g,ha,hat⟩:=lm (HQ.I.2.1.below hbr).at.2.2.2.2.2 hy;rw [ha] at ajP;obtain ⟨d0,d1,d2,d3,d4⟩:=hat;have HG:bN (q.aK=o_ ⟨g,0,n_⟩):=ha;clear ha hy;obtain ⟨a5,c5,w5,hap,rL⟩:=HA.I.1.add 44 48 (P:=J3) underlying44 na rfl (by decide) (by decide) y #[i_ j_ y.id,b_ y.I,b_ y.Mf,i_ j_ y.max,s_ y.ak y.Ma.length y.aq] rfl qX zw;have F5:bN (fy bX 51 #[i_ j_ z.id,b_ z.I,b_ z.Mf,i_ j_ z.max,s_ n_ 0 0] W2 w5 (acc ++ [y]) a5 c5):=rL;clear rL;cases dn;rotate_left
   .
    go_wp2_with fail;refine aT (fun w'=>w'=wr.drew) ZbY rfl ?_
    iterate 3 (refine PI ?_ (hy:=fun w0 hS0=>by subst hS0; go_simp; try with_reducible rfl))
    iterate 9 (refine nl ?_; simp only [pt,sb,s0,s1])
    (refine PI ?_ (hy:=fun w0 hS0=>by subst hS0; go_simp; try with_reducible rfl))
    refine bk ZbY ?_ _;intro w1 cm;subst cm;clear mo0;go_wp2_with (at_builtin; first | (refine br _ rfl _ _ 44 rfl _ _ _ _ rfl rfl hap ?_; clear hap))
    exact N_
   by_cases hc:z.id < y.id;rotate_left
   .have HC:bN (¬ z.id < y.id):=hc
    have d2:decide (z.id < y.id)=false:=decide_eq_false hc;go_wp2_with fail;refine aT (fun w'=>w'=wr.drew) ZbY rfl ?_
    iterate 13 (refine PI ?_ (hy:=fun w0 hS0=>by subst hS0; go_simp; try with_reducible rfl))
    refine bk ZbY ?_ _;intro w1 cm;subst cm;clear mo0;go_wp2_with (at_builtin; first | (refine br _ rfl _ _ 44 rfl _ _ _ _ rfl rfl hap ?_; clear hap))
    go_round
    case rel=>exact ⟨k+1,false,acc ++ [y],a5,c5,zw,by go_num,rfl,by simp,⟨F5.I,HA.I.2.past HY.I (Int.not_lt.mpr HC.I)⟩⟩
    case measure=>simp [Go.RowKit.intOf]; omega
   clear hap F5 a5 c5 w5;have HC:bN (z.id < y.id):=hc;have d2:decide (z.id < y.id)=true:=decide_eq_true hc;obtain ⟨a5,c5,w5,hap,rL⟩:=HA.I.1.add 44 48 (P:=J3) underlying44 na rfl (by decide) (by decide) (⟨⟨z.id,z.I,z.Mf,z.max,[]⟩,n_,0⟩:aM) #[i_ j_ z.id,b_ z.I,b_ z.Mf,i_ j_ z.max,s_ n_ 0 0] rfl qX zw;obtain ⟨a7,c7,w7,gT,mI⟩:=rL.add 44 48 (P:=J3) underlying44 na rfl (by decide) (by decide) y #[i_ j_ y.id,b_ y.I,b_ y.Mf,i_ j_ y.max,s_ y.ak y.Ma.length y.aq] rfl qX ZbZ;rw [Lf] at gT;simp only [Lg,K4,Li] at gT;have HL7:bN (fy bX 51 #[i_ j_ z.id,b_ z.I,b_ z.Mf,i_ j_ z.max,s_ n_ 0 0] W2 w7 (acc ++ [(⟨⟨z.id,z.I,z.Mf,z.max,[]⟩,n_,0⟩:aM)] ++ [y]) a7 c7):=mI;have mo5:w5.cell? ⟨o,7,n_⟩=o_ (s_ q.aK q.ai.length q.aV):=(HQ.I.1.below rL.cd).cells.2.2.2.2.2.2.2;obtain ⟨g2,ha2,g8⟩:=lm (HQ.I.2.1.below rL.cd).at.2.2.2.2.2 HY.I;rw [HG.I] at ha2 mo5;cases ha2;obtain ⟨e0,e1,e2,e3,e4⟩:=g8;obtain ⟨x0,x1,x2,x3,x4⟩:=gE (x:=(⟨⟨z.id,z.I,z.Mf,z.max,[]⟩,n_,0⟩:aM)) (X:=o+1+1) (W:=wr.drew) Zcu;clear rL mI;simp only [K4] at *;go_wp2_with fail;refine aT (fun w'=>w'=wr.drew) ZbY rfl ?_
   iterate 13 (refine PI ?_ (hy:=fun w0 hS0=>by subst hS0; go_simp; try with_reducible rfl))
   refine bk ZbY ?_ _;intro w1 cm;subst cm;clear mo0;go_wp2_with (at_builtin; first | (refine br _ rfl _ _ 44 rfl _ _ _ _ rfl rfl hap ?_; clear hap) | (refine br _ rfl _ _ 44 rfl _ _ _ _ rfl rfl gT ?_; clear gT))
   go_round
   case rel=>exact ⟨k+1,true,acc ++ [(⟨⟨z.id,z.I,z.Mf,z.max,[]⟩,n_,0⟩:aM)] ++ [y],a7,c7,zw,by go_num,rfl,by simp,⟨HL7.I,HA.I.2.here HY.I HC.I⟩⟩
   case measure=>simp [Go.RowKit.intOf]; omega
  have i1: ¬ (k:Int) < (q.ai.length:Int):=zw
  have hbr:=HA.I.1.cd;cases dn
  .obtain ⟨a9,c9,w9,hap,Jy⟩:=HA.I.1.add 44 48 (P:=J3) underlying44 na rfl (by decide) (by decide) (⟨⟨z.id,z.I,z.Mf,z.max,[]⟩,n_,0⟩:aM) #[i_ j_ z.id,b_ z.I,b_ z.Mf,i_ j_ z.max,s_ n_ 0 0] rfl qX zw
   have HR:bN (fy bX 51 #[i_ j_ z.id,b_ z.I,b_ z.Mf,i_ j_ z.max,s_ n_ 0 0] W2 w9 (acc ++ [(⟨⟨z.id,z.I,z.Mf,z.max,[]⟩,n_,0⟩:aM)]) a9 c9/\acc ++ [(⟨⟨z.id,z.I,z.Mf,z.max,[]⟩,n_,0⟩:aM)] =bY (fun y:aM=>y.id) (⟨⟨z.id,z.I,z.Mf,z.max,[]⟩,n_,0⟩:aM) q.ai/\(acc ++ [(⟨⟨z.id,z.I,z.Mf,z.max,[]⟩,n_,0⟩:aM)]).length=acc.length+1):=⟨Jy,HA.I.2.last hlt,by simp⟩
   obtain ⟨x0,x1,x2,x3,x4⟩:=gE (x:=(⟨⟨z.id,z.I,z.Mf,z.max,[]⟩,n_,0⟩:aM)) (X:=o+1+1) (W:=wr) Zcu;simp only [K4] at x0 x1 x2 x3 x4;clear Jy;have eX:bN (_):=DY HB.I HQ.I Au.I HR.I.1 HR.I.2.1 HR.I.2.2 rfl (fun g hg=>by cases hg) (Ke _ _ _ _);have Mb:=fi p ({ q with ai:=(acc ++ [(⟨⟨z.id,z.I,z.Mf,z.max,[]⟩,n_,0⟩:aM)]),aK:=a9,aV:=c9 } :af) (w9.setCell ⟨o,7,n_⟩ (s_ a9 (acc.length+1) c9)) ⟨fl.I.1,fl.I.2.1,eX.I.1.2.1.at⟩ (fun hr=>by
    have h5:aE.Small ({ q with ai:=(acc ++ [(⟨⟨z.id,z.I,z.Mf,z.max,[]⟩,n_,0⟩:aM)]),aK:=a9,aV:=c9 } :af).pure:=by rw [eX.I.2.2.2]; exact pU fl.I.2.2.1 hr ⟨fl.I.2.2.2,Ky _,(fun s hs=>by cases hs)⟩
    exact ⟨dV h5,fun x hx=>(cY h5 hx).1,eX.I.2.2.1.at⟩)
   obtain ⟨m0,m1,m2,m3,m4,m5,m6,m7⟩:=eX.I.1.1.cells;obtain ⟨k0,k1,k2,k3,k4,k5,k6,k7⟩:=eX.I.2.1.cells;obtain ⟨⟨u,co⟩,fo⟩:(∃ u,w9.cell? ⟨o,7,n_⟩=o_ u)/\w9.frozen? ⟨o,7,n_⟩=false:=⟨⟨_,(HQ.I.1.below HR.I.1.cd).cells.2.2.2.2.2.2.2⟩,Ko _ _ _ _ _ (HQ.I.1.below HR.I.1.cd)⟩
   unfold af.cells at Mb;have sR:=HR.I.2.2;simp only [sR] at Mb k0 k1 k2 k3 k4 k5 k6 k7;clear sR;go_wp2_with (at_builtin; first | (refine br _ rfl _ _ 44 rfl _ _ _ _ rfl rfl hap ?_; clear hap));refine Mb.mono ?_;clear Mb m0 m1 m2 m3 m4 m5 m6 m7 k0 k1 k2 k3 k4 k5 k6 k7;rintro e ow ⟨gy,hok⟩;have hq:=HQ.I.2.2.2.2;have HZ:bN (B_ w.heap.size w ow/\ow.heap[w.heap.size+1+1]? =o_ (c_ ar 46)/\ap ow W.heap.size ({ q with ai:=(acc ++ [(⟨⟨z.id,z.I,z.Mf,z.max,[]⟩,n_,0⟩:aM)]),aK:=a9,aV:=c9 } :af)/\w.heap.size+1+1 < W.heap.size):=⟨eX.I.1.2.2.1.trans (gy.mono eX.I.1.2.2.1.size),(gy.block _ (J2.1 eX.I.1.2.2.2).1).trans eX.I.1.2.2.2,eX.I.2.2.1.below gy,hq.2.1⟩
   clear gy hq;rw [eX.I.2.2.2] at hok;rcases hok with ⟨hok,rfl⟩ | ⟨hok,rfl⟩
   .have HN:bN (cB p.pure { p.pure with ai:=bY (·.id) (⟨z.id,z.I,z.Mf,z.max,[]⟩:dS) p.pure.ai } =o_ { p.pure with ai:=bY (·.id) (⟨z.id,z.I,z.Mf,z.max,[]⟩:dS) p.pure.ai }):=jS hok
    clear hok;go_wp2_with (refine ec _ _ #[i_ j_ q.id,i_ j_ q.next,s_ q.aN q.L8.length q.aW,s_ q.bc q.aj.length q.bF,s_ q.ay q.L9.length q.aO,s_ q.ax q.ag.length q.aP,s_ q.am q.ae.length q.aG,s_ a9 (acc.length+1) c9] HZ.I.2.1 ?_);refine mG results91 (b_ true) HZ.I.2.1 ?_;have hl:=HZ.I.2.2.2;rw [HN.I];refine ⟨({ q with ai:=(acc ++ [(⟨⟨z.id,z.I,z.Mf,z.max,[]⟩,n_,0⟩:aM)]),aK:=a9,aV:=c9 } :af),by unfold af.cells; simp only [HR.I.2.2]; rfl,(HZ.I.2.2.1.lower zw).same fun g hg=>KH _ _ _ _ Zb7,eX.I.2.2.2,kz HZ.I.1 zw _⟩
   .exact S_
  .have HR:bN (fy bX 51 #[i_ j_ z.id,b_ z.I,b_ z.Mf,i_ j_ z.max,s_ n_ 0 0] W2 wr acc a c/\acc=bY (fun y:aM=>y.id) (⟨⟨z.id,z.I,z.Mf,z.max,[]⟩,n_,0⟩:aM) q.ai/\acc.length=acc.length):=⟨HA.I.1,HA.I.2.done hlt,rfl⟩
   have eX:bN (_):=DY HB.I HQ.I Au.I HR.I.1 HR.I.2.1 HR.I.2.2 rfl (fun g hg=>by cases hg) (Ke _ _ _ _);have Mb:=fi p ({ q with ai:=acc,aK:=a,aV:=c } :af) (wr.setCell ⟨o,7,n_⟩ (s_ a acc.length c)) ⟨fl.I.1,fl.I.2.1,eX.I.1.2.1.at⟩ (fun hr=>by
    have h5:aE.Small ({ q with ai:=acc,aK:=a,aV:=c } :af).pure:=by rw [eX.I.2.2.2]; exact pU fl.I.2.2.1 hr ⟨fl.I.2.2.2,Ky _,(fun s hs=>by cases hs)⟩
    exact ⟨dV h5,fun x hx=>(cY h5 hx).1,eX.I.2.2.1.at⟩)
   obtain ⟨m0,m1,m2,m3,m4,m5,m6,m7⟩:=eX.I.1.1.cells;obtain ⟨k0,k1,k2,k3,k4,k5,k6,k7⟩:=eX.I.2.1.cells;obtain ⟨⟨u,co⟩,fo⟩:(∃ u,wr.cell? ⟨o,7,n_⟩=o_ u)/\wr.frozen? ⟨o,7,n_⟩=false:=⟨⟨_,(HQ.I.1.below HR.I.1.cd).cells.2.2.2.2.2.2.2⟩,Ko _ _ _ _ _ (HQ.I.1.below HR.I.1.cd)⟩
   unfold af.cells at Mb;simp only at Mb k0 k1 k2 k3 k4 k5 k6 k7;go_wp2_with fail;refine Mb.mono ?_;clear Mb m0 m1 m2 m3 m4 m5 m6 m7 k0 k1 k2 k3 k4 k5 k6 k7;rintro e ow ⟨gy,hok⟩;have hq:=HQ.I.2.2.2.2;have HZ:bN (B_ w.heap.size w ow/\ow.heap[w.heap.size+1+1]? =o_ (c_ ar 46)/\ap ow W.heap.size ({ q with ai:=acc,aK:=a,aV:=c } :af)/\w.heap.size+1+1 < W.heap.size):=⟨eX.I.1.2.2.1.trans (gy.mono eX.I.1.2.2.1.size),(gy.block _ (J2.1 eX.I.1.2.2.2).1).trans eX.I.1.2.2.2,eX.I.2.2.1.below gy,hq.2.1⟩
   clear gy hq;rw [eX.I.2.2.2] at hok;rcases hok with ⟨hok,rfl⟩ | ⟨hok,rfl⟩
   .have HN:bN (cB p.pure { p.pure with ai:=bY (·.id) (⟨z.id,z.I,z.Mf,z.max,[]⟩:dS) p.pure.ai } =o_ { p.pure with ai:=bY (·.id) (⟨z.id,z.I,z.Mf,z.max,[]⟩:dS) p.pure.ai }):=jS hok
    clear hok;go_wp2_with (refine ec _ _ #[i_ j_ q.id,i_ j_ q.next,s_ q.aN q.L8.length q.aW,s_ q.bc q.aj.length q.bF,s_ q.ay q.L9.length q.aO,s_ q.ax q.ag.length q.aP,s_ q.am q.ae.length q.aG,s_ a acc.length c] HZ.I.2.1 ?_);refine mG results91 (b_ true) HZ.I.2.1 ?_;have hl:=HZ.I.2.2.2;rw [HN.I];refine ⟨({ q with ai:=acc,aK:=a,aV:=c } :af),by rfl,(HZ.I.2.2.1.lower zw).same fun g hg=>KH _ _ _ _ Zb7,eX.I.2.2.2,kz HZ.I.1 zw _⟩
   .exact S_
end Go.Proofs.YtckenjkcmajicaaGreat

namespace Go.Proofs.YtckenjkcmajicaaGreat
open Go.Maps
attribute [local go_sem ↓] Kc Kd
theorem ra (p:af) (id:Int) (w:w_) (b0:Nat) (hwf:(Lit.int j_ id).wf=true) (qY:p.pure.Small) (h:ap w b0 p):
  k_ J3 89 #[a_ p.cells,i_ j_ id] w fun e w'=>gI w (cB p.pure { p.pure with ag:=cA (·.id) (⟨id,false,⟨#[]⟩⟩:az) p.pure.ag }) e w':=by
 have HB:bN (av ((w.alloc (c_ p.row 46)).alloc (c_ ar 46)) w.heap.size p/\ap ((w.alloc (c_ p.row 46)).alloc (c_ ar 46)) b0 p/\B_ w.heap.size w ((w.alloc (c_ p.row 46)).alloc (c_ ar 46))/\((w.alloc (c_ p.row 46)).alloc (c_ ar 46)).heap[w.heap.size+1]? =o_ (c_ ar 46)):=by
  exact rg
 have fl:bN (p.Fit/\(∀ x∈p.L8,x.dX)/\p.pure.Small/\(Lit.int j_ id).wf=true):=⟨dV qY,fun x hx=>(cY qY hx).1,qY,hwf⟩
 have hpl:=fl.I.1.short.ag;have hcap:p.ag.length<=p.aP:=nV h.ag;have pd: ∀ g∈p.Mc,g < w.heap.size:=fun g hg=>(h.lt g hg).2
 clear h qY hwf;obtain ⟨m0,m1,m2,m3,m4,m5,m6,m7⟩:=HB.I.1.cells;unfold af.cells
 go_enter func89,ntmps89
 go_wp2_with fail;generalize (w.alloc (c_ p.row 46)).alloc (c_ ar 46)=W at *;clear m0 m1 m2 m3 m4 m5 m6 m7;refine (fR p W fl.I.1 fl.I.2.1 HB.I.2.1.at).mono ?_;rintro e W1 ⟨q,rfl,hown,gn,hb1⟩;have hb2:B_ W1.heap.size W1 (W1.alloc (c_ q.row 46)):=(Kp _ _).alloc (Ki _) _;have hlt:w.heap.size+1 < W.heap.size:=(J2.1 HB.I.2.2.2).1;have hb3:B_ W.heap.size W (W1.alloc (c_ q.row 46)):=hb1.trans (hb2.mono hb1.size);have hq1: ∀ g∈q.Mc,g < W1.heap.size:=fun g hg=>(hown.lt g hg).2
 have HQ:bN (av (W1.alloc (c_ q.row 46)) W1.heap.size q/\ap (W1.alloc (c_ q.row 46)) W.heap.size q/\q.pure=p.pure/\(∀ g∈q.Mc,g < W1.heap.size)/\W.heap.size<=W1.heap.size/\w.heap.size+1 < W.heap.size/\W1.heap.size < (W1.alloc (c_ q.row 46)).heap.size):=⟨Kj _ _,hown.below hb2,gn,hq1,hb1.size,hlt,by simp⟩
 replace HB:bN (av (W1.alloc (c_ q.row 46)) w.heap.size p/\ap (W1.alloc (c_ q.row 46)) b0 p/\B_ w.heap.size w (W1.alloc (c_ q.row 46))/\(W1.alloc (c_ q.row 46)).heap[w.heap.size+1]? =o_ (c_ ar 46)):=⟨HB.I.1.below hb3,HB.I.2.1.below hb3,HB.I.2.2.1.trans (hb3.mono HB.I.2.2.1.size),(hb3.block _ hlt).trans HB.I.2.2.2⟩
 have Au:bN (∀ g∈p.Mc,g < w.heap.size):=fun g hg=>pd g hg
 clear hown gn hb1 hb2 hb3 hq1 hlt pd;obtain ⟨m0,m1,m2,m3,m4,m5,m6,m7⟩:=HB.I.1.cells;unfold af.cells;go_wp2_with fail;generalize W1.alloc (c_ q.row 46)=W2 at *;clear m0 m1 m2 m3 m4 m6 m7;generalize W1.heap.size=o at *
 go_loop [7] (fun i=> ∃ k:Nat,k<=p.ag.length/\i=i_ j_ k/\bN (∀ y∈p.ag.take k,y.id < id)) (fun i=>p.ag.length - (Go.RowKit.intOf i).toNat)
 case atStart=>exact ⟨0,Ky _,rfl,fun y hy=>by simp at hy⟩
 case round=>
  obtain ⟨k,hk,rfl,HA⟩:=hrel;have i0:(0:Int)<=(k:Int):=zw
  have icap:(k:Int)<=(p.aP:Int):=zw
  have i2:(k:Int)<=(p.ag.length:Int):=zw
  rcases zm (fun y:az=>y.id) id p.ag k with ⟨x,hx,hc,hlt⟩ | ⟨x,hx,hc,hlt⟩ | hlt
  .have HT:bN (∀ y∈p.ag.take (k+1),y.id < id):=nE hx HA.I hc
   have i1:(k:Int) < (p.ag.length:Int):=zw
   obtain ⟨g,ha,hat⟩:=jr HB.I.2.1.at.2.2.2.1 hx;have c0:=hat.1;have m:=m5;rw [ha] at m;clear m5 hat hx;exact Za7
  focus
   have HX:bN (∀ y,p.ag[k]? =o_ y-> ¬ y.id < id):=fun y hy e=>by rw [hx] at hy; cases hy; exact hc e
   have i1:(k:Int) < (p.ag.length:Int):=zw
   obtain ⟨g,ha,hat⟩:=jr HB.I.2.1.at.2.2.2.1 hx;have c0:=hat.1;have m:=m5;rw [ha] at m;clear m5 hat hx ha
  rotate_left
  focus
   have HX:bN (∀ y,p.ag[k]? =o_ y-> ¬ y.id < id):=fun y hy=>absurd (Lj.1 hy).1 hlt
   have i1: ¬ (k:Int) < (p.ag.length:Int):=zw
   have m:=m5;clear m5
  all_goals
   have hkl:(p.ag.take k).length=k:=by rw [Lk]; omega
   have hb3:B_ W2.heap.size W2 (W2.alloc (c_ #[] 134)):=(Kp _ _).alloc (Ki _) _;obtain ⟨a5,c5,w5,hap,oe,A7,-⟩:=pX (W2.alloc (c_ #[] 134)) W2.heap.size (o_ ⟨W2.heap.size,0,n_⟩) 0 [] (i6 (Kj _ _) (Ki _)) p.ax (p.ag.take k) p.aP (uM k (HB.I.2.1.below hb3).at.2.2.2.1.1) ZcQ hb3.size;rw [hkl] at hap oe;simp only [K4,Li,Ll] at hap oe;have iJ:B_ W2.heap.size W2 w5:=hb3.grown A7 hb3.size fun c e=>by cases e; exact Ki _
   have jQ:B_ w5.heap.size w5 (w5.alloc (c_ #[i_ j_ id,b_ false,t_ ⟨#[]⟩] 134)):=(Kp _ _).alloc (Ki _) _;have yJ:B_ W2.heap.size W2 (w5.alloc (c_ #[i_ j_ id,b_ false,t_ ⟨#[]⟩] 134)):=iJ.trans (jQ.mono iJ.size);have qH:(w5.alloc (c_ #[i_ j_ id,b_ false,t_ ⟨#[]⟩] 134)).ownsRow W2.heap.size 134 3 (s_ a5 (p.ag.take k).length c5) (p.ag.take k).length (bG.flat (p.ag.take k)):=by rw [hkl]; exact cR oe jQ
   obtain ⟨a7,c7,w7,gT,mP,xI,-⟩:=pX (w5.alloc (c_ #[i_ j_ id,b_ false,t_ ⟨#[]⟩] 134)) W2.heap.size a5 c5 (p.ag.take k) qH (o_ ⟨w5.heap.size,0,n_⟩) [(⟨id,false,⟨#[]⟩⟩:az)] 1 (jO (Kj _ _)) ZcP yJ.size;have mI:(p.ag.take k ++ [(⟨id,false,⟨#[]⟩⟩:az)]).length=k+1:=by rw [Lf,hkl]; rfl
   rw [hkl] at gT mP;simp only [Lg,K4,Li] at gT mP;have gh:B_ W2.heap.size W2 w7:=yJ.grown xI yJ.size fun c e=>(cf oe (di e)).1
   have Em:bN (w7.ownsRow W2.heap.size 134 3 (s_ a7 (k+1) c7) (k+1) (bG.flat (p.ag.take k ++ [(⟨id,false,⟨#[]⟩⟩:az)]))/\B_ W2.heap.size W2 w7/\(p.ag.take k ++ [(⟨id,false,⟨#[]⟩⟩:az)]).length=k+1):=⟨mP,gh,mI⟩
   have m2:(W2.alloc (c_ #[] 134)).cell? ⟨w.heap.size,5,n_⟩=o_ (s_ p.ax p.ag.length p.aP):=(HB.I.1.below hb3).cells.2.2.2.2.2.1;have hbo:W2.heap.size<=w7.heap.size:=gh.size;obtain ⟨⟨u,co⟩,fo⟩:(∃ u,w7.cell? ⟨o,5,n_⟩=o_ u)/\w7.frozen? ⟨o,5,n_⟩=false:=⟨⟨_,(HQ.I.1.below gh).cells.2.2.2.2.2.1⟩,Ko _ _ _ _ _ (HQ.I.1.below gh)⟩
   clear oe A7 iJ jQ yJ qH mP xI gh hb3 mI;go_wp2_with (at_builtin; first | (refine br _ rfl _ _ 42 rfl _ _ _ _ rfl rfl hap ?_; clear hap) | (refine br _ rfl _ _ 42 rfl _ _ _ _ rfl rfl gT ?_; clear gT));have H8:bN (((av (w7.setCell ⟨o,5,n_⟩ (s_ a7 (k+1) c7)) w.heap.size p/\ap (w7.setCell ⟨o,5,n_⟩ (s_ a7 (k+1) c7)) b0 p/\B_ w.heap.size w (w7.setCell ⟨o,5,n_⟩ (s_ a7 (k+1) c7))/\(w7.setCell ⟨o,5,n_⟩ (s_ a7 (k+1) c7)).heap[w.heap.size+1]? =o_ (c_ ar 46))/\(w7.setCell ⟨o,5,n_⟩ (s_ a7 (k+1) c7)).heap[o]? =o_ (c_ #[i_ j_ q.id,i_ j_ q.next,s_ q.aN q.L8.length q.aW,s_ q.bc q.aj.length q.bF,s_ q.ay q.L9.length q.aO,s_ a7 (k+1) c7,s_ q.am q.ae.length q.aG,s_ q.aK q.ai.length q.aV] 46)/\ap (w7.setCell ⟨o,5,n_⟩ (s_ a7 (k+1) c7)) W.heap.size q)/\(w7.setCell ⟨o,5,n_⟩ (s_ a7 (k+1) c7)).ownsRow W2.heap.size 134 3 (s_ a7 (k+1) c7) (k+1) (bG.flat (p.ag.take k ++ [(⟨id,false,⟨#[]⟩⟩:az)]))/\W2.heap.size<=(w7.setCell ⟨o,5,n_⟩ (s_ a7 (k+1) c7)).heap.size):=by
    have gh:=Em.I.2.1;have hq:=HQ.I;exact jp
   generalize w7.setCell ⟨o,5,n_⟩ (s_ a7 (k+1) c7)=W8 at *;have HS:bN (W8.cell? ⟨w.heap.size,5,n_⟩=o_ (s_ p.ax p.ag.length p.aP)):=H8.I.1.1.1.cells.2.2.2.2.2.1;have co8:W8.drew.cell? ⟨o,5,n_⟩=o_ (s_ a7 (k+1) c7):=by rw [K5 _ _ _ _ _ _ (show W8.drew.heap[o]? =_ from H8.I.1.2.1)]; rfl
   clear m m2 co fo hbo i1 hlt;obtain ⟨u6,Jx⟩: ∃ u6,(if p.aP=k then p.ax else Option.map (fun x=>x.add (k * 3)) p.ax)=u6:=⟨_,rfl⟩
   refine Kr (S:=fun w'=>w'.cell? ⟨w.heap.size,5,n_⟩=o_ (s_ p.ax p.ag.length p.aP)) ZbY HS.I (fun bE=> ?_);refine tt 0 bE ?_ (hy:=fun w0 hS0=>by have cm:=hS0; go_simp; try with_reducible rfl);refine tt 2 bE ?_ (hy:=fun w0 hS0=>by have cm:=hS0; go_simp; try with_reducible rfl);refine tt 3 bE ?_ (hy:=fun w0 hS0=>by have cm:=hS0; go_simp; try with_reducible rfl);refine tt 4 bE ?_ (hy:=fun w0 hS0=>by have cm:=hS0; go_simp; try with_reducible rfl);refine tt 5 bE ?_ (hy:=fun w0 hS0=>by have cm:=hS0; go_simp; try with_reducible rfl);refine L7 1 (fun K hK=> ?_);go_wp2_with fail;refine hK.out _ _ HS.I (fun bE=> ?_);clear hK K
   try simp only [pt,sb,s0,s1]
   have hbd:B_ W8.heap.size W8 W8.drew:=(Kp _ _).drew;have mI:=Em.I.2.2;have hkd:(p.ag.drop k).length=p.ag.length - k:=Ql;obtain ⟨a9,c9,w9,hr,xj,FW,-⟩:=pX W8.drew W2.heap.size a7 c7 (p.ag.take k ++ [(⟨id,false,⟨#[]⟩⟩:az)]) ZcM u6 (p.ag.drop k) (p.aP - k) (by rw [<- Jx]; exact qK hcap (H8.I.1.1.2.1.below hbd).at.2.2.2.1.1) (by rw [mI,hkd]; omega) H8.I.2.2;rw [mI,hkd] at hr xj;have kN:B_ W2.heap.size W8.drew w9:=(Kp _ _).grown (a:=W8.drew) FW H8.I.2.2 fun c e=>(cf H8.I.2.1 (di e)).1
   have hq:=HQ.I;have h8:=H8.I;have p7:o < W2.heap.size:=hq.2.2.2.2.2.2;have hwl:w.heap.size+1 < o:=zw
   have lV:w9.heap[o]? =o_ (c_ #[i_ j_ q.id,i_ j_ q.next,s_ q.aN q.L8.length q.aW,s_ q.bc q.aj.length q.bF,s_ q.ay q.L9.length q.aO,s_ a7 (k+1) c7,s_ q.am q.ae.length q.aG,s_ q.aK q.ai.length q.aV] 46):=(kN.block _ p7).trans h8.1.2.1;have YU:bN (w9.cell? ⟨w.heap.size,5,n_⟩=o_ (s_ p.ax p.ag.length p.aP)/\(w9.setCell ⟨o,5,n_⟩ (s_ a9 (k+1+(p.ag.length - k)) c9)).cell? ⟨w.heap.size,5,n_⟩=o_ (s_ p.ax p.ag.length p.aP)):=by
    have e1:w9.cell? ⟨w.heap.size,5,n_⟩=o_ (s_ p.ax p.ag.length p.aP):=(J1 (kN.block _ ZcS)).trans HS.I;exact ZaX
   have sR:((p.ag.take k ++ [(⟨id,false,⟨#[]⟩⟩:az)]) ++ p.ag.drop k).length=k+1+(p.ag.length - k):=by rw [Lf,mI,hkd]
   have gn:({ q with ag:=(p.ag.take k ++ [(⟨id,false,⟨#[]⟩⟩:az)]) ++ p.ag.drop k,ax:=a9,aP:=c9 } :af).pure= { p.pure with ag:=cA (·.id) (⟨id,false,⟨#[]⟩⟩:az) p.pure.ag } :=by
    have e1:(p.ag.take k ++ [(⟨id,false,⟨#[]⟩⟩:az)]) ++ p.ag.drop k=cA (·.id) (⟨id,false,⟨#[]⟩⟩:az) p.pure.ag:=by
     exact Zbp
    have e2:=HQ.I.2.2.1
    show ({ q.pure with ag:=(p.ag.take k ++ [(⟨id,false,⟨#[]⟩⟩:az)]) ++ p.ag.drop k } :aE)=_
    rw [e1,e2]
   have eX:bN (av (w9.setCell ⟨o,5,n_⟩ (s_ a9 (k+1+(p.ag.length - k)) c9)) w.heap.size p/\ap (w9.setCell ⟨o,5,n_⟩ (s_ a9 (k+1+(p.ag.length - k)) c9)) b0 p/\B_ w.heap.size w (w9.setCell ⟨o,5,n_⟩ (s_ a9 (k+1+(p.ag.length - k)) c9))/\(w9.setCell ⟨o,5,n_⟩ (s_ a9 (k+1+(p.ag.length - k)) c9)).heap[w.heap.size+1]? =o_ (c_ ar 46)/\av (w9.setCell ⟨o,5,n_⟩ (s_ a9 (k+1+(p.ag.length - k)) c9)) o ({ q with ag:=(p.ag.take k ++ [(⟨id,false,⟨#[]⟩⟩:az)]) ++ p.ag.drop k,ax:=a9,aP:=c9 } :af)/\ap (w9.setCell ⟨o,5,n_⟩ (s_ a9 (k+1+(p.ag.length - k)) c9)) W.heap.size ({ q with ag:=(p.ag.take k ++ [(⟨id,false,⟨#[]⟩⟩:az)]) ++ p.ag.drop k,ax:=a9,aP:=c9 } :af)/\({ q with ag:=(p.ag.take k ++ [(⟨id,false,⟨#[]⟩⟩:az)]) ++ p.ag.drop k,ax:=a9,aP:=c9 } :af).pure= { p.pure with ag:=cA (·.id) (⟨id,false,⟨#[]⟩⟩:az) p.pure.ag }):=by
    have hpb: ∀ g∈p.Mc,g < w.heap.size:=Au.I;have nW: ∀ g∈q.Mc,g < o:=hq.2.2.2.1;have sm: ∀ g,g < W2.heap.size->g≠o->(w9.setCell ⟨o,5,n_⟩ (s_ a9 (k+1+(p.ag.length - k)) c9)).heap[g]? =W8.heap[g]? :=fun g hg hne=>(aH hne).trans (kN.block _ hg)
    have lY:B_ w.heap.size w (w9.setCell ⟨o,5,n_⟩ (s_ a9 (k+1+(p.ag.length - k)) c9)):=bP (h8.1.1.2.2.1.drew.trans (kN.mono zw)) zw;refine ⟨(sm _ zw zw).trans h8.1.1.1,h8.1.1.2.1.same fun g hg=>sm g Zca Zca,lY,(sm _ zw zw).trans h8.1.1.2.2.2,?_,?_,gn⟩
    .have h5:=cx (i:=5) (v:=s_ a9 (k+1+(p.ag.length - k)) c9) lV
     unfold av;simp only [sR];exact h5
    .refine h8.1.2.2.GV (B:=W2.heap.size) zw (fun g hg=>by have:=nW g hg; omega) (fun g hg=>sm g Zcc Zcc) ?_
     exact Za3
   refine L7 6 (fun K hK=> ?_);refine cM _ _ _ rfl _ _ _ w9 rfl rfl hr ?_;refine hK.out _ _ YU.I.1 (fun bE=> ?_);clear hK K
   try simp only [pt,sb,s0,s1]
   obtain ⟨⟨u,co⟩,fo⟩:(∃ u,w9.cell? ⟨o,5,n_⟩=o_ u)/\w9.frozen? ⟨o,5,n_⟩=false:=⟨⟨_,by rw [K5 _ _ _ _ _ _ lV]; rfl⟩,Ko _ _ _ _ _ lV⟩
   clear hr xj FW kN hq h8 p7 hwl lV hbd;refine tt 7 bE ?_ (hy:=fun w0 hS0=>by have cm:=hS0; go_simp; try with_reducible rfl);refine L7 8 (fun K hK=> ?_);go_wp2_with fail;refine hK.out _ _ YU.I.2 (fun bE=> ?_);clear hK K
   try simp only [pt,sb,s0,s1]
   refine K3 ZbY ?_ _;clear bE co fo YU HS co8;generalize w9.setCell ⟨o,5,n_⟩ (s_ a9 (k+1+(p.ag.length - k)) c9)=W10 at *;have Mb:=fi p ({ q with ag:=(p.ag.take k ++ [(⟨id,false,⟨#[]⟩⟩:az)]) ++ p.ag.drop k,ax:=a9,aP:=c9 } :af) W10 ⟨fl.I.1,fl.I.2.1,eX.I.2.1.at⟩ (fun hr=>by
    have h5:aE.Small ({ q with ag:=(p.ag.take k ++ [(⟨id,false,⟨#[]⟩⟩:az)]) ++ p.ag.drop k,ax:=a9,aP:=c9 } :af).pure:=by rw [eX.I.2.2.2.2.2.2]; exact vR fl.I.2.2.1 hr ⟨fl.I.2.2.2,Ky _⟩
    exact ⟨dV h5,fun x hx=>(cY h5 hx).1,eX.I.2.2.2.2.2.1.at⟩)
   obtain ⟨m0,m1,m2,m3,m4,m5,m6,m7⟩:=eX.I.1.cells;obtain ⟨k0,k1,k2,k3,k4,k5,k6,k7⟩:=eX.I.2.2.2.2.1.cells;unfold af.cells at Mb;simp only [sR] at Mb k0 k1 k2 k3 k4 k5 k6 k7;have DM:bN (((p.ag.take k ++ [(⟨id,false,⟨#[]⟩⟩:az)]) ++ p.ag.drop k).length=k+1+(p.ag.length - k)):=sR;clear sR mI hkd Jx gn;go_wp2_with fail;refine Mb.mono ?_;clear Mb m0 m1 m2 m3 m4 m5 m6 m7 k0 k1 k2 k3 k4 k5 k6 k7;rintro e ow ⟨gy,hok⟩;have hq:=HQ.I.2.2.2.2;have HZ:bN (B_ w.heap.size w ow/\ow.heap[w.heap.size+1]? =o_ (c_ ar 46)/\ap ow W.heap.size ({ q with ag:=(p.ag.take k ++ [(⟨id,false,⟨#[]⟩⟩:az)]) ++ p.ag.drop k,ax:=a9,aP:=c9 } :af)/\w.heap.size+1 < W.heap.size):=⟨eX.I.2.2.1.trans (gy.mono eX.I.2.2.1.size),(gy.block _ (J2.1 eX.I.2.2.2.1).1).trans eX.I.2.2.2.1,eX.I.2.2.2.2.2.1.below gy,hq.2.1⟩
   clear gy hq;rw [eX.I.2.2.2.2.2.2] at hok;rcases hok with ⟨hok,rfl⟩ | ⟨hok,rfl⟩
   .have HN:bN (cB p.pure { p.pure with ag:=cA (·.id) (⟨id,false,⟨#[]⟩⟩:az) p.pure.ag } =o_ { p.pure with ag:=cA (·.id) (⟨id,false,⟨#[]⟩⟩:az) p.pure.ag }):=jS hok
    clear hok;go_wp2_with (refine ec _ _ #[i_ j_ q.id,i_ j_ q.next,s_ q.aN q.L8.length q.aW,s_ q.bc q.aj.length q.bF,s_ q.ay q.L9.length q.aO,s_ a9 (k+1+(p.ag.length - k)) c9,s_ q.am q.ae.length q.aG,s_ q.aK q.ai.length q.aV] HZ.I.2.1 ?_);refine mG results89 (b_ true) HZ.I.2.1 ?_;have hl:=HZ.I.2.2.2;rw [HN.I];refine ⟨({ q with ag:=(p.ag.take k ++ [(⟨id,false,⟨#[]⟩⟩:az)]) ++ p.ag.drop k,ax:=a9,aP:=c9 } :af),by unfold af.cells; simp only [DM.I]; rfl,(HZ.I.2.2.1.lower zw).same fun g hg=>KH _ _ _ _ Zb7,eX.I.2.2.2.2.2.2,kz HZ.I.1 zw _⟩
   .have HN:bN (cB p.pure { p.pure with ag:=cA (·.id) (⟨id,false,⟨#[]⟩⟩:az) p.pure.ag } =n_):=jh hok
    clear hok;go_wp2_with (refine ec _ _ ar HZ.I.2.1 ?_);refine mG results89 (b_ false) HZ.I.2.1 ?_;exact TZ
end Go.Proofs.YtckenjkcmajicaaGreat

namespace Go.Proofs.YtckenjkcmajicaaGreat
open Go.Maps
attribute [local go_sem ↓] Kc Kd
theorem xN {p q:af} {w W W2 w9:w_} {o b0 n9 c9:Nat} {x:au} {xp:ci} {t8:Array v_} {acc:List au} {a9:Option d_} (hB:av W2 w.heap.size p/\ap W2 b0 p/\B_ w.heap.size w W2/\W2.heap[w.heap.size+1]? =o_ (c_ ar 46))
  (hQ:av W2 o q/\ap W2 W.heap.size q/\q.pure=p.pure/\(∀ g∈q.Mc,g < o)/\W.heap.size<=o/\w.heap.size+1 < W.heap.size/\o < W2.heap.size) (hpb: ∀ g∈p.Mc,g < w.heap.size) (hl:fy bm 137 t8 W2 w9 acc a9 c9) (ha:acc=bY (fun y:au=>y.id) x q.ae) (hn:acc.length=n9) (hx:x.toci=xp)
  (hk: ∀ g,aC.bt x=o_ g->g∉q.Mc/\g≠o) (hm:aC.cO W2 W.heap.size x):
  (av (w9.setCell ⟨o,6,n_⟩ (s_ a9 n9 c9)) w.heap.size p/\ap (w9.setCell ⟨o,6,n_⟩ (s_ a9 n9 c9)) b0 p/\B_ w.heap.size w (w9.setCell ⟨o,6,n_⟩ (s_ a9 n9 c9))/\(w9.setCell ⟨o,6,n_⟩ (s_ a9 n9 c9)).heap[w.heap.size+1]? =o_ (c_ ar 46))/\av (w9.setCell ⟨o,6,n_⟩ (s_ a9 n9 c9)) o ({ q with ae:=acc,am:=a9,aG:=c9 } :af)/\ap (w9.setCell ⟨o,6,n_⟩ (s_ a9 n9 c9)) W.heap.size ({ q with ae:=acc,am:=a9,aG:=c9 } :af)/\({ q with ae:=acc,am:=a9,aG:=c9 } :af).pure= { p.pure with ae:=bY (·.id) xp p.pure.ae } :=by
 have hb:=hl.cd;have nW:=hQ.2.2.2.1;have sm: ∀ g,g < W2.heap.size->g≠o->(w9.setCell ⟨o,6,n_⟩ (s_ a9 n9 c9)).heap[g]? =W2.heap[g]? :=fun g hg hne=>(aH hne).trans (hb.block _ hg)
 have lY:B_ w.heap.size w (w9.setCell ⟨o,6,n_⟩ (s_ a9 n9 c9)):=bP (hB.2.2.1.trans (hb.mono zw)) zw;have iH: ∀ g∈acc.filterMap aC.bt,g∈q.ae.filterMap aC.bt\/aC.bt x=o_ g:=fun g hg=>by
  exact V_
 have hin: ∀ g∈q.ae.filterMap aC.bt,g∈q.Mc:=fun g hg=>by simp only [af.Mc,Kg]; simp [hg]
 refine ⟨⟨(sm _ zw zw).trans hB.1,hB.2.1.same fun g hg=>sm g Zca Zca,lY,(sm _ zw zw).trans hB.2.2.2⟩,?_,?_,?_⟩
 .have h5:=cx (i:=6) (v:=s_ a9 n9 c9) ((hb.block _ hQ.2.2.2.2.2.2).trans hQ.1)
  unfold av;simp only [hn];exact h5
 .refine hQ.2.1.Eu (B:=W2.heap.size) zw (fun g hg=>by have:=nW g hg; omega) (fun g hg=>sm g Zcc Zcc) ?_ (fun z hz=> ?_) ?_ (fun g hg=> ?_) (fun g hg=> ?_)
  .exact Za4
  .rw [ha] at hz
   rcases fq.1 hz with rfl | hz
   .exact Zbe
   .refine (hQ.2.1.eE z hz).same fun g hg=> ?_
    exact ZaG
  .have h5:=hQ.2.1.nodup
   simp only [af.Mc,Kf] at h5;have h6:(q.ae.filterMap aC.bt).Nodup:=h5.2.1.2.1.2.1.2.1.2.1.2.1.1;have hp:(acc.filterMap aC.bt).Perm ((x :: q.ae).filterMap aC.bt):=by rw [ha]; exact (pz x _).filterMap _
   refine hp.nodup_iff.2 ?_;cases he:aC.bt x with
   | none=>rw [List.filterMap_cons_none he]; exact h6
   | some g=>rw [List.filterMap_cons_some he]; exact Lp.2 ⟨fun h7=>(hk g he).1 (hin g h7),h6⟩
  .exact ZaS
  .exact ZaB
 .show ({ q.pure with ae:=acc.map (·.toci) } :aE)=_
  have e1:q.ae.map (·.toci)=p.pure.ae:=congrArg aE.ae hQ.2.2.1;rw [ha,rF (je:=(·.id)) (fun y:au=>y.toci) (fun _=>rfl),e1,hx,hQ.2.2.1]
theorem qh (p:af) (id Me:Int) (w:w_) (b0:Nat) (hwf:(Lit.int j_ id).wf=true) (qY:p.pure.Small) (h:ap w b0 p):
  k_ J3 90 #[a_ p.cells,i_ j_ id,i_ j_ Me] w fun e w'=>gI w (cB p.pure { p.pure with ae:=bY (·.id) (⟨id,Me,[]⟩:ci) p.pure.ae }) e w':=by
 have HB:bN (av ((w.alloc (c_ p.row 46)).alloc (c_ ar 46)) w.heap.size p/\ap ((w.alloc (c_ p.row 46)).alloc (c_ ar 46)) b0 p/\B_ w.heap.size w ((w.alloc (c_ p.row 46)).alloc (c_ ar 46))/\((w.alloc (c_ p.row 46)).alloc (c_ ar 46)).heap[w.heap.size+1]? =o_ (c_ ar 46)):=by
  exact rg
 have fl:bN (p.Fit/\(∀ x∈p.L8,x.dX)/\p.pure.Small/\(Lit.int j_ id).wf=true):=⟨dV qY,fun x hx=>(cY qY hx).1,qY,hwf⟩
 have hpl:p.ae.length<=1048576:=fl.I.1.short.ae;have pd: ∀ g∈p.Mc,g < w.heap.size:=fun g hg=>(h.lt g hg).2
 clear h qY hwf;obtain ⟨m0,m1,m2,m3,m4,m5,m6,m7⟩:=HB.I.1.cells;unfold af.cells
 go_enter func90,ntmps90
 go_wp2_with fail;generalize (w.alloc (c_ p.row 46)).alloc (c_ ar 46)=W at *;clear m0 m1 m2 m3 m4 m5 m6 m7;refine (fR p W fl.I.1 fl.I.2.1 HB.I.2.1.at).mono ?_;rintro e W1 ⟨q,rfl,hown,gn,hb1⟩;have hb2:B_ W1.heap.size W1 (W1.alloc (c_ q.row 46)):=(Kp _ _).alloc (Ki _) _;have hlt:w.heap.size+1 < W.heap.size:=(J2.1 HB.I.2.2.2).1;have hb3:B_ W.heap.size W (W1.alloc (c_ q.row 46)):=hb1.trans (hb2.mono hb1.size);have hq1: ∀ g∈q.Mc,g < W1.heap.size:=fun g hg=>(hown.lt g hg).2
 have hql:q.ae.length<=1048576:=by have e1:=congrArg (fun z=>z.ae.length) gn; simp only [af.pure,KG] at e1; omega
 have HQ:bN (av (W1.alloc (c_ q.row 46)) W1.heap.size q/\ap (W1.alloc (c_ q.row 46)) W.heap.size q/\q.pure=p.pure/\(∀ g∈q.Mc,g < W1.heap.size)/\W.heap.size<=W1.heap.size/\w.heap.size+1 < W.heap.size/\W1.heap.size < (W1.alloc (c_ q.row 46)).heap.size):=⟨Kj _ _,hown.below hb2,gn,hq1,hb1.size,hlt,by simp⟩
 replace HB:bN (av (W1.alloc (c_ q.row 46)) w.heap.size p/\ap (W1.alloc (c_ q.row 46)) b0 p/\B_ w.heap.size w (W1.alloc (c_ q.row 46))/\(W1.alloc (c_ q.row 46)).heap[w.heap.size+1]? =o_ (c_ ar 46)):=⟨HB.I.1.below hb3,HB.I.2.1.below hb3,HB.I.2.2.1.trans (hb3.mono HB.I.2.2.1.size),(hb3.block _ hlt).trans HB.I.2.2.2⟩
 have Au:bN (∀ g∈p.Mc,g < w.heap.size):=fun g hg=>pd g hg
 clear hown gn hb1 hb2 hb3 hq1 hlt pd;have En:bN (fy bm 137 #[i_ j_ id,i_ j_ Me,s_ n_ 0 0] (W1.alloc (c_ q.row 46)) (((W1.alloc (c_ q.row 46)).alloc (c_ #[] 137)).alloc (c_ #[i_ j_ id,i_ j_ Me,s_ n_ 0 0] 137)) [] (o_ ⟨(W1.alloc (c_ q.row 46)).heap.size,0,n_⟩) 0):=fy.start;have Hw:(W1.alloc (c_ q.row 46)).heap.size=W1.heap.size+1:=by simp
 have HW:bN ((W1.alloc (c_ q.row 46)).heap.size=W1.heap.size+1):=Hw;clear Hw;unfold af.cells;go_wp2_with fail;generalize W1.alloc (c_ q.row 46)=W2 at *;generalize W1.heap.size=o at *
 go_loopw [9,11,12] (fun l d i wr=> ∃ (k:Nat) (dn:Bool) (acc:List au) (a:Option d_) (c:Nat),k<=q.ae.length/\i=i_ j_ k/\d=b_ dn/\l=s_ a acc.length c/\bN (fy bm 137 #[i_ j_ id,i_ j_ Me,s_ n_ 0 0] W2 wr acc a c/\gY (fun y:au=>y.id) (⟨⟨id,Me,[]⟩,n_,0⟩:au) q.ae k dn acc)) (fun _ _ i _=>q.ae.length - (Go.RowKit.intOf i).toNat)
 case atStart=>exact ⟨0,false,[],o_ ⟨W2.heap.size,0,n_⟩,0,Ky _,rfl,rfl,by rw [HW.I]; rfl,⟨En.I,gY.start _ _⟩⟩
 case round=>
  obtain ⟨k,dn,acc,a,c,hk,rfl,rfl,rfl,HA⟩:=hrel;have i0:(0:Int)<=(k:Int):=zw
  have hbr:=HA.I.1.cd;have hal:=HA.I.2.le;have ajP:wr.cell? ⟨o,6,n_⟩=o_ (s_ q.am q.ae.length q.aG):=(HQ.I.1.below hbr).cells.2.2.2.2.2.2.1;by_cases hlt:k < q.ae.length
  .have i1:(k:Int) < (q.ae.length:Int):=zw
   obtain ⟨y,hy⟩: ∃ y,q.ae[k]? =o_ y:=⟨_,Kz hlt⟩
   have HY:bN (q.ae[k]? =o_ y):=hy;obtain ⟨g,ha,hat⟩:=iA (HQ.I.2.1.below hbr).at.2.2.2.2.1 hy;rw [ha] at ajP;obtain ⟨d0,d1,d2⟩:=hat;have HG:bN (q.am=o_ ⟨g,0,n_⟩):=ha;clear ha hy;obtain ⟨a5,c5,w5,hap,rL⟩:=HA.I.1.add 43 40 (P:=J3) underlying43 kh rfl (by decide) (by decide) y #[i_ j_ y.id,i_ j_ y.max,s_ y.ak y.Ma.length y.aq] rfl nz zw;have F5:bN (fy bm 137 #[i_ j_ id,i_ j_ Me,s_ n_ 0 0] W2 w5 (acc ++ [y]) a5 c5):=rL;clear rL;cases dn;rotate_left
   .go_wp2_with (at_builtin; first | (refine br _ rfl _ _ 43 rfl _ _ _ _ rfl rfl hap ?_; clear hap))
    exact N_
   by_cases hc:id < y.id;rotate_left
   .have HC:bN (¬ id < y.id):=hc
    go_wp2_with (at_builtin; first | (refine br _ rfl _ _ 43 rfl _ _ _ _ rfl rfl hap ?_; clear hap))
    exact Zan
   clear hap F5 a5 c5 w5;have HC:bN (id < y.id):=hc;obtain ⟨a5,c5,w5,hap,rL⟩:=HA.I.1.add 43 40 (P:=J3) underlying43 kh rfl (by decide) (by decide) (⟨⟨id,Me,[]⟩,n_,0⟩:au) #[i_ j_ id,i_ j_ Me,s_ n_ 0 0] rfl nz zw;obtain ⟨a7,c7,w7,gT,mI⟩:=rL.add 43 40 (P:=J3) underlying43 kh rfl (by decide) (by decide) y #[i_ j_ y.id,i_ j_ y.max,s_ y.ak y.Ma.length y.aq] rfl nz ZbZ;rw [Lf] at gT;simp only [Lg,K4,Li] at gT;have HL7:bN (fy bm 137 #[i_ j_ id,i_ j_ Me,s_ n_ 0 0] W2 w7 (acc ++ [(⟨⟨id,Me,[]⟩,n_,0⟩:au)] ++ [y]) a7 c7):=mI;have mo5:w5.cell? ⟨o,6,n_⟩=o_ (s_ q.am q.ae.length q.aG):=(HQ.I.1.below rL.cd).cells.2.2.2.2.2.2.1;obtain ⟨g2,ha2,g8⟩:=iA (HQ.I.2.1.below rL.cd).at.2.2.2.2.1 HY.I;rw [HG.I] at ha2 mo5;cases ha2;obtain ⟨e0,e1,e2⟩:=g8;obtain ⟨x0,x1,x2⟩:=ia (x:=(⟨⟨id,Me,[]⟩,n_,0⟩:au)) (X:=o+1+1) (W:=wr) Zcu;clear rL mI;simp only [K4] at *;go_wp2_with (at_builtin; first | (refine br _ rfl _ _ 43 rfl _ _ _ _ rfl rfl hap ?_; clear hap) | (refine br _ rfl _ _ 43 rfl _ _ _ _ rfl rfl gT ?_; clear gT))
   go_round
   case rel=>exact ⟨k+1,true,acc ++ [(⟨⟨id,Me,[]⟩,n_,0⟩:au)] ++ [y],a7,c7,zw,by go_num,rfl,by simp,⟨HL7.I,HA.I.2.here HY.I HC.I⟩⟩
   case measure=>simp [Go.RowKit.intOf]; omega
  have i1: ¬ (k:Int) < (q.ae.length:Int):=zw
  cases dn
  .obtain ⟨a9,c9,w9,hap,Jy⟩:=HA.I.1.add 43 40 (P:=J3) underlying43 kh rfl (by decide) (by decide) (⟨⟨id,Me,[]⟩,n_,0⟩:au) #[i_ j_ id,i_ j_ Me,s_ n_ 0 0] rfl nz zw
   have HR:bN (fy bm 137 #[i_ j_ id,i_ j_ Me,s_ n_ 0 0] W2 w9 (acc ++ [(⟨⟨id,Me,[]⟩,n_,0⟩:au)]) a9 c9/\acc ++ [(⟨⟨id,Me,[]⟩,n_,0⟩:au)] =bY (fun y:au=>y.id) (⟨⟨id,Me,[]⟩,n_,0⟩:au) q.ae/\(acc ++ [(⟨⟨id,Me,[]⟩,n_,0⟩:au)]).length=acc.length+1):=⟨Jy,HA.I.2.last hlt,by simp⟩
   obtain ⟨x0,x1,x2⟩:=ia (x:=(⟨⟨id,Me,[]⟩,n_,0⟩:au)) (X:=o+1+1) (W:=wr) Zcu;simp only [K4] at x0 x1 x2;clear Jy;have eX:bN (_):=xN HB.I HQ.I Au.I HR.I.1 HR.I.2.1 HR.I.2.2 rfl (fun g hg=>by cases hg) (Ke _ _ _ _);have Mb:=fi p ({ q with ae:=(acc ++ [(⟨⟨id,Me,[]⟩,n_,0⟩:au)]),am:=a9,aG:=c9 } :af) (w9.setCell ⟨o,6,n_⟩ (s_ a9 (acc.length+1) c9)) ⟨fl.I.1,fl.I.2.1,eX.I.1.2.1.at⟩ (fun hr=>by
    have h5:aE.Small ({ q with ae:=(acc ++ [(⟨⟨id,Me,[]⟩,n_,0⟩:au)]),am:=a9,aG:=c9 } :af).pure:=by rw [eX.I.2.2.2]; exact nX fl.I.2.2.1 hr ⟨fl.I.2.2.2,Ky _,(fun s hs=>by cases hs)⟩
    exact ⟨dV h5,fun x hx=>(cY h5 hx).1,eX.I.2.2.1.at⟩)
   obtain ⟨m0,m1,m2,m3,m4,m5,m6,m7⟩:=eX.I.1.1.cells;obtain ⟨k0,k1,k2,k3,k4,k5,k6,k7⟩:=eX.I.2.1.cells;obtain ⟨⟨u,co⟩,fo⟩:(∃ u,w9.cell? ⟨o,6,n_⟩=o_ u)/\w9.frozen? ⟨o,6,n_⟩=false:=⟨⟨_,(HQ.I.1.below HR.I.1.cd).cells.2.2.2.2.2.2.1⟩,Ko _ _ _ _ _ (HQ.I.1.below HR.I.1.cd)⟩
   unfold af.cells at Mb;have sR:=HR.I.2.2;simp only [sR] at Mb k0 k1 k2 k3 k4 k5 k6 k7;clear sR;go_wp2_with (at_builtin; first | (refine br _ rfl _ _ 43 rfl _ _ _ _ rfl rfl hap ?_; clear hap));refine Mb.mono ?_;clear Mb m0 m1 m2 m3 m4 m5 m6 m7 k0 k1 k2 k3 k4 k5 k6 k7;rintro e ow ⟨gy,hok⟩;have hq:=HQ.I.2.2.2.2;have HZ:bN (B_ w.heap.size w ow/\ow.heap[w.heap.size+1]? =o_ (c_ ar 46)/\ap ow W.heap.size ({ q with ae:=(acc ++ [(⟨⟨id,Me,[]⟩,n_,0⟩:au)]),am:=a9,aG:=c9 } :af)/\w.heap.size+1 < W.heap.size):=⟨eX.I.1.2.2.1.trans (gy.mono eX.I.1.2.2.1.size),(gy.block _ (J2.1 eX.I.1.2.2.2).1).trans eX.I.1.2.2.2,eX.I.2.2.1.below gy,hq.2.1⟩
   clear gy hq;rw [eX.I.2.2.2] at hok;rcases hok with ⟨hok,rfl⟩ | ⟨hok,rfl⟩
   .have HN:bN (cB p.pure { p.pure with ae:=bY (·.id) (⟨id,Me,[]⟩:ci) p.pure.ae } =o_ { p.pure with ae:=bY (·.id) (⟨id,Me,[]⟩:ci) p.pure.ae }):=jS hok
    clear hok;go_wp2_with (refine ec _ _ #[i_ j_ q.id,i_ j_ q.next,s_ q.aN q.L8.length q.aW,s_ q.bc q.aj.length q.bF,s_ q.ay q.L9.length q.aO,s_ q.ax q.ag.length q.aP,s_ a9 (acc.length+1) c9,s_ q.aK q.ai.length q.aV] HZ.I.2.1 ?_);refine mG results90 (b_ true) HZ.I.2.1 ?_;have hl:=HZ.I.2.2.2;rw [HN.I];refine ⟨({ q with ae:=(acc ++ [(⟨⟨id,Me,[]⟩,n_,0⟩:au)]),am:=a9,aG:=c9 } :af),by unfold af.cells; simp only [HR.I.2.2]; rfl,(HZ.I.2.2.1.lower zw).same fun g hg=>KH _ _ _ _ Zb7,eX.I.2.2.2,kz HZ.I.1 zw _⟩
   .exact ZbJ
  .have HR:bN (fy bm 137 #[i_ j_ id,i_ j_ Me,s_ n_ 0 0] W2 wr acc a c/\acc=bY (fun y:au=>y.id) (⟨⟨id,Me,[]⟩,n_,0⟩:au) q.ae/\acc.length=acc.length):=⟨HA.I.1,HA.I.2.done hlt,rfl⟩
   have eX:bN (_):=xN HB.I HQ.I Au.I HR.I.1 HR.I.2.1 HR.I.2.2 rfl (fun g hg=>by cases hg) (Ke _ _ _ _);have Mb:=fi p ({ q with ae:=acc,am:=a,aG:=c } :af) (wr.setCell ⟨o,6,n_⟩ (s_ a acc.length c)) ⟨fl.I.1,fl.I.2.1,eX.I.1.2.1.at⟩ (fun hr=>by
    have h5:aE.Small ({ q with ae:=acc,am:=a,aG:=c } :af).pure:=by rw [eX.I.2.2.2]; exact nX fl.I.2.2.1 hr ⟨fl.I.2.2.2,Ky _,(fun s hs=>by cases hs)⟩
    exact ⟨dV h5,fun x hx=>(cY h5 hx).1,eX.I.2.2.1.at⟩)
   obtain ⟨m0,m1,m2,m3,m4,m5,m6,m7⟩:=eX.I.1.1.cells;obtain ⟨k0,k1,k2,k3,k4,k5,k6,k7⟩:=eX.I.2.1.cells;obtain ⟨⟨u,co⟩,fo⟩:(∃ u,wr.cell? ⟨o,6,n_⟩=o_ u)/\wr.frozen? ⟨o,6,n_⟩=false:=⟨⟨_,(HQ.I.1.below HR.I.1.cd).cells.2.2.2.2.2.2.1⟩,Ko _ _ _ _ _ (HQ.I.1.below HR.I.1.cd)⟩
   unfold af.cells at Mb;simp only at Mb k0 k1 k2 k3 k4 k5 k6 k7;go_wp2_with fail;refine Mb.mono ?_;clear Mb m0 m1 m2 m3 m4 m5 m6 m7 k0 k1 k2 k3 k4 k5 k6 k7;rintro e ow ⟨gy,hok⟩;have hq:=HQ.I.2.2.2.2;have HZ:bN (B_ w.heap.size w ow/\ow.heap[w.heap.size+1]? =o_ (c_ ar 46)/\ap ow W.heap.size ({ q with ae:=acc,am:=a,aG:=c } :af)/\w.heap.size+1 < W.heap.size):=⟨eX.I.1.2.2.1.trans (gy.mono eX.I.1.2.2.1.size),(gy.block _ (J2.1 eX.I.1.2.2.2).1).trans eX.I.1.2.2.2,eX.I.2.2.1.below gy,hq.2.1⟩
   clear gy hq;rw [eX.I.2.2.2] at hok;rcases hok with ⟨hok,rfl⟩ | ⟨hok,rfl⟩
   .have HN:bN (cB p.pure { p.pure with ae:=bY (·.id) (⟨id,Me,[]⟩:ci) p.pure.ae } =o_ { p.pure with ae:=bY (·.id) (⟨id,Me,[]⟩:ci) p.pure.ae }):=jS hok
    clear hok;go_wp2_with (refine ec _ _ #[i_ j_ q.id,i_ j_ q.next,s_ q.aN q.L8.length q.aW,s_ q.bc q.aj.length q.bF,s_ q.ay q.L9.length q.aO,s_ q.ax q.ag.length q.aP,s_ a acc.length c,s_ q.aK q.ai.length q.aV] HZ.I.2.1 ?_);refine mG results90 (b_ true) HZ.I.2.1 ?_;have hl:=HZ.I.2.2.2;rw [HN.I];refine ⟨({ q with ae:=acc,am:=a,aG:=c } :af),by rfl,(HZ.I.2.2.1.lower zw).same fun g hg=>KH _ _ _ _ Zb7,eX.I.2.2.2,kz HZ.I.1 zw _⟩
   .exact ZbJ
end Go.Proofs.YtckenjkcmajicaaGreat

namespace Go.Proofs.YtckenjkcmajicaaGreat
open Go.Maps
attribute [local go_sem ↓] Kc Kd
theorem rz (p:af) (id:Int) (w:w_) (b0:Nat) (hwf:(Lit.int j_ id).wf=true) (qY:p.pure.Small) (h:ap w b0 p):
  k_ J3 88 #[a_ p.cells,i_ j_ id] w fun e w'=>gI w (cB p.pure { p.pure with L9:=cA (·.id) (⟨id,false⟩:aB) p.pure.L9 }) e w':=by
 have HB:bN (av ((w.alloc (c_ p.row 46)).alloc (c_ ar 46)) w.heap.size p/\ap ((w.alloc (c_ p.row 46)).alloc (c_ ar 46)) b0 p/\B_ w.heap.size w ((w.alloc (c_ p.row 46)).alloc (c_ ar 46))/\((w.alloc (c_ p.row 46)).alloc (c_ ar 46)).heap[w.heap.size+1]? =o_ (c_ ar 46)):=by
  exact rg
 have fl:bN (p.Fit/\(∀ x∈p.L8,x.dX)/\p.pure.Small/\(Lit.int j_ id).wf=true):=⟨dV qY,fun x hx=>(cY qY hx).1,qY,hwf⟩
 have hpl:=fl.I.1.short.L9;have hcap:p.L9.length<=p.aO:=nV h.L9;have pd: ∀ g∈p.Mc,g < w.heap.size:=fun g hg=>(h.lt g hg).2
 clear h qY hwf;obtain ⟨m0,m1,m2,m3,m4,m5,m6,m7⟩:=HB.I.1.cells;unfold af.cells
 go_enter func88,ntmps88
 go_wp2_with fail;generalize (w.alloc (c_ p.row 46)).alloc (c_ ar 46)=W at *;clear m0 m1 m2 m3 m4 m5 m6 m7;refine (fR p W fl.I.1 fl.I.2.1 HB.I.2.1.at).mono ?_;rintro e W1 ⟨q,rfl,hown,gn,hb1⟩;have hb2:B_ W1.heap.size W1 (W1.alloc (c_ q.row 46)):=(Kp _ _).alloc (Ki _) _;have hlt:w.heap.size+1 < W.heap.size:=(J2.1 HB.I.2.2.2).1;have hb3:B_ W.heap.size W (W1.alloc (c_ q.row 46)):=hb1.trans (hb2.mono hb1.size);have hq1: ∀ g∈q.Mc,g < W1.heap.size:=fun g hg=>(hown.lt g hg).2
 have HQ:bN (av (W1.alloc (c_ q.row 46)) W1.heap.size q/\ap (W1.alloc (c_ q.row 46)) W.heap.size q/\q.pure=p.pure/\(∀ g∈q.Mc,g < W1.heap.size)/\W.heap.size<=W1.heap.size/\w.heap.size+1 < W.heap.size/\W1.heap.size < (W1.alloc (c_ q.row 46)).heap.size):=⟨Kj _ _,hown.below hb2,gn,hq1,hb1.size,hlt,by simp⟩
 replace HB:bN (av (W1.alloc (c_ q.row 46)) w.heap.size p/\ap (W1.alloc (c_ q.row 46)) b0 p/\B_ w.heap.size w (W1.alloc (c_ q.row 46))/\(W1.alloc (c_ q.row 46)).heap[w.heap.size+1]? =o_ (c_ ar 46)):=⟨HB.I.1.below hb3,HB.I.2.1.below hb3,HB.I.2.2.1.trans (hb3.mono HB.I.2.2.1.size),(hb3.block _ hlt).trans HB.I.2.2.2⟩
 have Au:bN (∀ g∈p.Mc,g < w.heap.size):=fun g hg=>pd g hg
 clear hown gn hb1 hb2 hb3 hq1 hlt pd;obtain ⟨m0,m1,m2,m3,m4,m5,m6,m7⟩:=HB.I.1.cells;unfold af.cells;go_wp2_with fail;generalize W1.alloc (c_ q.row 46)=W2 at *;clear m0 m1 m2 m3 m5 m6 m7;generalize W1.heap.size=o at *
 go_loop [7] (fun i=> ∃ k:Nat,k<=p.L9.length/\i=i_ j_ k/\bN (∀ y∈p.L9.take k,y.id < id)) (fun i=>p.L9.length - (Go.RowKit.intOf i).toNat)
 case atStart=>exact ⟨0,Ky _,rfl,fun y hy=>by simp at hy⟩
 case round=>
  obtain ⟨k,hk,rfl,HA⟩:=hrel;have i0:(0:Int)<=(k:Int):=zw
  have icap:(k:Int)<=(p.aO:Int):=zw
  have i2:(k:Int)<=(p.L9.length:Int):=zw
  rcases zm (fun y:aB=>y.id) id p.L9 k with ⟨x,hx,hc,hlt⟩ | ⟨x,hx,hc,hlt⟩ | hlt
  .have HT:bN (∀ y∈p.L9.take (k+1),y.id < id):=nE hx HA.I hc
   have i1:(k:Int) < (p.L9.length:Int):=zw
   obtain ⟨g,ha,hat⟩:=j4 HB.I.2.1.at.2.2.1 hx;have c0:=hat.1;have m:=m4;rw [ha] at m;clear m4 hat hx;exact Za7
  focus
   have HX:bN (∀ y,p.L9[k]? =o_ y-> ¬ y.id < id):=fun y hy e=>by rw [hx] at hy; cases hy; exact hc e
   have i1:(k:Int) < (p.L9.length:Int):=zw
   obtain ⟨g,ha,hat⟩:=j4 HB.I.2.1.at.2.2.1 hx;have c0:=hat.1;have m:=m4;rw [ha] at m;clear m4 hat hx ha
  rotate_left
  focus
   have HX:bN (∀ y,p.L9[k]? =o_ y-> ¬ y.id < id):=fun y hy=>absurd (Lj.1 hy).1 hlt
   have i1: ¬ (k:Int) < (p.L9.length:Int):=zw
   have m:=m4;clear m4
  all_goals
   have hkl:(p.L9.take k).length=k:=by rw [Lk]; omega
   have hb3:B_ W2.heap.size W2 (W2.alloc (c_ #[] 131)):=(Kp _ _).alloc (Ki _) _;obtain ⟨a5,c5,w5,hap,oe,A7,-⟩:=qu (W2.alloc (c_ #[] 131)) W2.heap.size (o_ ⟨W2.heap.size,0,n_⟩) 0 [] (i6 (Kj _ _) (Ki _)) p.ay (p.L9.take k) p.aO (uM k (HB.I.2.1.below hb3).at.2.2.1.1) ZcQ hb3.size;rw [hkl] at hap oe;simp only [K4,Li,Ll] at hap oe;have iJ:B_ W2.heap.size W2 w5:=hb3.grown A7 hb3.size fun c e=>by cases e; exact Ki _
   have jQ:B_ w5.heap.size w5 (w5.alloc (c_ #[i_ j_ id,b_ false] 131)):=(Kp _ _).alloc (Ki _) _;have yJ:B_ W2.heap.size W2 (w5.alloc (c_ #[i_ j_ id,b_ false] 131)):=iJ.trans (jQ.mono iJ.size);have qH:(w5.alloc (c_ #[i_ j_ id,b_ false] 131)).ownsRow W2.heap.size 131 2 (s_ a5 (p.L9.take k).length c5) (p.L9.take k).length (bJ.flat (p.L9.take k)):=by rw [hkl]; exact cR oe jQ
   obtain ⟨a7,c7,w7,gT,mP,xI,-⟩:=qu (w5.alloc (c_ #[i_ j_ id,b_ false] 131)) W2.heap.size a5 c5 (p.L9.take k) qH (o_ ⟨w5.heap.size,0,n_⟩) [(⟨id,false⟩:aB)] 1 (jO (Kj _ _)) ZcP yJ.size;have mI:(p.L9.take k ++ [(⟨id,false⟩:aB)]).length=k+1:=by rw [Lf,hkl]; rfl
   rw [hkl] at gT mP;simp only [Lg,K4,Li] at gT mP;have gh:B_ W2.heap.size W2 w7:=yJ.grown xI yJ.size fun c e=>(cf oe (di e)).1
   have Em:bN (w7.ownsRow W2.heap.size 131 2 (s_ a7 (k+1) c7) (k+1) (bJ.flat (p.L9.take k ++ [(⟨id,false⟩:aB)]))/\B_ W2.heap.size W2 w7/\(p.L9.take k ++ [(⟨id,false⟩:aB)]).length=k+1):=⟨mP,gh,mI⟩
   have m2:(W2.alloc (c_ #[] 131)).cell? ⟨w.heap.size,4,n_⟩=o_ (s_ p.ay p.L9.length p.aO):=(HB.I.1.below hb3).cells.2.2.2.2.1;have hbo:W2.heap.size<=w7.heap.size:=gh.size;obtain ⟨⟨u,co⟩,fo⟩:(∃ u,w7.cell? ⟨o,4,n_⟩=o_ u)/\w7.frozen? ⟨o,4,n_⟩=false:=⟨⟨_,(HQ.I.1.below gh).cells.2.2.2.2.1⟩,Ko _ _ _ _ _ (HQ.I.1.below gh)⟩
   clear oe A7 iJ jQ yJ qH mP xI gh hb3 mI;go_wp2_with (at_builtin; first | (refine br _ rfl _ _ 41 rfl _ _ _ _ rfl rfl hap ?_; clear hap) | (refine br _ rfl _ _ 41 rfl _ _ _ _ rfl rfl gT ?_; clear gT));have H8:bN (((av (w7.setCell ⟨o,4,n_⟩ (s_ a7 (k+1) c7)) w.heap.size p/\ap (w7.setCell ⟨o,4,n_⟩ (s_ a7 (k+1) c7)) b0 p/\B_ w.heap.size w (w7.setCell ⟨o,4,n_⟩ (s_ a7 (k+1) c7))/\(w7.setCell ⟨o,4,n_⟩ (s_ a7 (k+1) c7)).heap[w.heap.size+1]? =o_ (c_ ar 46))/\(w7.setCell ⟨o,4,n_⟩ (s_ a7 (k+1) c7)).heap[o]? =o_ (c_ #[i_ j_ q.id,i_ j_ q.next,s_ q.aN q.L8.length q.aW,s_ q.bc q.aj.length q.bF,s_ a7 (k+1) c7,s_ q.ax q.ag.length q.aP,s_ q.am q.ae.length q.aG,s_ q.aK q.ai.length q.aV] 46)/\ap (w7.setCell ⟨o,4,n_⟩ (s_ a7 (k+1) c7)) W.heap.size q)/\(w7.setCell ⟨o,4,n_⟩ (s_ a7 (k+1) c7)).ownsRow W2.heap.size 131 2 (s_ a7 (k+1) c7) (k+1) (bJ.flat (p.L9.take k ++ [(⟨id,false⟩:aB)]))/\W2.heap.size<=(w7.setCell ⟨o,4,n_⟩ (s_ a7 (k+1) c7)).heap.size):=by
    have gh:=Em.I.2.1;have hq:=HQ.I;exact jp
   generalize w7.setCell ⟨o,4,n_⟩ (s_ a7 (k+1) c7)=W8 at *;have HS:bN (W8.cell? ⟨w.heap.size,4,n_⟩=o_ (s_ p.ay p.L9.length p.aO)):=H8.I.1.1.1.cells.2.2.2.2.1;have co8:W8.drew.cell? ⟨o,4,n_⟩=o_ (s_ a7 (k+1) c7):=by rw [K5 _ _ _ _ _ _ (show W8.drew.heap[o]? =_ from H8.I.1.2.1)]; rfl
   clear m m2 co fo hbo i1 hlt;obtain ⟨u6,Jx⟩: ∃ u6,(if p.aO=k then p.ay else Option.map (fun x=>x.add (k * 2)) p.ay)=u6:=⟨_,rfl⟩
   refine Kr (S:=fun w'=>w'.cell? ⟨w.heap.size,4,n_⟩=o_ (s_ p.ay p.L9.length p.aO)) ZbY HS.I (fun bE=> ?_);refine tt 0 bE ?_ (hy:=fun w0 hS0=>by have cm:=hS0; go_simp; try with_reducible rfl);refine tt 2 bE ?_ (hy:=fun w0 hS0=>by have cm:=hS0; go_simp; try with_reducible rfl);refine tt 3 bE ?_ (hy:=fun w0 hS0=>by have cm:=hS0; go_simp; try with_reducible rfl);refine tt 4 bE ?_ (hy:=fun w0 hS0=>by have cm:=hS0; go_simp; try with_reducible rfl);refine tt 5 bE ?_ (hy:=fun w0 hS0=>by have cm:=hS0; go_simp; try with_reducible rfl);refine L7 1 (fun K hK=> ?_);go_wp2_with fail;refine hK.out _ _ HS.I (fun bE=> ?_);clear hK K
   try simp only [pt,sb,s0,s1]
   have hbd:B_ W8.heap.size W8 W8.drew:=(Kp _ _).drew;have mI:=Em.I.2.2;have hkd:(p.L9.drop k).length=p.L9.length - k:=Ql;obtain ⟨a9,c9,w9,hr,xj,FW,-⟩:=qu W8.drew W2.heap.size a7 c7 (p.L9.take k ++ [(⟨id,false⟩:aB)]) ZcM u6 (p.L9.drop k) (p.aO - k) (by rw [<- Jx]; exact qK hcap (H8.I.1.1.2.1.below hbd).at.2.2.1.1) (by rw [mI,hkd]; omega) H8.I.2.2;rw [mI,hkd] at hr xj;have kN:B_ W2.heap.size W8.drew w9:=(Kp _ _).grown (a:=W8.drew) FW H8.I.2.2 fun c e=>(cf H8.I.2.1 (di e)).1
   have hq:=HQ.I;have h8:=H8.I;have p7:o < W2.heap.size:=hq.2.2.2.2.2.2;have hwl:w.heap.size+1 < o:=zw
   have lV:w9.heap[o]? =o_ (c_ #[i_ j_ q.id,i_ j_ q.next,s_ q.aN q.L8.length q.aW,s_ q.bc q.aj.length q.bF,s_ a7 (k+1) c7,s_ q.ax q.ag.length q.aP,s_ q.am q.ae.length q.aG,s_ q.aK q.ai.length q.aV] 46):=(kN.block _ p7).trans h8.1.2.1;have YU:bN (w9.cell? ⟨w.heap.size,4,n_⟩=o_ (s_ p.ay p.L9.length p.aO)/\(w9.setCell ⟨o,4,n_⟩ (s_ a9 (k+1+(p.L9.length - k)) c9)).cell? ⟨w.heap.size,4,n_⟩=o_ (s_ p.ay p.L9.length p.aO)):=by
    have e1:w9.cell? ⟨w.heap.size,4,n_⟩=o_ (s_ p.ay p.L9.length p.aO):=(J1 (kN.block _ ZcS)).trans HS.I;exact ZaX
   have sR:((p.L9.take k ++ [(⟨id,false⟩:aB)]) ++ p.L9.drop k).length=k+1+(p.L9.length - k):=by rw [Lf,mI,hkd]
   have gn:({ q with L9:=(p.L9.take k ++ [(⟨id,false⟩:aB)]) ++ p.L9.drop k,ay:=a9,aO:=c9 } :af).pure= { p.pure with L9:=cA (·.id) (⟨id,false⟩:aB) p.pure.L9 } :=by
    have e1:(p.L9.take k ++ [(⟨id,false⟩:aB)]) ++ p.L9.drop k=cA (·.id) (⟨id,false⟩:aB) p.pure.L9:=by
     exact Zbp
    have e2:=HQ.I.2.2.1
    show ({ q.pure with L9:=(p.L9.take k ++ [(⟨id,false⟩:aB)]) ++ p.L9.drop k } :aE)=_
    rw [e1,e2]
   have eX:bN (av (w9.setCell ⟨o,4,n_⟩ (s_ a9 (k+1+(p.L9.length - k)) c9)) w.heap.size p/\ap (w9.setCell ⟨o,4,n_⟩ (s_ a9 (k+1+(p.L9.length - k)) c9)) b0 p/\B_ w.heap.size w (w9.setCell ⟨o,4,n_⟩ (s_ a9 (k+1+(p.L9.length - k)) c9))/\(w9.setCell ⟨o,4,n_⟩ (s_ a9 (k+1+(p.L9.length - k)) c9)).heap[w.heap.size+1]? =o_ (c_ ar 46)/\av (w9.setCell ⟨o,4,n_⟩ (s_ a9 (k+1+(p.L9.length - k)) c9)) o ({ q with L9:=(p.L9.take k ++ [(⟨id,false⟩:aB)]) ++ p.L9.drop k,ay:=a9,aO:=c9 } :af)/\ap (w9.setCell ⟨o,4,n_⟩ (s_ a9 (k+1+(p.L9.length - k)) c9)) W.heap.size ({ q with L9:=(p.L9.take k ++ [(⟨id,false⟩:aB)]) ++ p.L9.drop k,ay:=a9,aO:=c9 } :af)/\({ q with L9:=(p.L9.take k ++ [(⟨id,false⟩:aB)]) ++ p.L9.drop k,ay:=a9,aO:=c9 } :af).pure= { p.pure with L9:=cA (·.id) (⟨id,false⟩:aB) p.pure.L9 }):=by
    have hpb: ∀ g∈p.Mc,g < w.heap.size:=Au.I;have nW: ∀ g∈q.Mc,g < o:=hq.2.2.2.1;have sm: ∀ g,g < W2.heap.size->g≠o->(w9.setCell ⟨o,4,n_⟩ (s_ a9 (k+1+(p.L9.length - k)) c9)).heap[g]? =W8.heap[g]? :=fun g hg hne=>(aH hne).trans (kN.block _ hg)
    have lY:B_ w.heap.size w (w9.setCell ⟨o,4,n_⟩ (s_ a9 (k+1+(p.L9.length - k)) c9)):=bP (h8.1.1.2.2.1.drew.trans (kN.mono zw)) zw;refine ⟨(sm _ zw zw).trans h8.1.1.1,h8.1.1.2.1.same fun g hg=>sm g Zca Zca,lY,(sm _ zw zw).trans h8.1.1.2.2.2,?_,?_,gn⟩
    .have h5:=cx (i:=4) (v:=s_ a9 (k+1+(p.L9.length - k)) c9) lV
     unfold av;simp only [sR];exact h5
    .refine h8.1.2.2.Ge (B:=W2.heap.size) zw (fun g hg=>by have:=nW g hg; omega) (fun g hg=>sm g Zcc Zcc) ?_
     exact Za3
   refine L7 6 (fun K hK=> ?_);refine cM _ _ _ rfl _ _ _ w9 rfl rfl hr ?_;refine hK.out _ _ YU.I.1 (fun bE=> ?_);clear hK K
   try simp only [pt,sb,s0,s1]
   obtain ⟨⟨u,co⟩,fo⟩:(∃ u,w9.cell? ⟨o,4,n_⟩=o_ u)/\w9.frozen? ⟨o,4,n_⟩=false:=⟨⟨_,by rw [K5 _ _ _ _ _ _ lV]; rfl⟩,Ko _ _ _ _ _ lV⟩
   clear hr xj FW kN hq h8 p7 hwl lV hbd;refine tt 7 bE ?_ (hy:=fun w0 hS0=>by have cm:=hS0; go_simp; try with_reducible rfl);refine L7 8 (fun K hK=> ?_);go_wp2_with fail;refine hK.out _ _ YU.I.2 (fun bE=> ?_);clear hK K
   try simp only [pt,sb,s0,s1]
   refine K3 ZbY ?_ _;clear bE co fo YU HS co8;generalize w9.setCell ⟨o,4,n_⟩ (s_ a9 (k+1+(p.L9.length - k)) c9)=W10 at *;have Mb:=fi p ({ q with L9:=(p.L9.take k ++ [(⟨id,false⟩:aB)]) ++ p.L9.drop k,ay:=a9,aO:=c9 } :af) W10 ⟨fl.I.1,fl.I.2.1,eX.I.2.1.at⟩ (fun hr=>by
    have h5:aE.Small ({ q with L9:=(p.L9.take k ++ [(⟨id,false⟩:aB)]) ++ p.L9.drop k,ay:=a9,aO:=c9 } :af).pure:=by rw [eX.I.2.2.2.2.2.2]; exact vS fl.I.2.2.1 hr fl.I.2.2.2
    exact ⟨dV h5,fun x hx=>(cY h5 hx).1,eX.I.2.2.2.2.2.1.at⟩)
   obtain ⟨m0,m1,m2,m3,m4,m5,m6,m7⟩:=eX.I.1.cells;obtain ⟨k0,k1,k2,k3,k4,k5,k6,k7⟩:=eX.I.2.2.2.2.1.cells;unfold af.cells at Mb;simp only [sR] at Mb k0 k1 k2 k3 k4 k5 k6 k7;have DM:bN (((p.L9.take k ++ [(⟨id,false⟩:aB)]) ++ p.L9.drop k).length=k+1+(p.L9.length - k)):=sR;clear sR mI hkd Jx gn;go_wp2_with fail;refine Mb.mono ?_;clear Mb m0 m1 m2 m3 m4 m5 m6 m7 k0 k1 k2 k3 k4 k5 k6 k7;rintro e ow ⟨gy,hok⟩;have hq:=HQ.I.2.2.2.2;have HZ:bN (B_ w.heap.size w ow/\ow.heap[w.heap.size+1]? =o_ (c_ ar 46)/\ap ow W.heap.size ({ q with L9:=(p.L9.take k ++ [(⟨id,false⟩:aB)]) ++ p.L9.drop k,ay:=a9,aO:=c9 } :af)/\w.heap.size+1 < W.heap.size):=⟨eX.I.2.2.1.trans (gy.mono eX.I.2.2.1.size),(gy.block _ (J2.1 eX.I.2.2.2.1).1).trans eX.I.2.2.2.1,eX.I.2.2.2.2.2.1.below gy,hq.2.1⟩
   clear gy hq;rw [eX.I.2.2.2.2.2.2] at hok;rcases hok with ⟨hok,rfl⟩ | ⟨hok,rfl⟩
   .have HN:bN (cB p.pure { p.pure with L9:=cA (·.id) (⟨id,false⟩:aB) p.pure.L9 } =o_ { p.pure with L9:=cA (·.id) (⟨id,false⟩:aB) p.pure.L9 }):=jS hok
    clear hok;go_wp2_with (refine ec _ _ #[i_ j_ q.id,i_ j_ q.next,s_ q.aN q.L8.length q.aW,s_ q.bc q.aj.length q.bF,s_ a9 (k+1+(p.L9.length - k)) c9,s_ q.ax q.ag.length q.aP,s_ q.am q.ae.length q.aG,s_ q.aK q.ai.length q.aV] HZ.I.2.1 ?_);refine mG results88 (b_ true) HZ.I.2.1 ?_;have hl:=HZ.I.2.2.2;rw [HN.I];refine ⟨({ q with L9:=(p.L9.take k ++ [(⟨id,false⟩:aB)]) ++ p.L9.drop k,ay:=a9,aO:=c9 } :af),by unfold af.cells; simp only [DM.I]; rfl,(HZ.I.2.2.1.lower zw).same fun g hg=>KH _ _ _ _ Zb7,eX.I.2.2.2.2.2.2,kz HZ.I.1 zw _⟩
   .have HN:bN (cB p.pure { p.pure with L9:=cA (·.id) (⟨id,false⟩:aB) p.pure.L9 } =n_):=jh hok
    clear hok;go_wp2_with (refine ec _ _ ar HZ.I.2.1 ?_);refine mG results88 (b_ false) HZ.I.2.1 ?_;exact TZ
end Go.Proofs.YtckenjkcmajicaaGreat
