/- What the proof leans on, part 13. -/
import Derived.Test.YtfncpmaefninjaaGreatDoorOwnT10
import Derived.Test.YtfncpmaefninjaaGreatDoorOwnT11
import Derived.Test.YtfncpmaefninjaaGreatDoorOwnT12
import Derived.Lib.SliceRun
set_option linter.all false
set_option maxRecDepth 100000
set_option maxHeartbeats 8000000
open Go.Proofs.Tryz
open Go renaming World->w_,Value->v_,Calls->k_,Addr->d_,TypeId->T_,below_setRow->q_
open Go.Ending renaming returned->r_
open Go.IntKind renaming i64->j_
open Go.Obj renaming cells->c_
open Go.RowKit renaming Below->B_,Hid->bE
open Go.Value renaming int->i_,slice->s_,string->t_,agg->a_,pointer->p_,tuple->u_
open Option renaming some->o_,none->n_
open Function renaming comp_def->Ls
open Go renaming wp_at_succ->Kd,wp_at_zero->Kc
open Go.Proofs.Tryz renaming prog->J3
open List renaming filterMap_cons->LH,getElem_cons_succ->K1,getElem_cons_zero->K0,getElem_toArray->KZ,set_cons_succ->Lo,set_cons_zero->Ln
open Nat renaming add_zero->PT
open Option renaming map_some->J9

open Go.RowKit
namespace Go.Proofs.YtfncpmaefninjaaGreatDoor
section
open Go.Maps
attribute [local go_sem ↓] Kc Kd
def Dv {VO VS VV r1 r2 r3 r4 r5 r6:List Nat} {N n1 n2 n3 n4 n5 n6:Nat} (hk:(VO ++ (VS ++ VV)).Nodup) (hkl: ∀ g∈VO ++ (VS ++ VV),g < N) (h1:nU N n1 r1) (h2:nU n1 n2 r2) (h3:nU n2 n3 r3) (h4:nU n3 n4 r4) (h5:nU n4 n5 r5) (h6:nU n5 n6 r6)
  (e:N<=n1/\n1<=n2/\n2<=n3/\n3<=n4/\n4<=n5/\n5<=n6):(r1 ++ (VO ++ (r2 ++ (r3 ++ (r4 ++ (r5 ++ (VS ++ (r6 ++ VV)))))))).Nodup:=by
 have hp:(r1 ++ (VO ++ (r2 ++ (r3 ++ (r4 ++ (r5 ++ (VS ++ (r6 ++ VV)))))))).Perm ((VO ++ (VS ++ VV)) ++ (r1 ++ (r2 ++ (r3 ++ (r4 ++ (r5 ++ r6)))))):=by
  rw [List.perm_iff_count];intro x;simp only [List.count_append];omega
 rw [hp.nodup_iff,Kf];have hr:nU N n6 (r1 ++ (r2 ++ (r3 ++ (r4 ++ (r5 ++ r6))))):=h1.append (h2.append (h3.append (h4.append (h5.append h6 zo zo zo) zo zo zo) zo zo zo) zo zo zo) zo zo zo;refine ⟨hk,hr.1,fun a ha b hb e=> ?_⟩
 have:=hkl a ha
 have:=(hr.2 b hb).1
 omega
def px {w:w_} {bj n size cap:Nat} {e:T_} {a:Option d_} {xs:List v_} (h:w.ownsRow bj e size (s_ a n cap) n xs):nU bj w.heap.size (blk a):=⟨fN a,fun _ hg=>cf h hg⟩
structure aZ.Fits (S:aZ):Prop where
 dl:S.lp.length<=1048576
 Jl: ∀ p∈RW (fun x:ao=>x.id) S.lp,(Lit.int j_ p.1).wf=true
 fx:S.ls.length<=1048576
 adG: ∀ p∈RW (fun x:bD=>x.id) S.ls,(Lit.int j_ p.1).wf=true
 cD:S.le.length<=1048576
 G4: ∀ p∈RW (fun x:aB=>x.id) S.le,(Lit.int j_ p.1).wf=true
 cC:S.lb.length<=1048576
 FP: ∀ p∈RW (fun x:az=>x.id) S.lb,(Lit.int j_ p.1).wf=true
 cb:S.lf.length<=1048576
 DW: ∀ p∈RW (fun x:au=>x.id) S.lf,(Lit.int j_ p.1).wf=true
 dH:S.lq.length<=1048576
 Jz: ∀ p∈RW (fun x:aM=>x.id) S.lq,(Lit.int j_ p.1).wf=true
abbrev GR (o:Nat) (S:aZ) (w':w_):Prop:=w'.cell? ⟨o,0,n_⟩=o_ (i_ j_ S.q.id)/\w'.cell? ⟨o,1,n_⟩=o_ (i_ j_ S.q.next)/\w'.cell? ⟨o,2,n_⟩=o_ (i_ j_ 6)/\w'.cell? ⟨o,3,n_⟩=o_ (.map (o_ S.q.bp))/\w'.cell? ⟨o,4,n_⟩=o_ (i_ j_ 5)/\w'.cell? ⟨o,5,n_⟩=o_ (.map (o_ S.q.bs))/\w'.cell? ⟨o,6,n_⟩=o_ (i_ j_ 5)/\w'.cell? ⟨o,7,n_⟩=o_ (.map (o_ S.q.be))/\w'.cell? ⟨o,8,n_⟩=o_ (i_ j_ 5)/\w'.cell? ⟨o,9,n_⟩=o_ (.map (o_ S.q.bb))/\w'.cell? ⟨o,10,n_⟩=o_ (i_ j_ 5)/\w'.cell? ⟨o,11,n_⟩=o_ (.map (o_ S.q.bf))/\w'.cell? ⟨o,12,n_⟩=o_ (i_ j_ 5)/\w'.cell? ⟨o,13,n_⟩=o_ (.map (o_ S.q.bq))
def kP {o:Nat} {S:aZ} {w:w_} (h:fa w o S.q):GR o S w:=⟨h.cell 0,h.cell 1,h.cell 2,h.cell 3,h.cell 4,h.cell 5,h.cell 6,h.cell 7,h.cell 8,h.cell 9,h.cell 10,h.cell 11,h.cell 12,h.cell 13⟩
def Hc (w:w_) (bj:Nat) (v:aE) (e:Ending) (w':w_):Prop:= ∃ r:af,e=r_ (a_ r.cells)/\ap w' bj r/\r.pure=v/\B_ w.heap.size w w'
def aaM (w:w_) (bj:Nat) (S:aZ) (e:Ending) (w':w_):Prop:= ∃ r:af,e=r_ (a_ r.cells)/\ap w' bj r/\r.pure=S.pure/\B_ w.heap.size w w'/\ ∀ g∈r.Mc,g∈S.kids\/w.heap.size<=g
def ZZ (o bj:Nat) (S:aZ) (w:w_) (h:cJ w bj o S) (hf:S.Fits):k_ J3 33 #[p_ (o_ ⟨o,0,n_⟩)] w fun e w'=>aaM w bj S e w':=by
 have hb0:B_ w.heap.size w (w.alloc (c_ ar 31)):=(Kp _ _).alloc (Ki _) _;have HZ:bE (cJ w bj o S/\S.Fits/\B_ w.heap.size w (w.alloc (c_ ar 31)).drew/\(w.alloc (c_ ar 31)).drew.heap[w.heap.size]? =o_ (c_ ar 31)/\w.heap.size < (w.alloc (c_ ar 31)).drew.heap.size):=⟨h,hf,hb0.drew,Kj _ _,by simp⟩
 have HS:bE (GR o S (w.alloc (c_ ar 31)).drew):=kP (h.opn.below hb0.drew);clear h hf hb0
 go_enter func33,ntmps33
 go_wp2_with fail;generalize w.alloc (c_ ar 31)=W at *;refine Kr (S:=GR o S) ZcE HS.I (fun bC=> ?_);refine tt 0 bC ?_;refine tt 1 bC ?_;refine tt 2 bC ?_;refine tt 3 bC ?_;refine tt 4 bC ?_;refine tt 5 bC ?_;refine tt 6 bC ?_;refine tt 7 bC ?_;refine tt 8 bC ?_;refine tt 9 bC ?_;refine tt 10 bC ?_;refine tt 11 bC ?_;refine tt 13 bC ?_;refine tt 14 bC ?_;refine tt 15 bC ?_;refine tt 16 bC ?_;refine tt 18 bC ?_;refine tt 19 bC ?_;refine tt 20 bC ?_;refine tt 21 bC ?_;refine tt 23 bC ?_;refine tt 24 bC ?_;refine tt 25 bC ?_;refine tt 26 bC ?_;refine tt 28 bC ?_;refine tt 29 bC ?_;refine tt 30 bC ?_;refine tt 31 bC ?_;refine tt 33 bC ?_;refine tt 34 bC ?_;refine tt 35 bC ?_;refine tt 36 bC ?_;clear HS;generalize hWd:W.drew=W0 at *;clear hWd;refine L7 12 (fun K hK=> ?_);go_wp2_with fail;refine (zj 6 bj S.q.bp S.lp W0 (HZ.I.1.L8.below HZ.I.2.2.1) HZ.I.2.1.dl HZ.I.2.1.Jl).mono ?_;rintro e W1 ⟨a1,c1,rfl,hown,hb⟩;have wm:bE (nU W0.heap.size W1.heap.size (blk a1)/\W0.heap.size<=W1.heap.size):=⟨px hown,hb.size⟩
 have HY:bE (W1.ownsRow W0.heap.size 41 12 (s_ a1 (S.lp.map (·.1)).length c1) (S.lp.map (·.1)).length (bg.flat (S.lp.map (·.1)))/\W0.heap.size<=W1.heap.size):=⟨hown,hb.size⟩
 have HR:=HY;clear HY;have iP:bE (cJ w bj o S/\S.Fits/\B_ w.heap.size w W1/\W1.heap[w.heap.size]? =o_ (c_ ar 31)/\w.heap.size < W0.heap.size):=⟨HZ.I.1,HZ.I.2.1,HZ.I.2.2.1.trans (hb.mono HZ.I.2.2.1.size),(hb.block _ (J2.1 HZ.I.2.2.2.1).1).trans HZ.I.2.2.2.1,HZ.I.2.2.2.2⟩
 clear HZ hown hb;have HZ:=iP;clear iP bC;refine hK.out _ _ (kP (HZ.I.1.opn.below HZ.I.2.2.1)) (fun bC=> ?_);clear hK K
 try simp only [KZ,K0,K1,Act.put,Qr,Ln,Lo]
 refine L7 17 (fun K hK=> ?_);go_wp2_with fail;refine (AN 5 bj S.q.bs S.ls W1 (HZ.I.1.aj.below HZ.I.2.2.1) HZ.I.2.1.fx HZ.I.2.1.adG).mono ?_;rintro e W2 ⟨a2,c2,rfl,hown,hb⟩;have xD:bE (nU W1.heap.size W2.heap.size (blk a2)/\W1.heap.size<=W2.heap.size):=⟨px hown,hb.size⟩
 have HY:bE (W2.ownsRow W0.heap.size 41 12 (s_ a1 (S.lp.map (·.1)).length c1) (S.lp.map (·.1)).length (bg.flat (S.lp.map (·.1)))/\W2.ownsRow W1.heap.size 89 3 (s_ a2 (S.ls.map (·.1)).length c2) (S.ls.map (·.1)).length (dm.flat (S.ls.map (·.1)))/\W0.heap.size<=W1.heap.size/\W1.heap.size<=W2.heap.size):=⟨cR HR.I.1 hb,hown,HR.I.2,hb.size⟩
 clear HR;have HR:=HY;clear HY;have iP:bE (cJ w bj o S/\S.Fits/\B_ w.heap.size w W2/\W2.heap[w.heap.size]? =o_ (c_ ar 31)/\w.heap.size < W0.heap.size):=⟨HZ.I.1,HZ.I.2.1,HZ.I.2.2.1.trans (hb.mono HZ.I.2.2.1.size),(hb.block _ (J2.1 HZ.I.2.2.2.1).1).trans HZ.I.2.2.2.1,HZ.I.2.2.2.2⟩
 clear HZ hown hb;have HZ:=iP;clear iP bC;refine hK.out _ _ (kP (HZ.I.1.opn.below HZ.I.2.2.1)) (fun bC=> ?_);clear hK K
 try simp only [KZ,K0,K1,Act.put,Qr,Ln,Lo]
 refine L7 22 (fun K hK=> ?_);go_wp2_with fail;refine (wN 5 bj S.q.be S.le W2 (HZ.I.1.L9.below HZ.I.2.2.1) HZ.I.2.1.cD HZ.I.2.1.G4).mono ?_;rintro e W3 ⟨a3,c3,rfl,hown,hb⟩;have Fz:bE (nU W2.heap.size W3.heap.size (blk a3)/\W2.heap.size<=W3.heap.size):=⟨px hown,hb.size⟩
 have HY:bE (W3.ownsRow W0.heap.size 41 12 (s_ a1 (S.lp.map (·.1)).length c1) (S.lp.map (·.1)).length (bg.flat (S.lp.map (·.1)))/\W3.ownsRow W1.heap.size 89 3 (s_ a2 (S.ls.map (·.1)).length c2) (S.ls.map (·.1)).length (dm.flat (S.ls.map (·.1)))/\W3.ownsRow W2.heap.size 91 2 (s_ a3 (S.le.map (·.1)).length c3) (S.le.map (·.1)).length (bJ.flat (S.le.map (·.1)))/\W0.heap.size<=W1.heap.size/\W1.heap.size<=W2.heap.size/\W2.heap.size<=W3.heap.size):=⟨cR HR.I.1 hb,cR HR.I.2.1 hb,hown,HR.I.2.2.1,HR.I.2.2.2,hb.size⟩
 clear HR;have HR:=HY;clear HY;have iP:bE (cJ w bj o S/\S.Fits/\B_ w.heap.size w W3/\W3.heap[w.heap.size]? =o_ (c_ ar 31)/\w.heap.size < W0.heap.size):=⟨HZ.I.1,HZ.I.2.1,HZ.I.2.2.1.trans (hb.mono HZ.I.2.2.1.size),(hb.block _ (J2.1 HZ.I.2.2.2.1).1).trans HZ.I.2.2.2.1,HZ.I.2.2.2.2⟩
 clear HZ hown hb;have HZ:=iP;clear iP bC;refine hK.out _ _ (kP (HZ.I.1.opn.below HZ.I.2.2.1)) (fun bC=> ?_);clear hK K
 try simp only [KZ,K0,K1,Act.put,Qr,Ln,Lo]
 refine L7 27 (fun K hK=> ?_);go_wp2_with fail;refine (wC 5 bj S.q.bb S.lb W3 (HZ.I.1.ag.below HZ.I.2.2.1) HZ.I.2.1.cC HZ.I.2.1.FP).mono ?_;rintro e W4 ⟨a4,c4,rfl,hown,hb⟩;have FA:bE (nU W3.heap.size W4.heap.size (blk a4)/\W3.heap.size<=W4.heap.size):=⟨px hown,hb.size⟩
 have HY:bE (W4.ownsRow W0.heap.size 41 12 (s_ a1 (S.lp.map (·.1)).length c1) (S.lp.map (·.1)).length (bg.flat (S.lp.map (·.1)))/\W4.ownsRow W1.heap.size 89 3 (s_ a2 (S.ls.map (·.1)).length c2) (S.ls.map (·.1)).length (dm.flat (S.ls.map (·.1)))/\W4.ownsRow W2.heap.size 91 2 (s_ a3 (S.le.map (·.1)).length c3) (S.le.map (·.1)).length (bJ.flat (S.le.map (·.1)))/\W4.ownsRow W3.heap.size 93 3 (s_ a4 (S.lb.map (·.1)).length c4) (S.lb.map (·.1)).length (bG.flat (S.lb.map (·.1)))/\W0.heap.size<=W1.heap.size/\W1.heap.size<=W2.heap.size/\W2.heap.size<=W3.heap.size/\W3.heap.size<=W4.heap.size):=⟨cR HR.I.1 hb,cR HR.I.2.1 hb,cR HR.I.2.2.1 hb,hown,HR.I.2.2.2.1,HR.I.2.2.2.2.1,HR.I.2.2.2.2.2,hb.size⟩
 clear HR;have HR:=HY;clear HY;have iP:bE (cJ w bj o S/\S.Fits/\B_ w.heap.size w W4/\W4.heap[w.heap.size]? =o_ (c_ ar 31)/\w.heap.size < W0.heap.size):=⟨HZ.I.1,HZ.I.2.1,HZ.I.2.2.1.trans (hb.mono HZ.I.2.2.1.size),(hb.block _ (J2.1 HZ.I.2.2.2.1).1).trans HZ.I.2.2.2.1,HZ.I.2.2.2.2⟩
 clear HZ hown hb;have HZ:=iP;clear iP bC;refine hK.out _ _ (kP (HZ.I.1.opn.below HZ.I.2.2.1)) (fun bC=> ?_);clear hK K
 try simp only [KZ,K0,K1,Act.put,Qr,Ln,Lo]
 refine L7 32 (fun K hK=> ?_);go_wp2_with fail;refine (uk 5 bj S.q.bf S.lf W4 (HZ.I.1.ae.below HZ.I.2.2.1) HZ.I.2.1.cb HZ.I.2.1.DW).mono ?_;rintro e W5 ⟨a5,c5,rfl,hown,hb⟩;have Ik:bE (nU W4.heap.size W5.heap.size (blk a5)/\W4.heap.size<=W5.heap.size):=⟨px hown,hb.size⟩
 have HY:bE (W5.ownsRow W0.heap.size 41 12 (s_ a1 (S.lp.map (·.1)).length c1) (S.lp.map (·.1)).length (bg.flat (S.lp.map (·.1)))/\W5.ownsRow W1.heap.size 89 3 (s_ a2 (S.ls.map (·.1)).length c2) (S.ls.map (·.1)).length (dm.flat (S.ls.map (·.1)))/\W5.ownsRow W2.heap.size 91 2 (s_ a3 (S.le.map (·.1)).length c3) (S.le.map (·.1)).length (bJ.flat (S.le.map (·.1)))/\W5.ownsRow W3.heap.size 93 3 (s_ a4 (S.lb.map (·.1)).length c4) (S.lb.map (·.1)).length (bG.flat (S.lb.map (·.1)))/\W5.ownsRow W4.heap.size 96 3 (s_ a5 (S.lf.map (·.1)).length c5) (S.lf.map (·.1)).length (bm.flat (S.lf.map (·.1)))/\W0.heap.size<=W1.heap.size/\W1.heap.size<=W2.heap.size/\W2.heap.size<=W3.heap.size/\W3.heap.size<=W4.heap.size/\W4.heap.size<=W5.heap.size):=⟨cR HR.I.1 hb,cR HR.I.2.1 hb,cR HR.I.2.2.1 hb,cR HR.I.2.2.2.1 hb,hown,HR.I.2.2.2.2.1,HR.I.2.2.2.2.2.1,HR.I.2.2.2.2.2.2.1,HR.I.2.2.2.2.2.2.2,hb.size⟩
 clear HR;have HR:=HY;clear HY;have iP:bE (cJ w bj o S/\S.Fits/\B_ w.heap.size w W5/\W5.heap[w.heap.size]? =o_ (c_ ar 31)/\w.heap.size < W0.heap.size):=⟨HZ.I.1,HZ.I.2.1,HZ.I.2.2.1.trans (hb.mono HZ.I.2.2.1.size),(hb.block _ (J2.1 HZ.I.2.2.2.1).1).trans HZ.I.2.2.2.1,HZ.I.2.2.2.2⟩
 clear HZ hown hb;have HZ:=iP;clear iP bC;refine hK.out _ _ (kP (HZ.I.1.opn.below HZ.I.2.2.1)) (fun bC=> ?_);clear hK K
 try simp only [KZ,K0,K1,Act.put,Qr,Ln,Lo]
 refine L7 37 (fun K hK=> ?_);go_wp2_with fail;refine (zf 5 bj S.q.bq S.lq W5 (HZ.I.1.ai.below HZ.I.2.2.1) HZ.I.2.1.dH HZ.I.2.1.Jz).mono ?_;rintro e W6 ⟨a6,c6,rfl,hown,hb⟩;have Jw:bE (nU W5.heap.size W6.heap.size (blk a6)/\W5.heap.size<=W6.heap.size):=⟨px hown,hb.size⟩
 have HY:bE (W6.ownsRow W0.heap.size 41 12 (s_ a1 (S.lp.map (·.1)).length c1) (S.lp.map (·.1)).length (bg.flat (S.lp.map (·.1)))/\W6.ownsRow W1.heap.size 89 3 (s_ a2 (S.ls.map (·.1)).length c2) (S.ls.map (·.1)).length (dm.flat (S.ls.map (·.1)))/\W6.ownsRow W2.heap.size 91 2 (s_ a3 (S.le.map (·.1)).length c3) (S.le.map (·.1)).length (bJ.flat (S.le.map (·.1)))/\W6.ownsRow W3.heap.size 93 3 (s_ a4 (S.lb.map (·.1)).length c4) (S.lb.map (·.1)).length (bG.flat (S.lb.map (·.1)))/\W6.ownsRow W4.heap.size 96 3 (s_ a5 (S.lf.map (·.1)).length c5) (S.lf.map (·.1)).length (bm.flat (S.lf.map (·.1)))/\W6.ownsRow W5.heap.size 115 5 (s_ a6 (S.lq.map (·.1)).length c6) (S.lq.map (·.1)).length (bX.flat (S.lq.map (·.1)))/\W0.heap.size<=W1.heap.size/\W1.heap.size<=W2.heap.size/\W2.heap.size<=W3.heap.size/\W3.heap.size<=W4.heap.size/\W4.heap.size<=W5.heap.size/\W5.heap.size<=W6.heap.size):=⟨cR HR.I.1 hb,cR HR.I.2.1 hb,cR HR.I.2.2.1 hb,cR HR.I.2.2.2.1 hb,cR HR.I.2.2.2.2.1 hb,hown,HR.I.2.2.2.2.2.1,HR.I.2.2.2.2.2.2.1,HR.I.2.2.2.2.2.2.2.1,HR.I.2.2.2.2.2.2.2.2.1,HR.I.2.2.2.2.2.2.2.2.2,hb.size⟩
 clear HR;have HR:=HY;clear HY;have iP:bE (cJ w bj o S/\S.Fits/\B_ w.heap.size w W6/\W6.heap[w.heap.size]? =o_ (c_ ar 31)/\w.heap.size < W0.heap.size):=⟨HZ.I.1,HZ.I.2.1,HZ.I.2.2.1.trans (hb.mono HZ.I.2.2.1.size),(hb.block _ (J2.1 HZ.I.2.2.2.1).1).trans HZ.I.2.2.2.1,HZ.I.2.2.2.2⟩
 clear HZ hown hb;have HZ:=iP;clear iP bC;refine hK.out _ _ (kP (HZ.I.1.opn.below HZ.I.2.2.1)) (fun bC=> ?_);clear hK K
 try simp only [KZ,K0,K1,Act.put,Qr,Ln,Lo]
 refine wpAnyH_take (i:=38) (v:=a_ #[i_ j_ S.q.id,i_ j_ S.q.next,s_ a1 S.lp.length c1,s_ a2 S.ls.length c2,s_ a3 S.le.length c3,s_ a4 S.lb.length c4,s_ a5 S.lf.length c5,s_ a6 S.lq.length c6]) rfl ZcE ZcE ZcE (fun _ _ _ h=>h) (Or.inl ⟨by kernel_rfl,?_⟩) bC ?_
 .intro w0 hS0
  exact BC
 simp only [KZ,K0,K1,Act.put,Qr,Ln,Lo];refine L7 39 (fun K hK=> ?_);refine qd _ _ _ rfl w.heap.size _ _ #[i_ j_ S.q.id,i_ j_ S.q.next,s_ a1 S.lp.length c1,s_ a2 S.ls.length c2,s_ a3 S.le.length c3,s_ a4 S.lb.length c4,s_ a5 S.lf.length c5,s_ a6 S.lq.length c6] rfl rfl HZ.I.2.2.2.1 ZcE rfl ZcP ?_;have p7:o < w.heap.size:=(J2.1 HZ.I.1.opn).1;have hbs:B_ w.heap.size w (W6.setRow w.heap.size #[i_ j_ S.q.id,i_ j_ S.q.next,s_ a1 S.lp.length c1,s_ a2 S.ls.length c2,s_ a3 S.le.length c3,s_ a4 S.lb.length c4,s_ a5 S.lf.length c5,s_ a6 S.lq.length c6]):=q_ HZ.I.2.2.1 (Ki _) _;refine hK.out _ _ (kP (HZ.I.1.opn.below hbs)) (fun bC=> ?_);clear hK K bC;refine K3 ZcE ?_ _
 repeat (first | go_values | go_skip | go_guarded | go_step | go_upon)
 refine gZ results33 HZ.I.2.2.2.1 ?_;have hA:=HZ.I.1;have kj:=HZ.I.2.2.1;have hlo:=hA.low;have hw0:=HZ.I.2.2.2.2;have t1:=wm.I.2;have t2:=xD.I.2;have t3:=Fz.I.2;have t4:=FA.I.2;have t5:=Ik.I.2;have t6:=Jw.I.2;have hmP: ∀ q∈S.lp,aR.cO W6 bj q.1:=fun q hq=>(hA.eI q hq).same fun g hk=>kj.block g ((hA.eI q hq).lt hk).2
 have hmF: ∀ q∈S.lf,aC.cO W6 bj q.1:=fun q hq=>(hA.eE q hq).same fun g hk=>kj.block g ((hA.eE q hq).lt hk).2
 have hmQ: ∀ q∈S.lq,aU.cO W6 bj q.1:=fun q hq=>(hA.eR q hq).same fun g hk=>kj.block g ((hA.eR q hq).lt hk).2
 have hkn:S.kids.Nodup:=(Kf.1 (Lp.1 hA.nodup).2).2.1;have hkl: ∀ g∈S.kids,g < w.heap.size:=fun g hg=>by
  simp only [aZ.kids,Kg,kids,Lq] at hg;rcases hg with ⟨q,hq,hk⟩ | ⟨q,hq,hk⟩ | ⟨q,hq,hk⟩
  .exact ((hA.eI q hq).lt hk).2
  .exact ((hA.eE q hq).lt hk).2
  .exact ((hA.eR q hq).lt hk).2
 have VU:(S.lp.map (·.1)).filterMap aR.bt=kids aR S.lp:=by rw [List.filterMap_map]; rfl
 have eF:(S.lf.map (·.1)).filterMap aC.bt=kids aC S.lf:=by rw [List.filterMap_map]; rfl
 have eQ:(S.lq.map (·.1)).filterMap aU.bt=kids aU S.lq:=by rw [List.filterMap_map]; rfl
 have hown:ap W6 bj (⟨S.q.id,S.q.next,S.lp.map (·.1),a1,c1,S.ls.map (·.1),a2,c2,S.le.map (·.1),a3,c3,S.lb.map (·.1),a4,c4,S.lf.map (·.1),a5,c5,S.lq.map (·.1),a6,c6⟩:af):=by
  refine ⟨cq HR.I.1 zo,cq HR.I.2.1 zo,cq HR.I.2.2.1 zo,cq HR.I.2.2.2.1 zo,cq HR.I.2.2.2.2.1 zo,cq HR.I.2.2.2.2.2.1 zo,?_,?_,?_,?_⟩
  .intro x hx
   obtain ⟨q,hq,rfl⟩:=Lr.1 hx;exact hmP q hq
  .intro x hx
   obtain ⟨q,hq,rfl⟩:=Lr.1 hx;exact hmF q hq
  .intro x hx
   obtain ⟨q,hq,rfl⟩:=Lr.1 hx;exact hmQ q hq
  .simp only [af.Mc,VU,eF,eQ]
   exact Dv (N:=W0.heap.size) hkn (fun g hg=>by have:=hkl g hg; omega) wm.I.1 xD.I.1 Fz.I.1 FA.I.1 Ik.I.1 Jw.I.1 ⟨t1,t2,t3,t4,t5,t6⟩
 have hnk: ∀ g∈(⟨S.q.id,S.q.next,S.lp.map (·.1),a1,c1,S.ls.map (·.1),a2,c2,S.le.map (·.1),a3,c3,S.lb.map (·.1),a4,c4,S.lf.map (·.1),a5,c5,S.lq.map (·.1),a6,c6⟩:af).Mc,g∈S.kids\/w.heap.size < g:=fun g hg=>by
  simp only [af.Mc,VU,eF,eQ,Kg] at hg;have hk: ∀ g,(g∈kids aR S.lp\/g∈kids aC S.lf\/g∈kids aU S.lq)->g∈S.kids:=fun g h5=>by simp only [aZ.kids,Kg]; exact h5
  rcases hg with hg | hg | hg | hg | hg | hg | hg | hg | hg
  .exact .inr (by have:=(wm.I.1.2 g hg).1; omega)
  .exact .inl (hk g (.inl hg))
  .exact .inr (by have:=(xD.I.1.2 g hg).1; omega)
  .exact .inr (by have:=(Fz.I.1.2 g hg).1; omega)
  .exact .inr (by have:=(FA.I.1.2 g hg).1; omega)
  .exact .inr (by have:=(Ik.I.1.2 g hg).1; omega)
  .exact .inl (hk g (.inr (.inl hg)))
  .exact .inr (by have:=(Jw.I.1.2 g hg).1; omega)
  .exact .inl (hk g (.inr (.inr hg)))
 have hne: ∀ g∈(⟨S.q.id,S.q.next,S.lp.map (·.1),a1,c1,S.ls.map (·.1),a2,c2,S.le.map (·.1),a3,c3,S.lb.map (·.1),a4,c4,S.lf.map (·.1),a5,c5,S.lq.map (·.1),a6,c6⟩:af).Mc,g≠w.heap.size:=fun g hg e=>by
  rcases hnk g hg with h5 | h5
  .have:=hkl g h5; omega
  .omega
 exact ⟨(⟨S.q.id,S.q.next,S.lp.map (·.1),a1,c1,S.ls.map (·.1),a2,c2,S.le.map (·.1),a3,c3,S.lb.map (·.1),a4,c4,S.lf.map (·.1),a5,c5,S.lq.map (·.1),a6,c6⟩:af),by simp [af.cells],hown.same fun g hg=>KH _ _ _ _ (hne g hg),by simp [af.pure,aZ.pure,Ls],hbs,fun g hg=>(hnk g hg).imp_right aew⟩
def jR (o bj:Nat) (S:aZ) (w:w_) (h:cJ w bj o S) (hf:S.Fits):k_ J3 33 #[p_ (o_ ⟨o,0,n_⟩)] w fun e w'=>Hc w bj S.pure e w':=
 (ZZ o bj S w h hf).mono fun _ _ ⟨r,h1,h2,h3,h4,_⟩=>⟨r,h1,h2,h3,h4⟩
end
section
open Go.Maps
def aZ.ju (S:aZ) (g:Nat) (f:ao->ao) (nx:Int):aZ:= { S with q:= { S.q with next:=nx },lp:=sU g f S.lp }
def GW {g:Nat} {f:ao->ao} (hf: ∀ x,aR.bt (f x)=aR.bt x) (l:List (ao × Nat)):kids aR (sU g f l)=kids aR l:=by
 induction l with
 | nil=>rfl
 | cons p r ih=>
  have e:(sU g f (p :: r))=(if p.2=g then (f p.1,p.2) else p) :: sU g f r:=rfl;simp only [kids,LH] at ih ⊢;rw [e];simp only [LH];by_cases h:p.2=g
  .simp only [h,if_true,hf]
   rw [ih]
  .simp only [h,if_false]
   rw [ih]
def cJ.ju {w w':w_} {bj o g:Nat} {S:aZ} {f:ao->ao} {nx:Int} (h:cJ w bj o S) (hf: ∀ x,(f x).id=x.id/\(f x).prog=x.prog/\(f x).aY=x.aY/\(f x).bH=x.bH)
  (hc: ∀ p∈S.lp,p.2=g->w'.heap[g]? =o_ (c_ (aX (f p.1)) 41)) (hg:g∈S.lp.map (·.2)) (ho:fa w' o { S.q with next:=nx }) (hs: ∀ b,b≠g->b≠o->w'.heap[b]? =w.heap[b]?):cJ w' bj o (S.ju g f nx):=by
 have iH: ∀ x,aR.bt (f x)=aR.bt x:=fun x=>by show (f x).aY.map (·.block)=x.aY.map (·.block); rw [(hf x).2.2.1]
 have hn:=h.nodup;have hno:=(Lp.1 hn).1;have yD:=(Kf.1 (Lp.1 hn).2)
 have jQ:=yD.1;unfold aZ.boxes at jQ;have hin: ∀ b,b∈S.boxes\/b∈S.kids->b≠o:=fun b hb e=>hno (by rw [<- e]; exact Kg.2 hb)
 have hp:=Kf.1 jQ;have l9:g∈S.q.bp :: S.lp.map (·.2):=LB _ hg;have hgr: ∀ b,b∈((S.q.bs :: S.ls.map (·.2)) ++ ((S.q.be :: S.le.map (·.2)) ++ ((S.q.bb :: S.lb.map (·.2)) ++ ((S.q.bf :: S.lf.map (·.2)) ++ (S.q.bq :: S.lq.map (·.2))))))->b≠g:=fun b hb e=>hp.2.2 g l9 b hb e.symm
 have EI: ∀ b∈S.kids,b≠g:=fun b hb e=>yD.2.2 g (by unfold aZ.boxes; exact Lz _ l9) b hb e.symm
 have hbp:S.q.bp≠g:=fun e=>by
  have:=(Lp.1 hp.1).1
  rw [e] at this;exact this hg
 have lW: ∀ b,b∈(S.q.bp :: S.lp.map (·.2))->b≠o:=fun b hb=>hin b (.inl (by unfold aZ.boxes; exact Lz _ hb))
 have hbr: ∀ b,b∈((S.q.bs :: S.ls.map (·.2)) ++ ((S.q.be :: S.le.map (·.2)) ++ ((S.q.bb :: S.lb.map (·.2)) ++ ((S.q.bf :: S.lf.map (·.2)) ++ (S.q.bq :: S.lq.map (·.2))))))->w'.heap[b]? =w.heap[b]? :=fun b hb=>hs b (hgr b hb) (hin b (.inl ZdA))
 have hkk: ∀ b∈S.kids,w'.heap[b]? =w.heap[b]? :=fun b hb=>hs b (EI b hb) (hin b (.inr hb))
 have hmem: ∀ (b:Nat),(b∈kids aR S.lp\/b∈kids aC S.lf\/b∈kids aU S.lq)->b∈S.kids:=fun b hb=>by simp only [aZ.kids,Kg]; exact hb
 refine ⟨ho,h.L8.sU (fun p _ _=>(hf p.1).1) hc (hs _ hbp (lW _ zw)) (fun b hb hne=>hs b hne (lW b (LB _ hb))),h.aj.same fun b hb=>hbr b (Lz _ hb),h.L9.same fun b hb=>hbr b (Ly _ (Lz _ hb)),h.ag.same fun b hb=>hbr b (Ly _ (Ly _ (Lz _ hb))),h.ae.same fun b hb=>hbr b (Ly _ (Ly _ (Ly _ (Lz _ hb)))),h.ai.same fun b hb=>hbr b (Ly _ (Ly _ (Ly _ (Ly _ hb)))),fun p hp'=> ?_,fun p hp'=>(h.eE p hp').same fun b hb=>hkk b (hmem b (.inr (.inl (Lq.2 ⟨p,hp',hb⟩)))),fun p hp'=>(h.eR p hp').same fun b hb=>hkk b (hmem b (.inr (.inr (Lq.2 ⟨p,hp',hb⟩)))),?_,h.low⟩
 .exact R_
 .exact ZaW
end
section
open Go.Maps
attribute [local go_sem ↓] Kc Kd
def xX {z:Int} (h:cv z 1 1000=true):(Lit.int j_ z).wf=true:=by
 have h2:=bz.1 h;have e1:IntKind.min j_<=0:=by decide
 have e2:100000<=IntKind.max j_:=by decide
 simp only [Lit.wf,J7,decide_eq_true_eq];omega
def iB {S:aZ} (h:aQ S.pure):S.Fits:=by
 refine ⟨?_,?_,?_,?_,?_,?_,?_,?_,?_,?_,?_,?_⟩
 .have h5:=h.dl
  have h6:S.pure.L8.length=S.lp.length:=by simp [aZ.pure]
  omega
 .intro p hp
  obtain ⟨r,hr,rfl⟩:=Lr.1 hp;exact xX (cK h.L8 (r.1.toaD) (Lr.2 ⟨r,hr,rfl⟩)).1
 .have h5:=h.fx
  have h6:S.pure.aj.length=S.ls.length:=by simp [aZ.pure]
  omega
 .intro p hp
  obtain ⟨r,hr,rfl⟩:=Lr.1 hp;exact xX (cK h.aj (r.1) (Lr.2 ⟨r,hr,rfl⟩)).1
 .have h5:=h.cD
  have h6:S.pure.L9.length=S.le.length:=by simp [aZ.pure]
  omega
 .intro p hp
  obtain ⟨r,hr,rfl⟩:=Lr.1 hp;exact xX (cK h.L9 (r.1) (Lr.2 ⟨r,hr,rfl⟩)).1
 .have h5:=h.cC
  have h6:S.pure.ag.length=S.lb.length:=by simp [aZ.pure]
  omega
 .intro p hp
  obtain ⟨r,hr,rfl⟩:=Lr.1 hp;exact xX (cK h.ag (r.1) (Lr.2 ⟨r,hr,rfl⟩)).1
 .have h5:=h.cb
  have h6:S.pure.ae.length=S.lf.length:=by simp [aZ.pure]
  omega
 .intro p hp
  obtain ⟨r,hr,rfl⟩:=Lr.1 hp;exact xX (cK h.ae (r.1.toci) (Lr.2 ⟨r,hr,rfl⟩)).1
 .have h5:=h.dH
  have h6:S.pure.ai.length=S.lq.length:=by simp [aZ.pure]
  omega
 .intro p hp
  obtain ⟨r,hr,rfl⟩:=Lr.1 hp;exact xX (cK h.ai (r.1.todS) (Lr.2 ⟨r,hr,rfl⟩)).1
def NU {S:aZ} {g:Nat} {f:ao->ao} {nx:Int} (h:S.Fits) (hf: ∀ x,(f x).id=x.id):(S.ju g f nx).Fits:=by
 have e:RW (fun x:ao=>x.id) (sU g f S.lp)=RW (fun x:ao=>x.id) S.lp:=Al fun p _ _=>hf p.1
 refine ⟨?_,?_,h.fx,h.adG,h.cD,h.G4,h.cC,h.FP,h.cb,h.DW,h.dH,h.Jz⟩
 .show (sU g f S.lp).length<=_
  unfold sU;rw [KG];exact h.dl
 .show ∀ p∈RW (fun x:ao=>x.id) (sU g f S.lp),_
  rw [e];exact h.Jl
def wE (o g:Nat) (nx:Int) (w:w_) (h1:w.cell? ⟨o,1,n_⟩=o_ (i_ j_ nx)) (f1:w.frozen? ⟨o,1,n_⟩=false) (h2: ∃ u,w.cell? ⟨g,11,n_⟩=o_ u) (f2:w.frozen? ⟨g,11,n_⟩=false) (hne: ¬ o=g) (n0:0<=nx) (n1:nx<=1000000000):
  k_ J3 104 #[p_ (o_ ⟨o,0,n_⟩),p_ (o_ ⟨g,0,n_⟩)] w fun e w'=>e=r_ (u_ #[])/\w'=(w.setCell ⟨g,11,n_⟩ (i_ j_ nx)).setCell ⟨o,1,n_⟩ (i_ j_ (nx+1)):=by
 obtain ⟨u,h2⟩:=h2;have k1:(w.setCell ⟨g,11,n_⟩ (i_ j_ nx)).cell? ⟨o,1,n_⟩=o_ (i_ j_ nx):=(J1 (aH hne)).trans h1;have k2:(w.setCell ⟨g,11,n_⟩ (i_ j_ nx)).frozen? ⟨o,1,n_⟩=false:=(World.frozen?_of_block (aH hne)).trans f1
 go_enter func104,ntmps104
 go_wp2
 go_end0
 exact ⟨rfl,rfl⟩
def F2 (nx:Int) (y:ao):ao:= { y with Md:=1,RU:=nx }
def aI.cell {w:w_} {g i:Nat} {v:v_} :aI w (w.setCell ⟨g,i,n_⟩ v) [g] :=aI.set (off:=i) [v] zw
def ajh (o g bj:Nat) (S:aZ) (x:ao) (w:w_) (h:cJ w bj o S) (hx:(x,g)∈S.lp) (n0:0<=S.q.next) (n1:S.q.next<=1000000000):
  k_ J3 194 #[p_ (o_ ⟨o,0,n_⟩),p_ (o_ ⟨g,0,n_⟩)] w fun e w'=>e=r_ (u_ #[])/\cJ w' bj o (S.ju g (F2 S.q.next) (S.q.next+1))/\aI w w' [g,o] :=by
 have hgb:w.heap[g]? =o_ (c_ (aX x) 41):=h.L8.box (x,g) hx;have bR:g∈S.lp.map (·.2):=Lr.2 ⟨(x,g),hx,rfl⟩;have hno: ¬ o=g:=fun e=>by
  exact ZbG
 have CT:=cx (i:=3) (v:=i_ j_ 1) hgb;have c3:w.cell? ⟨g,3,n_⟩=o_ (i_ j_ x.Md):=(bo hgb).2.2.2.1;have z3:w.frozen? ⟨g,3,n_⟩=false:=Ko _ _ _ _ _ hgb;have HC:bE ((w.setCell ⟨g,3,n_⟩ (i_ j_ 1)).cell? ⟨o,1,n_⟩=o_ (i_ j_ S.q.next)/\(w.setCell ⟨g,3,n_⟩ (i_ j_ 1)).frozen? ⟨o,1,n_⟩=false/\(∃ u,(w.setCell ⟨g,3,n_⟩ (i_ j_ 1)).cell? ⟨g,11,n_⟩=o_ u)/\(w.setCell ⟨g,3,n_⟩ (i_ j_ 1)).frozen? ⟨g,11,n_⟩=false):=⟨(J1 (aH hno)).trans (h.opn.cell 1),(World.frozen?_of_block (aH hno)).trans (Ko _ _ _ _ _ h.opn),⟨i_ j_ x.RU,by simp [World.cell?,CT,aX]⟩,Ko _ _ _ _ _ CT⟩
 have HE:bE (cJ (((w.setCell ⟨g,3,n_⟩ (i_ j_ 1)).setCell ⟨g,11,n_⟩ (i_ j_ S.q.next)).setCell ⟨o,1,n_⟩ (i_ j_ (S.q.next+1))) bj o (S.ju g (F2 S.q.next) (S.q.next+1))/\aI w (((w.setCell ⟨g,3,n_⟩ (i_ j_ 1)).setCell ⟨g,11,n_⟩ (i_ j_ S.q.next)).setCell ⟨o,1,n_⟩ (i_ j_ (S.q.next+1))) [g,o]):=by
  refine ⟨h.ju (fun y=>⟨rfl,rfl,rfl,rfl⟩) (fun p hp hpg=> ?_) bR ?_ fun b hb hb2=>(aH hb2).trans ((aH hb).trans (aH hb)),((aI.cell.trans aI.cell).mono zw).trans (aI.cell.mono zw)⟩
  .have e:=h.L8.one hp hx hpg
   subst e;have h5:=(aH (i:=1) (v:=i_ j_ (S.q.next+1)) (fun e=>hno e.symm:g≠o)).trans (cx (i:=11) (v:=i_ j_ S.q.next) CT);exact h5
  .have h5:((w.setCell ⟨g,3,n_⟩ (i_ j_ 1)).setCell ⟨g,11,n_⟩ (i_ j_ S.q.next)).heap[o]? =_:=((aH hno).trans (aH hno)).trans h.opn
   exact cx (i:=1) (v:=i_ j_ (S.q.next+1)) h5
 clear hgb bR CT h hx
 go_enter func194,ntmps194
 go_wp2_with fail;refine (wE o g S.q.next _ HC.I.1 HC.I.2.1 HC.I.2.2.1 HC.I.2.2.2 hno n0 n1).mono ?_;rintro e w2 ⟨rfl,rfl⟩;go_wp2
 go_end0
 exact ⟨rfl,HE.I.1,HE.I.2⟩
end
section
section
variable {α:Type} {num:α->Int} {ok:α->Bool}
def bY (num:α->Int) (x:α):List α->List α
 | [] => [x]
 | y :: r=>if num x < num y then x :: y :: r else y :: bY num x r
def cA (num:α->Int) (x:α):List α->List α
 | [] => [x]
 | y :: r=>if num y < num x then y :: cA num x r else x :: y :: r
def er (x:α): ∀ l:List α,(bY num x l).length=l.length+1
 | [] =>rfl
 | y :: r=>by
  simp only [bY]
  split
  .rfl
  .simp [er x r]
def fq {x z:α} : ∀ {l:List α},z∈bY num x l↔z=x\/z∈l
 | [] =>by simp [bY]
 | y :: r=>by
  simp only [bY]
  split
  .simp
  .simp only [Kt,fq (l:=r)]
   constructor
   .exact P_
   .exact P_
def js {x z:α} : ∀ {l:List α},z∈cA num x l↔z=x\/z∈l
 | [] =>by simp [cA]
 | y :: r=>by
  simp only [cA]
  split
  .simp only [Kt,js (l:=r)]
   constructor
   .exact P_
   .exact P_
  .simp
def eJ (x:α): ∀ l:List α,(cA num x l).length=l.length+1
 | [] =>rfl
 | y :: r=>by
  simp only [cA]
  split
  .simp [eJ x r]
  .rfl
def tP {x:α} : ∀ {l:List α} {k:Nat},(∀ y∈l.take k,num y < num x)->(∀ y,l[k]? =o_ y-> ¬ num y < num x)->l.take k ++ x :: l.drop k=cA num x l
 | [],k,_,_=>by simp [cA]
 | y :: r,0,_,h2=>by
  have h3:=h2 y rfl;simp [cA,h3]
 | y :: r,k+1,h1,h2=>by
  have h3:=h1 y zw;simp only [List.take_succ_cons,List.drop_succ_cons,List.cons_append,cA,if_pos h3];rw [tP (fun z hz=>h1 z (by simp [hz])) (fun z hz=>h2 z (by simpa using hz))]
end
def cB (p p':aE):Option aE:=if bK p && bK p' then o_ p' else n_
end
section
open Go.Maps
def cJ.lt {w:w_} {bj o:Nat} {S:aZ} (h:cJ w bj o S): ∀ c∈o :: (S.boxes ++ S.kids),c < w.heap.size:=fun c hc=>by
 simp only [aZ.boxes,aZ.kids,Kt,Kg] at hc;rcases hc with rfl | ((hc | hc | hc | hc | hc | hc) | hc | hc | hc)
 .exact (J2.1 h.opn).1
 .exact h.L8.lt c (Kt.2 hc)
 .exact h.aj.lt c (Kt.2 hc)
 .exact h.L9.lt c (Kt.2 hc)
 .exact h.ag.lt c (Kt.2 hc)
 .exact h.ae.lt c (Kt.2 hc)
 .exact h.ai.lt c (Kt.2 hc)
 .obtain ⟨r,hr,hk⟩:=Lq.1 hc
  exact ((h.eI r hr).lt hk).2
 .obtain ⟨r,hr,hk⟩:=Lq.1 hc
  exact ((h.eE r hr).lt hk).2
 .obtain ⟨r,hr,hk⟩:=Lq.1 hc
  exact ((h.eR r hr).lt hk).2
def cJ.drew {w:w_} {bj o:Nat} {S:aZ} (h:cJ w bj o S):cJ w.drew bj o S:=
 ⟨h.opn,h.L8.same fun _ _=>rfl,h.aj.same fun _ _=>rfl,h.L9.same fun _ _=>rfl,h.ag.same fun _ _=>rfl,h.ae.same fun _ _=>rfl,h.ai.same fun _ _=>rfl,fun p hp=>(h.eI p hp).same fun _ _=>rfl,fun p hp=>(h.eE p hp).same fun _ _=>rfl,fun p hp=>(h.eR p hp).same fun _ _=>rfl,h.nodup,h.low⟩
end
section
open Go.Maps
attribute [local go_sem ↓] Kc Kd
def fE (code:Int) (x:ao):ao:=⟨jT code x.toaD,x.aY,x.bH⟩
abbrev CB (W w:w_) (bj:Nat) (q:af) (v:Array v_):Prop:=av W w.heap.size q/\W.heap[w.heap.size+1]? =o_ (c_ ar 31)/\W.heap[w.heap.size+1+1]? =o_ (c_ v 41)/\ap W bj q/\B_ w.heap.size w W
def aI.more {w w1 w2:w_} {bs:List Nat} (h:aI w w1 bs) (hb:B_ w.heap.size w1 w2):aI w w2 bs:=⟨hb.os.trans h.os,hb.tape.trans h.tape,hb.output.trans h.output,LG h.size hb.size,fun g hg hn=>(hb.block g hg).trans (h.same g hg hn)⟩
def ug {W w:w_} {bj gs n:Nat} {q:af} {x y:ao} {vs:List v_} (h1:av W w.heap.size q) (h2:W.heap[w.heap.size+1]? =o_ (c_ ar 31)) (h3:w.heap.size+1+1 < W.heap.size) (h4:ap W bj q) (h5:B_ w.heap.size w W)
  (hx:q.L8[n]? =o_ x) (ha:q.aN=o_ ⟨gs,0,n_⟩) (hb:bj<=w.heap.size) (CT:bj<=gs) (hg2:gs < w.heap.size) (yD: ∀ g∈q.Mc,g < w.heap.size) (hv:vs=bg.vals y) (hy:y.prog=x.prog/\y.aY=x.aY/\y.bH=x.bH):
  W.there gs (n * 12) 12/\ap (W.setCells gs (n * 12) vs) bj ({ q with L8:=q.L8.set n y } :af)/\av (W.setCells gs (n * 12) vs) w.heap.size q/\(W.setCells gs (n * 12) vs).heap[w.heap.size+1]? =o_ (c_ ar 31)/\B_ bj w (W.setCells gs (n * 12) vs)/\(∀ g∈({ q with L8:=q.L8.set n y } :af).Mc,g≠w.heap.size+1)/\aI w (W.setCells gs (n * 12) vs) [gs] :=by
 have hn:n < q.L8.length:=(Lj.1 hx).1;have hl:vs.length=12:=by rw [hv]; exact bg.len y
 have oC:W.there gs (n * 12) 12:=by
  obtain ⟨g,hg,hrow⟩:=bl.fX (K:=bg) h4.L8 zo;exact ZaC
 have h7:=h4.kB (n:=n) (j:=0) (x:=x) (y:=y) (vs:=vs) hx ha hy zo (fun r _=>by rw [Li,hv]) (fun r hr hn=>absurd ⟨Ky _,zo⟩ hn);rw [PT,<- iL] at h7;have hs: ∀ g,g≠gs->g < W.heap.size->(W.setCells gs (n * 12) vs).heap[g]? =W.heap[g]? :=fun g hg hl=>h7.2.1.same g hl (by simpa using hg)
 refine ⟨oC,h7.1,(hs _ zo zo).trans h1,(hs _ zo zo).trans h2,(h5.mono hb).trans (h7.2.1.below zo ZcF),fun g hg e=> ?_,(aI.dI h5).trans h7.2.1⟩;have h8:=yD g (h7.2.2 ▸ hg);omega
def ve (q:af) (n bj:Nat) (x:ao) (code:Int) (w:w_) (h:ap w bj q) (hb:bj<=w.heap.size) (hx:q.L8[n]? =o_ x) (hpc:0<=x.pc/\x.pc < x.prog.length) (hl:x.prog.length<=1048576):
  k_ J3 87 #[a_ q.cells,i_ j_ n,i_ j_ code] w fun e w'=>e=r_ (a_ q.cells)/\ap w' bj ({ q with L8:=q.L8.set n (fE code x) } :af)/\B_ bj w w'/\aI w w' (blk q.aN):=by
 obtain ⟨gs,ha,hat⟩:=cn h.at.1 hx;have hgs:=cf h.L8 (g:=gs) Zdi;have hnl:n < q.L8.length:=(Lj.1 hx).1;obtain ⟨afG,afd,ps,pA,pC,ss,afV,afX,es,afA,afq,bs,afR,afK,fs,aga,afN,ts,afr,af4⟩:=q;simp only at ha;subst ha;obtain ⟨C,hC⟩: ∃ C:Array v_,C= #[i_ j_ afG,i_ j_ afd,s_ (o_ ⟨gs,0,n_⟩) ps.length pC,s_ afV ss.length afX,s_ afA es.length afq,s_ afR bs.length afK,s_ aga fs.length afN,s_ afr ts.length af4] :=⟨_,rfl⟩
 obtain ⟨G,hG⟩: ∃ G:Array v_,G= #[i_ j_ x.id,i_ j_ x.RX,s_ x.aY x.prog.length x.bH,i_ j_ 1,i_ j_ (x.pc+1),i_ j_ 0,i_ j_ 0,i_ j_ 0,t_ ⟨#[]⟩,t_ x.got,i_ j_ code,i_ j_ x.RU] :=⟨_,rfl⟩
 obtain ⟨D,hD⟩: ∃ D:af,D=(⟨afG,afd,ps,o_ ⟨gs,0,n_⟩,pC,ss,afV,afX,es,afA,afq,bs,afR,afK,fs,aga,afN,ts,afr,af4⟩:af):=⟨_,rfl⟩
 obtain ⟨A,hA⟩: ∃ A:w_,A=(w.alloc (c_ C 31)).alloc (c_ ar 31):=⟨_,rfl⟩
 obtain ⟨B,hB⟩: ∃ B:w_,B=A.alloc (c_ G 41):=⟨_,rfl⟩
 have b1:B_ w.heap.size w A:=by rw [hA]; exact dT _ _ _
 have b2:B_ w.heap.size w B:=by rw [hB,hA]; exact fg _ _ _ _
 have h3:=dR w (c_ C 31) (c_ ar 31) (c_ G 41);have H6:bE (CB B w bj D G):=by subst hB hA hG hD hC; exact ⟨h3.1,h3.2.1,h3.2.2.1,h.below b2,b2⟩
 have HC:bE (ps[n]? =o_ x/\bj<=gs/\gs < w.heap.size/\bj<=w.heap.size/\n < ps.length):=⟨hx,hgs.1,hgs.2,hb,hnl⟩
 obtain ⟨d0,d1,d2,d3,d4,d5,d6,d7,d8,d9,tH,tS⟩:ao.At A gs n x:=by
  obtain ⟨g,e,h5⟩:=cn (h.below b1).at.1 hx;cases e;exact h5
 have PBK:bE (∀ g∈D.Mc,g < w.heap.size):=fun g hg=>(h.lt g (hD ▸ hg)).2
 obtain ⟨n0,n1⟩:=hpc;have n2:x.pc<=1048576:=zo
 have j0:(0:Int)<=(n:Int):=zo
 have j1:(n:Int) < (ps.length:Int):=by have:n < ps.length:=hnl; omega
 clear h hb hx hgs hat b1 b2 h3 hnl hl;subst hB hA hG hD hC;unfold af.cells;simp only
 go_enter func87,ntmps87
 by_cases hlen:x.pc+1=x.prog.length
 .have afx:bE (fE code x=(⟨j7 (jM code x.toaD),x.aY,x.bH⟩:ao)):=by show fE code x=_; unfold fE jT; rw [if_pos hlen]
  have e1:(x.pc+1 == (x.prog.length:Int))=true:=by simp [hlen]
  clear hlen n1;have Mb:=mN (⟨jM code x.toaD,x.aY,x.bH⟩:ao);simp only [jM,rM] at Mb;go_wp2_with fail;clear d0 d1 d2 d3 d4 d5 d6 d7 d8 d9 tH tS e1;refine (Mb _).mono ?_;clear Mb;rintro e w5 ⟨rfl,iJ⟩;have H5:bE (CB w5 w bj (⟨afG,afd,ps,o_ ⟨gs,0,n_⟩,pC,ss,afV,afX,es,afA,afq,bs,afR,afK,fs,aga,afN,ts,afr,af4⟩:af) #[i_ j_ x.id,i_ j_ x.RX,s_ x.aY x.prog.length x.bH,i_ j_ 1,i_ j_ (x.pc+1),i_ j_ 0,i_ j_ 0,i_ j_ 0,t_ ⟨#[]⟩,t_ x.got,i_ j_ code,i_ j_ x.RU]):=⟨H6.I.1.below iJ,(iJ.block _ (J2.1 H6.I.2.1).1).trans H6.I.2.1,(iJ.block _ (J2.1 H6.I.2.2.1).1).trans H6.I.2.2.1,H6.I.2.2.2.1.below iJ,H6.I.2.2.2.2.trans (iJ.mono H6.I.2.2.2.2.size)⟩
  have H8:bE (CB (w5.setRow (w.heap.size+1+1) #[i_ j_ x.id,i_ j_ x.RX,s_ x.aY x.prog.length x.bH,i_ j_ 0,i_ j_ 0,i_ j_ 0,i_ j_ 0,i_ j_ 0,t_ ⟨#[]⟩,t_ x.got,i_ j_ code,i_ j_ 0]) w bj (⟨afG,afd,ps,o_ ⟨gs,0,n_⟩,pC,ss,afV,afX,es,afA,afq,bs,afR,afK,fs,aga,afN,ts,afr,af4⟩:af) #[i_ j_ x.id,i_ j_ x.RX,s_ x.aY x.prog.length x.bH,i_ j_ 0,i_ j_ 0,i_ j_ 0,i_ j_ 0,i_ j_ 0,t_ ⟨#[]⟩,t_ x.got,i_ j_ code,i_ j_ 0]):=by
   refine ⟨(KH _ _ _ _ zo).trans H5.I.1,(KH _ _ _ _ zo).trans H5.I.2.1,KU _ _ _ _ _ _ H5.I.2.2.1,H5.I.2.2.2.1.same fun g hg=>KH _ _ _ _ (by have:=PBK.I g hg; omega),q_ H5.I.2.2.2.2 zo _⟩
  clear iJ H6;obtain ⟨m0,m1,m2,m3,m4,m5,m6,m7⟩:=H8.I.1.cells;obtain ⟨r0,r1,r2,r3,r4,r5,r6,r7,r8,r9,Ju,Jq⟩:=bo (x:=(⟨j7 (jM code x.toaD),x.aY,x.bH⟩:ao)) H8.I.2.2.1;have hz:=ug (y:=(⟨j7 (jM code x.toaD),x.aY,x.bH⟩:ao)) (vs:=(#[i_ j_ x.id,i_ j_ x.RX,s_ x.aY x.prog.length x.bH,i_ j_ 0,i_ j_ 0,i_ j_ 0,i_ j_ 0,i_ j_ 0,t_ ⟨#[]⟩,t_ x.got,i_ j_ code,i_ j_ 0] :Array v_).toList) H8.I.1 H8.I.2.1 (J2.1 H8.I.2.2.1).1 H8.I.2.2.2.1 H8.I.2.2.2.2 HC.I.1 rfl HC.I.2.2.2.1 HC.I.2.1 HC.I.2.2.1 PBK.I rfl ⟨rfl,rfl,rfl⟩;have oC:=hz.1;have HZ:bE (_):=hz.2;clear hz;simp only [j7,jM] at r0 r1 r2 r3 r4 r5 r6 r7 r8 r9 Ju Jq
  dsimp only
  repeat (first | (go_big_may; first | (refine wpList_store_row rfl 41 (Operand.tmp 7) (Operand.tmp 31) rfl (w.heap.size+1+1) _ _ #[i_ j_ x.id,i_ j_ x.RX,s_ x.aY x.prog.length x.bH,i_ j_ 0,i_ j_ 0,i_ j_ 0,i_ j_ 0,i_ j_ 0,t_ ⟨#[]⟩,t_ x.got,i_ j_ code,i_ j_ 0] rfl rfl H5.I.2.2.1 ZcE rfl ZcE ?_) | (refine wpList_store_mid rfl 41 (Operand.tmp 36) (Operand.tmp 35) rfl gs (n * 12) #[i_ j_ x.id,i_ j_ x.RX,s_ x.aY x.prog.length x.bH,i_ j_ 0,i_ j_ 0,i_ j_ 0,i_ j_ 0,i_ j_ 0,t_ ⟨#[]⟩,t_ x.got,i_ j_ code,i_ j_ 0] rfl rfl ?ht ZcE ZcE ?_)) | go_values | go_skip | go_guarded | go_step | go_upon)
  case ht=>exact oC
  clear oC m0 m1 m2 m3 m4 m5 m6 m7 r0 r1 r2 r3 r4 r5 r6 r7 r8 r9 Ju Jq;generalize World.setCells (w5.setRow (w.heap.size+1+1) #[i_ j_ x.id,i_ j_ x.RX,s_ x.aY x.prog.length x.bH,i_ j_ 0,i_ j_ 0,i_ j_ 0,i_ j_ 0,i_ j_ 0,t_ ⟨#[]⟩,t_ x.got,i_ j_ code,i_ j_ 0]) gs (n * 12) (#[i_ j_ x.id,i_ j_ x.RX,s_ x.aY x.prog.length x.bH,i_ j_ 0,i_ j_ 0,i_ j_ 0,i_ j_ 0,i_ j_ 0,t_ ⟨#[]⟩,t_ x.got,i_ j_ code,i_ j_ 0] :Array v_).toList=WZ at *;exact AD
 .have afx:bE (fE code x=(⟨jM code x.toaD,x.aY,x.bH⟩:ao)):=by show fE code x=_; unfold fE jT; rw [if_neg hlen]
  have e1:(x.pc+1 == (x.prog.length:Int))=false:=by simp [hlen]
  clear hlen n1;obtain ⟨m0,m1,m2,m3,m4,m5,m6,m7⟩:=H6.I.1.cells;obtain ⟨r0,r1,r2,r3,r4,r5,r6,r7,r8,r9,Ju,Jq⟩:=bo (x:=(⟨jM code x.toaD,x.aY,x.bH⟩:ao)) H6.I.2.2.1;have hz:=ug (y:=(⟨jM code x.toaD,x.aY,x.bH⟩:ao)) (vs:=(#[i_ j_ x.id,i_ j_ x.RX,s_ x.aY x.prog.length x.bH,i_ j_ 1,i_ j_ (x.pc+1),i_ j_ 0,i_ j_ 0,i_ j_ 0,t_ ⟨#[]⟩,t_ x.got,i_ j_ code,i_ j_ x.RU] :Array v_).toList) H6.I.1 H6.I.2.1 (J2.1 H6.I.2.2.1).1 H6.I.2.2.2.1 H6.I.2.2.2.2 HC.I.1 rfl HC.I.2.2.2.1 HC.I.2.1 HC.I.2.2.1 PBK.I rfl ⟨rfl,rfl,rfl⟩;have oC:=hz.1;have HZ:bE (_):=hz.2;clear hz;simp only [jM] at r0 r1 r2 r3 r4 r5 r6 r7 r8 r9 Ju Jq
  repeat (first | (go_big_may; first | (refine wpList_store_mid rfl 41 (Operand.tmp 36) (Operand.tmp 35) rfl gs (n * 12) #[i_ j_ x.id,i_ j_ x.RX,s_ x.aY x.prog.length x.bH,i_ j_ 1,i_ j_ (x.pc+1),i_ j_ 0,i_ j_ 0,i_ j_ 0,t_ ⟨#[]⟩,t_ x.got,i_ j_ code,i_ j_ x.RU] rfl rfl ?ht ZcE ZcE ?_)) | go_values | go_skip | go_guarded | go_step | go_upon)
  case ht=>exact oC
  clear oC m0 m1 m2 m3 m4 m5 m6 m7 r0 r1 r2 r3 r4 r5 r6 r7 r8 r9 Ju Jq;generalize World.setCells _ gs (n * 12) (#[i_ j_ x.id,i_ j_ x.RX,s_ x.aY x.prog.length x.bH,i_ j_ 1,i_ j_ (x.pc+1),i_ j_ 0,i_ j_ 0,i_ j_ 0,t_ ⟨#[]⟩,t_ x.got,i_ j_ code,i_ j_ x.RU] :Array v_).toList=WZ at *;exact AD
def Bt {W w:w_} {bj gs n:Nat} {q:af} {x:ao} {nx:Int} (h1:av W w.heap.size q) (h2:W.heap[w.heap.size+1]? =o_ (c_ ar 31)) (h4:ap W bj q) (h5:B_ w.heap.size w W)
  (hx:q.L8[n]? =o_ x) (ha:q.aN=o_ ⟨gs,0,n_⟩) (hb:bj<=w.heap.size) (CT:bj<=gs) (hg2:gs < w.heap.size) (yD: ∀ g∈q.Mc,g < w.heap.size):
  ((∃ u,W.cell? ⟨gs,n * 12+11,n_⟩=o_ u)/\W.frozen? ⟨gs,n * 12+11,n_⟩=false)/\ap (W.setCell ⟨gs,n * 12+11,n_⟩ (i_ j_ nx)) bj ({ q with L8:=q.L8.set n { x with RU:=nx } } :af)/\av (W.setCell ⟨gs,n * 12+11,n_⟩ (i_ j_ nx)) w.heap.size q/\(W.setCell ⟨gs,n * 12+11,n_⟩ (i_ j_ nx)).heap[w.heap.size+1]? =o_ (c_ ar 31)/\B_ bj w (W.setCell ⟨gs,n * 12+11,n_⟩ (i_ j_ nx))/\(∀ g∈({ q with L8:=q.L8.set n { x with RU:=nx } } :af).Mc,g < w.heap.size)/\aI w (W.setCell ⟨gs,n * 12+11,n_⟩ (i_ j_ nx)) [gs] :=by
 have hn:n < q.L8.length:=(Lj.1 hx).1;have hc:(∃ u,W.cell? ⟨gs,n * 12+11,n_⟩=o_ u)/\W.frozen? ⟨gs,n * 12+11,n_⟩=false:=by
  obtain ⟨g,hg,hrow⟩:=bl.fX (K:=bg) h4.L8 zo;exact Zbx
 have h7:=h4.kB (n:=n) (j:=11) (x:=x) (y:= { x with RU:=nx }) (vs:= [i_ j_ nx]) hx ha ⟨rfl,rfl,rfl⟩ (by show 11+1<=12; omega) (fun r hr=>by match r,hr with | 0,_=>rfl) (fun r hr hn=>by
  have hne:r≠11:=fun e=>hn ⟨zo,by show r < 11+1; omega⟩
  match r,hr,hne with | 0,_,_=>rfl | 1,_,_=>rfl | 2,_,_=>rfl | 3,_,_=>rfl | 4,_,_=>rfl | 5,_,_=>rfl | 6,_,_=>rfl | 7,_,_=>rfl | 8,_,_=>rfl | 9,_,_=>rfl | 10,_,_=>rfl | 11,_,hne=>exact absurd rfl hne)
 simp only [bn] at h7;have l1:=(J2.1 h2).1;have hs: ∀ g,g≠gs->(W.setCell ⟨gs,n * 12+11,n_⟩ (i_ j_ nx)).heap[g]? =W.heap[g]? :=fun g hg=>aH hg
 exact ⟨hc,h7.1,(hs _ zo).trans h1,(hs _ zo).trans h2,(h5.mono hb).trans (h7.2.1.below (by have:=h5.size; omega) ZcF),fun g hg=>yD g (h7.2.2 ▸ hg),(aI.dI h5).trans h7.2.1⟩
def qG (q:af) (n bj:Nat) (x:ao) (w:w_) (h:ap w bj q) (hb:bj<=w.heap.size) (hx:q.L8[n]? =o_ x) (hn:0<=q.next/\q.next<=1000000000):
  k_ J3 118 #[a_ q.cells,i_ j_ n] w fun e w'=> ∃ q2:af,e=r_ (a_ q2.cells)/\q2= { q with next:=q.next+1,L8:=q.L8.set n { x with RU:=q.next } } /\ap w' bj q2/\B_ bj w w'/\aI w w' (blk q.aN):=by
 obtain ⟨gs,ha,-⟩:=cn h.at.1 hx;have hgs:=cf h.L8 (g:=gs) Zdi;have hnl:n < q.L8.length:=(Lj.1 hx).1;have b1:B_ w.heap.size w ((w.alloc (c_ q.cells 31)).alloc (c_ ar 31)):=dT _ _ _;have h2:=cZ w (c_ q.cells 31) (c_ ar 31);have hz:=Bt (nx:=q.next) h2.1 h2.2 (h.below b1) b1 hx ha hb hgs.1 hgs.2 fun g hg=>(h.lt g hg).2
 obtain ⟨⟨⟨u,pe⟩,f11⟩,hz⟩:=hz;have H2:bE (_):=hz;have HB:bE (av ((w.alloc (c_ q.cells 31)).alloc (c_ ar 31)) w.heap.size q/\bj<=w.heap.size/\q.aN=o_ ⟨gs,0,n_⟩):=⟨h2.1,hb,ha⟩
 have H3:bE ((((w.alloc (c_ q.cells 31)).alloc (c_ ar 31)).setCell ⟨gs,n * 12+11,n_⟩ (i_ j_ q.next)).setCell ⟨w.heap.size,1,n_⟩ (i_ j_ (q.next+1)) |> fun W=>av W w.heap.size { q with next:=q.next+1 } /\W.heap[w.heap.size+1]? =o_ (c_ ar 31)/\ap W bj { q with next:=q.next+1,L8:=q.L8.set n { x with RU:=q.next } } /\B_ bj w W/\(∀ g∈({ q with L8:=q.L8.set n { x with RU:=q.next } } :af).Mc,g < w.heap.size)/\aI w W [gs]):=by
  have ho:=hz.1.same (w':=(((w.alloc (c_ q.cells 31)).alloc (c_ ar 31)).setCell ⟨gs,n * 12+11,n_⟩ (i_ j_ q.next)).setCell ⟨w.heap.size,1,n_⟩ (i_ j_ (q.next+1))) fun g hg=>aH (by have:=hz.2.2.2.2.1 g hg; omega)
  exact ⟨cx (i:=1) (v:=i_ j_ (q.next+1)) hz.2.1,(aH zo).trans hz.2.2.1,⟨ho.L8,ho.aj,ho.L9,ho.ag,ho.ae,ho.ai,ho.eI,ho.eE,ho.eR,ho.nodup⟩,bP hz.2.2.2.1 hb,hz.2.2.2.2.1,hz.2.2.2.2.2.more (bP (Kp _ _) (Ki _))⟩
 have k1f:(((w.alloc (c_ q.cells 31)).alloc (c_ ar 31)).setCell ⟨gs,n * 12+11,n_⟩ (i_ j_ q.next)).frozen? ⟨w.heap.size,1,n_⟩=false:=Ko _ _ _ _ _ hz.2.1;have k1:=hz.2.1.cells.2.1;obtain ⟨-,m1,m2,-⟩:=h2.1 |> av.cells (p:=q)
 obtain ⟨r0,r1,r2,r3,r4,r5,r6,r7⟩:=H3.I.1.cells;have j0:(0:Int)<=(n:Int):=zo
 have j1:(n:Int) < (q.L8.length:Int):=zo
 obtain ⟨n0,n1⟩:=hn;clear h hb hx b1 h2 hz hgs hnl;rw [ha] at m2;unfold af.cells at *;simp only [HB.I.2.2] at *
 go_enter func118,ntmps118
 go_wp2_with (refine ec 4 16 #[i_ j_ q.id,i_ j_ (q.next+1),s_ (o_ ⟨gs,0,n_⟩) q.L8.length q.aW,s_ q.bc q.aj.length q.bF,s_ q.ay q.L9.length q.aO,s_ q.ax q.ag.length q.aP,s_ q.am q.ae.length q.aG,s_ q.aK q.ai.length q.aV] H3.I.2.1 ?_);refine gZ results118 H3.I.2.1 ?_;have hb:=HB.I.2.1;refine ⟨_,?_,rfl,H3.I.2.2.1.same fun g hg=>KH _ _ _ _ (by have:=H3.I.2.2.2.2.1 g hg; omega),q_ H3.I.2.2.2.1 zo _,?_⟩
 .simp only [LI]
 .exact H3.I.2.2.2.2.2.more (q_ (Kp _ _) zo _)
end
section
open Go.Maps
def ld (w:w_) (a:Option d_) (xs:List v_):Prop:= ∀ j u,xs[j]? =o_ u-> ∃ ad,a=o_ ad/\w.cell? (ad.add j)=o_ u
def ld.nil {w:w_} {a:Option d_} :ld w a [] :=fun j u hu=>by cases hu
def ld.none {w:w_} {xs:List v_} (h:ld w n_ xs):xs= [] :=by
 cases xs with
 | nil=>rfl
 | cons u r=>
  obtain ⟨ad,e,_⟩:=h 0 u rfl;cases e
def jD {P:Program} (w:w_) (bj:Nat) (t ty e:T_) (i:TypeInfo) (z:v_) (size bytes:Nat) (ht:P.underlying t=o_ (.slice e)) (hi:P.info? e=o_ i) (hz:i.zero=o_ z)
  (hsize:i.size=size) (hby:i.bytes=bytes) (hzs:z.cells.size=size) (hsz:0 < size) (a0:Option d_) (n0 c0:Nat) (ys:List v_) (ho:w.ownsRow bj e size (s_ a0 n0 c0) n0 ys)
  (a:Option d_) (n cap:Nat) (xs:List v_) (h:ld w a xs) (hl:xs.length=n * size) (h1: ∀ u∈xs,u.oneCell'=true) (h63:n0+n<=4000000) (hb:bytes<=1000) (lY:bj<=w.heap.size):
  ∃ a' cap' w',(Builtin.append_ #[t,t] ty #[s_ a0 n0 c0,s_ a n cap]).run P w= .ok (s_ a' (n0+n) cap') w'/\w'.ownsRow bj e size (s_ a' (n0+n) cap') (n0+n) (ys ++ xs)/\w.grownBy w' (Value.slice a0 n0 c0).ownBlock/\ ∀ g∈blk a',g∈blk a0\/g=w.heap.size:=by
 cases a with
 | none=>
  have hx:=h.none;subst hx;have hn:n=0:=by
   exact ZbT
  subst hn;refine ⟨a0,c0,w,?_,by simpa using ho,⟨rfl,rfl,rfl,Ki _,fun _ _ _=>rfl⟩,fun g hg=> .inl hg⟩;have hc:n0<=c0:=by
   obtain ⟨-,⟨e1,e2⟩ | ⟨g,c,cur,e1,-,-,h5,-⟩⟩:=ho
   .cases e1; exact Ki _
   .cases e1; exact h5
  cases a0 <;> simp [Builtin.append_,run_underlying ht,sizeOf,typeInfo,hi,Builtin.lenOf,Builtin.firstCells,storeCells,hc]
 | some ad=>
  have hnews: ∀ j u,xs[j]? =o_ u->w.cell? (ad.add j)=o_ u:=fun j u hu=>by
   obtain ⟨ad',e',hc⟩:=h j u hu;cases e';exact hc
  obtain ⟨v',w',hr,ho',hgr,-,hbl⟩:=run_append_own_at (P:=P) w bj t ty e i z size bytes ht hi hz hsize hby hzs hsz (s_ a0 n0 c0) n0 ys ho ad n cap xs hl hnews h1 ZcI (by have:=Nat.mul_le_mul h63 hb; omega) lY;obtain ⟨a',cap',rfl,-⟩:=cr ho';refine ⟨a',cap',w',hr,ho',hgr,fun g hg=> ?_⟩;rw [fZ] at hg ⊢;cases a' with
  | none=>cases hg
  | some ad'=>
   simp only [J9,LF] at hg;subst hg;rcases hbl with hbl | hbl
   .refine .inl ?_
    cases a0 with
    | none=>cases hbl
    | some ad0=>simpa [Value.ownBlock] using hbl.symm
   .exact .inr Zdw
def qv {Z A A' R:List Nat} (h:(Z ++ (A ++ R)).Nodup) (hA:A'.Nodup) (h1: ∀ g∈A',g∉Z ++ (A ++ R)):(Z ++ (A' ++ R)).Nodup:=by
 simp only [Kg,not_or] at h1;simp only [Kf,Kg] at h ⊢;obtain ⟨hz,⟨-,hR,-⟩,hzz⟩:=h;refine ⟨hz,⟨hA,hR,fun a ha b hb e=>(h1 a ha).2.2 (e ▸ hb)⟩,fun a ha b hb e=> ?_⟩;rcases hb with hb | hb
 .exact (h1 b hb).1 (e ▸ ha)
 .exact hzz a ha b (.inr hb) e
def Hj (g m j:Nat):(⟨g,m,n_⟩:d_).add j=⟨g,m+j,n_⟩:=by unfold Addr.add; split <;> simp_all
def FH {α:Type} {K:Kind α} {w:w_} {a:Option d_} {l:List α} (k:Nat) (h:Row w a (K.flat l)):ld w (a.map (·.add (k * K.n))) (K.flat (l.drop k)):=fun j u hu=>by
 by_cases hk:k<=l.length
 .have e:K.flat l=K.flat (l.take k) ++ K.flat (l.drop k):=by rw [<- K.dc,Qn]
  have hl:(K.flat (l.take k)).length=k * K.n:=by rw [K.dM,Lk,Nat.min_eq_left hk]
  have hu2:(K.flat l)[k * K.n+j]? =o_ u:=by
   rw [e,Qo zo,hl,Nat.add_sub_cancel_left];exact hu
  obtain ⟨g,rfl,hc⟩:=h _ u hu2;exact ⟨⟨g,k * K.n,n_⟩,by rw [J9,qZ],by rw [Hj]; exact hc⟩
 .rw [List.drop_eq_nil_of_le zo] at hu
  cases hu
def IS {w:w_} {a:Option d_} {xs:List v_} (h:Row w a xs):ld w a xs:=fun j u hu=>by
 obtain ⟨g,rfl,hc⟩:=h j u hu;exact ⟨_,rfl,by rw [qZ]; exact hc⟩
def uM {α:Type} {K:Kind α} {w:w_} {a:Option d_} {l:List α} (k:Nat) (h:Row w a (K.flat l)):ld w a (K.flat (l.take k)):=fun j u hu=>by
 have e:K.flat l=K.flat (l.take k) ++ K.flat (l.drop k):=by rw [<- K.dc,Qn]
 have hu2:(K.flat l)[j]? =o_ u:=by
  rw [e,Qp (Lj.1 hu).1];exact hu
 exact IS h j u hu2
def nV {w:w_} {bj size n c:Nat} {e:T_} {a:Option d_} {xs:List v_} (h:w.ownsRow bj e size (s_ a n c) n xs):n<=c:=by
 obtain ⟨-,⟨e1,e2⟩ | ⟨g,c',cur,e1,-,-,h5,-⟩⟩:=h
 .cases e1; exact Ki _
 .cases e1; exact h5
def jO {w:w_} {g:Nat} {cs:Array v_} {t:T_} {aaO:Nat × Nat} (h:w.heap[g]? =o_ (c_ cs t aaO)):ld w (o_ ⟨g,0,n_⟩) cs.toList:=fun j u hu=>⟨_,rfl,by rw [qZ]; simp only [World.cell?,h]; simpa using hu⟩
def ja {w:w_} {o i:Nat} {v:v_} :(w.setCell ⟨o,i,n_⟩ v).heap.size=w.heap.size:=fH [v]
def qK {α:Type} {K:Kind α} {w:w_} {a:Option d_} {l:List α} {k c:Nat} (hk:l.length<=c) (h:Row w a (K.flat l)):ld w (if c=k then a else Option.map (fun x=>x.add (k * K.n)) a) (K.flat (l.drop k)):=by
 split
 .rw [List.drop_eq_nil_of_le zo]
  exact ld.nil
 .exact FH k h
def jS {p p':aE} (h:(bK p && bK p')=true):cB p p'=o_ p':=if_pos h
def jh {p p':aE} (h:(bK p && bK p')=false):cB p p'=n_:=if_neg (by rw [h]; decide)
def zm {α:Type} (num:α->Int) (id:Int) (l:List α) (k:Nat):(∃ x,l[k]? =o_ x/\num x < id/\k < l.length)\/(∃ x,l[k]? =o_ x/\ ¬ num x < id/\k < l.length)\/ ¬ k < l.length:=by
 by_cases h:k < l.length
 .by_cases h2:num l[k] < id
  .exact .inl ⟨_,Kz h,h2,h⟩
  .exact .inr (.inl ⟨_,Kz h,h2,h⟩)
 .exact .inr (.inr h)
structure yr (w:w_) (bj:Nat) (q q2:af) (W:w_):Prop where
 own:ap W bj q2
 kept:aI w W q.Mc
 far: ∀ g∈q2.Mc,g∈q.Mc\/w.heap.size<=g
def rn {α:Type} {K:Kind α} {T:T_} {w:w_} {bj cap n gs j:Nat} {a:Option d_} {l:List α} {x y:α} {v:v_} (h:w.ownsRow bj T K.n (s_ a l.length cap) l.length (K.flat l)) (hx:l[n]? =o_ x) (ha:a=o_ ⟨gs,0,n_⟩) (hj:j < K.n) (hv:K.vals y=(K.vals x).set j v):
  (w.setCell ⟨gs,n * K.n+j,n_⟩ v).ownsRow bj T K.n (s_ a l.length cap) l.length (K.flat (l.set n y))/\aI w (w.setCell ⟨gs,n * K.n+j,n_⟩ v) (blk a)/\(∃ u,w.cell? ⟨gs,n * K.n+j,n_⟩=o_ u)/\w.frozen? ⟨gs,n * K.n+j,n_⟩=false:=by
 have hn:n < l.length:=(Lj.1 hx).1;obtain ⟨g,hg,hrow⟩:=bl.fX (K:=K) h zo;rw [ha] at hg;cases hg;have h7:=hrow.cell hx (r:=j) hj;have hsp:=kL hx;have hset:l.set n y=l.take n ++ y :: l.drop (n+1):=by rw [RJ,if_pos hn]
 have hl:(l.take n).length=n:=by rw [Lk]; omega
 rw [hsp] at hrow;have h5:=bl.part (K:=K) (x:=x) (y:=y) (j:=j) (vs:= [v]) hrow ZcF (fun r hr=>by simp at hr; subst hr; rw [PT,hv,LU (by rw [K.len]; exact hj)]; rfl) (fun r hr hn=>by rw [hv,List.getElem?_set_ne (by simp at hn; omega)]);rw [hl,<- hset] at h5;have h6:=h5.owns;rw [LI] at h6;rw [ha];exact ⟨h6,aI.set (vs:= [v]) (by simp [blk]),⟨_,h7.1.trans (Kz (by rw [K.len]; exact hj))⟩,h7.2⟩
def uX {P1 P2:List Nat} {a b:Option Nat} (h:(P1 ++ (a.toList ++ P2)).Nodup) (hb: ∀ g,b=o_ g->g∉P1/\g∉P2):(P1 ++ (b.toList ++ P2)).Nodup:=by
 obtain ⟨h1,h2,h3⟩:=Kf.1 h;obtain ⟨-,h5,-⟩:=Kf.1 h2;refine Kf.2 ⟨h1,Kf.2 ⟨by cases b <;> simp,h5,fun x hx y hy e=> ?_⟩,fun x hx y hy e=> ?_⟩
 .cases b with
  | none=>simp at hx
  | some g=>simp at hx; subst hx; exact (hb x rfl).2 (e ▸ hy)
 .rcases Kg.1 hy with hy | hy
  .cases b with
   | none=>simp at hy
   | some g=>simp at hy; subst hy; exact (hb y rfl).1 (e ▸ hx)
  .exact h3 x hx y (Ly _ hy) e
def ou (w:w_) (bj:Nat) (a0:Option d_) (c0:Nat) (l0:List ByteArray) (ho:w.ownsRow bj 9 1 (s_ a0 l0.length c0) l0.length (bT.flat l0)) (a:Option d_) (l:List ByteArray) (cap:Nat) (h:ld w a (bT.flat l)) (hl:l0.length+l.length<=4000000) (lY:bj<=w.heap.size):
  ∃ a' cap' w',(Builtin.append_ #[94,94] 94 #[s_ a0 l0.length c0,s_ a l.length cap]).run J3 w= .ok (s_ a' (l0.length+l.length) cap') w'/\w'.ownsRow bj 9 1 (s_ a' (l0.length+l.length) cap') (l0.length+l.length) (bT.flat (l0 ++ l))/\w.grownBy w' (Value.slice a0 l0.length c0).ownBlock/\ ∀ g∈blk a',g∈blk a0\/g=w.heap.size:=by
 obtain ⟨i,hi,e⟩:=Kw.1 zD;simp only [Kx] at e;rw [bT.dc];exact jD w bj _ _ 9 i _ 1 16 underlying94 hi e.1 e.2.1 e.2.2 rfl (by decide) a0 l0.length c0 _ ho a l.length cap _ h (bT.dM l) yK hl (by decide) lY
def IN (w:w_) (s:ByteArray):(w.alloc (c_ #[t_ s] 9)).ownsRow w.heap.size 9 1 (s_ (o_ ⟨w.heap.size,0,n_⟩) [s].length 1) [s].length (bT.flat [s]):=
 ⟨rfl,.inr ⟨w.heap.size,1,#[t_ s],rfl,Ki _,Kj _ _,Ki _,by decide,rfl,rfl⟩⟩
def vg {w:w_} {a:Option d_} {l:List ByteArray} {c:Nat} (hk:l.length<=c) (h:Row w a (bT.flat l)):ld w (if c=1 then a else Option.map (fun x:d_=>⟨x.block,x.off+1,n_⟩) a) (bT.flat (l.drop 1)):=by
 have h1:=qK (K:=bT) (k:=1) hk h;have e:(fun x:d_=>x.add (1 * bT.n))=(fun x:d_=>⟨x.block,x.off+1,n_⟩):=by funext x; rfl
 rw [e] at h1;exact h1
def aI.grown {w w5 w7:w_} {a:Option d_} {n c:Nat} (hb:B_ w.heap.size w w5) (hg:w5.grownBy w7 (Value.slice a n c).ownBlock):aI w w7 (blk a):=
 ⟨hg.os.trans hb.os,hg.tape.trans hb.tape,hg.output.trans hb.output,LG hb.size hg.size,fun g h1 h2=>(hg.block g (Kn h1 hb.size) fun e=>h2 (di e.symm)).trans (hb.block g h1)⟩
section
variable {w W:w_} {bj n gs:Nat} {q:af}
def pg {x:aM} {l:List ByteArray} {a:Option d_} {c:Nat} (h:ap w bj q) (hb:aI w W (blk x.ak)) (hx:q.ai[n]? =o_ x) (ha:q.aK=o_ ⟨gs,0,n_⟩) (ho:W.ownsRow bj 9 1 (s_ a l.length c) l.length (bT.flat l)) (hf: ∀ g∈blk a,g∈blk x.ak\/w.heap.size<=g):
  yr w bj q ({ q with ai:=q.ai.set n { x with Ma:=l,ak:=a,aq:=c } } :af) (W.setCell ⟨gs,n * 5+4,n_⟩ (s_ a l.length c))/\(∃ u,W.cell? ⟨gs,n * 5+4,n_⟩=o_ u)/\W.frozen? ⟨gs,n * 5+4,n_⟩=false:=by
 have hn:n < q.ai.length:=(Lj.1 hx).1;have hset:q.ai.set n { x with Ma:=l,ak:=a,aq:=c } =q.ai.take n ++ { x with Ma:=l,ak:=a,aq:=c } :: q.ai.drop (n+1):=by rw [RJ,if_pos hn]
 have hk: ∀ (z:aM) (A B:List aM),(A ++ z :: B).filterMap aU.bt=A.filterMap aU.bt ++ ((aU.bt z).toList ++ B.filterMap aU.bt):=fun z A B=>by
  rw [LW,LH];cases aU.bt z <;> simp
 have h6:q.ai.filterMap aU.bt=(q.ai.take n).filterMap aU.bt ++ ((aU.bt x).toList ++ (q.ai.drop (n+1)).filterMap aU.bt):=(congrArg (List.filterMap aU.bt) (kL hx)).trans (hk _ _ _);obtain ⟨P1,uZ⟩: ∃ P1,P1=blk q.aN ++ (q.L8.filterMap aR.bt ++ (blk q.bc ++ (blk q.ay ++ (blk q.ax ++ (blk q.am ++ (q.ae.filterMap aC.bt ++ blk q.aK)))))) ++ (q.ai.take n).filterMap aU.bt:=⟨_,rfl⟩
 obtain ⟨P2,IQ⟩: ∃ P2,P2=(q.ai.drop (n+1)).filterMap aU.bt:=⟨_,rfl⟩
 have e1:q.Mc=P1 ++ ((aU.bt x).toList ++ P2):=by rw [uZ,IQ]; simp only [af.Mc,h6,Lm]
 have e2:({ q with ai:=q.ai.set n { x with Ma:=l,ak:=a,aq:=c } } :af).Mc=P1 ++ ((a.map (·.block)).toList ++ P2):=by
  rw [uZ,IQ];simp only [af.Mc,hset,hk,Lm];rfl
 have hkx: ∀ g,g∈blk x.ak↔g∈(aU.bt x).toList:=fun g=>Iff.rfl
 have Dl:=h.nodup;rw [e1] at Dl;have hP: ∀ g,g∈P1\/g∈P2->g∉blk x.ak:=fun g hg hm=>by
  exact ZaR
 have hin: ∀ g,g∈P1\/g∈P2->g∈q.Mc:=fun g hg=>by
  rw [e1];rcases hg with hg | hg
  .exact Lz _ hg
  .exact Ly _ (Ly _ hg)
 have hgl:gs∈blk q.aK:=by rw [ha]; simp [blk]
 have hgP:gs∈P1:=by rw [uZ]; simp [hgl]
 have hsW: ∀ g,g∈P1\/g∈P2->W.heap[g]? =w.heap[g]? :=fun g hg=>hb.same g (h.lt g (hin g hg)).2 (hP g hg)
 have hrow:=aL h.ai fun g hg=>hsW g (.inl ZcW)
 obtain ⟨h1,h2,h3⟩:=rn (K:=bX) (y:= { x with Ma:=l,ak:=a,aq:=c }) (v:=s_ a l.length c) hrow hx ha (show 4 < 5 by decide) rfl;refine ⟨?_,h3⟩;have hnd:({ q with ai:=q.ai.set n { x with Ma:=l,ak:=a,aq:=c } } :af).Mc.Nodup:=by
  exact Zag
 have hs: ∀ g,g≠gs->(W.setCell ⟨gs,n * 5+4,n_⟩ (s_ a l.length c)).heap[g]? =W.heap[g]? :=fun g hg=>aH hg
 have hsp:q.Mc=(blk q.aN ++ (q.L8.filterMap aR.bt ++ (blk q.bc ++ (blk q.ay ++ (blk q.ax ++ (blk q.am ++ q.ae.filterMap aC.bt)))))) ++ (blk q.aK ++ (q.ai.filterMap aU.bt)):=by simp [af.Mc,Lm]
 have nw: ∀ g,(g∈(blk q.aN ++ (q.L8.filterMap aR.bt ++ (blk q.bc ++ (blk q.ay ++ (blk q.ax ++ (blk q.am ++ q.ae.filterMap aC.bt))))))\/g∈(q.ai.filterMap aU.bt))->g≠gs:=fun g hg he=>by
  exact ZaG
 have hall: ∀ g,g∈P1\/g∈P2->g≠gs->(W.setCell ⟨gs,n * 5+4,n_⟩ (s_ a l.length c)).heap[g]? =w.heap[g]? :=fun g hg hne=>(hs g hne).trans (hsW g hg)
 refine ⟨⟨aL h.L8 fun g hg=>hall g (.inl ZcW) (nw g (.inl Zda)),aL h.aj fun g hg=>hall g (.inl ZcW) (nw g (.inl Zda)),aL h.L9 fun g hg=>hall g (.inl ZcW) (nw g (.inl Zda)),aL h.ag fun g hg=>hall g (.inl ZcW) (nw g (.inl Zda)),aL h.ae fun g hg=>hall g (.inl ZcW) (nw g (.inl Zda)),(by show (W.setCell _ _).ownsRow _ _ _ (s_ _ (List.set _ _ _).length _) (List.set _ _ _).length _; rw [LI]; exact h1),fun z hz=>(h.eI z hz).same fun g hg=>hall g (.inl Zdv) (nw g (.inl ZdM)),?_,?_,hnd⟩,⟨hb.os,hb.tape,hb.output,by rw [ja]; exact hb.size,fun g hg hm=>(hs g fun e=>hm (e ▸ hin gs (.inl hgP))).trans (hb.same g hg fun hx=>hm ZdH)⟩,fun g hg=> ?_⟩
 .intro z hz
  exact (h.eE z hz).same fun g hg=>hall g (.inl (by rw [uZ]; simp only [Kg]; exact .inl (.inr (.inr (.inr (.inr (.inr (.inr (.inl (dP.2 ⟨z,hz,hg⟩)))))))))) (nw g (.inl (by simp only [Kg]; exact .inr (.inr (.inr (.inr (.inr (.inr (dP.2 ⟨z,hz,hg⟩)))))))))
 .intro z hz
  rw [hset] at hz;rcases Kg.1 hz with hz | hz
  .exact (h.eR z (RK hz)).same fun g hg=>hall g (.inl (by rw [uZ]; exact Ly _ (dP.2 ⟨z,hz,hg⟩))) (nw g (.inr (by exact dP.2 ⟨z,RK hz,hg⟩)))
  .rcases Kt.1 hz with rfl | hz
   .exact Zan
   .exact (h.eR z (RL hz)).same fun g hg=>hall g (.inr (by rw [IQ]; exact dP.2 ⟨z,hz,hg⟩)) (nw g (.inr (by exact dP.2 ⟨z,RL hz,hg⟩)))
 .exact Zam
end
end
section
open Go.Maps
attribute [local go_sem ↓] Kc Kd
def pF (nx code:Int) (x:ao):ao:=⟨iY nx code x.toaD,x.aY,x.bH⟩
abbrev yA (W w:w_) (bj gs:Nat) (z q:af):Prop:=av W w.heap.size z/\W.heap[w.heap.size+1]? =o_ (c_ ar 31)/\ap W bj q/\aI w W [gs] /\B_ bj w W
def re {n:Nat} {x y:ao} {l:List ao} (hx:l[n]? =o_ x) (hy:y.aY=x.aY):(l.set n y).filterMap aR.bt=l.filterMap aR.bt:=by
 have hn:=(Lj.1 hx).1;have e:l[n] =x:=(Lj.1 hx).2;rw [RJ,if_pos hn]
 conv=>rhs; rw [<- Qn n l,adH hn]
 simp only [LW,LH,e];have hk:aR.bt y=aR.bt x:=by show (y.aY).map _=(x.aY).map _; rw [hy]
 rw [hk]
def Ad {n:Nat} {q:af} {x:ao} {code:Int} {g:Nat} (hx:q.L8[n]? =o_ x) (h:g∈({ q with L8:=q.L8.set n (fE code x) } :af).Mc):g∈q.Mc:=by
 unfold af.Mc at h ⊢;simp only [re hx (show (fE code x).aY=x.aY from rfl)] at h;exact h
def yZ {n:Nat} {q:af} {nx s:Int} {y:ao} {g:Nat} (hx:q.L8[n]? =o_ y) (h:g∈({ q with next:=nx,L8:=q.L8.set n { y with RU:=s } } :af).Mc):g∈q.Mc:=by
 unfold af.Mc at h ⊢;simp only [re hx (show ({ y with RU:=s } :ao).aY=y.aY from rfl)] at h;exact h
def vT (q:af) (n bj:Nat) (x:ao) (code:Int) (w:w_) (h:ap w bj q) (hb:bj<=w.heap.size) (hx:q.L8[n]? =o_ x) (hpc:0<=x.pc/\x.pc < x.prog.length) (hl:x.prog.length<=1048576) (hn:0<=q.next/\q.next<=1000000000):
  k_ J3 86 #[a_ q.cells,i_ j_ n,i_ j_ code] w fun e w'=> ∃ q2:af,e=r_ (a_ q2.cells)/\q2= { q with next:=gf q.next x.toaD,L8:=q.L8.set n (pF q.next code x) } /\ap w' bj q2/\B_ bj w w'/\aI w w' (blk q.aN):=by
 obtain ⟨gs,ha,-⟩:=cn h.at.1 hx;have hgs:=cf h.L8 (g:=gs) Zdi;have hnl:n < q.L8.length:=(Lj.1 hx).1;obtain ⟨afG,afd,ps,pA,pC,ss,afV,afX,es,afA,afq,bs,afR,afK,fs,aga,afN,ts,afr,af4⟩:=q;simp only at ha;subst ha;obtain ⟨C,hC⟩: ∃ C:Array v_,C= #[i_ j_ afG,i_ j_ afd,s_ (o_ ⟨gs,0,n_⟩) ps.length pC,s_ afV ss.length afX,s_ afA es.length afq,s_ afR bs.length afK,s_ aga fs.length afN,s_ afr ts.length af4] :=⟨_,rfl⟩
 obtain ⟨D,hD⟩: ∃ D:af,D=(⟨afG,afd,ps,o_ ⟨gs,0,n_⟩,pC,ss,afV,afX,es,afA,afq,bs,afR,afK,fs,aga,afN,ts,afr,af4⟩:af):=⟨_,rfl⟩
 obtain ⟨A,hA⟩: ∃ A:w_,A=(w.alloc (c_ C 31)).alloc (c_ ar 31):=⟨_,rfl⟩
 have b1:B_ w.heap.size w A:=by rw [hA]; exact dT _ _ _
 have h2:=cZ w (c_ C 31) (c_ ar 31);have HC:bE (ps[n]? =o_ x/\bj<=gs/\gs < w.heap.size/\bj<=w.heap.size/\n < ps.length):=⟨hx,hgs.1,hgs.2,hb,hnl⟩
 have PBK:bE (∀ g∈D.Mc,g < w.heap.size):=fun g hg=>(h.lt g (hD ▸ hg)).2
 have HA:bE (av A w.heap.size D/\A.heap[w.heap.size+1]? =o_ (c_ ar 31)/\ap A bj D/\B_ w.heap.size w A):=by subst hA hD hC; exact ⟨h2.1,h2.2,h.below b1,b1⟩
 subst hA hD hC;have HN:bE (0<=afd/\afd<=1000000000):=hn;have Mb:=ve _ n bj x code _ HA.I.2.2.1 (by have:=HC.I.2.2.2.1; have:=b1.size; omega) hx hpc hl;have j0:(0:Int)<=(n:Int):=zo
 have j1:(n:Int) < ((ps.set n (fE code x)).length:Int):=by have:n < ps.length:=hnl; rw [LI]; omega
 rw [LI] at j1;clear h hb hx hgs b1 h2 hnl hl hpc hn;unfold af.cells at Mb ⊢;simp only at Mb ⊢
 go_enter func86,ntmps86
 obtain ⟨m0,m1,m2,m3,m4,m5,m6,m7⟩:=HA.I.1.cells;go_wp2_with fail;clear m0 m1 m2 m3 m4 m5 m6 m7;refine Mb.mono ?_;clear Mb;rintro e w1 ⟨rfl,ho1,hb1,hk1⟩;have H1:bE (yA w1 w bj gs (⟨afG,afd,ps,o_ ⟨gs,0,n_⟩,pC,ss,afV,afX,es,afA,afq,bs,afR,afK,fs,aga,afN,ts,afr,af4⟩:af) (⟨afG,afd,(ps.set n (fE code x)),o_ ⟨gs,0,n_⟩,pC,ss,afV,afX,es,afA,afq,bs,afR,afK,fs,aga,afN,ts,afr,af4⟩:af)):=by
  have hc:=HC.I;have hk:aI w w1 [gs] :=(aI.dI HA.I.2.2.2).trans hk1;have l1:=(J2.1 HA.I.2.1).1;exact ⟨(hk1.same _ zo ZdJ).trans HA.I.1,(hk1.same _ zo ZdJ).trans HA.I.2.1,ho1,hk,(HA.I.2.2.2.mono hc.2.2.2.1).trans hb1⟩
 have PB1:bE (∀ g∈(⟨afG,afd,(ps.set n (fE code x)),o_ ⟨gs,0,n_⟩,pC,ss,afV,afX,es,afA,afq,bs,afR,afK,fs,aga,afN,ts,afr,af4⟩:af).Mc,g < w.heap.size):=fun g hg=>PBK.I g (Ad HC.I.1 hg)
 clear ho1 hb1 hk1 HA;have H2:bE (yA (w1.setRow w.heap.size #[i_ j_ afG,i_ j_ afd,s_ (o_ ⟨gs,0,n_⟩) ps.length pC,s_ afV ss.length afX,s_ afA es.length afq,s_ afR bs.length afK,s_ aga fs.length afN,s_ afr ts.length af4]) w bj gs (⟨afG,afd,ps,o_ ⟨gs,0,n_⟩,pC,ss,afV,afX,es,afA,afq,bs,afR,afK,fs,aga,afN,ts,afr,af4⟩:af) (⟨afG,afd,(ps.set n (fE code x)),o_ ⟨gs,0,n_⟩,pC,ss,afV,afX,es,afA,afq,bs,afR,afK,fs,aga,afN,ts,afr,af4⟩:af)):=by
  have hc:=HC.I;exact ⟨KU _ _ _ _ _ _ H1.I.1,(KH _ _ _ _ zo).trans H1.I.2.1,H1.I.2.2.1.same fun g hg=>KH _ _ _ _ (by have:=PB1.I g hg; omega),H1.I.2.2.2.1.more (q_ (Kp _ _) zo _),q_ H1.I.2.2.2.2 zo _⟩
 have hx1:(ps.set n (fE code x))[n]? =o_ (fE code x):=by rw [LU HC.I.2.2.2.2]
 have xi:bE ((ps.set n (fE code x))[n]? =o_ (fE code x)):=hx1;obtain ⟨m0,m1,m2,m3,m4,m5,m6,m7⟩:=H2.I.1.cells;obtain ⟨d3⟩:World.cell? (w1.setRow w.heap.size #[i_ j_ afG,i_ j_ afd,s_ (o_ ⟨gs,0,n_⟩) ps.length pC,s_ afV ss.length afX,s_ afA es.length afq,s_ afR bs.length afK,s_ aga fs.length afN,s_ afr ts.length af4]) ⟨gs,n * 12+3,n_⟩=o_ (i_ j_ (fE code x).Md)/\True:=by
  obtain ⟨g,e,h5⟩:=cn H2.I.2.2.1.at.1 hx1;cases e;exact ⟨h5.2.2.2.1,trivial⟩
 by_cases hlen:x.pc+1=x.prog.length
 .have e1:((fE code x).Md == 1)=false:=by show ((jT code x.toaD).Md == 1)=false; unfold jT; rw [if_pos hlen]; rfl
  have HE:bE (gf afd x.toaD=afd/\pF afd code x=(fE code x)):=by show _/\_; unfold gf pF fE iY jT; rw [if_pos hlen,if_pos hlen,if_pos hlen]; exact ⟨rfl,rfl⟩
  clear hlen hx1;go_wp2_with (first | (refine ec 3 10 #[i_ j_ afG,i_ j_ afd,s_ (o_ ⟨gs,0,n_⟩) ps.length pC,s_ afV ss.length afX,s_ afA es.length afq,s_ afR bs.length afK,s_ aga fs.length afN,s_ afr ts.length af4] H1.I.1 ?_) | (refine ec 6 21 #[i_ j_ afG,i_ j_ afd,s_ (o_ ⟨gs,0,n_⟩) ps.length pC,s_ afV ss.length afX,s_ afA es.length afq,s_ afR bs.length afK,s_ aga fs.length afN,s_ afr ts.length af4] H2.I.2.1 ?_));refine gZ results86 H2.I.2.1 ?_;rw [HE.I.1,HE.I.2];refine ⟨_,?_,rfl,H2.I.2.2.1.same fun g hg=>KH _ _ _ _ (by have:=PB1.I g hg; omega),q_ H2.I.2.2.2.2 (by have:=HC.I.2.2.2.1; omega) _,H2.I.2.2.2.1.more (q_ (Kp _ _) zo _)⟩;simp only [LI]
 have e1:((fE code x).Md == 1)=true:=by show ((jT code x.toaD).Md == 1)=true; unfold jT; rw [if_neg hlen]; rfl
 have HE:bE (gf afd x.toaD=afd+1/\pF afd code x= { (fE code x) with RU:=afd }):=by show _/\_; unfold gf pF fE iY jT; rw [if_neg hlen,if_neg hlen,if_neg hlen]; exact ⟨rfl,rfl⟩
 clear hlen;have Mb:=qG _ n bj (fE code x) _ H2.I.2.2.1 (by have:=HC.I.2.2.2.1; have:=H2.I.2.2.2.1.size; omega) hx1 HN.I;unfold af.cells at Mb;simp only [LI] at Mb;clear hx1;go_wp2_with (refine ec 3 10 #[i_ j_ afG,i_ j_ afd,s_ (o_ ⟨gs,0,n_⟩) ps.length pC,s_ afV ss.length afX,s_ afA es.length afq,s_ afR bs.length afK,s_ aga fs.length afN,s_ afr ts.length af4] H1.I.1 ?_);clear m0 m1 m2 m3 m4 m5 m6 m7 d3 e1;refine Mb.mono ?_;clear Mb;rintro e w3 ⟨q3,he,rfl,Bn,hb3,hk3⟩;simp only [LI] at he;subst he;have H3:bE (yA w3 w bj gs (⟨afG,afd,ps,o_ ⟨gs,0,n_⟩,pC,ss,afV,afX,es,afA,afq,bs,afR,afK,fs,aga,afN,ts,afr,af4⟩:af) (⟨afG,(afd+1),((ps.set n (fE code x)).set n ({ (fE code x) with RU:=afd } :ao)),o_ ⟨gs,0,n_⟩,pC,ss,afV,afX,es,afA,afq,bs,afR,afK,fs,aga,afN,ts,afr,af4⟩:af)):=by
  have hc:=HC.I;have l1:=(J2.1 H2.I.2.1).1;exact ⟨(hk3.same _ zo ZdJ).trans H2.I.1,(hk3.same _ zo ZdJ).trans H2.I.2.1,Bn,H2.I.2.2.2.1.trans hk3,H2.I.2.2.2.2.trans hb3⟩
 have PB3:bE (∀ g∈(⟨afG,(afd+1),((ps.set n (fE code x)).set n ({ (fE code x) with RU:=afd } :ao)),o_ ⟨gs,0,n_⟩,pC,ss,afV,afX,es,afA,afq,bs,afR,afK,fs,aga,afN,ts,afr,af4⟩:af).Mc,g < w.heap.size):=fun g hg=>PB1.I g (yZ (q:=(⟨afG,afd,(ps.set n (fE code x)),o_ ⟨gs,0,n_⟩,pC,ss,afV,afX,es,afA,afq,bs,afR,afK,fs,aga,afN,ts,afr,af4⟩:af)) xi.I hg)
 clear Bn hb3 hk3 H1 H2;have H4:bE (yA (w3.setRow w.heap.size #[i_ j_ afG,i_ j_ (afd+1),s_ (o_ ⟨gs,0,n_⟩) ps.length pC,s_ afV ss.length afX,s_ afA es.length afq,s_ afR bs.length afK,s_ aga fs.length afN,s_ afr ts.length af4]) w bj gs (⟨afG,(afd+1),ps,o_ ⟨gs,0,n_⟩,pC,ss,afV,afX,es,afA,afq,bs,afR,afK,fs,aga,afN,ts,afr,af4⟩:af) (⟨afG,(afd+1),((ps.set n (fE code x)).set n ({ (fE code x) with RU:=afd } :ao)),o_ ⟨gs,0,n_⟩,pC,ss,afV,afX,es,afA,afq,bs,afR,afK,fs,aga,afN,ts,afr,af4⟩:af)):=by
  have hc:=HC.I;exact ⟨KU _ _ _ _ _ _ H3.I.1,(KH _ _ _ _ zo).trans H3.I.2.1,H3.I.2.2.1.same fun g hg=>KH _ _ _ _ (by have:=PB3.I g hg; omega),H3.I.2.2.2.1.more (q_ (Kp _ _) zo _),q_ H3.I.2.2.2.2 zo _⟩
 obtain ⟨m0,m1,m2,m3,m4,m5,m6,m7⟩:=H4.I.1.cells;go_wp2_with (first | (refine ec 3 20 #[i_ j_ afG,i_ j_ (afd+1),s_ (o_ ⟨gs,0,n_⟩) ps.length pC,s_ afV ss.length afX,s_ afA es.length afq,s_ afR bs.length afK,s_ aga fs.length afN,s_ afr ts.length af4] H3.I.1 ?_) | (refine ec 6 21 #[i_ j_ afG,i_ j_ (afd+1),s_ (o_ ⟨gs,0,n_⟩) ps.length pC,s_ afV ss.length afX,s_ afA es.length afq,s_ afR bs.length afK,s_ aga fs.length afN,s_ afr ts.length af4] H4.I.2.1 ?_));refine gZ results86 H4.I.2.1 ?_;rw [HE.I.1,HE.I.2];refine ⟨_,?_,rfl,?_,q_ H4.I.2.2.2.2 (by have:=HC.I.2.2.2.1; omega) _,H4.I.2.2.2.1.more (q_ (Kp _ _) zo _)⟩
 .simp only [LI]
 .have h5:=H4.I.2.2.1.same (w':=(w3.setRow w.heap.size #[i_ j_ afG,i_ j_ (afd+1),s_ (o_ ⟨gs,0,n_⟩) ps.length pC,s_ afV ss.length afX,s_ afA es.length afq,s_ afR bs.length afK,s_ aga fs.length afN,s_ afr ts.length af4]).setRow (w.heap.size+1) #[i_ j_ afG,i_ j_ (afd+1),s_ (o_ ⟨gs,0,n_⟩) ps.length pC,s_ afV ss.length afX,s_ afA es.length afq,s_ afR bs.length afK,s_ aga fs.length afN,s_ afr ts.length af4]) fun g hg=>KH _ _ _ _ (by have:=PB3.I g hg; omega)
  rw [PV] at h5;exact h5
end
section
def jH (w:w_) (bj:Nat) (q:af) (f:aE) (e:Ending) (w':w_):Prop:= ∃ q2:af,e=r_ (a_ q2.cells)/\q2.pure=f/\yr w bj q q2 w'
structure Fr (w:w_) (M bj:Nat) (q0 z q:af) (W:w_):Prop where
 box:av W w.heap.size z
 own:ap W bj q
 kept:aI w W q0.Mc
 far: ∀ g∈q.Mc,g∈q0.Mc\/M<=g
 lo: ∀ g∈q0.Mc,bj<=g/\g < w.heap.size
 sz:w.heap.size < M/\M<=W.heap.size/\bj<=w.heap.size
section
variable {w W W2:w_} {M bj:Nat} {q0 z q q2:af}
def Fr.yO (h:Fr w M bj q0 z q W) {X:Nat} (h1:w.heap.size<=X) (h2:X < M):X∉q.Mc:=fun hm=>by
 rcases h.far X hm with h3 | h3
 .have:=(h.lo X h3).2; omega
 .omega
def Fr.start (h:ap w bj q) (hb:bj<=w.heap.size) (hx:av W w.heap.size q) (hw:B_ w.heap.size w W) (hM:w.heap.size < M/\M<=W.heap.size):Fr w M bj q q q W:=
 ⟨hx,h.below hw,aI.dI hw,fun _ hg=> .inl hg,h.lt,hM.1,hM.2,hb⟩
def Fr.call (h:Fr w M bj q0 z q W) (ht:yr W bj q q2 W2):Fr w M bj q0 z q2 W2/\ ∀ X,w.heap.size<=X->X < M->W2.heap[X]? =W.heap[X]? :=by
 have hk: ∀ X,w.heap.size<=X->X < M->W2.heap[X]? =W.heap[X]? :=fun X h1 h2=>ht.kept.same X (by have:=h.sz; omega) (h.yO h1 h2)
 refine ⟨⟨(hk _ (Ki _) h.sz.1).trans h.box,ht.own,⟨ht.kept.os.trans h.kept.os,ht.kept.tape.trans h.kept.tape,ht.kept.output.trans h.kept.output,LG h.kept.size ht.kept.size,fun g h1 h2=>(ht.kept.same g (by have:=h.kept.size; omega) fun hm=> ?_).trans (h.kept.same g h1 h2)⟩,fun g hg=> ?_,h.lo,h.sz.1,LG h.sz.2.1 ht.kept.size,h.sz.2.2⟩,hk⟩
 .rcases h.far g hm with h3 | h3
  .exact h2 h3
  .have:=h.sz; omega
 .rcases ht.far g hg with h3 | h3
  .exact h.far g h3
  .exact .inr (by have:=h.sz; omega)
def Fr.reads (h:Fr w M bj q0 z q W) (hb:B_ W.heap.size W W2):Fr w M bj q0 z q W2/\ ∀ X,X < M->W2.heap[X]? =W.heap[X]? :=
 ⟨⟨h.box.below hb,h.own.below hb,⟨hb.os.trans h.kept.os,hb.tape.trans h.kept.tape,hb.output.trans h.kept.output,LG h.kept.size hb.size,fun g h1 h2=>(hb.block g (by have:=h.kept.size; omega)).trans (h.kept.same g h1 h2)⟩,h.far,h.lo,h.sz.1,LG h.sz.2.1 hb.size,h.sz.2.2⟩,fun X hX=>hb.block X (by have:=h.sz; omega)⟩
def Fr.other (h:Fr w M bj q0 z q W) {X:Nat} (h1:w.heap.size<=X) (h2:X < M) (cs:Array v_) (hz:av (W.setRow X cs) w.heap.size q2):Fr w M bj q0 q2 q (W.setRow X cs):=
 ⟨hz,h.own.same fun g hg=>KH _ _ _ _ fun e=>h.yO h1 h2 (e ▸ hg),⟨h.kept.os,h.kept.tape,h.kept.output,by simpa using h.kept.size,fun g h3 h4=>(KH _ _ _ _ zo).trans (h.kept.same g h3 h4)⟩,h.far,h.lo,h.sz.1,by simpa using h.sz.2.1,h.sz.2.2⟩
def Fr.put (h:Fr w M bj q0 z q W):Fr w M bj q0 q q (W.setRow w.heap.size q.cells):=h.other (Ki _) h.sz.1 _ (KU _ _ _ _ _ _ h.box)
def Fr.mK (h:Fr w M bj q0 z q W) {X:Nat} (h1:w.heap.size < X) (h2:X < M) (cs:Array v_):yr w bj q0 q (W.setRow X cs):=by
 have h3:=h.other (q2:=z) (aew h1) h2 cs ((KH _ _ _ _ zo).trans h.box);exact ⟨h3.own,h3.kept,fun g hg=>(h3.far g hg).imp_right fun h4=>by have:=h.sz; omega⟩
end
end
section
open Go.Maps
attribute [local go_sem ↓] Kc Kd
def NI (g:Nat) (x:ao) (w:w_) (h:w.heap[g]? =o_ (c_ (aX x) 41)):k_ J3 138 #[p_ (o_ ⟨g,0,n_⟩)] w fun e w'=>e=r_ (u_ #[])/\w'=w.drew.setRow g #[i_ j_ x.id,i_ j_ x.RX,s_ x.aY x.prog.length x.bH,i_ j_ 0,i_ j_ 0,i_ j_ 0,i_ j_ 0,i_ j_ 0,t_ ⟨#[]⟩,t_ x.got,i_ j_ x.code,i_ j_ 0] :=by
 have H:bE (_):=h;obtain ⟨d0,d1,d2,d3,d4,d5,d6,d7,d8,d9,tH,tS⟩:=bo h;clear h d3 d4 d5 d6 d7 d8 tS
 go_enter func138,ntmps138
 go_wp2_with fail;refine eD (fun w'=>w'=w.drew) 23 ZcE rfl ?_
 iterate 23 (refine ly 24 (v:= ?_) (o_ _) rfl rfl ZcE (fun _ _ _ h=>h) (bV ZcE ?_) ?_; rotate_left; (intro w0 hS0; subst hS0; go_simp; try with_reducible rfl); simp only [pt,sb,s0,s1])
 refine fL rfl ZcE ZcE ZcE ?_;intro w1 cm;subst cm;refine qd _ _ _ rfl g _ _ #[i_ j_ x.id,i_ j_ x.RX,s_ x.aY x.prog.length x.bH,i_ j_ 0,i_ j_ 0,i_ j_ 0,i_ j_ 0,i_ j_ 0,t_ ⟨#[]⟩,t_ x.got,i_ j_ x.code,i_ j_ 0] rfl rfl H.I ZcE rfl ZcE ?_
 go_end0
 exact ⟨rfl,rfl⟩
def cJ.SA {w w':w_} {bj o g:Nat} {S:aZ} {f:ao->ao} {nx:Int} (h:cJ w bj o S) (hf: ∀ x,(f x).id=x.id/\(f x).prog=x.prog/\(f x).aY=x.aY/\(f x).bH=x.bH)
  (hc: ∀ p∈S.lp,p.2=g->w'.heap[g]? =o_ (c_ (aX (f p.1)) 41)) (hg:g∈S.lp.map (·.2)) (ho:fa w' o { S.q with next:=nx }) (hs: ∀ b∈S.boxes ++ S.kids,b≠g->b≠o->w'.heap[b]? =w.heap[b]?):cJ w' bj o (S.ju g f nx):=by
 have iH: ∀ x,aR.bt (f x)=aR.bt x:=fun x=>by show (f x).aY.map (·.block)=x.aY.map (·.block); rw [(hf x).2.2.1]
 have hn:=h.nodup;have hno:=(Lp.1 hn).1;have yD:=(Kf.1 (Lp.1 hn).2)
 have jQ:=yD.1;unfold aZ.boxes at jQ;have hin: ∀ b,b∈S.boxes\/b∈S.kids->b≠o:=fun b hb e=>hno (by rw [<- e]; exact Kg.2 hb)
 have hp:=Kf.1 jQ;have l9:g∈S.q.bp :: S.lp.map (·.2):=LB _ hg;have hgr: ∀ b,b∈((S.q.bs :: S.ls.map (·.2)) ++ ((S.q.be :: S.le.map (·.2)) ++ ((S.q.bb :: S.lb.map (·.2)) ++ ((S.q.bf :: S.lf.map (·.2)) ++ (S.q.bq :: S.lq.map (·.2))))))->b≠g:=fun b hb e=>hp.2.2 g l9 b hb e.symm
 have EI: ∀ b∈S.kids,b≠g:=fun b hb e=>yD.2.2 g (by unfold aZ.boxes; exact Lz _ l9) b hb e.symm
 have hbp:S.q.bp≠g:=fun e=>by
  have:=(Lp.1 hp.1).1
  rw [e] at this;exact this hg
 have lW: ∀ b,b∈(S.q.bp :: S.lp.map (·.2))->b≠o:=fun b hb=>hin b (.inl (by unfold aZ.boxes; exact Lz _ hb))
 have hbr: ∀ b,b∈((S.q.bs :: S.ls.map (·.2)) ++ ((S.q.be :: S.le.map (·.2)) ++ ((S.q.bb :: S.lb.map (·.2)) ++ ((S.q.bf :: S.lf.map (·.2)) ++ (S.q.bq :: S.lq.map (·.2))))))->w'.heap[b]? =w.heap[b]? :=fun b hb=>hs b (Lz _ ZdA) (hgr b hb) (hin b (.inl ZdA))
 have hkk: ∀ b∈S.kids,w'.heap[b]? =w.heap[b]? :=fun b hb=>hs b (Ly _ hb) (EI b hb) (hin b (.inr hb))
 have hmem: ∀ (b:Nat),(b∈kids aR S.lp\/b∈kids aC S.lf\/b∈kids aU S.lq)->b∈S.kids:=fun b hb=>by simp only [aZ.kids,Kg]; exact hb
 refine ⟨ho,h.L8.sU (fun p _ _=>(hf p.1).1) hc (hs _ (Lz _ (by unfold aZ.boxes; exact Lz _ zw)) hbp (lW _ zw)) (fun b hb hne=>hs b (Lz _ (by unfold aZ.boxes; exact Lz _ (LB _ hb))) hne (lW b (LB _ hb))),h.aj.same fun b hb=>hbr b (Lz _ hb),h.L9.same fun b hb=>hbr b (Ly _ (Lz _ hb)),h.ag.same fun b hb=>hbr b (Ly _ (Ly _ (Lz _ hb))),h.ae.same fun b hb=>hbr b (Ly _ (Ly _ (Ly _ (Lz _ hb)))),h.ai.same fun b hb=>hbr b (Ly _ (Ly _ (Ly _ (Ly _ hb)))),fun p hp'=> ?_,fun p hp'=>(h.eE p hp').same fun b hb=>hkk b (hmem b (.inr (.inl (Lq.2 ⟨p,hp',hb⟩)))),fun p hp'=>(h.eR p hp').same fun b hb=>hkk b (hmem b (.inr (.inr (Lq.2 ⟨p,hp',hb⟩)))),?_,h.low⟩
 .exact R_
 .exact ZaW
def aZ.Sb {S:aZ} {g:Nat} {x:ao} {f:ao->ao} {f':aD->aD} {nx:Int} (Sw:S.pure.L8.Pairwise (fun x y=>x.id < y.id)) (hn: ∀ p∈S.lp,p.2=g->p=(x,g)) (hx:(x,g)∈S.lp) (hf: ∀ y,(f y).toaD=f' y.toaD):
  (S.ju g f nx).pure= { S.pure with next:=nx,L8:=ce x.id f' S.pure.L8 } :=by
 have key:(sU g f S.lp).map (·.1.toaD)=ce x.id f' (S.lp.map (·.1.toaD)):=by
  unfold sU ce;rw [Lv,Lv];refine Lw fun p hp=> ?_
  simp only [Ls];by_cases hg:p.2=g
  .have hpx:=hn p hp hg
   subst hpx;rw [if_pos rfl,if_pos rfl];exact hf x
  .rw [if_neg hg]
   have hne: ¬ p.1.toaD.id=x.id:=fun e=>by
    have h5:S.pure.L8.Pairwise (fun a b=>a.id < b.id):=Sw;have h6:(S.lp.map (·.1.toaD)).Pairwise (fun a b=>a.id < b.id):=h5;rw [Qm] at h6;obtain ⟨i,hi⟩:=List.mem_iff_getElem?.1 hp;obtain ⟨j,hj⟩:=List.mem_iff_getElem?.1 hx;obtain ⟨hi1,rfl⟩:=Lj.1 hi;obtain ⟨DS,hj2⟩:=Lj.1 hj;rw [P8] at h6;have OG:(S.lp[j]).1.id=x.id:=by rw [hj2]
    rcases P9 i j with hlt | heq | hgt
    .have h7:(S.lp[i]).1.id < (S.lp[j]).1.id:=h6 i j hi1 DS hlt
     have h8:(S.lp[i]).1.id=x.id:=e;omega
    .subst heq; exact hg (by rw [hj2])
    .have h7:(S.lp[j]).1.id < (S.lp[i]).1.id:=h6 j i DS hi1 hgt
     have h8:(S.lp[i]).1.id=x.id:=e;omega
   rw [if_neg hne]
 show ({ S.pure with next:=nx,L8:=(sU g f S.lp).map (·.1.toaD) } :aE)=_
 rw [key];rfl
def aI.row {w:w_} {g:Nat} {cs:Array v_} :aI w (w.drew.setRow g cs) [g] :=by
 have h:=q_ (g:=g) (Kp 0 w).drew (Ky _) cs;exact ⟨h.os,h.tape,h.output,h.size,fun b _ hn=>KH _ _ _ _ (by simpa using hn)⟩
def Sj (g:Nat) (x:ao) (code:Int) (w:w_) (h:w.heap[g]? =o_ (c_ (aX x) 41)) (hpc:0<=x.pc/\x.pc < x.prog.length) (hl:x.prog.length<=1048576):
  k_ J3 103 #[p_ (o_ ⟨g,0,n_⟩),i_ j_ code] w fun e w'=>e=r_ (u_ #[])/\w'.heap[g]? =o_ (c_ (aX (fE code x)) 41)/\aI w w' [g] :=by
 have h1:(w.setCell ⟨g,10,n_⟩ (i_ j_ code)).heap[g]? =o_ (c_ (aX ({ x with code:=code } :ao)) 41):=cx (i:=10) (v:=i_ j_ code) h;have h2:((w.setCell ⟨g,10,n_⟩ (i_ j_ code)).setCell ⟨g,4,n_⟩ (i_ j_ (x.pc+1))).heap[g]? =o_ (c_ (aX ({ x with code:=code,pc:=x.pc+1 } :ao)) 41):=cx (i:=4) (v:=i_ j_ (x.pc+1)) h1;have qF:w.cell? ⟨g,10,n_⟩=o_ (i_ j_ x.code):=(bo h).2.2.2.2.2.2.2.2.2.2.1;have f10:w.frozen? ⟨g,10,n_⟩=false:=Ko _ _ _ _ _ h;have c4:(w.setCell ⟨g,10,n_⟩ (i_ j_ code)).cell? ⟨g,4,n_⟩=o_ (i_ j_ x.pc):=(bo h1).2.2.2.2.1;have f4:(w.setCell ⟨g,10,n_⟩ (i_ j_ code)).frozen? ⟨g,4,n_⟩=false:=Ko _ _ _ _ _ h1;obtain ⟨r0,r1,r2,r3,r4,r5,r6,r7,r8,r9,Ju,Jq⟩:=bo h2;have H2:bE (((w.setCell ⟨g,10,n_⟩ (i_ j_ code)).setCell ⟨g,4,n_⟩ (i_ j_ (x.pc+1))).heap[g]? =o_ (c_ (aX ({ x with code:=code,pc:=x.pc+1 } :ao)) 41)/\aI w ((w.setCell ⟨g,10,n_⟩ (i_ j_ code)).setCell ⟨g,4,n_⟩ (i_ j_ (x.pc+1))) [g]):=⟨h2,aI.cell.trans aI.cell⟩
 have Mb:=kn ({ x with code:=code,pc:=x.pc+1 } :ao) ((w.setCell ⟨g,10,n_⟩ (i_ j_ code)).setCell ⟨g,4,n_⟩ (i_ j_ (x.pc+1))) hl;obtain ⟨n0,n1⟩:=hpc;have n2:x.pc<=1048576:=zo
 have hv:dU ({ x with code:=code,pc:=x.pc+1 } :ao).toaD=decide (¬ x.pc+1=x.prog.length):=by
  show cv (x.pc+1) 0 ((x.prog.length:Int) - 1)=_
  by_cases e:x.pc+1=x.prog.length
  .rw [decide_eq_false (by simpa using e)]
   cases h5:cv (x.pc+1) 0 ((x.prog.length:Int) - 1) with
   | false=>rfl
   | true=>have:=bz.1 h5; omega
  .rw [decide_eq_true e]
   exact bz.2 zo
 rw [hv] at Mb;simp only [aX] at Mb;clear hv h h1 h2 hl n1
 go_enter func103,ntmps103
 go_wp2_with fail;clear qF f10 c4 f4 r0 r1 r2 r3 r4 r5 r6 r7 r8 r9 Ju Jq;refine Mb.mono ?_;clear Mb;rintro e w3 ⟨rfl,hb3⟩;have H3:bE (w3.heap[g]? =o_ (c_ (aX ({ x with code:=code,pc:=x.pc+1 } :ao)) 41)/\aI w w3 [g]):=⟨(hb3.block _ (J2.1 H2.I.1).1).trans H2.I.1,H2.I.2.trans (aI.dI hb3)⟩
 clear hb3 H2;by_cases hlen:x.pc+1=x.prog.length
 .have afx:bE (fE code x=(⟨j7 (jM code x.toaD),x.aY,x.bH⟩:ao)):=by show fE code x=_; unfold fE jT; rw [if_pos hlen]
  have e1:decide (¬ x.pc+1=x.prog.length)=false:=decide_eq_false (by simpa using hlen);rw [e1];clear hlen e1;go_wp2_with fail;refine (NI g ({ x with code:=code,pc:=x.pc+1 } :ao) w3 H3.I.1).mono ?_;rintro e w4 ⟨rfl,rfl⟩;go_wp2;refine KT (results_none results103 _ _ _) rfl ?_;rw [afx.I];exact ⟨rfl,KU _ _ _ _ _ _ H3.I.1,H3.I.2.trans aI.row⟩
 have afx:bE (fE code x=(⟨jM code x.toaD,x.aY,x.bH⟩:ao)):=by show fE code x=_; unfold fE jT; rw [if_neg hlen]
 have e1:decide (¬ x.pc+1=x.prog.length)=true:=decide_eq_true hlen;rw [e1];clear hlen e1;have c3:=(bo H3.I.1).2.2.2.1;have f3:w3.frozen? ⟨g,3,n_⟩=false:=Ko _ _ _ _ _ H3.I.1;have k3:(w3.setCell ⟨g,3,n_⟩ (i_ j_ 1)).heap[g]? =o_ (c_ (aX ({ x with code:=code,pc:=x.pc+1,Md:=1 } :ao)) 41):=cx (i:=3) (v:=i_ j_ 1) H3.I.1;have c5:=(bo k3).2.2.2.2.2.1;have f5:(w3.setCell ⟨g,3,n_⟩ (i_ j_ 1)).frozen? ⟨g,5,n_⟩=false:=Ko _ _ _ _ _ k3;have k5:((w3.setCell ⟨g,3,n_⟩ (i_ j_ 1)).setCell ⟨g,5,n_⟩ (i_ j_ 0)).heap[g]? =o_ (c_ (aX ({ x with code:=code,pc:=x.pc+1,Md:=1,left:=0 } :ao)) 41):=cx (i:=5) (v:=i_ j_ 0) k3;have c6:=(bo k5).2.2.2.2.2.2.1;have f6:((w3.setCell ⟨g,3,n_⟩ (i_ j_ 1)).setCell ⟨g,5,n_⟩ (i_ j_ 0)).frozen? ⟨g,6,n_⟩=false:=Ko _ _ _ _ _ k5;have k6:(((w3.setCell ⟨g,3,n_⟩ (i_ j_ 1)).setCell ⟨g,5,n_⟩ (i_ j_ 0)).setCell ⟨g,6,n_⟩ (i_ j_ 0)).heap[g]? =o_ (c_ (aX ({ x with code:=code,pc:=x.pc+1,Md:=1,left:=0,Mg:=0 } :ao)) 41):=cx (i:=6) (v:=i_ j_ 0) k5;have c7:=(bo k6).2.2.2.2.2.2.2.1;have f7:(((w3.setCell ⟨g,3,n_⟩ (i_ j_ 1)).setCell ⟨g,5,n_⟩ (i_ j_ 0)).setCell ⟨g,6,n_⟩ (i_ j_ 0)).frozen? ⟨g,7,n_⟩=false:=Ko _ _ _ _ _ k6;have k7:((((w3.setCell ⟨g,3,n_⟩ (i_ j_ 1)).setCell ⟨g,5,n_⟩ (i_ j_ 0)).setCell ⟨g,6,n_⟩ (i_ j_ 0)).setCell ⟨g,7,n_⟩ (i_ j_ 0)).heap[g]? =o_ (c_ (aX ({ x with code:=code,pc:=x.pc+1,Md:=1,left:=0,Mg:=0,on:=0 } :ao)) 41):=cx (i:=7) (v:=i_ j_ 0) k6;have c8:=(bo k7).2.2.2.2.2.2.2.2.1;have f8:((((w3.setCell ⟨g,3,n_⟩ (i_ j_ 1)).setCell ⟨g,5,n_⟩ (i_ j_ 0)).setCell ⟨g,6,n_⟩ (i_ j_ 0)).setCell ⟨g,7,n_⟩ (i_ j_ 0)).frozen? ⟨g,8,n_⟩=false:=Ko _ _ _ _ _ k7;have k8:(((((w3.setCell ⟨g,3,n_⟩ (i_ j_ 1)).setCell ⟨g,5,n_⟩ (i_ j_ 0)).setCell ⟨g,6,n_⟩ (i_ j_ 0)).setCell ⟨g,7,n_⟩ (i_ j_ 0)).setCell ⟨g,8,n_⟩ (t_ ⟨#[]⟩)).heap[g]? =o_ (c_ (aX ({ x with code:=code,pc:=x.pc+1,Md:=1,left:=0,Mg:=0,on:=0,held:=rM } :ao)) 41):=cx (i:=8) (v:=t_ ⟨#[]⟩) k7;have HF:bE ((((((w3.setCell ⟨g,3,n_⟩ (i_ j_ 1)).setCell ⟨g,5,n_⟩ (i_ j_ 0)).setCell ⟨g,6,n_⟩ (i_ j_ 0)).setCell ⟨g,7,n_⟩ (i_ j_ 0)).setCell ⟨g,8,n_⟩ (t_ ⟨#[]⟩)).heap[g]? =o_ (c_ (aX (⟨jM code x.toaD,x.aY,x.bH⟩:ao)) 41)/\aI w (((((w3.setCell ⟨g,3,n_⟩ (i_ j_ 1)).setCell ⟨g,5,n_⟩ (i_ j_ 0)).setCell ⟨g,6,n_⟩ (i_ j_ 0)).setCell ⟨g,7,n_⟩ (i_ j_ 0)).setCell ⟨g,8,n_⟩ (t_ ⟨#[]⟩)) [g]):=⟨k8,(((((H3.I.2.trans aI.cell).trans aI.cell).trans aI.cell).trans aI.cell).trans aI.cell)⟩
 clear k3 k5 k6 k7 k8;go_wp2
 go_end0
 rw [afx.I];exact ⟨rfl,HF.I.1,HF.I.2⟩
def ahO (o g bj:Nat) (S:aZ) (x:ao) (code:Int) (w:w_) (h:cJ w bj o S) (lY:bj<=w.heap.size) (hx:(x,g)∈S.lp) (n0:0<=S.q.next) (n1:S.q.next<=1000000000) (hpc:0<=x.pc/\x.pc < x.prog.length) (hl:x.prog.length<=1048576):
  k_ J3 62 #[p_ (o_ ⟨o,0,n_⟩),p_ (o_ ⟨g,0,n_⟩),i_ j_ code] w fun e w'=>e=r_ (u_ #[])/\cJ w' bj o (S.ju g (pF S.q.next code) (gf S.q.next x.toaD))/\aI w w' [g,o] :=by
 have hgb:w.heap[g]? =o_ (c_ (aX x) 41):=h.L8.box (x,g) hx;have bR:g∈S.lp.map (·.2):=Lr.2 ⟨(x,g),hx,rfl⟩;have hno: ¬ o=g:=fun e=>by
  exact ZbG
 have hgl:bj<=g:=h.L8.low g (LB _ bR);have HC:bE (cJ w bj o S/\(x,g)∈S.lp/\g∈S.lp.map (·.2)/\bj<=g/\bj<=w.heap.size/\ ¬ o=g/\o < w.heap.size):=⟨h,hx,bR,hgl,lY,hno,(J2.1 h.opn).1⟩
 have Mb:=Sj g x code w hgb hpc hl;clear hgb bR hgl h hx lY hpc hl
 go_enter func62,ntmps62
 go_wp2_with fail;refine Mb.mono ?_;clear Mb;rintro e w1 ⟨rfl,CT,hk1⟩;have H1:bE (w1.heap[g]? =o_ (c_ (aX (fE code x)) 41)/\aI w w1 [g] /\fa w1 o S.q):=⟨CT,hk1,(hk1.same o HC.I.2.2.2.2.2.2 (by simpa using HC.I.2.2.2.2.2.1)).trans HC.I.1.opn⟩
 have s3:=(bo CT).2.2.2.1;clear CT hk1;by_cases hlen:x.pc+1=x.prog.length
 .have e1:((fE code x).Md == 1)=false:=by show ((jT code x.toaD).Md == 1)=false; unfold jT; rw [if_pos hlen]; rfl
  have HE:bE (gf S.q.next x.toaD=S.q.next/\pF S.q.next code x=fE code x):=by show _/\_; unfold gf pF fE iY jT; rw [if_pos hlen,if_pos hlen,if_pos hlen]; exact ⟨rfl,rfl⟩
  clear hlen;go_wp2
  go_end0
  have hlt: ∀ b∈S.boxes ++ S.kids,b < w.heap.size:=fun b hb=>HC.I.1.lt b (LB _ hb)
  exact ⟨rfl,HC.I.1.SA (fun y=>⟨(rD _ _ _).1,(rD _ _ _).2,rfl,rfl⟩) (fun p hp hpg=>by have e:=HC.I.1.L8.one hp HC.I.2.1 hpg; subst e; rw [HE.I.2]; exact H1.I.1) HC.I.2.2.1 (by rw [HE.I.1]; exact H1.I.2.2) (fun b hb h5 h6=>H1.I.2.1.same b (hlt b hb) (by simpa using h5)),H1.I.2.1.mono zw⟩
 have e1:((fE code x).Md == 1)=true:=by show ((jT code x.toaD).Md == 1)=true; unfold jT; rw [if_neg hlen]; rfl
 have HE:bE (gf S.q.next x.toaD=S.q.next+1/\pF S.q.next code x= { fE code x with RU:=S.q.next }):=by show _/\_; unfold gf pF fE iY jT; rw [if_neg hlen,if_neg hlen,if_neg hlen]; exact ⟨rfl,rfl⟩
 clear hlen;have Mb:=wE o g S.q.next w1 (H1.I.2.2.cell 1) (Ko _ _ _ _ _ H1.I.2.2) ⟨_,(bo H1.I.1).2.2.2.2.2.2.2.2.2.2.2⟩ (Ko _ _ _ _ _ H1.I.1) hno n0 n1;go_wp2_with fail;refine Mb.mono ?_;clear Mb s3 e1;rintro e w2 ⟨rfl,rfl⟩;have HF:bE (cJ ((w1.setCell ⟨g,11,n_⟩ (i_ j_ S.q.next)).setCell ⟨o,1,n_⟩ (i_ j_ (S.q.next+1))) bj o (S.ju g (pF S.q.next code) (gf S.q.next x.toaD))/\aI w ((w1.setCell ⟨g,11,n_⟩ (i_ j_ S.q.next)).setCell ⟨o,1,n_⟩ (i_ j_ (S.q.next+1))) [g,o]):=by
  have hlt: ∀ b∈S.boxes ++ S.kids,b < w.heap.size:=fun b hb=>HC.I.1.lt b (LB _ hb)
  have hg3:((w1.setCell ⟨g,11,n_⟩ (i_ j_ S.q.next)).setCell ⟨o,1,n_⟩ (i_ j_ (S.q.next+1))).heap[g]? =o_ (c_ (aX ({ fE code x with RU:=S.q.next } :ao)) 41):=(aH (fun e=>HC.I.2.2.2.2.2.1 e.symm:g≠o)).trans (cx (i:=11) (v:=i_ j_ S.q.next) H1.I.1);have Bn:fa ((w1.setCell ⟨g,11,n_⟩ (i_ j_ S.q.next)).setCell ⟨o,1,n_⟩ (i_ j_ (S.q.next+1))) o { S.q with next:=S.q.next+1 } :=by
   have h5:(w1.setCell ⟨g,11,n_⟩ (i_ j_ S.q.next)).heap[o]? =_:=(aH HC.I.2.2.2.2.2.1).trans H1.I.2.2;exact cx (i:=1) (v:=i_ j_ (S.q.next+1)) h5
  exact ⟨HC.I.1.SA (fun y=>⟨(rD _ _ _).1,(rD _ _ _).2,rfl,rfl⟩) (fun p hp hpg=>by have e:=HC.I.1.L8.one hp HC.I.2.1 hpg; subst e; rw [HE.I.2]; exact hg3) HC.I.2.2.1 (by rw [HE.I.1]; exact Bn) (fun b hb h5 h6=>(aH h6).trans ((aH h5).trans (H1.I.2.1.same b (hlt b hb) (by simpa using h5)))),((H1.I.2.1.trans aI.cell).mono zw).trans (aI.cell.mono zw)⟩
 go_wp2
 go_end0
 exact ⟨rfl,HF.I.1,HF.I.2⟩
def Sv (o g bj:Nat) (S:aZ) (x:ao) (code:Int) (w:w_) (h:cJ w bj o S) (lY:bj<=w.heap.size) (hx:(x,g)∈S.lp) (n0:0<=S.q.next) (n1:S.q.next<=1000000000) (hpc:0<=x.pc/\x.pc < x.prog.length) (hl:x.prog.length<=1048576):
  k_ J3 62 #[p_ (o_ ⟨o,0,n_⟩),p_ (o_ ⟨g,0,n_⟩),i_ j_ code] w fun e w'=>e=r_ (u_ #[])/\cJ w' bj o (S.ju g (pF S.q.next code) (gf S.q.next x.toaD))/\B_ bj w w':=
 (ahO o g bj S x code w h lY hx n0 n1 hpc hl).mono fun _ _ h5=>⟨h5.1,h5.2.1,h5.2.2.below lY (by simp only [Kt,Ku,or_false]; rintro b (rfl | rfl) <;> first | exact h.low | exact h.L8.low _ (LB _ (Lr.2 ⟨_,hx,rfl⟩)))⟩
end
section
def nX {p:aE} {x:ci} (h:p.Small) (hr:bK p=true) (hx:(Lit.int j_ x.id).wf=true/\x.Ma.length<=1048576/\ ∀ s∈x.Ma,s.size<=1048576):aE.Small { p with ae:=bY (·.id) x p.ae } :=by
 have h2:=((ch _).1 hr).cb;exact ⟨h.dl,h.fx,h.cD,h.cC,by show (bY (·.id) x p.ae).length<=_; rw [er]; omega,h.dH,h.L8,h.aj,h.L9,h.ag,fun y hy=>(fq.1 hy).elim (fun e=>e ▸ hx) (h.ae y),h.ai⟩
end
section
open Go.Maps
attribute [local go_sem ↓] Kc Kd
def ac8 {w:w_} {bj g n cap off:Nat} {e:T_} {xs vs:List v_} (h:w.ownsRow bj e 1 (s_ (o_ ⟨g,0,n_⟩) n cap) n xs) (ho:n<=off):(bn w g off vs).ownsRow bj e 1 (s_ (o_ ⟨g,0,n_⟩) n cap) n xs:=by
 refine ⟨h.1,?_⟩;rcases h.2 with ⟨h1,-⟩ | ⟨g',cap',cur,h1,h2,h3,h4,h5,h6,h7⟩
 .cases h1
 .simp only [LD,LF,aeS,and_true,true_and] at h1
  obtain ⟨rfl,rfl⟩:=h1;refine .inr ⟨g,cap,iD cur off vs,rfl,h2,jc vs h3,h4,h5,by rw [kM]; exact h6,?_⟩;rw [<- h7];apply List.ext_getElem?;intro j;rw [QW,QW]
  split
  .rw [QJ,QJ,lL _ _ _ _ zo]
  .rfl
def acR {w:w_} {bj g n cap:Nat} {e:T_} {xs:List v_} (h:w.ownsRow bj e 1 (s_ (o_ ⟨g,0,n_⟩) n cap) n xs) {j:Nat} (hj:j < cap):(w.cell? ⟨g,j,n_⟩).isSome=true/\w.frozen? ⟨g,j,n_⟩=false:=by
 rcases h.2 with ⟨h1,-⟩ | ⟨g',cap',cur,h1,h2,h3,h4,h5,h6,h7⟩
 .cases h1
 .simp only [LD,LF,aeS,and_true,true_and] at h1
  obtain ⟨rfl,rfl⟩:=h1
  have:j < cur.size:=zo
  simp [World.cell?,World.frozen?,h3,this]
def adk {w:w_} {bj g n cap:Nat} {e:T_} {xs:List v_} (h:w.ownsRow bj e 1 (s_ (o_ ⟨g,0,n_⟩) n cap) n xs):w.ownsRow bj e 1 (s_ (o_ ⟨g,0,n_⟩) 0 cap) 0 [] :=by
 rcases h.2 with ⟨h1,-⟩ | ⟨g',cap',cur,h1,h2,h3,h4,h5,h6,h7⟩
 .cases h1
 .simp only [LD,LF,aeS,and_true,true_and] at h1
  obtain ⟨rfl,rfl⟩:=h1;exact ⟨rfl,.inr ⟨g,cap,cur,rfl,h2,h3,Ky _,h5,h6,by simp⟩⟩
def acW (a:Option d_) (n cap:Nat) (w:w_) (hn:n<=cap) (hc:cap<=maxLen) (hz:a=n_->n=0/\cap=0):
  k_ J3 189 #[s_ a n cap,i_ j_ 0,i_ j_ 0] w fun e w'=>e=r_ (s_ a n cap)/\w'=w:=by
 unfold maxLen at hc;cases a with
 | none=>
  obtain ⟨rfl,rfl⟩:=hz rfl;clear hz hn hc
  go_enter func189,ntmps189
  go_wp2;go_ret;exact ⟨rfl,rfl⟩
 | some ad=>
  clear hz;have h1:(n:Int)<=(cap:Int):=zo
  have h2:(0:Int)<=(n:Int):=zo
  go_enter func189,ntmps189
  go_wp2;go_ret;exact ⟨rfl,rfl⟩
def ac7 (g cap N bj:Nat) (l:List ByteArray) (w:w_) (h0:0 < N) (hN:N<=l.length) (hl:l.length<=1000) (ho:w.ownsRow bj 9 1 (s_ (o_ ⟨g,0,n_⟩) l.length cap) l.length (bT.flat l)):
  k_ J3 189 #[s_ (o_ ⟨g,0,n_⟩) l.length cap,i_ j_ 0,i_ j_ N] w fun e w'=>e=r_ (s_ (o_ ⟨g,0,n_⟩) (l.length - N) cap)/\w'.ownsRow bj 9 1 (s_ (o_ ⟨g,0,n_⟩) (l.length - N) cap) (l.length - N) (bT.flat (l.drop N))/\aI w w' [g] :=by
 have hcap:l.length<=cap/\cap<=maxLen:=by
  rcases ho.2 with ⟨h1,-⟩ | ⟨g',cap',cur,h1,h2,h3,h4,h5,h6,h7⟩
  .cases h1
  .simp only [LD,LF,aeS,and_true,true_and] at h1
   obtain ⟨rfl,rfl⟩:=h1;exact ⟨h4,h5⟩
 obtain ⟨A,hA,hsrc⟩: ∃ A:d_,(if cap=N then o_ (⟨g,0,n_⟩:d_) else o_ ⟨g,N,n_⟩)=o_ A/\ ∀ j u,(bT.flat (l.drop N))[j]? =o_ u->w.drew.cell? (A.add j)=o_ u:=by
  have h1:=qK (K:=bT) (k:=N) (c:=cap) hcap.1 (nP ho);have e:(if cap=N then o_ (⟨g,0,n_⟩:d_) else Option.map (fun x:d_=>x.add (N * bT.n)) (o_ (⟨g,0,n_⟩:d_)))=(if cap=N then o_ (⟨g,0,n_⟩:d_) else o_ ⟨g,N,n_⟩):=by
   split
   .rfl
   .show o_ ((⟨g,0,n_⟩:d_).add (N * 1))=_
    rw [qZ,Nat.mul_one]
  rw [e] at h1;refine ⟨if cap=N then ⟨g,0,n_⟩ else ⟨g,N,n_⟩,by split <;> rfl,fun j u hu=> ?_⟩;obtain ⟨ad,h2,h3⟩:=h1 j u hu;have h4:(if cap=N then (⟨g,0,n_⟩:d_) else ⟨g,N,n_⟩)=ad:=by
   split at h2 <;> rename_i hh
   .rw [if_pos hh]; exact KC h2
   .rw [if_neg hh]; exact KC h2
  rw [h4];exact h3
 obtain ⟨i,hi,e⟩:=Kw.1 zD;simp only [Kx] at e;have hld:(l.drop N).length=l.length - N:=Ql;obtain ⟨w1,hr1,ho1,CT⟩:=run_append_fits (P:=J3) w.drew bj 94 94 9 i 1 underlying94 hi e.2.1 g 0 cap [] (aL (adk ho) fun _ _=>rfl) A (l.length - N) (cap - N) (bT.flat (l.drop N)) (by rw [bT.dM,hld]; rfl) hsrc yK zo;simp only [Li,List.nil_append] at hr1 ho1;have hcl: ∀ ty,(Builtin.clear_ #[94] ty #[s_ (o_ ⟨g,l.length - N,n_⟩) (l.length - (l.length - N)) (cap - (l.length - N))]).run J3 w1= .ok (u_ #[]) (w1.setCells g (l.length - N) (List.replicate (l.length - (l.length - N)) (t_ ⟨#[]⟩))):=fun ty=>
  Lib.run_clear_slice w1 _ _ ty _ underlying94 Tryz.zeroValue9 rfl rfl g (l.length - N) _ _ zo (fun j hj=>(acR ho1 zo).1) (fun j hj=>(acR ho1 zo).2)
 have HE:bE ((w1.setCells g (l.length - N) (List.replicate (l.length - (l.length - N)) (t_ ⟨#[]⟩))).ownsRow bj 9 1 (s_ (o_ ⟨g,0,n_⟩) (l.length - N) cap) (l.length - N) (bT.flat (l.drop N))/\aI w (w1.setCells g (l.length - N) (List.replicate (l.length - (l.length - N)) (t_ ⟨#[]⟩))) [g]):=by
  rw [iL];refine ⟨ac8 ho1 (Ki _),?_⟩;have h5:aI w w1 [g] :=⟨CT.os,CT.tape,CT.output,CT.size,fun k hk hn=>CT.block k hk fun ee=>hn (by simp at ee; simp [ee])⟩
  exact h5.trans (aI.set _ zw)
 have HR:=aA hr1;have n1:(N:Int)<=(l.length:Int):=zo
 have n2:(l.length:Int)<=(cap:Int):=zo
 have n3:(N:Int)<=(cap:Int):=zo
 have n4: ¬ (0:Int)=(N:Int):=zo
 have n5:(0:Int)<=(N:Int):=zo
 have n6:N<=cap:=zo
 have n7:l.length<=cap:=hcap.1;have n8:(cap:Int)<=9223372036854775807:=by have:=hcap.2; unfold maxLen at this; omega
 have n9: ¬ 0=N:=zo
 clear hsrc ho1 CT ho hr1 e hi hcap hld
 go_enter func189,ntmps189
 go_upto_region 5 with fail;refine Kr (S:=fun _=>True) ZcE trivial (fun _=> ?_);refine tt 0 trivial ?_;refine tt 1 trivial ?_;refine tt 2 trivial ?_;refine tt 3 trivial ?_;refine tt 4 trivial ?_;refine tt 5 trivial ?_
 try simp only [pt,sb,s0,s1]
 refine L7 6 (fun Q hQ=> ?_);refine cM _ _ 94 rfl _ _ _ w1 rfl rfl HR.I ?_;refine hQ.out _ _ trivial (fun _=> ?_);clear hQ Q HR
 try simp only [pt,sb,s0,s1]
 refine tt 7 trivial ?_;refine K3 ZcE ?_ _;have n10:((l.length - N:Nat):Int)<=(l.length:Int):=zo
 have n11:(0:Int)<=((l.length - N:Nat):Int):=zo
 have n12: ¬ cap=l.length - N:=zo
 go_wp2;go_ret;exact ⟨rfl,HE.I⟩
def adJ (a:Option d_) (cap N bj:Nat) (l:List ByteArray) (w:w_) (hN:N<=l.length) (hl:l.length<=1000) (ho:w.ownsRow bj 9 1 (s_ a l.length cap) l.length (bT.flat l)):
  k_ J3 189 #[s_ a l.length cap,i_ j_ 0,i_ j_ N] w fun e w'=>e=r_ (s_ a (l.length - N) cap)/\w'.ownsRow bj 9 1 (s_ a (l.length - N) cap) (l.length - N) (bT.flat (l.drop N))/\aI w w' (blk a):=by
 by_cases h0:N=0
 .subst h0
  have hc:l.length<=cap/\cap<=maxLen/\(a=n_->l.length=0/\cap=0):=by
   rcases ho.2 with ⟨h1,h2⟩ | ⟨g',cap',cur,h1,h2,h3,h4,h5,h6,h7⟩
   .simp only [LD] at h1
    exact ⟨zo,by rw [h1.2.2]; exact Ky _,fun _=>⟨h2,h1.2.2⟩⟩
   .simp only [LD] at h1
    rw [h1.2.2];exact ⟨h4,h5,fun e=>by rw [e] at h1; cases h1.1⟩
  refine (acW a l.length cap w hc.1 hc.2.1 hc.2.2).mono ?_;rintro e w' ⟨rfl,rfl⟩;exact ⟨by rw [Nat.sub_zero],by rw [Nat.sub_zero,List.drop_zero]; exact ho,aI.refl _ _⟩
 .rcases ho.2 with ⟨h1,h2⟩ | ⟨g',cap',cur,h1,h2,h3,h4,h5,h6,h7⟩
  .omega
  .simp only [LD] at h1
   obtain ⟨rfl,-,rfl⟩:=h1;exact (ac7 g' cap N bj l w zo hN hl ho).mono fun e w' h=>⟨h.1,h.2.1,h.2.2.mono fun b hb=>by simpa [blk] using hb⟩
end
section
def yN {p:aE} {x:bD} (h:p.Small) (hr:bK p=true) (hx:(Lit.int j_ x.id).wf=true):aE.Small { p with aj:=cA (·.id) x p.aj } :=by
 have h2:=((ch _).1 hr).fx;exact ⟨h.dl,by show (cA (·.id) x p.aj).length<=_; rw [eJ]; omega,h.cD,h.cC,h.cb,h.dH,h.L8,fun y hy=>(js.1 hy).elim (fun e=>e ▸ hx) (h.aj y),h.L9,h.ag,h.ae,h.ai⟩
def pU {p:aE} {x:dS} (h:p.Small) (hr:bK p=true) (hx:(Lit.int j_ x.id).wf=true/\x.Ma.length<=1048576/\ ∀ s∈x.Ma,s.size<=1048576):aE.Small { p with ai:=bY (·.id) x p.ai } :=by
 have h2:=((ch _).1 hr).dH;exact ⟨h.dl,h.fx,h.cD,h.cC,h.cb,by show (bY (·.id) x p.ai).length<=_; rw [er]; omega,h.L8,h.aj,h.L9,h.ag,h.ae,fun y hy=>(fq.1 hy).elim (fun e=>e ▸ hx) (h.ai y)⟩
end
end Go.Proofs.YtfncpmaefninjaaGreatDoor
