/- What the proof leans on, part 14. -/
import Derived.Test.YtckenjkcmajicaaGreatOwnG11
import Derived.Test.YtckenjkcmajicaaGreatOwnG12
import Derived.Test.YtckenjkcmajicaaGreatOwnG13
set_option linter.all false
set_option maxRecDepth 100000
set_option maxHeartbeats 8000000
open Go.Proofs.Tryz
open Go renaming World->w_,Value->v_,Calls->k_,Addr->d_,TypeId->T_,below_setRow->q_
open Go.Ending renaming returned->r_
open Go.IntKind renaming i64->j_
open Go.Obj renaming cells->c_
open Go.RowKit renaming Below->B_,Hid->da
open Go.Value renaming int->i_,slice->s_,bool->b_,string->t_,agg->a_,pointer->p_,tuple->u_
open Option renaming some->o_,none->n_
open Function renaming comp_def->Ls
open Go renaming wp_at_succ->Kd,wp_at_zero->Kc
open Go.Proofs.Tryz renaming prog->J3
open List renaming cons_append->Qw,filterMap_cons->LH,getElem_cons_succ->K1,getElem_cons_zero->K0,getElem_toArray->KZ,length_cons->Lg,length_nil->K4,nil_append->Ll,set_cons_succ->Lo,set_cons_zero->Ln
open Option renaming map_some->J9

open Go.RowKit
namespace Go.Proofs.YtckenjkcmajicaaGreat
section
open Go.Maps
attribute [local go_sem ↓] Kc Kd
def Dv {VO VS VV r1 r2 r3 r4 r5 r6:List Nat}{N n1 n2 n3 n4 n5 n6:Nat}(hk:(VO++(VS++VV)).Nodup)(hkl:∀g∈VO++(VS++VV),g<N)(h1:nU N n1 r1)(h2:nU n1 n2 r2)(h3:nU n2 n3 r3)(h4:nU n3 n4 r4)(h5:nU n4 n5 r5)(h6:nU n5 n6 r6)
  (e:N<=n1/\n1<=n2/\n2<=n3/\n3<=n4/\n4<=n5/\n5<=n6):(r1++(VO++(r2++(r3++(r4++(r5++(VS++(r6++VV)))))))).Nodup:=by
 have hp:(r1++(VO++(r2++(r3++(r4++(r5++(VS++(r6++VV)))))))).Perm ((VO++(VS++VV))++(r1++(r2++(r3++(r4++(r5++r6)))))):=by
  rw[List.perm_iff_count];intro x;simp only[List.count_append];omega
 rw[hp.nodup_iff,Kf];have hr:nU N n6 (r1++(r2++(r3++(r4++(r5++r6))))):=h1.append (h2.append (h3.append (h4.append (h5.append h6 zw zw zw) zw zw zw) zw zw zw) zw zw zw) zw zw zw;refine⟨hk,hr.1,λa ha b hb e=>?_⟩
 have:=hkl a ha
 have:=(hr.2 b hb).1
 omega
def px {w:w_}{bj n size cap:Nat}{e:T_}{a:Option d_}{xs:List v_}(h:w.ownsRow bj e size (s_ a n cap) n xs):nU bj w.heap.size (blk a):=⟨fN a,λ_ hg=>cf h hg⟩
structure aZ.Fits (S:aZ):Prop where
 dl:S.lp.length<=1048576
 Jl:∀p∈RW (λx:ao=>x.id) S.lp,(Lit.int j_ p.1).wf=true
 fx:S.ls.length<=1048576
 adG:∀p∈RW (λx:bD=>x.id) S.ls,(Lit.int j_ p.1).wf=true
 cD:S.le.length<=1048576
 G4:∀p∈RW (λx:aB=>x.id) S.le,(Lit.int j_ p.1).wf=true
 cC:S.lb.length<=1048576
 FP:∀p∈RW (λx:az=>x.id) S.lb,(Lit.int j_ p.1).wf=true
 cb:S.lf.length<=1048576
 DW:∀p∈RW (λx:au=>x.id) S.lf,(Lit.int j_ p.1).wf=true
 dH:S.lq.length<=1048576
 Jz:∀p∈RW (λx:aM=>x.id) S.lq,(Lit.int j_ p.1).wf=true
abbrev GR (o:Nat)(S:aZ)(w':w_):Prop:=w'.cell? ⟨o,0,n_⟩=o_ (i_ j_ S.q.id)/\w'.cell? ⟨o,1,n_⟩=o_ (i_ j_ S.q.next)/\w'.cell? ⟨o,2,n_⟩=o_ (i_ j_ 6)/\w'.cell? ⟨o,3,n_⟩=o_ (.map (o_ S.q.bp))/\w'.cell? ⟨o,4,n_⟩=o_ (i_ j_ 5)/\w'.cell? ⟨o,5,n_⟩=o_ (.map (o_ S.q.bs))/\w'.cell? ⟨o,6,n_⟩=o_ (i_ j_ 5)/\w'.cell? ⟨o,7,n_⟩=o_ (.map (o_ S.q.be))/\w'.cell? ⟨o,8,n_⟩=o_ (i_ j_ 5)/\w'.cell? ⟨o,9,n_⟩=o_ (.map (o_ S.q.bb))/\w'.cell? ⟨o,10,n_⟩=o_ (i_ j_ 5)/\w'.cell? ⟨o,11,n_⟩=o_ (.map (o_ S.q.bf))/\w'.cell? ⟨o,12,n_⟩=o_ (i_ j_ 5)/\w'.cell? ⟨o,13,n_⟩=o_ (.map (o_ S.q.bq))
def kP {o:Nat}{S:aZ}{w:w_}(h:fa w o S.q):GR o S w:=⟨h.cell 0,h.cell 1,h.cell 2,h.cell 3,h.cell 4,h.cell 5,h.cell 6,h.cell 7,h.cell 8,h.cell 9,h.cell 10,h.cell 11,h.cell 12,h.cell 13⟩
def Hc (w:w_)(bj:Nat)(v:aE)(e:Ending)(w':w_):Prop:=∃r:af,e=r_ (a_ r.cells)/\ap w' bj r/\r.pure=v/\B_ w.heap.size w w'
def aaM (w:w_)(bj:Nat)(S:aZ)(e:Ending)(w':w_):Prop:=∃r:af,e=r_ (a_ r.cells)/\ap w' bj r/\r.pure=S.pure/\B_ w.heap.size w w'/\∀g∈r.Mc,g∈S.kids\/w.heap.size<=g
def ZZ (o bj:Nat)(S:aZ)(w:w_)(h:cJ w bj o S)(hf:S.Fits):k_ J3 27 #[p_ (o_ ⟨o,0,n_⟩)] w λe w'=>aaM w bj S e w':=by
 have hb0:B_ w.heap.size w (w.alloc (c_ ar 46)):=(Kp _ _).alloc (Ki _) _;have HZ:da (cJ w bj o S/\S.Fits/\B_ w.heap.size w (w.alloc (c_ ar 46)).drew/\(w.alloc (c_ ar 46)).drew.heap[w.heap.size]? =o_ (c_ ar 46)/\w.heap.size<(w.alloc (c_ ar 46)).drew.heap.size):=⟨h,hf,hb0.drew,Kj _ _,zy⟩
 have HS:da (GR o S (w.alloc (c_ ar 46)).drew):=kP (h.opn.below hb0.drew);clear h hf hb0
 go_enter func27,ntmps27
 go_wp2_with fail;generalize w.alloc (c_ ar 46)=W at*;refine Kr (S:=GR o S) ZbG HS.I (λbN=>?_);refine tt 0 bN ?_;refine tt 1 bN ?_;refine tt 2 bN ?_;refine tt 3 bN ?_;refine tt 4 bN ?_;refine tt 5 bN ?_;refine tt 6 bN ?_;refine tt 7 bN ?_;refine tt 8 bN ?_;refine tt 9 bN ?_;refine tt 10 bN ?_;refine tt 11 bN ?_;refine tt 13 bN ?_;refine tt 14 bN ?_;refine tt 15 bN ?_;refine tt 16 bN ?_;refine tt 18 bN ?_;refine tt 19 bN ?_;refine tt 20 bN ?_;refine tt 21 bN ?_;refine tt 23 bN ?_;refine tt 24 bN ?_;refine tt 25 bN ?_;refine tt 26 bN ?_;refine tt 28 bN ?_;refine tt 29 bN ?_;refine tt 30 bN ?_;refine tt 31 bN ?_;refine tt 33 bN ?_;refine tt 34 bN ?_;refine tt 35 bN ?_;refine tt 36 bN ?_;clear HS;generalize hWd:W.drew=W0 at*;clear hWd;refine L7 12 (λK hK=>?_);go_wp2_with fail;refine(zj 6 bj S.q.bp S.lp W0 (HZ.I.1.L8.below HZ.I.2.2.1) HZ.I.2.1.dl HZ.I.2.1.Jl).mono ?_;rintro e W1 ⟨a1,c1,rfl,hown,hb⟩;have wm:da (nU W0.heap.size W1.heap.size (blk a1)/\W0.heap.size<=W1.heap.size):=⟨px hown,hb.size⟩
 have HY:da (W1.ownsRow W0.heap.size 125 12 (s_ a1 (S.lp.map (·.1)).length c1) (S.lp.map (·.1)).length (bg.flat (S.lp.map (·.1)))/\W0.heap.size<=W1.heap.size):=⟨hown,hb.size⟩
 have HR:=HY;clear HY;have iP:da (cJ w bj o S/\S.Fits/\B_ w.heap.size w W1/\W1.heap[w.heap.size]? =o_ (c_ ar 46)/\w.heap.size<W0.heap.size):=⟨HZ.I.1,HZ.I.2.1,HZ.I.2.2.1.trans (hb.mono HZ.I.2.2.1.size),(hb.block _ (J2.1 HZ.I.2.2.2.1).1).trans HZ.I.2.2.2.1,HZ.I.2.2.2.2⟩
 clear HZ hown hb;have HZ:=iP;clear iP bN;refine hK.out _ _ (kP (HZ.I.1.opn.below HZ.I.2.2.1)) (λbN=>?_);clear hK K
 try simp only[KZ,K0,K1,Act.put,Qr,Ln,Lo]
 refine L7 17 (λK hK=>?_);go_wp2_with fail;refine(AN 5 bj S.q.bs S.ls W1 (HZ.I.1.aj.below HZ.I.2.2.1) HZ.I.2.1.fx HZ.I.2.1.adG).mono ?_;rintro e W2 ⟨a2,c2,rfl,hown,hb⟩;have xD:da (nU W1.heap.size W2.heap.size (blk a2)/\W1.heap.size<=W2.heap.size):=⟨px hown,hb.size⟩
 have HY:da (W2.ownsRow W0.heap.size 125 12 (s_ a1 (S.lp.map (·.1)).length c1) (S.lp.map (·.1)).length (bg.flat (S.lp.map (·.1)))/\W2.ownsRow W1.heap.size 128 3 (s_ a2 (S.ls.map (·.1)).length c2) (S.ls.map (·.1)).length (dm.flat (S.ls.map (·.1)))/\W0.heap.size<=W1.heap.size/\W1.heap.size<=W2.heap.size):=⟨cR HR.I.1 hb,hown,HR.I.2,hb.size⟩
 clear HR;have HR:=HY;clear HY;have iP:da (cJ w bj o S/\S.Fits/\B_ w.heap.size w W2/\W2.heap[w.heap.size]? =o_ (c_ ar 46)/\w.heap.size<W0.heap.size):=⟨HZ.I.1,HZ.I.2.1,HZ.I.2.2.1.trans (hb.mono HZ.I.2.2.1.size),(hb.block _ (J2.1 HZ.I.2.2.2.1).1).trans HZ.I.2.2.2.1,HZ.I.2.2.2.2⟩
 clear HZ hown hb;have HZ:=iP;clear iP bN;refine hK.out _ _ (kP (HZ.I.1.opn.below HZ.I.2.2.1)) (λbN=>?_);clear hK K
 try simp only[KZ,K0,K1,Act.put,Qr,Ln,Lo]
 refine L7 22 (λK hK=>?_);go_wp2_with fail;refine(wN 5 bj S.q.be S.le W2 (HZ.I.1.L9.below HZ.I.2.2.1) HZ.I.2.1.cD HZ.I.2.1.G4).mono ?_;rintro e W3 ⟨a3,c3,rfl,hown,hb⟩;have Fz:da (nU W2.heap.size W3.heap.size (blk a3)/\W2.heap.size<=W3.heap.size):=⟨px hown,hb.size⟩
 have HY:da (W3.ownsRow W0.heap.size 125 12 (s_ a1 (S.lp.map (·.1)).length c1) (S.lp.map (·.1)).length (bg.flat (S.lp.map (·.1)))/\W3.ownsRow W1.heap.size 128 3 (s_ a2 (S.ls.map (·.1)).length c2) (S.ls.map (·.1)).length (dm.flat (S.ls.map (·.1)))/\W3.ownsRow W2.heap.size 131 2 (s_ a3 (S.le.map (·.1)).length c3) (S.le.map (·.1)).length (bJ.flat (S.le.map (·.1)))/\W0.heap.size<=W1.heap.size/\W1.heap.size<=W2.heap.size/\W2.heap.size<=W3.heap.size):=⟨cR HR.I.1 hb,cR HR.I.2.1 hb,hown,HR.I.2.2.1,HR.I.2.2.2,hb.size⟩
 clear HR;have HR:=HY;clear HY;have iP:da (cJ w bj o S/\S.Fits/\B_ w.heap.size w W3/\W3.heap[w.heap.size]? =o_ (c_ ar 46)/\w.heap.size<W0.heap.size):=⟨HZ.I.1,HZ.I.2.1,HZ.I.2.2.1.trans (hb.mono HZ.I.2.2.1.size),(hb.block _ (J2.1 HZ.I.2.2.2.1).1).trans HZ.I.2.2.2.1,HZ.I.2.2.2.2⟩
 clear HZ hown hb;have HZ:=iP;clear iP bN;refine hK.out _ _ (kP (HZ.I.1.opn.below HZ.I.2.2.1)) (λbN=>?_);clear hK K
 try simp only[KZ,K0,K1,Act.put,Qr,Ln,Lo]
 refine L7 27 (λK hK=>?_);go_wp2_with fail;refine(wC 5 bj S.q.bb S.lb W3 (HZ.I.1.ag.below HZ.I.2.2.1) HZ.I.2.1.cC HZ.I.2.1.FP).mono ?_;rintro e W4 ⟨a4,c4,rfl,hown,hb⟩;have FA:da (nU W3.heap.size W4.heap.size (blk a4)/\W3.heap.size<=W4.heap.size):=⟨px hown,hb.size⟩
 have HY:da (W4.ownsRow W0.heap.size 125 12 (s_ a1 (S.lp.map (·.1)).length c1) (S.lp.map (·.1)).length (bg.flat (S.lp.map (·.1)))/\W4.ownsRow W1.heap.size 128 3 (s_ a2 (S.ls.map (·.1)).length c2) (S.ls.map (·.1)).length (dm.flat (S.ls.map (·.1)))/\W4.ownsRow W2.heap.size 131 2 (s_ a3 (S.le.map (·.1)).length c3) (S.le.map (·.1)).length (bJ.flat (S.le.map (·.1)))/\W4.ownsRow W3.heap.size 134 3 (s_ a4 (S.lb.map (·.1)).length c4) (S.lb.map (·.1)).length (bG.flat (S.lb.map (·.1)))/\W0.heap.size<=W1.heap.size/\W1.heap.size<=W2.heap.size/\W2.heap.size<=W3.heap.size/\W3.heap.size<=W4.heap.size):=⟨cR HR.I.1 hb,cR HR.I.2.1 hb,cR HR.I.2.2.1 hb,hown,HR.I.2.2.2.1,HR.I.2.2.2.2.1,HR.I.2.2.2.2.2,hb.size⟩
 clear HR;have HR:=HY;clear HY;have iP:da (cJ w bj o S/\S.Fits/\B_ w.heap.size w W4/\W4.heap[w.heap.size]? =o_ (c_ ar 46)/\w.heap.size<W0.heap.size):=⟨HZ.I.1,HZ.I.2.1,HZ.I.2.2.1.trans (hb.mono HZ.I.2.2.1.size),(hb.block _ (J2.1 HZ.I.2.2.2.1).1).trans HZ.I.2.2.2.1,HZ.I.2.2.2.2⟩
 clear HZ hown hb;have HZ:=iP;clear iP bN;refine hK.out _ _ (kP (HZ.I.1.opn.below HZ.I.2.2.1)) (λbN=>?_);clear hK K
 try simp only[KZ,K0,K1,Act.put,Qr,Ln,Lo]
 refine L7 32 (λK hK=>?_);go_wp2_with fail;refine(uk 5 bj S.q.bf S.lf W4 (HZ.I.1.ae.below HZ.I.2.2.1) HZ.I.2.1.cb HZ.I.2.1.DW).mono ?_;rintro e W5 ⟨a5,c5,rfl,hown,hb⟩;have Ik:da (nU W4.heap.size W5.heap.size (blk a5)/\W4.heap.size<=W5.heap.size):=⟨px hown,hb.size⟩
 have HY:da (W5.ownsRow W0.heap.size 125 12 (s_ a1 (S.lp.map (·.1)).length c1) (S.lp.map (·.1)).length (bg.flat (S.lp.map (·.1)))/\W5.ownsRow W1.heap.size 128 3 (s_ a2 (S.ls.map (·.1)).length c2) (S.ls.map (·.1)).length (dm.flat (S.ls.map (·.1)))/\W5.ownsRow W2.heap.size 131 2 (s_ a3 (S.le.map (·.1)).length c3) (S.le.map (·.1)).length (bJ.flat (S.le.map (·.1)))/\W5.ownsRow W3.heap.size 134 3 (s_ a4 (S.lb.map (·.1)).length c4) (S.lb.map (·.1)).length (bG.flat (S.lb.map (·.1)))/\W5.ownsRow W4.heap.size 137 3 (s_ a5 (S.lf.map (·.1)).length c5) (S.lf.map (·.1)).length (bm.flat (S.lf.map (·.1)))/\W0.heap.size<=W1.heap.size/\W1.heap.size<=W2.heap.size/\W2.heap.size<=W3.heap.size/\W3.heap.size<=W4.heap.size/\W4.heap.size<=W5.heap.size):=⟨cR HR.I.1 hb,cR HR.I.2.1 hb,cR HR.I.2.2.1 hb,cR HR.I.2.2.2.1 hb,hown,HR.I.2.2.2.2.1,HR.I.2.2.2.2.2.1,HR.I.2.2.2.2.2.2.1,HR.I.2.2.2.2.2.2.2,hb.size⟩
 clear HR;have HR:=HY;clear HY;have iP:da (cJ w bj o S/\S.Fits/\B_ w.heap.size w W5/\W5.heap[w.heap.size]? =o_ (c_ ar 46)/\w.heap.size<W0.heap.size):=⟨HZ.I.1,HZ.I.2.1,HZ.I.2.2.1.trans (hb.mono HZ.I.2.2.1.size),(hb.block _ (J2.1 HZ.I.2.2.2.1).1).trans HZ.I.2.2.2.1,HZ.I.2.2.2.2⟩
 clear HZ hown hb;have HZ:=iP;clear iP bN;refine hK.out _ _ (kP (HZ.I.1.opn.below HZ.I.2.2.1)) (λbN=>?_);clear hK K
 try simp only[KZ,K0,K1,Act.put,Qr,Ln,Lo]
 refine L7 37 (λK hK=>?_);go_wp2_with fail;refine(zf 5 bj S.q.bq S.lq W5 (HZ.I.1.ai.below HZ.I.2.2.1) HZ.I.2.1.dH HZ.I.2.1.Jz).mono ?_;rintro e W6 ⟨a6,c6,rfl,hown,hb⟩;have Jw:da (nU W5.heap.size W6.heap.size (blk a6)/\W5.heap.size<=W6.heap.size):=⟨px hown,hb.size⟩
 have HY:da (W6.ownsRow W0.heap.size 125 12 (s_ a1 (S.lp.map (·.1)).length c1) (S.lp.map (·.1)).length (bg.flat (S.lp.map (·.1)))/\W6.ownsRow W1.heap.size 128 3 (s_ a2 (S.ls.map (·.1)).length c2) (S.ls.map (·.1)).length (dm.flat (S.ls.map (·.1)))/\W6.ownsRow W2.heap.size 131 2 (s_ a3 (S.le.map (·.1)).length c3) (S.le.map (·.1)).length (bJ.flat (S.le.map (·.1)))/\W6.ownsRow W3.heap.size 134 3 (s_ a4 (S.lb.map (·.1)).length c4) (S.lb.map (·.1)).length (bG.flat (S.lb.map (·.1)))/\W6.ownsRow W4.heap.size 137 3 (s_ a5 (S.lf.map (·.1)).length c5) (S.lf.map (·.1)).length (bm.flat (S.lf.map (·.1)))/\W6.ownsRow W5.heap.size 51 5 (s_ a6 (S.lq.map (·.1)).length c6) (S.lq.map (·.1)).length (bX.flat (S.lq.map (·.1)))/\W0.heap.size<=W1.heap.size/\W1.heap.size<=W2.heap.size/\W2.heap.size<=W3.heap.size/\W3.heap.size<=W4.heap.size/\W4.heap.size<=W5.heap.size/\W5.heap.size<=W6.heap.size):=⟨cR HR.I.1 hb,cR HR.I.2.1 hb,cR HR.I.2.2.1 hb,cR HR.I.2.2.2.1 hb,cR HR.I.2.2.2.2.1 hb,hown,HR.I.2.2.2.2.2.1,HR.I.2.2.2.2.2.2.1,HR.I.2.2.2.2.2.2.2.1,HR.I.2.2.2.2.2.2.2.2.1,HR.I.2.2.2.2.2.2.2.2.2,hb.size⟩
 clear HR;have HR:=HY;clear HY;have iP:da (cJ w bj o S/\S.Fits/\B_ w.heap.size w W6/\W6.heap[w.heap.size]? =o_ (c_ ar 46)/\w.heap.size<W0.heap.size):=⟨HZ.I.1,HZ.I.2.1,HZ.I.2.2.1.trans (hb.mono HZ.I.2.2.1.size),(hb.block _ (J2.1 HZ.I.2.2.2.1).1).trans HZ.I.2.2.2.1,HZ.I.2.2.2.2⟩
 clear HZ hown hb;have HZ:=iP;clear iP bN;refine hK.out _ _ (kP (HZ.I.1.opn.below HZ.I.2.2.1)) (λbN=>?_);clear hK K
 try simp only[KZ,K0,K1,Act.put,Qr,Ln,Lo]
 refine wpAnyH_take (i:=38) (v:=a_ #[i_ j_ S.q.id,i_ j_ S.q.next,s_ a1 S.lp.length c1,s_ a2 S.ls.length c2,s_ a3 S.le.length c3,s_ a4 S.lb.length c4,s_ a5 S.lf.length c5,s_ a6 S.lq.length c6]) rfl ZbG ZbG ZbG (λ_ _ _ h=>h) (Or.inl ⟨ZbG,?_⟩) bN ?_
 .intro w0 hS0
  exact x_
 simp only[KZ,K0,K1,Act.put,Qr,Ln,Lo];refine L7 39 (λK hK=>?_);refine qd _ _ _ rfl w.heap.size _ _ #[i_ j_ S.q.id,i_ j_ S.q.next,s_ a1 S.lp.length c1,s_ a2 S.ls.length c2,s_ a3 S.le.length c3,s_ a4 S.lb.length c4,s_ a5 S.lf.length c5,s_ a6 S.lq.length c6] rfl rfl HZ.I.2.2.2.1 ZbG rfl Zcw ?_;have p7:o<w.heap.size:=(J2.1 HZ.I.1.opn).1;have hbs:B_ w.heap.size w (W6.setRow w.heap.size #[i_ j_ S.q.id,i_ j_ S.q.next,s_ a1 S.lp.length c1,s_ a2 S.ls.length c2,s_ a3 S.le.length c3,s_ a4 S.lb.length c4,s_ a5 S.lf.length c5,s_ a6 S.lq.length c6]):=q_ HZ.I.2.2.1 (Ki _) _;refine hK.out _ _ (kP (HZ.I.1.opn.below hbs)) (λbN=>?_);clear hK K bN;refine K3 ZbG ?_ _
 repeat (first|go_values|go_skip|go_guarded|go_step|go_upon)
 refine gZ results27 HZ.I.2.2.2.1 ?_;have hA:=HZ.I.1;have kj:=HZ.I.2.2.1;have hlo:=hA.low;have hw0:=HZ.I.2.2.2.2;have t1:=wm.I.2;have t2:=xD.I.2;have t3:=Fz.I.2;have t4:=FA.I.2;have t5:=Ik.I.2;have t6:=Jw.I.2;have hmP:∀q∈S.lp,aR.cO W6 bj q.1:=λq hq=>(hA.eI q hq).same λg hk=>kj.block g ((hA.eI q hq).lt hk).2
 have hmF:∀q∈S.lf,aC.cO W6 bj q.1:=λq hq=>(hA.eE q hq).same λg hk=>kj.block g ((hA.eE q hq).lt hk).2
 have hmQ:∀q∈S.lq,aU.cO W6 bj q.1:=λq hq=>(hA.eR q hq).same λg hk=>kj.block g ((hA.eR q hq).lt hk).2
 have hkn:S.kids.Nodup:=(Kf.1 (Lp.1 hA.nodup).2).2.1;have hkl:∀g∈S.kids,g<w.heap.size:=λg hg=>by
  simp only[aZ.kids,Kg,kids,Lq]at hg;rcases hg with⟨q,hq,hk⟩|⟨q,hq,hk⟩|⟨q,hq,hk⟩
  .exact ((hA.eI q hq).lt hk).2
  .exact ((hA.eE q hq).lt hk).2
  .exact ((hA.eR q hq).lt hk).2
 have VU:(S.lp.map (·.1)).filterMap aR.bt=kids aR S.lp:=ZeH
 have eF:(S.lf.map (·.1)).filterMap aC.bt=kids aC S.lf:=ZeH
 have eQ:(S.lq.map (·.1)).filterMap aU.bt=kids aU S.lq:=ZeH
 have hown:ap W6 bj (⟨S.q.id,S.q.next,S.lp.map (·.1),a1,c1,S.ls.map (·.1),a2,c2,S.le.map (·.1),a3,c3,S.lb.map (·.1),a4,c4,S.lf.map (·.1),a5,c5,S.lq.map (·.1),a6,c6⟩:af):=by
  refine⟨cq HR.I.1 zw,cq HR.I.2.1 zw,cq HR.I.2.2.1 zw,cq HR.I.2.2.2.1 zw,cq HR.I.2.2.2.2.1 zw,cq HR.I.2.2.2.2.2.1 zw,?_,?_,?_,?_⟩
  .intro x hx
   obtain⟨q,hq,rfl⟩:=Lr.1 hx;exact hmP q hq
  .intro x hx
   obtain⟨q,hq,rfl⟩:=Lr.1 hx;exact hmF q hq
  .intro x hx
   obtain⟨q,hq,rfl⟩:=Lr.1 hx;exact hmQ q hq
  .simp only[af.Mc,VU,eF,eQ]
   exact Dv (N:=W0.heap.size) hkn (λg hg=>by have:=hkl g hg;omega) wm.I.1 xD.I.1 Fz.I.1 FA.I.1 Ik.I.1 Jw.I.1 ⟨t1,t2,t3,t4,t5,t6⟩
 have hnk:∀g∈(⟨S.q.id,S.q.next,S.lp.map (·.1),a1,c1,S.ls.map (·.1),a2,c2,S.le.map (·.1),a3,c3,S.lb.map (·.1),a4,c4,S.lf.map (·.1),a5,c5,S.lq.map (·.1),a6,c6⟩:af).Mc,g∈S.kids\/w.heap.size<g:=λg hg=>by
  simp only[af.Mc,VU,eF,eQ,Kg]at hg;have hk:∀g,(g∈kids aR S.lp\/g∈kids aC S.lf\/g∈kids aU S.lq)->g∈S.kids:=λg h5=>by simp only[aZ.kids,Kg];exact h5
  rcases hg with hg|hg|hg|hg|hg|hg|hg|hg|hg
  .exact .inr (by have:=(wm.I.1.2 g hg).1;omega)
  .exact .inl (hk g (.inl hg))
  .exact .inr (by have:=(xD.I.1.2 g hg).1;omega)
  .exact .inr (by have:=(Fz.I.1.2 g hg).1;omega)
  .exact .inr (by have:=(FA.I.1.2 g hg).1;omega)
  .exact .inr (by have:=(Ik.I.1.2 g hg).1;omega)
  .exact .inl (hk g (.inr (.inl hg)))
  .exact .inr (by have:=(Jw.I.1.2 g hg).1;omega)
  .exact .inl (hk g (.inr (.inr hg)))
 have hne:∀g∈(⟨S.q.id,S.q.next,S.lp.map (·.1),a1,c1,S.ls.map (·.1),a2,c2,S.le.map (·.1),a3,c3,S.lb.map (·.1),a4,c4,S.lf.map (·.1),a5,c5,S.lq.map (·.1),a6,c6⟩:af).Mc,g≠w.heap.size:=λg hg e=>by
  rcases hnk g hg with h5|h5
  .have:=hkl g h5;omega
  .omega
 exact⟨(⟨S.q.id,S.q.next,S.lp.map (·.1),a1,c1,S.ls.map (·.1),a2,c2,S.le.map (·.1),a3,c3,S.lb.map (·.1),a4,c4,S.lf.map (·.1),a5,c5,S.lq.map (·.1),a6,c6⟩:af),by simp[af.cells],hown.same λg hg=>KH _ _ _ _ (hne g hg),by simp[af.pure,aZ.pure,Ls],hbs,λg hg=>(hnk g hg).imp_right aew⟩
def jR (o bj:Nat)(S:aZ)(w:w_)(h:cJ w bj o S)(hf:S.Fits):k_ J3 27 #[p_ (o_ ⟨o,0,n_⟩)] w λe w'=>Hc w bj S.pure e w':=
 (ZZ o bj S w h hf).mono λ_ _⟨r,h1,h2,h3,h4,_⟩=>⟨r,h1,h2,h3,h4⟩
end
section
open Go.Maps
def aZ.ju (S:aZ)(g:Nat)(f:ao->ao)(nx:Int):aZ:={S with q:={S.q with next:=nx},lp:=sU g f S.lp}
def GW {g:Nat}{f:ao->ao}(hf:∀x,aR.bt (f x)=aR.bt x)(l:List (ao×Nat)):kids aR (sU g f l)=kids aR l:=by
 induction l with
 |nil=>rfl
 |cons p r ih=>
  have e:(sU g f (p::r))=(if p.2=g then(f p.1,p.2)else p)::sU g f r:=rfl;simp only[kids,LH]at ih⊢;rw[e];simp only[LH];by_cases h:p.2=g
  .simp only[h,if_true,hf]
   rw[ih]
  .simp only[h,if_false]
   rw[ih]
def cJ.ju {w w':w_}{bj o g:Nat}{S:aZ}{f:ao->ao}{nx:Int}(h:cJ w bj o S)(hf:∀x,(f x).id=x.id/\(f x).prog=x.prog/\(f x).aY=x.aY/\(f x).bH=x.bH)
  (hc:∀p∈S.lp,p.2=g->w'.heap[g]? =o_ (c_ (aX (f p.1)) 125))(hg:g∈S.lp.map (·.2))(ho:fa w' o {S.q with next:=nx})(hs:∀b,b≠g->b≠o->w'.heap[b]? =w.heap[b]?):cJ w' bj o (S.ju g f nx):=by
 have iH:∀x,aR.bt (f x)=aR.bt x:=λx=>by show(f x).aY.map (·.block)=x.aY.map (·.block);rw[(hf x).2.2.1]
 have hn:=h.nodup;have hno:=(Lp.1 hn).1;have yD:=(Kf.1 (Lp.1 hn).2)
 have jQ:=yD.1;unfold aZ.boxes at jQ;have hin:∀b,b∈S.boxes\/b∈S.kids->b≠o:=λb hb e=>hno (by rw[<-e];exact Kg.2 hb)
 have hp:=Kf.1 jQ;have l9:g∈S.q.bp::S.lp.map (·.2):=LB _ hg;have hgr:∀b,b∈((S.q.bs::S.ls.map (·.2))++((S.q.be::S.le.map (·.2))++((S.q.bb::S.lb.map (·.2))++((S.q.bf::S.lf.map (·.2))++(S.q.bq::S.lq.map (·.2))))))->b≠g:=λb hb e=>hp.2.2 g l9 b hb e.symm
 have EI:∀b∈S.kids,b≠g:=λb hb e=>yD.2.2 g (by unfold aZ.boxes;exact Lz _ l9) b hb e.symm
 have hbp:S.q.bp≠g:=λe=>by
  have:=(Lp.1 hp.1).1
  rw[e]at this;exact this hg
 have lW:∀b,b∈(S.q.bp::S.lp.map (·.2))->b≠o:=λb hb=>hin b (.inl (by unfold aZ.boxes;exact Lz _ hb))
 have hbr:∀b,b∈((S.q.bs::S.ls.map (·.2))++((S.q.be::S.le.map (·.2))++((S.q.bb::S.lb.map (·.2))++((S.q.bf::S.lf.map (·.2))++(S.q.bq::S.lq.map (·.2))))))->w'.heap[b]? =w.heap[b]?:=λb hb=>hs b (hgr b hb) (hin b (.inl (by unfold aZ.boxes;exact Ly _ hb)))
 have hkk:∀b∈S.kids,w'.heap[b]? =w.heap[b]?:=λb hb=>hs b (EI b hb) (hin b (.inr hb))
 have hmem:∀(b:Nat),(b∈kids aR S.lp\/b∈kids aC S.lf\/b∈kids aU S.lq)->b∈S.kids:=λb hb=>by simp only[aZ.kids,Kg];exact hb
 refine⟨ho,h.L8.sU (λp _ _=>(hf p.1).1) hc (hs _ hbp (lW _ zy)) (λb hb hne=>hs b hne (lW b (LB _ hb))),h.aj.same λb hb=>hbr b (Lz _ hb),h.L9.same λb hb=>hbr b (Ly _ (Lz _ hb)),h.ag.same λb hb=>hbr b (Ly _ (Ly _ (Lz _ hb))),h.ae.same λb hb=>hbr b (Ly _ (Ly _ (Ly _ (Lz _ hb)))),h.ai.same λb hb=>hbr b (Ly _ (Ly _ (Ly _ (Ly _ hb)))),λp hp'=>?_,λp hp'=>(h.eE p hp').same λb hb=>hkk b (hmem b (.inr (.inl (Lq.2 ⟨p,hp',hb⟩)))),λp hp'=>(h.eR p hp').same λb hb=>hkk b (hmem b (.inr (.inr (Lq.2 ⟨p,hp',hb⟩)))),?_,h.low⟩
 .obtain ⟨r,hr,rfl⟩:=yy.1 hp'
  have hm:aR.cO w' bj r.1:=(h.eI r hr).same λb hb=>hkk b (hmem b (.inl (Lq.2 ⟨r,hr,hb⟩)))
  split
  .show w'.ownsRow bj _ 4 (s_ (f r.1).aY (f r.1).prog.length (f r.1).bH) (f r.1).prog.length (fk.flat (f r.1).prog)
   rw[(hf r.1).2.1,(hf r.1).2.2.1,(hf r.1).2.2.2];exact hm
  .exact hm
 .have e1:(S.ju g f nx).boxes=S.boxes:=by simp only[aZ.boxes,aZ.ju,qb]
  have e2:(S.ju g f nx).kids=S.kids:=by simp only[aZ.kids,aZ.ju,GW iH]
  rw[e1,e2];exact hn
end
section
open Go.Maps
attribute [local go_sem ↓] Kc Kd
def xX {z:Int}(h:cv z 1 1000=true):(Lit.int j_ z).wf=true:=by
 have h2:=bz.1 h;have e1:IntKind.min j_<=0:=by decide
 have e2:100000<=IntKind.max j_:=by decide
 simp only[Lit.wf,J7,decide_eq_true_eq];omega
def iB {S:aZ}(h:aQ S.pure):S.Fits:=by
 refine⟨?_,?_,?_,?_,?_,?_,?_,?_,?_,?_,?_,?_⟩
 .have h5:=h.dl
  have h6:S.pure.L8.length=S.lp.length:=Zd6
  omega
 .intro p hp
  obtain⟨r,hr,rfl⟩:=Lr.1 hp;exact xX (cK h.L8 (r.1.toaD) (Lr.2 ⟨r,hr,rfl⟩)).1
 .have h5:=h.fx
  have h6:S.pure.aj.length=S.ls.length:=Zd6
  omega
 .intro p hp
  obtain⟨r,hr,rfl⟩:=Lr.1 hp;exact xX (cK h.aj (r.1) (Lr.2 ⟨r,hr,rfl⟩)).1
 .have h5:=h.cD
  have h6:S.pure.L9.length=S.le.length:=Zd6
  omega
 .intro p hp
  obtain⟨r,hr,rfl⟩:=Lr.1 hp;exact xX (cK h.L9 (r.1) (Lr.2 ⟨r,hr,rfl⟩)).1
 .have h5:=h.cC
  have h6:S.pure.ag.length=S.lb.length:=Zd6
  omega
 .intro p hp
  obtain⟨r,hr,rfl⟩:=Lr.1 hp;exact xX (cK h.ag (r.1) (Lr.2 ⟨r,hr,rfl⟩)).1
 .have h5:=h.cb
  have h6:S.pure.ae.length=S.lf.length:=Zd6
  omega
 .intro p hp
  obtain⟨r,hr,rfl⟩:=Lr.1 hp;exact xX (cK h.ae (r.1.toci) (Lr.2 ⟨r,hr,rfl⟩)).1
 .have h5:=h.dH
  have h6:S.pure.ai.length=S.lq.length:=Zd6
  omega
 .intro p hp
  obtain⟨r,hr,rfl⟩:=Lr.1 hp;exact xX (cK h.ai (r.1.todS) (Lr.2 ⟨r,hr,rfl⟩)).1
def aI.cell {w:w_}{g i:Nat}{v:v_}:aI w (w.setCell ⟨g,i,n_⟩ v) [g]:=aI.set (off:=i) [v] zy
end
section
section
variable {α:Type}{num:α->Int}{ok:α->Bool}
def bY (num:α->Int)(x:α):List α->List α
 |[]=>[x]
 |y::r=>if num x<num y then x::y::r else y::bY num x r
def cA (num:α->Int)(x:α):List α->List α
 |[]=>[x]
 |y::r=>if num y<num x then y::cA num x r else x::y::r
def er (x:α):∀l:List α,(bY num x l).length=l.length+1
 |[]=>rfl
 |y::r=>by
  simp only[bY]
  split
  .rfl
  .simp [er x r]
def fq {x z:α}:∀{l:List α},z∈bY num x l↔z=x\/z∈l
 |[]=>by simp[bY]
 |y::r=>by
  simp only[bY]
  split
  .simp
  .simp only[Kt,fq (l:=r)]
   constructor
   .exact Fd
   .exact Fd
def js {x z:α}:∀{l:List α},z∈cA num x l↔z=x\/z∈l
 |[]=>by simp[cA]
 |y::r=>by
  simp only[cA]
  split
  .simp only[Kt,js (l:=r)]
   constructor
   .exact Fd
   .exact Fd
  .simp
def eJ (x:α):∀l:List α,(cA num x l).length=l.length+1
 |[]=>rfl
 |y::r=>by
  simp only[cA]
  split
  .simp [eJ x r]
  .rfl
def tP {x:α}:∀{l:List α}{k:Nat},(∀y∈l.take k,num y<num x)->(∀y,l[k]? =o_ y->¬num y<num x)->l.take k++x::l.drop k=cA num x l
 |[],k,_,_=>by simp[cA]
 |y::r,0,_,h2=>by
  have h3:=h2 y rfl;simp[cA,h3]
 |y::r,k+1,h1,h2=>by
  have h3:=h1 y zy;simp only[List.take_succ_cons,List.drop_succ_cons,Qw,cA,if_pos h3];rw[tP (λz hz=>h1 z Zen) (λz hz=>h2 z (by simpa using hz))]
end
def cB (p p':aE):Option aE:=if bK p&&bK p' then o_ p' else n_
end
section
open Go.Maps
def cJ.lt {w:w_}{bj o:Nat}{S:aZ}(h:cJ w bj o S):∀c∈o::(S.boxes++S.kids),c<w.heap.size:=λc hc=>by
 simp only[aZ.boxes,aZ.kids,Kt,Kg]at hc;rcases hc with rfl|((hc|hc|hc|hc|hc|hc)|hc|hc|hc)
 .exact (J2.1 h.opn).1
 .exact h.L8.lt c (Kt.2 hc)
 .exact h.aj.lt c (Kt.2 hc)
 .exact h.L9.lt c (Kt.2 hc)
 .exact h.ag.lt c (Kt.2 hc)
 .exact h.ae.lt c (Kt.2 hc)
 .exact h.ai.lt c (Kt.2 hc)
 .obtain ⟨r,hr,hk⟩:=Lq.1 hc
  exact((h.eI r hr).lt hk).2
 .obtain ⟨r,hr,hk⟩:=Lq.1 hc
  exact((h.eE r hr).lt hk).2
 .obtain ⟨r,hr,hk⟩:=Lq.1 hc
  exact((h.eR r hr).lt hk).2
def cJ.drew {w:w_}{bj o:Nat}{S:aZ}(h:cJ w bj o S):cJ w.drew bj o S:=
 ⟨h.opn,h.L8.same λ_ _=>rfl,h.aj.same λ_ _=>rfl,h.L9.same λ_ _=>rfl,h.ag.same λ_ _=>rfl,h.ae.same λ_ _=>rfl,h.ai.same λ_ _=>rfl,λp hp=>(h.eI p hp).same λ_ _=>rfl,λp hp=>(h.eE p hp).same λ_ _=>rfl,λp hp=>(h.eR p hp).same λ_ _=>rfl,h.nodup,h.low⟩
def ld (w:w_)(a:Option d_)(xs:List v_):Prop:=∀j u,xs[j]? =o_ u->∃ad,a=o_ ad/\w.cell? (ad.add j)=o_ u
def ld.nil {w:w_}{a:Option d_}:ld w a []:=λj u hu=>by cases hu
def ld.none {w:w_}{xs:List v_}(h:ld w n_ xs):xs=[]:=by
 cases xs with
 |nil=>rfl
 |cons u r=>
  obtain⟨ad,e,_⟩:=h 0 u rfl;cases e
def jD {P:Program}(w:w_)(bj:Nat)(t ty e:T_)(i:TypeInfo)(z:v_)(size bytes:Nat)(ht:P.underlying t=o_ (.slice e))(hi:P.info? e=o_ i)(hz:i.zero=o_ z)
  (hsize:i.size=size)(hby:i.bytes=bytes)(hzs:z.cells.size=size)(hsz:0<size)(a0:Option d_)(n0 c0:Nat)(ys:List v_)(ho:w.ownsRow bj e size (s_ a0 n0 c0) n0 ys)
  (a:Option d_)(n cap:Nat)(xs:List v_)(h:ld w a xs)(hl:xs.length=n*size)(h1:∀u∈xs,u.oneCell'=true)(h63:n0+n<=4000000)(hb:bytes<=1000)(lY:bj<=w.heap.size):
  ∃a' cap' w',(Builtin.append_ #[t,t] ty #[s_ a0 n0 c0,s_ a n cap]).run P w=.ok (s_ a' (n0+n) cap') w'/\w'.ownsRow bj e size (s_ a' (n0+n) cap') (n0+n) (ys++xs)/\w.grownBy w' (Value.slice a0 n0 c0).ownBlock/\∀g∈blk a',g∈blk a0\/g=w.heap.size:=by
 cases a with
 |none=>
  have hx:=h.none;subst hx;have hn:n=0:=by
   cases n with
   |zero=>rfl
   |succ n=>simp only[K4,Lh]at hl;omega
  subst hn;refine⟨a0,c0,w,?_,by simpa using ho,⟨rfl,rfl,rfl,Ki _,λ_ _ _=>rfl⟩,λg hg=>.inl hg⟩;have hc:n0<=c0:=by
   obtain⟨-,⟨e1,e2⟩|⟨g,c,cur,e1,-,-,h5,-⟩⟩:=ho
   .cases e1;exact Ki _
   .cases e1;exact h5
  cases a0<;>simp[Builtin.append_,run_underlying ht,sizeOf,typeInfo,hi,Builtin.lenOf,Builtin.firstCells,storeCells,hc]
 |some ad=>
  have hnews:∀j u,xs[j]? =o_ u->w.cell? (ad.add j)=o_ u:=λj u hu=>by
   obtain⟨ad',e',hc⟩:=h j u hu;cases e';exact hc
  obtain⟨v',w',hr,ho',hgr,-,hbl⟩:=run_append_own_at (P:=P) w bj t ty e i z size bytes ht hi hz hsize hby hzs hsz (s_ a0 n0 c0) n0 ys ho ad n cap xs hl hnews h1 Zb2 (by have:=Nat.mul_le_mul h63 hb;omega) lY;obtain⟨a',cap',rfl,-⟩:=cr ho';refine⟨a',cap',w',hr,ho',hgr,λg hg=>?_⟩;rw[fZ]at hg⊢;cases a' with
  |none=>cases hg
  |some ad'=>
   simp only[J9,LF]at hg;subst hg;rcases hbl with hbl|hbl
   .refine .inl ?_
    cases a0 with
    |none=>cases hbl
    |some ad0=>simpa[Value.ownBlock]using hbl.symm
   .exact .inr Zd7
def qv {Z A A' R:List Nat}(h:(Z++(A++R)).Nodup)(hA:A'.Nodup)(h1:∀g∈A',g∉Z++(A++R)):(Z++(A'++R)).Nodup:=by
 simp only[Kg,not_or]at h1;simp only[Kf,Kg]at h⊢;obtain⟨hz,⟨-,hR,-⟩,hzz⟩:=h;refine⟨hz,⟨hA,hR,λa ha b hb e=>(h1 a ha).2.2 (e▸hb)⟩,λa ha b hb e=>?_⟩;rcases hb with hb|hb
 .exact (h1 b hb).1 (e▸ha)
 .exact hzz a ha b (.inr hb) e
def Hj (g m j:Nat):(⟨g,m,n_⟩:d_).add j=⟨g,m+j,n_⟩:=Zd8
def FH {α:Type}{K:Kind α}{w:w_}{a:Option d_}{l:List α}(k:Nat)(h:Row w a (K.flat l)):ld w (a.map (·.add (k*K.n))) (K.flat (l.drop k)):=λj u hu=>by
 by_cases hk:k<=l.length
 .have e:K.flat l=K.flat (l.take k)++K.flat (l.drop k):=by rw[<-K.dc,Qn]
  have hl:(K.flat (l.take k)).length=k*K.n:=by rw[K.dM,Lk,Nat.min_eq_left hk]
  have hu2:(K.flat l)[k*K.n+j]? =o_ u:=by
   rw[e,Qo zw,hl,Nat.add_sub_cancel_left];exact hu
  obtain⟨g,rfl,hc⟩:=h _ u hu2;exact⟨⟨g,k*K.n,n_⟩,by rw[J9,qZ],by rw[Hj];exact hc⟩
 .rw [List.drop_eq_nil_of_le zw]at hu
  cases hu
def IS {w:w_}{a:Option d_}{xs:List v_}(h:Row w a xs):ld w a xs:=λj u hu=>by
 obtain⟨g,rfl,hc⟩:=h j u hu;exact⟨_,rfl,by rw[qZ];exact hc⟩
def uM {α:Type}{K:Kind α}{w:w_}{a:Option d_}{l:List α}(k:Nat)(h:Row w a (K.flat l)):ld w a (K.flat (l.take k)):=λj u hu=>by
 have e:K.flat l=K.flat (l.take k)++K.flat (l.drop k):=by rw[<-K.dc,Qn]
 have hu2:(K.flat l)[j]? =o_ u:=by
  rw[e,Qp (Lj.1 hu).1];exact hu
 exact IS h j u hu2
def nV {w:w_}{bj size n c:Nat}{e:T_}{a:Option d_}{xs:List v_}(h:w.ownsRow bj e size (s_ a n c) n xs):n<=c:=by
 obtain⟨-,⟨e1,e2⟩|⟨g,c',cur,e1,-,-,h5,-⟩⟩:=h
 .cases e1;exact Ki _
 .cases e1;exact h5
def jO {w:w_}{g:Nat}{cs:Array v_}{t:T_}{aaO:Nat×Nat}(h:w.heap[g]? =o_ (c_ cs t aaO)):ld w (o_ ⟨g,0,n_⟩) cs.toList:=λj u hu=>⟨_,rfl,by rw[qZ];simp only[World.cell?,h];simpa using hu⟩
def ja {w:w_}{o i:Nat}{v:v_}:(w.setCell ⟨o,i,n_⟩ v).heap.size=w.heap.size:=fH [v]
def qK {α:Type}{K:Kind α}{w:w_}{a:Option d_}{l:List α}{k c:Nat}(hk:l.length<=c)(h:Row w a (K.flat l)):ld w (if c=k then a else Option.map (λx=>x.add (k*K.n)) a) (K.flat (l.drop k)):=by
 split
 .rw [List.drop_eq_nil_of_le zw]
  exact ld.nil
 .exact FH k h
def jS {p p':aE}(h:(bK p&&bK p')=true):cB p p'=o_ p':=if_pos h
def jh {p p':aE}(h:(bK p&&bK p')=false):cB p p'=n_:=if_neg (by rw[h];decide)
def zm {α:Type}(num:α->Int)(id:Int)(l:List α)(k:Nat):(∃x,l[k]? =o_ x/\num x<id/\k<l.length)\/(∃x,l[k]? =o_ x/\¬num x<id/\k<l.length)\/ ¬k<l.length:=by
 by_cases h:k<l.length
 .by_cases h2:num l[k]<id
  .exact .inl ⟨_,Kz h,h2,h⟩
  .exact .inr (.inl ⟨_,Kz h,h2,h⟩)
 .exact .inr (.inr h)
structure yr (w:w_)(bj:Nat)(q q2:af)(W:w_):Prop where
 own:ap W bj q2
 kept:aI w W q.Mc
 far:∀g∈q2.Mc,g∈q.Mc\/w.heap.size<=g
def rn {α:Type}{K:Kind α}{T:T_}{w:w_}{bj cap n gs j:Nat}{a:Option d_}{l:List α}{x y:α}{v:v_}(h:w.ownsRow bj T K.n (s_ a l.length cap) l.length (K.flat l))(hx:l[n]? =o_ x)(ha:a=o_ ⟨gs,0,n_⟩)(hj:j<K.n)(hv:K.vals y=(K.vals x).set j v):
  (w.setCell ⟨gs,n*K.n+j,n_⟩ v).ownsRow bj T K.n (s_ a l.length cap) l.length (K.flat (l.set n y))/\aI w (w.setCell ⟨gs,n*K.n+j,n_⟩ v) (blk a)/\(∃u,w.cell? ⟨gs,n*K.n+j,n_⟩=o_ u)/\w.frozen? ⟨gs,n*K.n+j,n_⟩=false:=by
 have hn:n<l.length:=(Lj.1 hx).1;obtain⟨g,hg,hrow⟩:=bl.fX (K:=K) h zw;rw[ha]at hg;cases hg;have h7:=hrow.cell hx (r:=j) hj;have hsp:=kL hx;have hset:l.set n y=l.take n++y::l.drop (n+1):=Zed
 have hl:(l.take n).length=n:=ZdM
 rw[hsp]at hrow;have h5:=bl.part (K:=K) (x:=x) (y:=y) (j:=j) (vs:=[v]) hrow ZbI (λr hr=>by simp at hr;subst hr;rw[Nat.add_zero,hv,LU Ze8];rfl) (λr hr hn=>ZeU);rw[hl,<-hset]at h5;have h6:=h5.owns;rw[LI]at h6;rw[ha];exact⟨h6,aI.set (vs:=[v]) Zee,⟨_,h7.1.trans (Kz Ze8)⟩,h7.2⟩
def uX {P1 P2:List Nat}{a b:Option Nat}(h:(P1++(a.toList++P2)).Nodup)(hb:∀g,b=o_ g->g∉P1/\g∉P2):(P1++(b.toList++P2)).Nodup:=by
 obtain⟨h1,h2,h3⟩:=Kf.1 h;obtain⟨-,h5,-⟩:=Kf.1 h2;refine Kf.2 ⟨h1,Kf.2 ⟨by cases b<;>simp,h5,λx hx y hy e=>?_⟩,λx hx y hy e=>?_⟩
 .cases b with
  |none=>simp at hx
  |some g=>simp at hx;subst hx;exact(hb x rfl).2 (e▸hy)
 .rcases Kg.1 hy with hy|hy
  .cases b with
   |none=>exact Zet
   |some g=>simp at hy;subst hy;exact(hb y rfl).1 (e▸hx)
  .exact h3 x hx y (Ly _ hy) e
def ou (w:w_)(bj:Nat)(a0:Option d_)(c0:Nat)(l0:List ByteArray)(ho:w.ownsRow bj 9 1 (s_ a0 l0.length c0) l0.length (bT.flat l0))(a:Option d_)(l:List ByteArray)(cap:Nat)(h:ld w a (bT.flat l))(hl:l0.length+l.length<=4000000)(lY:bj<=w.heap.size):
  ∃a' cap' w',(Builtin.append_ #[49,49] 49 #[s_ a0 l0.length c0,s_ a l.length cap]).run J3 w=.ok (s_ a' (l0.length+l.length) cap') w'/\w'.ownsRow bj 9 1 (s_ a' (l0.length+l.length) cap') (l0.length+l.length) (bT.flat (l0++l))/\w.grownBy w' (Value.slice a0 l0.length c0).ownBlock/\∀g∈blk a',g∈blk a0\/g=w.heap.size:=by
 obtain⟨i,hi,e⟩:=Kw.1 zD;simp only[Kx]at e;rw[bT.dc];exact jD w bj _ _ 9 i _ 1 16 underlying49 hi e.1 e.2.1 e.2.2 rfl (by decide) a0 l0.length c0 _ ho a l.length cap _ h (bT.dM l) yK hl (by decide) lY
def IN (w:w_)(s:ByteArray):(w.alloc (c_ #[t_ s] 9)).ownsRow w.heap.size 9 1 (s_ (o_ ⟨w.heap.size,0,n_⟩) [s].length 1) [s].length (bT.flat [s]):=
 ⟨rfl,.inr ⟨w.heap.size,1,#[t_ s],rfl,Ki _,Kj _ _,Ki _,by decide,rfl,rfl⟩⟩
def vg {w:w_}{a:Option d_}{l:List ByteArray}{c:Nat}(hk:l.length<=c)(h:Row w a (bT.flat l)):ld w (if c=1 then a else Option.map (λx:d_=>⟨x.block,x.off+1,n_⟩) a) (bT.flat (l.drop 1)):=by
 have h1:=qK (K:=bT) (k:=1) hk h;have e:(λx:d_=>x.add (1*bT.n))=(λx:d_=>⟨x.block,x.off+1,n_⟩):=by funext x;rfl
 rw[e]at h1;exact h1
def aI.grown {w w5 w7:w_}{a:Option d_}{n c:Nat}(hb:B_ w.heap.size w w5)(hg:w5.grownBy w7 (Value.slice a n c).ownBlock):aI w w7 (blk a):=
 ⟨hg.os.trans hb.os,hg.tape.trans hb.tape,hg.output.trans hb.output,LG hb.size hg.size,λg h1 h2=>(hg.block g (Kn h1 hb.size) λe=>h2 (di e.symm)).trans (hb.block g h1)⟩
section
variable {w W:w_}{bj n gs:Nat}{q:af}
def pg {x:aM}{l:List ByteArray}{a:Option d_}{c:Nat}(h:ap w bj q)(hb:aI w W (blk x.ak))(hx:q.ai[n]? =o_ x)(ha:q.aK=o_ ⟨gs,0,n_⟩)(ho:W.ownsRow bj 9 1 (s_ a l.length c) l.length (bT.flat l))(hf:∀g∈blk a,g∈blk x.ak\/w.heap.size<=g):
  yr w bj q ({q with ai:=q.ai.set n {x with Ma:=l,ak:=a,aq:=c}}:af) (W.setCell ⟨gs,n*5+4,n_⟩ (s_ a l.length c))/\(∃u,W.cell? ⟨gs,n*5+4,n_⟩=o_ u)/\W.frozen? ⟨gs,n*5+4,n_⟩=false:=by
 have hn:n<q.ai.length:=(Lj.1 hx).1;have hset:q.ai.set n {x with Ma:=l,ak:=a,aq:=c}=q.ai.take n++{x with Ma:=l,ak:=a,aq:=c}::q.ai.drop (n+1):=Zed
 have hk:∀(z:aM)(A B:List aM),(A++z::B).filterMap aU.bt=A.filterMap aU.bt++((aU.bt z).toList++B.filterMap aU.bt):=λz A B=>by
  rw[LW,LH];cases aU.bt z<;>simp
 have h6:q.ai.filterMap aU.bt=(q.ai.take n).filterMap aU.bt++((aU.bt x).toList++(q.ai.drop (n+1)).filterMap aU.bt):=(congrArg (List.filterMap aU.bt) (kL hx)).trans (hk _ _ _);obtain⟨P1,uZ⟩:∃P1,P1=blk q.aN++(q.L8.filterMap aR.bt++(blk q.bc++(blk q.ay++(blk q.ax++(blk q.am++(q.ae.filterMap aC.bt++blk q.aK))))))++(q.ai.take n).filterMap aU.bt:=⟨_,rfl⟩
 obtain⟨P2,IQ⟩:∃P2,P2=(q.ai.drop (n+1)).filterMap aU.bt:=⟨_,rfl⟩
 have e1:q.Mc=P1++((aU.bt x).toList++P2):=ZfJ
 have e2:({q with ai:=q.ai.set n {x with Ma:=l,ak:=a,aq:=c}}:af).Mc=P1++((a.map (·.block)).toList++P2):=by
  rw[uZ,IQ];simp only[af.Mc,hset,hk,Lm];rfl
 have hkx:∀g,g∈blk x.ak↔g∈(aU.bt x).toList:=λg=>Iff.rfl
 have Dl:=h.nodup;rw[e1]at Dl;have hP:∀g,g∈P1\/g∈P2->g∉blk x.ak:=λg hg hm=>by
  exact Zal
 have hin:∀g,g∈P1\/g∈P2->g∈q.Mc:=λg hg=>by
  exact ZaD
 have hgl:gs∈blk q.aK:=ZcJ
 have hgP:gs∈P1:=by rw[uZ];simp[hgl]
 have hsW:∀g,g∈P1\/g∈P2->W.heap[g]? =w.heap[g]?:=λg hg=>hb.same g (h.lt g (hin g hg)).2 (hP g hg)
 have hrow:=aL h.ai λg hg=>hsW g (.inl Zcp)
 obtain⟨h1,h2,h3⟩:=rn (K:=bX) (y:={x with Ma:=l,ak:=a,aq:=c}) (v:=s_ a l.length c) hrow hx ha (show 4<5 by decide) rfl;refine⟨?_,h3⟩;have hnd:({q with ai:=q.ai.set n {x with Ma:=l,ak:=a,aq:=c}}:af).Mc.Nodup:=by
  exact Q_
 have hs:∀g,g≠gs->(W.setCell ⟨gs,n*5+4,n_⟩ (s_ a l.length c)).heap[g]? =W.heap[g]?:=λg hg=>aH hg
 have hsp:q.Mc=(blk q.aN++(q.L8.filterMap aR.bt++(blk q.bc++(blk q.ay++(blk q.ax++(blk q.am++q.ae.filterMap aC.bt))))))++(blk q.aK++(q.ai.filterMap aU.bt)):=ZdE
 have nw:∀g,(g∈(blk q.aN++(q.L8.filterMap aR.bt++(blk q.bc++(blk q.ay++(blk q.ax++(blk q.am++q.ae.filterMap aC.bt))))))\/g∈(q.ai.filterMap aU.bt))->g≠gs:=λg hg he=>by
  exact Zae
 have hall:∀g,g∈P1\/g∈P2->g≠gs->(W.setCell ⟨gs,n*5+4,n_⟩ (s_ a l.length c)).heap[g]? =w.heap[g]?:=λg hg hne=>(hs g hne).trans (hsW g hg)
 refine⟨⟨aL h.L8 λg hg=>hall g (.inl Zcp) (nw g (.inl Zdi)),aL h.aj λg hg=>hall g (.inl Zcp) (nw g (.inl Zdi)),aL h.L9 λg hg=>hall g (.inl Zcp) (nw g (.inl Zdi)),aL h.ag λg hg=>hall g (.inl Zcp) (nw g (.inl Zdi)),aL h.ae λg hg=>hall g (.inl Zcp) (nw g (.inl Zdi)),Zdc,λz hz=>(h.eI z hz).same λg hg=>hall g (.inl Zd1) (nw g (.inl Zez)),?_,?_,hnd⟩,⟨hb.os,hb.tape,hb.output,by rw[ja];exact hb.size,λg hg hm=>(hs g λe=>hm (e▸hin gs (.inl hgP))).trans (hb.same g hg λhx=>hm Zes)⟩,λg hg=>?_⟩
 .intro z hz
  exact(h.eE z hz).same λg hg=>hall g (.inl (by rw[uZ];simp only[Kg];exact .inl (.inr (.inr (.inr (.inr (.inr (.inr (.inl (dP.2 ⟨z,hz,hg⟩)))))))))) (nw g (.inl (by simp only[Kg];exact .inr (.inr (.inr (.inr (.inr (.inr (dP.2 ⟨z,hz,hg⟩)))))))))
 .intro z hz
  rw[hset]at hz;rcases Kg.1 hz with hz|hz
  .exact (h.eR z (RK hz)).same λg hg=>hall g (.inl Zff) (nw g (.inr (by exact dP.2 ⟨z,RK hz,hg⟩)))
  .rcases Kt.1 hz with rfl|hz
   .exact WP
   .exact (h.eR z (RL hz)).same λg hg=>hall g (.inr (by rw[IQ];exact dP.2 ⟨z,hz,hg⟩)) (nw g (.inr (by exact dP.2 ⟨z,RL hz,hg⟩)))
 .exact V_
end
end
section
def nX {p:aE}{x:ci}(h:p.Small)(hr:bK p=true)(hx:(Lit.int j_ x.id).wf=true/\x.Ma.length<=1048576/\∀s∈x.Ma,s.size<=1048576):aE.Small {p with ae:=bY (·.id) x p.ae}:=by
 have h2:=((ch _).1 hr).cb;exact⟨h.dl,h.fx,h.cD,h.cC,by show(bY (·.id) x p.ae).length<=_;rw[er];omega,h.dH,h.L8,h.aj,h.L9,h.ag,λy hy=>(fq.1 hy).elim (λe=>e▸hx) (h.ae y),h.ai⟩
end
section
open Go.Maps
attribute [local go_sem ↓] Kc Kd
def fi (p q:af)(w:w_)(hp:p.Fit/\(∀x∈p.L8,x.dX)/\af.At w p)(hq:bK p.pure=true->q.Fit/\(∀x∈q.L8,x.dX)/\af.At w q):
  k_ J3 135 #[a_ p.cells,a_ q.cells] w λe w'=>B_ w.heap.size w w'/\(((bK p.pure&&bK q.pure)=true/\e=r_ (u_ #[a_ q.cells,b_ true]))\/((bK p.pure&&bK q.pure)=false/\e=r_ (u_ #[a_ ar,b_ false]))):=by
 have HB:da (B_ w.heap.size w (((w.alloc (c_ p.row 46)).alloc (c_ q.row 46)).alloc (c_ ar 46))/\av (((w.alloc (c_ p.row 46)).alloc (c_ q.row 46)).alloc (c_ ar 46)) w.heap.size p/\av (((w.alloc (c_ p.row 46)).alloc (c_ q.row 46)).alloc (c_ ar 46)) (w.heap.size+1) q/\(((w.alloc (c_ p.row 46)).alloc (c_ q.row 46)).alloc (c_ ar 46)).heap[w.heap.size+2]? =o_ (c_ ar 46)):=by
  refine⟨(((Kp _ _).alloc (Ki _) _).alloc zy _).alloc ZbI _,?_,?_,?_⟩
  .exact (PU ZbI).trans ((PU zy).trans (Kj _ _))
  .exact (PU zy).trans (by simpa using Kj (w.alloc (c_ p.row 46)) _)
  .simpa using Kj ((w.alloc (c_ p.row 46)).alloc (c_ q.row 46)) _
 have HP:da (p.Fit/\(∀x∈p.L8,x.dX)/\af.At w p):=hp;have HQ:da (bK p.pure=true->q.Fit/\(∀x∈q.L8,x.dX)/\af.At w q):=hq;clear hp hq;obtain⟨m0,m1,m2,m3,m4,m5,m6,m7⟩:=HB.I.2.1.cells;obtain⟨k0,k1,k2,k3,k4,k5,k6,k7⟩:=HB.I.2.2.1.cells;unfold af.cells
 go_enter func135,ntmps135
 go_wp2_with fail;generalize((w.alloc (c_ p.row 46)).alloc (c_ q.row 46)).alloc (c_ ar 46)=W at*;clear m0 m1 m2 m3 m4 m5 m6 m7 k0 k1 k2 k3 k4 k5 k6 k7;refine(eV p W HP.I.1 HP.I.2.1 (HP.I.2.2.below HB.I.1)).mono ?_;rintro e W1 ⟨rfl,hb⟩;replace HB:da (B_ w.heap.size w W1/\av W1 w.heap.size p/\av W1 (w.heap.size+1) q/\W1.heap[w.heap.size+2]? =o_ (c_ ar 46)):=⟨HB.I.1.trans (hb.mono HB.I.1.size),HB.I.2.1.below hb,HB.I.2.2.1.below hb,(hb.block _ (J2.1 HB.I.2.2.2).1).trans HB.I.2.2.2⟩
 clear hb;obtain⟨k0,k1,k2,k3,k4,k5,k6,k7⟩:=HB.I.2.2.1.cells;cases h4:bK p.pure
 .have H4:da (bK p.pure=false):=h4
  clear h4;go_wp2_with(refine ec _ _ ar HB.I.2.2.2 ?_);refine mG results135 (b_ false) HB.I.2.2.2 ?_;exact⟨q_ HB.I.1 zw _,.inr ⟨by rw[H4.I];rfl,rfl⟩⟩
 have H4:da (bK p.pure=true):=h4;clear h4;go_wp2_with fail;clear k0 k1 k2 k3 k4 k5 k6 k7;refine(eV q W1 (HQ.I H4.I).1 (HQ.I H4.I).2.1 ((HQ.I H4.I).2.2.below HB.I.1)).mono ?_;rintro e W2 ⟨rfl,hb⟩;replace HB:da (B_ w.heap.size w W2/\av W2 w.heap.size p/\av W2 (w.heap.size+1) q/\W2.heap[w.heap.size+2]? =o_ (c_ ar 46)):=⟨HB.I.1.trans (hb.mono HB.I.1.size),HB.I.2.1.below hb,HB.I.2.2.1.below hb,(hb.block _ (J2.1 HB.I.2.2.2).1).trans HB.I.2.2.2⟩
 clear hb;obtain⟨k0,k1,k2,k3,k4,k5,k6,k7⟩:=HB.I.2.2.1.cells;cases h5:bK q.pure
 .have H5:da (bK q.pure=false):=h5
  clear h5;go_wp2_with(refine ec _ _ ar HB.I.2.2.2 ?_);refine mG results135 (b_ false) HB.I.2.2.2 ?_;exact⟨q_ HB.I.1 zw _,.inr ⟨by rw[H4.I,H5.I];rfl,rfl⟩⟩
 have H5:da (bK q.pure=true):=h5;clear h5;go_wp2_with(refine ec _ _ q.row HB.I.2.2.2 ?_);refine mG results135 (b_ true) HB.I.2.2.2 ?_;exact⟨q_ HB.I.1 zw _,.inl ⟨by rw[H4.I,H5.I];rfl,rfl⟩⟩
end
section
open Go.Maps
section
variable {α:Type}{num:α->Int}
def rF {β:Type}{je:β->Int}(f:α->β)(hf:∀y,je (f y)=num y)(x:α):∀l:List α,(bY num x l).map f=bY je (f x) (l.map f)
 |[]=>rfl
 |y::r=>by
  simp only[bY,Lt,hf]
  split
  .simp
  .simp [rF f hf x r]
def AL {x:α}:∀{l:List α},(∀y∈l,¬num x<num y)->bY num x l=l++[x]
 |[],_=>rfl
 |y::r,h=>by
  simp only[bY,if_neg (h y zy),Qw];rw[AL λz hz=>h z Zen]
def xv {x:α}:∀{l r:List α},(∃y∈l,num x<num y)->bY num x (l++r)=bY num x l++r
 |[],_,h=>by obtain⟨y,hy,_⟩:=h;cases hy
 |y::l,r,h=>by
  simp only[Qw,bY]
  split
  .rfl
  .rename_i hn
   rw[xv,Qw];obtain⟨z,hz,hlt⟩:=h;rcases Kt.1 hz with rfl|hz
   .exact absurd hlt hn
   .exact ⟨z,hz,hlt⟩
def Cp {x y:α}{l:List α}(h:∀z∈l,¬num x<num z)(hy:num x<num y):bY num x (l++[y])=l++[x]++[y]:=by
 induction l with
 |nil=>simp[bY,hy]
 |cons z r ih=>
  simp only[Qw,bY,if_neg (h z zy)];rw[ih λu hu=>h u (by simp[hu])]
def pz (x:α):∀l:List α,(bY num x l).Perm (x::l)
 |[]=>RA _
 |y::r=>by
  simp only[bY]
  split
  .exact RA _
  .exact (List.Perm.cons y (pz x r)).trans (List.Perm.swap x y r)
def gY (num:α->Int)(x:α)(l:List α)(k:Nat)(dn:Bool)(acc:List α):Prop:=
 (dn=false/\acc=l.take k/\∀y∈l.take k,¬num x<num y)\/(dn=true/\acc=bY num x (l.take k)/\∃y∈l.take k,num x<num y)
def gY.start (x:α)(l:List α):gY num x l 0 false []:=.inl ⟨rfl,zy,λy hy=>Zet⟩
def gY.on {x y:α}{l:List α}{k:Nat}{acc:List α}(h:gY num x l k true acc)(hy:l[k]? =o_ y):gY num x l (k+1) true (acc++[y]):=by
 rcases h with⟨h,-⟩|⟨-,rfl,z,hz,hlt⟩
 .cases h
 .rw [gY,cj hy]
  exact .inr ⟨rfl,(xv ⟨z,hz,hlt⟩).symm,z,Lz _ hz,hlt⟩
def gY.past {x y:α}{l:List α}{k:Nat}{acc:List α}(h:gY num x l k false acc)(hy:l[k]? =o_ y)(hn:¬num x<num y):gY num x l (k+1) false (acc++[y]):=by
 rcases h with⟨-,rfl,h⟩|⟨h,-⟩
 .rw [gY,cj hy]
  refine .inl ⟨rfl,rfl,λz hz=>?_⟩;rcases Kg.1 hz with hz|hz
  .exact h z hz
  .rw [KB.1 hz];exact hn
 .cases h
def gY.here {x y:α}{l:List α}{k:Nat}{acc:List α}(h:gY num x l k false acc)(hy:l[k]? =o_ y)(hn:num x<num y):gY num x l (k+1) true (acc++[x]++[y]):=by
 rcases h with⟨-,rfl,h⟩|⟨h,-⟩
 .rw [gY,cj hy]
  exact .inr ⟨rfl,(Cp h hn).symm,y,zy,hn⟩
 .cases h
def gY.done {x:α}{l:List α}{k:Nat}{acc:List α}(h:gY num x l k true acc)(hk:¬k<l.length):acc=bY num x l:=by
 rcases h with⟨h,-⟩|⟨-,rfl,-⟩
 .cases h
 .rw [KF zw]
def gY.last {x:α}{l:List α}{k:Nat}{acc:List α}(h:gY num x l k false acc)(hk:¬k<l.length):acc++[x]=bY num x l:=by
 rcases h with⟨-,rfl,h⟩|⟨h,-⟩
 .rw [KF zw]at h⊢
  exact(AL h).symm
 .cases h
def gY.le {x:α}{l:List α}{k:Nat}{dn:Bool}{acc:List α}(h:gY num x l k dn acc):acc.length<=l.length+1:=by
 rcases h with⟨-,rfl,-⟩|⟨-,rfl,-⟩
 .rw [Lk];omega
 .rw [er,Lk];omega
end
structure fy {α:Type}(K:Kind α)(T:T_)(t8:Array v_)(W w:w_)(acc:List α)(a:Option d_)(c:Nat):Prop where
 own:w.ownsRow W.heap.size T K.n (s_ a acc.length c) acc.length (K.flat acc)
 ne:∀g∈blk a,g≠W.heap.size+1
 cd:B_ W.heap.size W w
 box:w.heap[W.heap.size+1]? =o_ (c_ t8 T)
def fy.start {α:Type}{K:Kind α}{T:T_}{t8:Array v_}{W:w_}:fy K T t8 W ((W.alloc (c_ #[] T)).alloc (c_ t8 T)) [] (o_ ⟨W.heap.size,0,n_⟩) 0:=by
 have b1:B_ W.heap.size W (W.alloc (c_ #[] T)):=(Kp _ _).alloc (Ki _) _;refine⟨i6 ((PU zy).trans (Kj _ _)) (Ki _),λg hg=>by simp[blk]at hg;omega,b1.alloc b1.size _,Kq _ _ _⟩
def fy.add {α:Type}{K:Kind α}{T:T_}{t8:Array v_}{W w:w_}{acc:List α}{a:Option d_}{c:Nat}(h:fy K T t8 W w acc a c)(t:T_)(bytes:Nat){z0:v_}{P:Program}(ht:P.underlying t=o_ (.slice T))
  (hi:(P.info? T).map (λi=>(i.zero,i.size,i.bytes))=o_ (o_ z0,K.n,bytes))(hz:z0.cells.size=K.n)(hn:0<K.n)(hby:bytes<=1000)(z:α)(zs:Array v_)(hzs:zs.toList=K.vals z)(h1:∀u∈K.vals z,u.oneCell'=true)(hl:acc.length<=2000000):
  ∃a' c' w',(Builtin.append_ #[t,t] t #[s_ a acc.length c,s_ (o_ ⟨w.heap.size,0,n_⟩) 1 1]).run P (w.alloc (c_ zs T))=.ok (s_ a' (acc.length+1) c') w'/\fy K T t8 W w' (acc++[z]) a' c':=by
 obtain⟨i,hi,e⟩:=Kw.1 hi;simp only[Kx]at e;have b1:B_ w.heap.size w (w.alloc (c_ zs T)):=(Kp _ _).alloc (Ki _) _;have b2:=h.cd.trans (b1.mono h.cd.size);have hlt:=(J2.1 h.box).1;obtain⟨a',c',w',hr,ho,hg,hq⟩:=jD (P:=P) (w.alloc (c_ zs T)) W.heap.size t t T i z0 K.n bytes ht hi e.1 e.2.1 e.2.2 hz hn a acc.length c _ (cR h.own b1) (o_ ⟨w.heap.size,0,n_⟩) 1 1 (K.vals z) ZfL (by rw[K.len,Nat.one_mul]) h1 zw hby b2.size;refine⟨a',c',w',hr,⟨?_,λg hg2=>?_,b2.grown hg b2.size λk e=>(cf h.own (di e)).1,?_⟩⟩
 .exact ZaE
 .rcases hq g hg2 with h5|h5
  .exact h.ne g h5
  .rw [h5];have:=b1.size;omega
 .refine (hg.block _ ZbI (λe=>?_)).trans ((b1.block _ hlt).trans h.box)
  exact h.ne _ (di e.symm) rfl
def oS {Z A A' C C' R:List Nat}(h:(Z++(A++(C++R))).Nodup)(hA:A'.Nodup)(hC:C'.Nodup)(h1:∀g∈A',g∉Z++(A++(C++R))/\g∉C')(h2:∀g∈C',g∈C\/g∉Z++(A++(C++R))):(Z++(A'++(C'++R))).Nodup:=by
 simp only[Kg,not_or]at h1 h2;simp only[Kf,Kg]at h⊢;obtain⟨hz,⟨-,⟨-,hR,hCR⟩,-⟩,hzz⟩:=h;refine⟨hz,⟨hA,⟨hC,hR,λa ha b hb e=>?_⟩,λa ha b hb e=>?_⟩,λa ha b hb e=>?_⟩
 .rcases h2 a ha with h5|h5
  .exact hCR a h5 b hb e
  .exact h5.2.2.2 (e▸hb)
 .rcases hb with hb|hb
  .exact (h1 a ha).2 (e▸hb)
  .exact (h1 a ha).1.2.2.2 (e▸hb)
 .rcases hb with hb|hb|hb
  .exact (h1 b hb).1.1 (e▸ha)
  .rcases h2 b hb with h5|h5
   .exact hzz a ha b (.inr (.inl h5)) e
   .exact h5.1 (e▸ha)
  .exact hzz a ha b (.inr (.inr hb)) e
def ap.IX {w w':w_}{bj B:Nat}{q:af}{l:List ao}{a':Option d_}{c':Nat}(h:ap w bj q)(hb:bj<=B)(hB:∀g∈q.Mc,g<B)(hs:∀g∈q.Mc,w'.heap[g]? =w.heap[g]?)
  (ho:w'.ownsRow B 125 12 (s_ a' l.length c') l.length (bg.flat l))(hm:∀x∈l,aR.cO w' bj x)(hn:(l.filterMap aR.bt).Nodup)(hk:∀g∈l.filterMap aR.bt,g∈q.L8.filterMap aR.bt\/g∉q.Mc)(hk2:∀g∈l.filterMap aR.bt,g<B):ap w' bj ({q with L8:=l,aN:=a',aW:=c'}:af):=by
 have h2:=h.same hs;refine⟨cq ho hb,h2.aj,h2.L9,h2.ag,h2.ae,h2.ai,hm,h2.eE,h2.eR,?_⟩;have h5:=h.nodup;have h6:∀g∈blk a',g∉q.Mc/\g∉l.filterMap aR.bt:=λg hg=>⟨λhm=>Zcq,λhm=>ZdP⟩
 have e1:({q with L8:=l,aN:=a',aW:=c'}:af).Mc=([]:List Nat)++(blk a'++(l.filterMap aR.bt++(blk q.bc++(blk q.ay++(blk q.ax++(blk q.am++(q.ae.filterMap aC.bt++(blk q.aK++(q.ai.filterMap aU.bt))))))))):=ZcZ
 have e3:q.Mc=([]:List Nat)++(blk q.aN++(q.L8.filterMap aR.bt++(blk q.bc++(blk q.ay++(blk q.ax++(blk q.am++(q.ae.filterMap aC.bt++(blk q.aK++(q.ai.filterMap aU.bt))))))))):=ZcZ
 exact ZaY
def ap.Eu {w w':w_}{bj B:Nat}{q:af}{l:List au}{a':Option d_}{c':Nat}(h:ap w bj q)(hb:bj<=B)(hB:∀g∈q.Mc,g<B)(hs:∀g∈q.Mc,w'.heap[g]? =w.heap[g]?)
  (ho:w'.ownsRow B 137 3 (s_ a' l.length c') l.length (bm.flat l))(hm:∀x∈l,aC.cO w' bj x)(hn:(l.filterMap aC.bt).Nodup)(hk:∀g∈l.filterMap aC.bt,g∈q.ae.filterMap aC.bt\/g∉q.Mc)(hk2:∀g∈l.filterMap aC.bt,g<B):ap w' bj ({q with ae:=l,am:=a',aG:=c'}:af):=by
 have h2:=h.same hs;refine⟨h2.L8,h2.aj,h2.L9,h2.ag,cq ho hb,h2.ai,h2.eI,hm,h2.eR,?_⟩;have h5:=h.nodup;have h6:∀g∈blk a',g∉q.Mc/\g∉l.filterMap aC.bt:=λg hg=>⟨λhm=>Zcq,λhm=>ZdP⟩
 have e1:({q with ae:=l,am:=a',aG:=c'}:af).Mc=(blk q.aN++(q.L8.filterMap aR.bt++(blk q.bc++(blk q.ay++(blk q.ax)))))++(blk a'++(l.filterMap aC.bt++(blk q.aK++(q.ai.filterMap aU.bt)))):=ZcZ
 have e3:q.Mc=(blk q.aN++(q.L8.filterMap aR.bt++(blk q.bc++(blk q.ay++(blk q.ax)))))++(blk q.am++(q.ae.filterMap aC.bt++(blk q.aK++(q.ai.filterMap aU.bt)))):=ZcZ
 exact ZaY
def ap.Jb {w w':w_}{bj B:Nat}{q:af}{l:List aM}{a':Option d_}{c':Nat}(h:ap w bj q)(hb:bj<=B)(hB:∀g∈q.Mc,g<B)(hs:∀g∈q.Mc,w'.heap[g]? =w.heap[g]?)
  (ho:w'.ownsRow B 51 5 (s_ a' l.length c') l.length (bX.flat l))(hm:∀x∈l,aU.cO w' bj x)(hn:(l.filterMap aU.bt).Nodup)(hk:∀g∈l.filterMap aU.bt,g∈q.ai.filterMap aU.bt\/g∉q.Mc)(hk2:∀g∈l.filterMap aU.bt,g<B):ap w' bj ({q with ai:=l,aK:=a',aV:=c'}:af):=by
 have h2:=h.same hs;refine⟨h2.L8,h2.aj,h2.L9,h2.ag,h2.ae,cq ho hb,h2.eI,h2.eE,hm,?_⟩;have h5:=h.nodup;have h6:∀g∈blk a',g∉q.Mc/\g∉l.filterMap aU.bt:=λg hg=>⟨λhm=>Zcq,λhm=>ZdP⟩
 have e1:({q with ai:=l,aK:=a',aV:=c'}:af).Mc=(blk q.aN++(q.L8.filterMap aR.bt++(blk q.bc++(blk q.ay++(blk q.ax++(blk q.am++(q.ae.filterMap aC.bt)))))))++(blk a'++(l.filterMap aU.bt++([]:List Nat))):=ZcZ
 have e3:q.Mc=(blk q.aN++(q.L8.filterMap aR.bt++(blk q.bc++(blk q.ay++(blk q.ax++(blk q.am++(q.ae.filterMap aC.bt)))))))++(blk q.aK++(q.ai.filterMap aU.bt++([]:List Nat))):=ZcZ
 exact ZaY
abbrev Laid (w:w_)(b0 z:Nat)(p:af)(V:w_):Prop:=av V w.heap.size p/\ap V b0 p/\B_ w.heap.size w V/\V.heap[z]? =o_ (c_ ar 46)
abbrev aqz (W:w_)(o z:Nat)(p q:af)(V:w_):Prop:=av V o q/\ap V W.heap.size q/\q.pure=p.pure/\(∀g∈q.Mc,g<o)/\W.heap.size<=o/\z<W.heap.size/\o<V.heap.size
abbrev aro (w W:w_)(b0 z o:Nat)(p q:af)(P:aE)(V:w_):Prop:=Laid w b0 z p V/\av V o q/\ap V W.heap.size q/\q.pure=P
def arD (T S:T_)(n:Nat){α:Type}(fl:List α->List v_):Prop:=∀(w:w_)(bj:Nat)(a0:Option d_)(c0:Nat)(l0:List α)(_:w.ownsRow bj T n (s_ a0 l0.length c0) l0.length (fl l0))(a:Option d_)(l:List α)(cap:Nat)(_:ld w a (fl l))(_:l0.length+l.length<=4000000)(_:bj<=w.heap.size),
  ∃a' cap' w',(Builtin.append_ #[S,S] S #[s_ a0 l0.length c0,s_ a l.length cap]).run J3 w=.ok (s_ a' (l0.length+l.length) cap') w'/\w'.ownsRow bj T n (s_ a' (l0.length+l.length) cap') (l0.length+l.length) (fl (l0++l))/\w.grownBy w' (Value.slice a0 l0.length c0).ownBlock/\∀g∈blk a',g∈blk a0\/g=w.heap.size
variable {w W V w7:w_}{b0 z o i n s:Nat}{T:T_}{p q:af}{a7:Option d_}{c7:Nat}{xs:List v_}
def arb {v:v_}(hL:Laid w b0 z p V)(hM:aqz W o z p q V)(hz:w.heap.size<z)(hpb:∀g∈p.Mc,g<w.heap.size)(hO:w7.ownsRow V.heap.size T s (s_ a7 n c7) n xs)(gh:B_ V.heap.size V w7):
  (Laid w b0 z p (w7.setCell ⟨o,i,n_⟩ v)/\(w7.setCell ⟨o,i,n_⟩ v).heap[o]? =o_ (c_ (q.row.setIfInBounds i v) 46)/\ap (w7.setCell ⟨o,i,n_⟩ v) W.heap.size q)/\(w7.setCell ⟨o,i,n_⟩ v).ownsRow V.heap.size T s (s_ a7 n c7) n xs/\V.heap.size<=(w7.setCell ⟨o,i,n_⟩ v).heap.size:=by
 have h1:=hM.2.2;have h2:=hL.2.2.1.size;have lY:B_ w.heap.size w w7:=hL.2.2.1.trans (gh.mono h2);refine⟨⟨⟨(aH zw).trans (hL.1.below gh),(hL.2.1.below gh).same λg hg=>aH Zdx,bP lY zw,(aH zw).trans ((gh.block _ zw).trans hL.2.2.2)⟩,cx (hM.1.below gh),(hM.2.1.below gh).same λg hg=>aH ZeM⟩,aL hO λg hg=>aH (by have:=(cf hO hg).1;omega),?_⟩;rw[ja];exact gh.size
def arl {W8 w9:w_}{B:Nat}{apr v:v_}{P:aE}(q':af)(hM:aqz W o z p q V)(hz:w.heap.size<z)(hpb:∀g∈p.Mc,g<w.heap.size)(h8:Laid w b0 z p W8/\W8.heap[o]? =o_ (c_ (q.row.setIfInBounds i apr) 46)/\ap W8 W.heap.size q)(hoB:o<B)(kN:B_ B W8.drew w9)(hO:w9.ownsRow B T s (s_ a7 n c7) n xs)
  (hrow:q'.row=(q.row.setIfInBounds i apr).setIfInBounds i v)(hnew:∀V':w_,(∀g∈q.Mc,V'.heap[g]? =W8.heap[g]?)->V'.ownsRow B T s (s_ a7 n c7) n xs->ap V' W.heap.size q')(gn:q'.pure=P):
  aro w W b0 z o p q' P (w9.setCell ⟨o,i,n_⟩ v):=by
 have h1:=hM.2.2;have h2:=h8.1.2.2.1.size;have sm:∀g,g<B->g≠o->(w9.setCell ⟨o,i,n_⟩ v).heap[g]? =W8.heap[g]?:=λg hg hne=>(aH hne).trans (kN.block _ hg)
 refine⟨⟨(sm _ zw zw).trans h8.1.1,h8.1.2.1.same λg hg=>sm g Zdx Zdx,bP (h8.1.2.2.1.drew.trans (kN.mono zw)) zw,(sm _ zw zw).trans h8.1.2.2.2⟩,?_,hnew _ (λg hg=>sm g ZeM ZeM) (aL hO λg hg=>aH (by have:=(cf hO hg).1;omega)),gn⟩;have h5:=cx (i:=i) (v:=v) ((kN.block o hoB).trans h8.2.1);rw[<-hrow]at h5;exact h5
def arC {α:Type}{S:T_}{fl:List α->List v_}(hm:arD T S s fl)(h0:fl []=[]){L:List α}{x:α}{A:Option d_}{C k:Nat}{cs:Array v_}(hk:k<=L.length)(hl:L.length<=1048576)(hs:∀W',B_ V.heap.size V W'->ld W' A (fl (L.take k)))(hx:fl [x]=cs.toList):
  ∃a5 c5 w5 a7 c7 w7,(Builtin.append_ #[S,S] S #[s_ (o_ ⟨V.heap.size,0,n_⟩) 0 0,s_ A k C]).run J3 (V.alloc (c_ #[] T))=.ok (s_ a5 k c5) w5/\(Builtin.append_ #[S,S] S #[s_ a5 k c5,s_ (o_ ⟨w5.heap.size,0,n_⟩) 1 1]).run J3 (w5.alloc (c_ cs T))=.ok (s_ a7 (k+1) c7) w7/\w7.ownsRow V.heap.size T s (s_ a7 (k+1) c7) (k+1) (fl (L.take k++[x]))/\B_ V.heap.size V w7/\(L.take k++[x]).length=k+1:=by
 have hkl:(L.take k).length=k:=ZdM
 have hb3:B_ V.heap.size V (V.alloc (c_ #[] T)):=(Kp _ _).alloc (Ki _) _;obtain⟨a5,c5,w5,hap,oe,A7,-⟩:=hm (V.alloc (c_ #[] T)) V.heap.size (o_ ⟨V.heap.size,0,n_⟩) 0 [] (by rw[h0];exact i6 (Kj _ _) (Ki _)) A (L.take k) C (hs _ hb3) ZfS hb3.size;rw[hkl]at hap oe;simp only[K4,Li,Ll]at hap oe;have iJ:B_ V.heap.size V w5:=hb3.grown A7 hb3.size λc e=>ZfB
 have jQ:B_ w5.heap.size w5 (w5.alloc (c_ cs T)):=(Kp _ _).alloc (Ki _) _;have yJ:=iJ.trans (jQ.mono iJ.size);obtain⟨a7,c7,w7,gT,mP,xI,-⟩:=hm (w5.alloc (c_ cs T)) V.heap.size a5 c5 (L.take k) (by rw[hkl];exact cR oe jQ) (o_ ⟨w5.heap.size,0,n_⟩) [x] 1 (by rw[hx];exact jO (Kj _ _)) ZfT yJ.size;rw[hkl]at gT mP;simp only[Lg,K4,Li]at gT mP;exact⟨a5,c5,w5,a7,c7,w7,hap,gT,mP,yJ.grown xI yJ.size λc e=>(cf oe (di e)).1,by rw[Lf,hkl];rfl⟩
def aqL (h:ap w b0 p):Laid w b0 (w.heap.size+1) p ((w.alloc (c_ p.row 46)).alloc (c_ ar 46)):=
 ⟨(cZ _ _ _).1,h.below (dT _ _ _),dT _ _ _,(cZ _ _ _).2⟩
def aq1 {x:Obj}(h:ap w b0 p):Laid w b0 (w.heap.size+1+1) p (((w.alloc (c_ p.row 46)).alloc x).alloc (c_ ar 46)):=
 ⟨(dR _ _ _ _).1,h.below (fg _ _ _ _),fg _ _ _ _,(dR _ _ _ _).2.2.1⟩
def Laid.on {V':w_}(h:Laid w b0 z p V)(hb:B_ V.heap.size V V'):Laid w b0 z p V':=⟨h.1.below hb,h.2.1.below hb,h.2.2.1.trans (hb.mono h.2.2.1.size),(hb.block _ (J2.1 h.2.2.2).1).trans h.2.2.2⟩
def aqz.on {V':w_}(h:aqz W o z p q V)(hb:B_ V.heap.size V V'):aqz W o z p q V':=⟨h.1.below hb,h.2.1.below hb,h.2.2.1,h.2.2.2.1,h.2.2.2.2.1,h.2.2.2.2.2.1,by have:=hb.size;omega⟩
def aql {W1:w_}(hL:Laid w b0 z p W)(hown:ap W1 W.heap.size q)(gn:q.pure=p.pure)(hb1:B_ W.heap.size W W1):
  B_ W.heap.size W (W1.alloc (c_ q.row 46))/\da (aqz W W1.heap.size z p q (W1.alloc (c_ q.row 46)))/\da (Laid w b0 z p (W1.alloc (c_ q.row 46))):=by
 have hb2:B_ W1.heap.size W1 (W1.alloc (c_ q.row 46)):=(Kp _ _).alloc (Ki _) _;have hb3:=hb1.trans (hb2.mono hb1.size);exact⟨hb3,⟨Kj _ _,hown.below hb2,gn,λg hg=>(hown.lt g hg).2,hb1.size,(J2.1 hL.2.2.2).1,zy⟩,hL.on hb3⟩
def uI:arD 128 40 3 dm.flat:=by
 intro w bj a0 c0 l0 ho a l cap h hl lY;obtain⟨i,hi,e⟩:=Kw.1 yS;simp only[Kx]at e;rw[dm.dc];exact jD w bj _ _ 128 i _ 3 24 underlying40 hi e.1 e.2.1 e.2.2 rfl (by decide) a0 l0.length c0 _ ho a l.length cap _ h (dm.dM l) Ec hl (by decide) lY
def ap.newSem {w w':w_}{bj B:Nat}{q:af}{l:List bD}{a':Option d_}{c':Nat}(h:ap w bj q)(hb:bj<=B)(hB:∀g∈q.Mc,g<B)(hs:∀g∈q.Mc,w'.heap[g]? =w.heap[g]?)
  (ho:w'.ownsRow B 128 3 (s_ a' l.length c') l.length (dm.flat l)):ap w' bj ({q with aj:=l,bc:=a',bF:=c'}:af):=by
 have h2:=h.same hs;refine⟨h2.L8,cq ho hb,h2.L9,h2.ag,h2.ae,h2.ai,h2.eI,h2.eE,h2.eR,?_⟩;have h5:=h.nodup;have h6:∀g∈blk a',g∉q.Mc:=λg hg hm=>Zcq
 have e1:∀(a2:Option d_)(l2:List bD)(c2:Nat),({q with aj:=l2,bc:=a2,bF:=c2}:af).Mc=(blk q.aN++q.L8.filterMap aR.bt)++(blk a2++(blk q.ay++(blk q.ax++(blk q.am++(q.ae.filterMap aC.bt++(blk q.aK++q.ai.filterMap aU.bt)))))):=λ_ _ _=>ZcZ
 have e2:=e1 q.bc q.aj q.bF;rw[e1];have e3:q.Mc=(blk q.aN++q.L8.filterMap aR.bt)++(blk q.bc++(blk q.ay++(blk q.ax++(blk q.am++(q.ae.filterMap aC.bt++(blk q.aK++q.ai.filterMap aU.bt)))))):=e2;rw[e3]at h5 h6;exact qv h5 (fN _) h6
end
section
def aqd {p q:af}{w W W10:w_}{b0 z:Nat}{P:aE}(hp:p.Fit/\∀x∈p.L8,x.dX)(td:ap W10 b0 p)(hlow:B_ w.heap.size w W10)(hret:W10.heap[z]? =o_ (c_ ar 46))(hz:w.heap.size<=z/\z<W.heap.size)(qP:ap W10 W.heap.size q)(gn:q.pure=P)(qY:bK p.pure=true->P.Small):
  k_ J3 135 #[a_ p.cells,a_ q.cells] W10 λe ow=>ow.heap[z]? =o_ (c_ ar 46)/\((e=r_ (u_ #[a_ q.cells,b_ true])/\gI w (cB p.pure P) (r_ (u_ #[a_ q.cells,b_ true])) (ow.setRow z q.cells))\/(e=r_ (u_ #[a_ ar,b_ false])/\gI w (cB p.pure P) (r_ (u_ #[a_ ar,b_ false])) (ow.setRow z ar))):=by
 refine(fi p q W10 ⟨hp.1,hp.2,td.at⟩ λhr=>?_).mono ?_
 .have h5:q.pure.Small:=by rw[gn];exact qY hr
  exact⟨dV h5,λx hx=>(cY h5 hx).1,qP.at⟩
 .rintro e ow ⟨hb,hok⟩
  have hb2:=hlow.trans (hb.mono hlow.size);rw[gn]at hok;refine⟨(hb.block _ (J2.1 hret).1).trans hret,?_⟩;rcases hok with⟨hok,rfl⟩|⟨hok,rfl⟩
  .refine .inl ⟨rfl,?_⟩
   rw[jS hok];exact⟨q,rfl,((qP.below hb).lower zw).same λg hg=>KH _ _ _ _ (by have:=(qP.lt g hg).1;omega),gn,q_ hb2 hz.1 _⟩
  .exact .inr ⟨rfl,ca (jh hok) (q_ hb2 hz.1 _)⟩
def yN {p:aE}{x:bD}(h:p.Small)(hr:bK p=true)(hx:(Lit.int j_ x.id).wf=true):aE.Small {p with aj:=cA (·.id) x p.aj}:=by
 have h2:=((ch _).1 hr).fx;exact⟨h.dl,by show(cA (·.id) x p.aj).length<=_;rw[eJ];omega,h.cD,h.cC,h.cb,h.dH,h.L8,λy hy=>(js.1 hy).elim (λe=>e▸hx) (h.aj y),h.L9,h.ag,h.ae,h.ai⟩
end
section
open Go.Maps
attribute [local go_sem ↓] Kc Kd
abbrev bD.row (z:bD):Array v_:=#[i_ j_ z.id,i_ j_ z.n,i_ j_ z.max]
def tF (p:af)(z:bD)(w:w_)(b0:Nat)(hwf:(Lit.int j_ z.id).wf=true)(qY:p.pure.Small)(h:ap w b0 p):
  k_ J3 87 #[a_ p.cells,a_ #[i_ j_ z.id,i_ j_ z.n,i_ j_ z.max]] w λe w'=>gI w (cB p.pure {p.pure with aj:=cA (·.id) z p.pure.aj}) e w':=by
 have HB:=aA (aq1 (x:=c_ z.row 128) h);have Cj:da ((((w.alloc (c_ p.cells 46)).alloc (c_ z.row 128)).alloc (c_ ar 46)).heap[w.heap.size+1]? =o_ (c_ z.row 128)):=(dR _ _ _ _).2.1;have fl:da (p.Fit/\(∀x∈p.L8,x.dX)/\p.pure.Small/\(Lit.int j_ z.id).wf=true):=⟨dV qY,λx hx=>(cY qY hx).1,qY,hwf⟩
 have hpl:=fl.I.1.short.aj;have hcap:p.aj.length<=p.bF:=nV h.aj;have Au:da (∀g∈p.Mc,g<w.heap.size):=λg hg=>(h.lt g hg).2
 clear h qY hwf;obtain⟨m0,m1,m2,m3,m4,m5,m6,m7⟩:=HB.I.1.cells;unfold af.cells at*
 go_enter func87,ntmps87
 go_wp2_with fail;generalize((w.alloc (c_ p.row 46)).alloc (c_ z.row 128)).alloc (c_ ar 46)=W at*;clear m0 m1 m2 m3 m4 m5 m6 m7;refine(fR p W fl.I.1 fl.I.2.1 HB.I.2.1.at).mono ?_;rintro e W1 ⟨q,rfl,hown,gn,hb1⟩;obtain⟨hb3,HQ,HL⟩:=aql HB.I hown gn hb1;replace Cj:da ((W1.alloc (c_ q.row 46)).heap[w.heap.size+1]? =o_ (c_ z.row 128)):=(hb3.block _ (by have:=HQ.I.2.2.2.2.2.1;omega)).trans Cj.I;replace HB:=HL;clear hown gn hb1 hb3 HL;obtain⟨m0,m1,m2,m3,m4,m5,m6,m7⟩:=HB.I.1.cells;unfold af.cells at*;go_wp2_with fail;generalize W1.alloc (c_ q.row 46)=W2 at*;clear m0 m1 m2 m4 m5 m6 m7;generalize W1.heap.size=o at*;clear m3
 go_loopw[7] (λi wr=>∃k:Nat,k<=p.aj.length/\i=i_ j_ k/\da (∀y∈p.aj.take k,y.id<z.id)/\da (B_ W2.heap.size W2 wr)) (λi _=>p.aj.length-(Go.RowKit.intOf i).toNat)
 case atStart=>exact⟨0,Ky _,rfl,λy hy=>Zet,Kp _ _⟩
 case round=>
  obtain⟨k,hk,rfl,HA,Ez⟩:=hrel;have hbr:B_ W2.heap.size W2 wr.drew.drew:=Ez.I.drew.drew;have hsz:=hbr.size;replace Ez:da (B_ W2.heap.size W2 wr.drew):=Ez.I.drew;have hq:=HQ.I;have hzl:w.heap.size+1<W2.heap.size:=zw
  replace HB:=aA (HB.I.on hbr);replace HQ:=aA (HQ.I.on hbr);replace Cj:da (wr.drew.drew.heap[w.heap.size+1]? =o_ (c_ z.row 128)):=(hbr.block _ hzl).trans Cj.I;clear hbr hsz hq hzl;have m:wr.drew.cell? ⟨w.heap.size,3,n_⟩=o_ (s_ p.bc p.aj.length p.bF):=HB.I.1.cells.2.2.2.1;have z0:wr.drew.cell? ⟨w.heap.size+1,0,n_⟩=o_ (i_ j_ z.id):=(gm (x:=z) Cj.I).1;have i0:(0:Int)<=(k:Int):=zw
  have icap:(k:Int)<=(p.bF:Int):=zw
  have i2:(k:Int)<=(p.aj.length:Int):=zw
  rcases zm (λy:bD=>y.id) z.id p.aj k with⟨x,hx,hc,hlt⟩|⟨x,hx,hc,hlt⟩|hlt
  .have HT:da (∀y∈p.aj.take (k+1),y.id<z.id):=nE hx HA.I hc
   have i1:(k:Int)<(p.aj.length:Int):=zw
   have d1:decide ((k:Int)<(p.aj.length:Int))=true:=decide_eq_true i1;have d2:decide (x.id<z.id)=true:=decide_eq_true hc;obtain⟨g,ha,hat⟩:=lQ HB.I.2.1.at.2.1 hx;have c0:wr.drew.cell? ⟨g,k*3,n_⟩=o_ (i_ j_ x.id):=hat.1;have m2:=m;rw[ha]at m2;clear hat hx ha hc;clear m;go_wp2_with fail;refine aT (λw'=>w'=wr.drew) ZbG rfl ?_
   iterate 16 (refine PI ?_ (hy:=λw0 hS0=>Zb7))
   refine bk ZbG ?_ _;intro w1 cm;subst cm;go_wp2;go_roundw
   case rel=>exact⟨k+1,zw,by go_num,HT.I,Ez.I⟩
   case measure=>exact ZbL
  focus
   have HX:da (∀y,p.aj[k]? =o_ y->¬y.id<z.id):=λy hy e=>Zd5
   have i1:(k:Int)<(p.aj.length:Int):=zw
   have d1:decide ((k:Int)<(p.aj.length:Int))=true:=decide_eq_true i1;have d2:decide (x.id<z.id)=false:=decide_eq_false hc;obtain⟨g,ha,hat⟩:=lQ HB.I.2.1.at.2.1 hx;have c0:wr.drew.cell? ⟨g,k*3,n_⟩=o_ (i_ j_ x.id):=hat.1;have m2:=m;rw[ha]at m2;clear hat hx ha hc;clear m;go_wp2_with fail;refine aT (λw'=>w'=wr.drew) ZbG rfl ?_
   iterate 16 (refine PI ?_ (hy:=λw0 hS0=>Zb7))
   refine bk ZbG ?_ _;intro w1 cm;subst cm;clear i1 d1 d2 c0 m2
  rotate_left
  focus
   have HX:da (∀y,p.aj[k]? =o_ y->¬y.id<z.id):=λy hy=>absurd (Lj.1 hy).1 hlt
   have d1:decide ((k:Int)<(p.aj.length:Int))=false:=decide_eq_false zw;go_wp2_with fail;refine aT (λw'=>w'=wr.drew) ZbG rfl ?_
   iterate 6 (refine PI ?_ (hy:=λw0 hS0=>Zb7))
   iterate 9 (refine nl ?_;simp only[pt,sb,s0,s1])
   (refine PI ?_ (hy:=λw0 hS0=>Zb7))
   refine bk ZbG ?_ _;intro w1 cm;subst cm;clear d1 m
  all_goals
   clear hlt z0 Ez;go_wp2_with fail;refine Kr (S:=λw'=>av w' w.heap.size p/\w'.heap[w.heap.size+1]? =o_ (c_ z.row 128)) ZbG ⟨HB.I.1,Cj.I⟩ (λbN=>?_);generalize wr.drew.drew=V2 at*;refine tt 1 bN ?_ (hy:=λw0 hS0=>ZbN);refine tt 2 bN ?_ (hy:=λw0 hS0=>ZbN);refine tt 3 bN ?_ (hy:=λw0 hS0=>ZbN);refine tt 4 bN ?_ (hy:=λw0 hS0=>ZbN);refine tt 6 bN ?_ (hy:=λw0 hS0=>ZbN);clear bN;have hkl:(p.aj.take k).length=k:=ZdM
   have hq:=HQ.I;have hS:∀W,B_ V2.heap.size V2 W->av W w.heap.size p/\W.heap[w.heap.size+1]? =o_ (c_ z.row 128):=λW hb=>⟨(hb.block _ zw).trans HB.I.1,(hb.block _ zw).trans Cj.I⟩
   have wg:da (∀(W:w_)(g:Nat),B_ V2.heap.size V2 W->W.heap[g]? =o_ (c_ #[] 128)->V2.heap.size<=g->∃a5 c5 w5,(Builtin.append_ #[40,40] 40 #[s_ (o_ ⟨g,0,n_⟩) 0 0,s_ p.bc k p.bF]).run J3 W=.ok (s_ a5 k c5) w5/\w5.ownsRow V2.heap.size 128 3 (s_ a5 k c5) k (dm.flat (p.aj.take k))/\B_ V2.heap.size V2 w5/\B_ V2.heap.size V2 w5/\∀h,V2.heap.size<=h->h≠g->h<W.heap.size->w5.heap[h]? =W.heap[h]?):=λW g hb hg hge=>by
    obtain⟨a5,c5,w5,hap,oe,A7,-⟩:=uI W V2.heap.size (o_ ⟨g,0,n_⟩) 0 [] (i6 hg hge) p.bc (p.aj.take k) p.bF (uM k (HB.I.2.1.below hb).at.2.1.1) ZfS hb.size;rw[hkl]at hap oe;simp only[K4,Li,Ll]at hap oe;have iJ:B_ V2.heap.size V2 w5:=hb.grown A7 hb.size λc e=>by cases e;exact hge
    exact⟨a5,c5,w5,hap,oe,iJ,iJ,λh _ hn hl=>A7.block h hl (λe=>hn (by cases e;rfl))⟩
   have afR:∀(W:w_)(c:Obj),B_ V2.heap.size V2 W->B_ V2.heap.size V2 (W.alloc c):=λW c hb=>hb.alloc hb.size _
   refine KW (rs:=[0,7]) ZbG zy ?_;refine KX rfl (λK hK=>?_) (KX rfl (λK hK=>?_) KY)
   focus
    have b1:B_ V2.heap.size V2 (V2.alloc (c_ #[] 128)):=afR _ _ (Kp _ _);simp only[KZ,K0];rw[if_pos (by rfl)];go_wp2_with fail;refine hK.out _ _ (hS _ b1) (λbN=>?_);clear hK K bN
    try simp only[pt,sb,s0,s1]
    have b7:B_ V2.heap.size V2 ((V2.alloc (c_ #[] 128)).alloc (c_ z.row 128)):=afR _ _ b1;refine KW (rs:=[5,7]) ZbG zy ?_;refine KX rfl (λK hK=>?_) (KX rfl (λK hK=>?_) KY)
    focus
     clear b7;obtain⟨a5,c5,w5,hap,oe,iJ,-,-⟩:=wg.I _ _ b1 (Kj _ _) (Ki _);simp only[KZ,K0,K1];rw[if_pos (by rfl)];refine cM _ _ _ rfl _ _ _ w5 rfl rfl hap ?_;refine hK.out _ _ (hS _ iJ) (λbN=>?_);clear hK K bN
     try simp only[pt,sb,s0,s1]
     refine L7 7 (λK hK=>?_);go_wp2_with fail;refine hK.out _ _ (hS _ (afR _ _ iJ)) (λbN=>?_);clear hK K bN
     try simp only[pt,sb,s0,s1]
     have qJ:da ((w5.alloc (c_ z.row 128)).ownsRow V2.heap.size 128 3 (s_ a5 k c5) k (dm.flat (p.aj.take k))/\(w5.alloc (c_ z.row 128)).heap[w5.heap.size]? =o_ (c_ z.row 128)/\B_ V2.heap.size V2 (w5.alloc (c_ z.row 128))):=⟨cR oe ((Kp _ _).alloc (Ki _) _),Kj _ _,afR _ _ iJ⟩
     clear hap oe iJ b1 afR hS;generalize w5.alloc (c_ z.row 128)=w6 at*;generalize w5.heap.size=gx at*
    rotate_left
    focus
     obtain⟨a5,c5,w6,om,qH,jQ,-,zU⟩:=wg.I _ _ b7 ((PU zy).trans (Kj _ _)) (Ki _);simp only[KZ,K0,K1];rw[if_pos (by rfl)];go_wp2_with fail;refine hK.out _ _ (hS _ b7) (λbN=>?_);clear hK K bN
     try simp only[pt,sb,s0,s1]
     refine L7 5 (λK hK=>?_);refine cM _ _ _ rfl _ _ _ w6 rfl rfl om ?_;refine hK.out _ _ (hS _ jQ) (λbN=>?_);clear hK K bN
     try simp only[pt,sb,s0,s1]
     have qJ:da (w6.ownsRow V2.heap.size 128 3 (s_ a5 k c5) k (dm.flat (p.aj.take k))/\w6.heap[(V2.heap.size+1)]? =o_ (c_ z.row 128)/\B_ V2.heap.size V2 w6):=⟨qH,(zU _ zw zw ZdQ).trans (by have h5:=Kj (V2.alloc (c_ #[] 128)) (c_ z.row 128);simpa using h5),jQ⟩
     clear om qH jQ zU b1 b7 afR hS
   rotate_left 2
   focus
    have b7:B_ V2.heap.size V2 (V2.alloc (c_ z.row 128)):=afR _ _ (Kp _ _);simp only[KZ,K0,K1];rw[if_pos (by rfl)];go_wp2_with fail;refine hK.out _ _ (hS _ b7) (λbN=>?_);clear hK K bN
    try simp only[pt,sb,s0,s1]
    have b1:B_ V2.heap.size V2 ((V2.alloc (c_ z.row 128)).alloc (c_ #[] 128)):=afR _ _ b7;refine L7 0 (λK hK=>?_);go_wp2_with fail;refine hK.out _ _ (hS _ b1) (λbN=>?_);clear hK K bN
    try simp only[pt,sb,s0,s1]
    obtain⟨a5,c5,w6,om,qH,jQ,-,zU⟩:=wg.I ((V2.alloc (c_ z.row 128)).alloc (c_ #[] 128)) (V2.heap.size+1) b1 (Kq _ _ _) zw;refine L7 5 (λK hK=>?_);refine cM _ _ _ rfl _ _ _ w6 rfl rfl om ?_;refine hK.out _ _ (hS _ jQ) (λbN=>?_);clear hK K bN
    try simp only[pt,sb,s0,s1]
    have qJ:da (w6.ownsRow V2.heap.size 128 3 (s_ a5 k c5) k (dm.flat (p.aj.take k))/\w6.heap[V2.heap.size]? =o_ (c_ z.row 128)/\B_ V2.heap.size V2 w6):=⟨qH,(zU _ zw zw ZdQ).trans ((PU zy).trans (Kj _ _)),jQ⟩
    clear om qH jQ zU b1 b7 afR hS
   all_goals
    have qH:w6.ownsRow V2.heap.size 128 3 (s_ a5 (p.aj.take k).length c5) (p.aj.take k).length (dm.flat (p.aj.take k)):=by rw[hkl];exact qJ.I.1
    obtain⟨a7,c7,w7,gT,mP,xI,-⟩:=uI w6 V2.heap.size a5 c5 (p.aj.take k) qH _ [z] 1 (jO qJ.I.2.1) ZfT qJ.I.2.2.size;have mI:(p.aj.take k++[z]).length=k+1:=by rw[Lf,hkl];rfl
    rw[hkl]at gT mP;simp only[Lg,K4,Li]at gT mP;have gh:B_ V2.heap.size V2 w7:=qJ.I.2.2.grown xI qJ.I.2.2.size λc e=>(cf qJ.I.1 (di e)).1
    have Em:da (w7.ownsRow V2.heap.size 128 3 (s_ a7 (k+1) c7) (k+1) (dm.flat (p.aj.take k++[z]))/\B_ V2.heap.size V2 w7/\(p.aj.take k++[z]).length=k+1):=⟨mP,gh,mI⟩
    refine L7 8 (λK hK=>?_);refine cM _ _ _ rfl _ _ _ w7 rfl rfl gT ?_;refine hK.out _ _ ⟨(gh.block _ zw).trans HB.I.1,(gh.block _ zw).trans Cj.I⟩ (λbN=>?_);clear hK K bN
    try simp only[pt,sb,s0,s1]
    have H8:=aA (arb (i:=3) (v:=s_ a7 (k+1) c7) HB.I HQ.I zw Au.I mP gh);have HX8:da ((w7.setCell ⟨o,3,n_⟩ (s_ a7 (k+1) c7)).heap[w.heap.size+1]? =o_ (c_ z.row 128)):=(aH zw).trans ((gh.block _ zw).trans Cj.I);obtain⟨⟨u,co⟩,fo⟩:(∃u,w7.cell? ⟨o,3,n_⟩=o_ u)/\w7.frozen? ⟨o,3,n_⟩=false:=⟨⟨_,(HQ.I.1.below gh).cells.2.2.2.1⟩,Ko _ _ _ _ _ (HQ.I.1.below gh)⟩
    have wj:av w7 w.heap.size p/\w7.heap[w.heap.size+1]? =o_ (c_ z.row 128):=⟨(gh.block _ zw).trans HB.I.1,(gh.block _ zw).trans Cj.I⟩
    clear qH gT mP xI gh mI qJ wg;refine tt 9 wj ?_;refine L7 10 (λK hK=>?_);go_wp2_with fail;refine hK.out _ _ ⟨H8.I.1.1.1,HX8.I⟩ (λbN=>?_);clear hK K bN
    try simp only[pt,sb,s0,s1]
    refine K3 ZbG ?_ _;clear co fo wj hq HX8 Cj;go_wp2_with fail;generalize w7.setCell ⟨o,3,n_⟩ (s_ a7 (k+1) c7)=W8 at*;have HS:da (W8.cell? ⟨w.heap.size,3,n_⟩=o_ (s_ p.bc p.aj.length p.bF)):=H8.I.1.1.1.cells.2.2.2.1;have co8:W8.drew.cell? ⟨o,3,n_⟩=o_ (s_ a7 (k+1) c7):=Zc1
    obtain⟨u6,Jx⟩:∃u6,(if p.bF=k then p.bc else Option.map (λx=>x.add (k*3)) p.bc)=u6:=⟨_,rfl⟩
    refine Kr (S:=λw'=>w'.cell? ⟨w.heap.size,3,n_⟩=o_ (s_ p.bc p.aj.length p.bF)) ZbG HS.I (λbN=>?_);refine tt 0 bN ?_ (hy:=λw0 hS0=>ZbM);refine tt 2 bN ?_ (hy:=λw0 hS0=>ZbM);refine tt 3 bN ?_ (hy:=λw0 hS0=>ZbM);refine tt 4 bN ?_ (hy:=λw0 hS0=>ZbM);refine tt 5 bN ?_ (hy:=λw0 hS0=>ZbM);refine L7 1 (λK hK=>?_);go_wp2_with fail;refine hK.out _ _ HS.I (λbN=>?_);clear hK K
    try simp only[pt,sb,s0,s1]
    have hbd:B_ W8.heap.size W8 W8.drew:=(Kp _ _).drew;have mI:=Em.I.2.2;have hkd:(p.aj.drop k).length=p.aj.length-k:=Ql;obtain⟨a9,c9,w9,hr,xj,FW,-⟩:=uI W8.drew V2.heap.size a7 c7 (p.aj.take k++[z]) Zeh u6 (p.aj.drop k) (p.bF-k) (by rw[<-Jx];exact qK hcap (H8.I.1.1.2.1.below hbd).at.2.1.1) Zfk H8.I.2.2;have sR:(p.aj.take k++[z]++p.aj.drop k).length=k+1+(p.aj.length-k):=by rw[Lf,mI,hkd]
    rw[mI,hkd]at hr xj;have kN:B_ V2.heap.size W8.drew w9:=(Kp _ _).grown (a:=W8.drew) FW H8.I.2.2 λc e=>(cf H8.I.2.1 (di e)).1
    have hq:=HQ.I;have lV:=(kN.block _ hq.2.2.2.2.2.2).trans H8.I.1.2.1;obtain ⟨q',eX⟩: ∃ q',da (aro w W b0 (w.heap.size+1+1) o p q' { p.pure with aj:=cA (·.id) z p.pure.aj } (w9.setCell ⟨o,3,n_⟩ (s_ a9 (k+1+(p.aj.length - k)) c9))):=⟨{ q with aj:=p.aj.take k ++ [z] ++ p.aj.drop k,bc:=a9,bF:=c9 },arl _ hq zw Au.I H8.I.1 hq.2.2.2.2.2.2 kN xj ZeA (λ V hV ho=>H8.I.1.2.2.newSem (B:=V2.heap.size) zw (λ g hg=>ZeF) hV Zfr) (by
     show({q.pure with aj:=p.aj.take k++[z]++p.aj.drop k}:aE)=_
     rw[hq.2.2.1,Lm];exact congrArg (λl=>({p.pure with aj:=l}:aE)) (tP HA.I (λy hy=>by have h5:=HX.I y hy;show¬y.id<z.id;omega)))⟩
    have YU:da (w9.cell? ⟨w.heap.size,3,n_⟩=o_ (s_ p.bc p.aj.length p.bF)):=(J1 (kN.block _ Zev)).trans HS.I;refine L7 6 (λK hK=>?_);refine cM _ _ _ rfl _ _ _ w9 rfl rfl hr ?_;refine hK.out _ _ YU.I (λbN=>?_);clear hK K
    try simp only[pt,sb,s0,s1]
    obtain⟨⟨u,co⟩,fo⟩:(∃u,w9.cell? ⟨o,3,n_⟩=o_ u)/\w9.frozen? ⟨o,3,n_⟩=false:=⟨⟨_,ZeN⟩,Ko _ _ _ _ _ lV⟩
    clear hr xj FW kN hq lV hbd;refine tt 7 bN ?_ (hy:=λw0 hS0=>ZbM);refine L7 8 (λK hK=>?_);go_wp2_with fail;refine hK.out _ _ eX.I.1.1.cells.2.2.2.1 (λbN=>?_);clear hK K
    try simp only[pt,sb,s0,s1]
    refine K3 ZbG ?_ _;clear bN co fo YU HS co8;generalize w9.setCell ⟨o,3,n_⟩ (s_ a9 (k+1+(p.aj.length-k)) c9)=W10 at*;have K:=@yN;have Mb:=aqd (W:=W) (z:=w.heap.size+1+1) ⟨fl.I.1,fl.I.2.1⟩ eX.I.1.2.1 eX.I.1.2.2.1 eX.I.1.2.2.2 ⟨zw,HQ.I.2.2.2.2.2.1⟩ eX.I.2.2.1 eX.I.2.2.2 (λhr=>K fl.I.2.2.1 hr fl.I.2.2.2);obtain⟨m0,m1,m2,m3,m4,m5,m6,m7⟩:=eX.I.1.1.cells;obtain⟨k0,k1,k2,k3,k4,k5,k6,k7⟩:=eX.I.2.1.cells;unfold af.cells at Mb;clear K sR mI hkd Jx;go_wp2_with fail;refine Mb.mono ?_;clear Mb m0 m1 m2 m3 m4 m5 m6 m7 k0 k1 k2 k3 k4 k5 k6 k7;rintro e ow ⟨hz,⟨rfl,hR⟩|⟨rfl,hR⟩⟩
    all_goals
     have HZ:=aA (And.intro hz hR);clear hz hR;go_wp2_with(refine ec _ _ _ HZ.I.1 ?_);refine mG results87 (b_ _) HZ.I.1 ?_;exact HZ.I.2
end
section
open Go.Maps
def arc {α:Type}{N:gd α}{w W W2 w9:w_}{b0 z o i n s:Nat}{T:T_}{p q:af}{a:Option d_}{c:Nat}{xs:List v_}{l acc:List α}{x:α}{num:α->Int}{P:aE}(q':af)(hB:Laid w b0 z p W2)(hQ:aqz W o z p q W2)(hz:w.heap.size<z)(hpb:∀g∈p.Mc,g<w.heap.size)
  (hown:w9.ownsRow W2.heap.size T s (s_ a n c) n xs)(hb:B_ W2.heap.size W2 w9)(ha:acc=bY num x l)(hk:∀g,N.bt x=o_ g->g∉q.Mc/\g≠o)(hm:N.cO W2 W.heap.size x)(la:∀y∈l,N.cO W2 W.heap.size y)(hin:∀g∈l.filterMap N.bt,g∈q.Mc)(hnd:(l.filterMap N.bt).Nodup)(hrow:q'.row=q.row.setIfInBounds i (s_ a n c))
  (hnew:∀V:w_,(∀g∈q.Mc,V.heap[g]? =W2.heap[g]?)->V.ownsRow W2.heap.size T s (s_ a n c) n xs->(∀x∈acc,N.cO V W.heap.size x)->(acc.filterMap N.bt).Nodup->(∀g∈acc.filterMap N.bt,g∈l.filterMap N.bt\/g∉q.Mc)->(∀g∈acc.filterMap N.bt,g<W2.heap.size)->ap V W.heap.size q')(gn:q'.pure=P):
  aro w W b0 z o p q' P (w9.setCell ⟨o,i,n_⟩ (s_ a n c)):=by
 have nW:=hQ.2.2.2.1;have h1:=hQ.2.2.2.2;have h2:=hB.2.2.1.size;have sm:∀g,g<W2.heap.size->g≠o->(w9.setCell ⟨o,i,n_⟩ (s_ a n c)).heap[g]? =W2.heap[g]?:=λg hg hne=>(aH hne).trans (hb.block _ hg)
 have apS:∀g∈q.Mc,(w9.setCell ⟨o,i,n_⟩ (s_ a n c)).heap[g]? =W2.heap[g]?:=λg hg=>sm g (by have:=nW g hg;omega) (by have:=nW g hg;omega)
 have iH:∀g∈acc.filterMap N.bt,g∈l.filterMap N.bt\/N.bt x=o_ g:=λg hg=>by
  obtain⟨y,hy,he⟩:=Lq.1 hg;rw[ha]at hy;rcases fq.1 hy with rfl|hy
  .exact .inr he
  .exact .inl (Lq.2 ⟨y,hy,he⟩)
 refine⟨⟨(sm _ zw zw).trans hB.1,hB.2.1.same λg hg=>sm g Zdx Zdx,bP (hB.2.2.1.trans (hb.mono zw)) zw,(sm _ zw zw).trans hB.2.2.2⟩,?_,hnew _ apS (aL hown λg hg=>aH (by have:=(cf hown hg).1;omega)) (λy hy=>?_) ?_ (λg hg=>?_) (λg hg=>?_),gn⟩
 .have h5:=cx (i:=i) (v:=s_ a n c) ((hb.block _ h1.2.2).trans hQ.1)
  exact h5.trans (by rw[<-hrow])
 .rw [ha]at hy
  rcases fq.1 hy with rfl|hy
  .exact hm.same λg hg=>sm g (hm.lt hg).2 (hk g hg).2
  .exact (la y hy).same λg hg=>apS g (hin g (Lq.2 ⟨y,hy,hg⟩))
 .have hp:(acc.filterMap N.bt).Perm ((x::l).filterMap N.bt):=by rw[ha];exact(pz x _).filterMap _
  refine hp.nodup_iff.2 ?_;cases he:N.bt x with
  |none=>rw[List.filterMap_cons_none he];exact hnd
  |some g=>rw[List.filterMap_cons_some he];exact Lp.2 ⟨λh7=>(hk g he).1 (hin g h7),hnd⟩
 .rcases iH g hg with h5|h5
  .exact .inl h5
  .exact .inr (hk g h5).1
 .rcases iH g hg with h5|h5
  .have:=nW g (hin g h5);omega
  .exact (hm.lt h5).2
end
section
abbrev newP (id RX:Int)(l:List dN):aD:=⟨id,RX,l,0,0,0,0,0,⟨#[]⟩,⟨#[]⟩,0,0⟩
section
variable {p:aE}{id RX:Int}{l:List dN}
def pO (h:p.Small)(hr:bK p=true)(hx:l.length<=1048576/\∀o∈l,o.2.2.2.size<=1048576)(hw:(Lit.int j_ id).wf=true):aE.Small {p with L8:=bY (·.id) (newP id RX l) p.L8}:=by
 have h2:=((ch _).1 hr).dl;exact⟨by show(bY (·.id) (newP id RX l) p.L8).length<=_;rw[er];omega,h.fx,h.cD,h.cC,h.cb,h.dH,λy hy=>(fq.1 hy).elim (λe=>e▸⟨⟨hx.1,hx.2,Ky _,Ky _⟩,hw,ZfM,ZfM⟩) (h.L8 y),h.aj,h.L9,h.ag,h.ae,h.ai⟩
end
def pU {p:aE}{x:dS}(h:p.Small)(hr:bK p=true)(hx:(Lit.int j_ x.id).wf=true/\x.Ma.length<=1048576/\∀s∈x.Ma,s.size<=1048576):aE.Small {p with ai:=bY (·.id) x p.ai}:=by
 have h2:=((ch _).1 hr).dH;exact⟨h.dl,h.fx,h.cD,h.cC,h.cb,by show(bY (·.id) x p.ai).length<=_;rw[er];omega,h.L8,h.aj,h.L9,h.ag,h.ae,λy hy=>(fq.1 hy).elim (λe=>e▸hx) (h.ai y)⟩
end
section
open Go.Maps
attribute [local go_sem ↓] Kc Kd
abbrev aqV (id RX:Int)(a:Option d_)(n c:Nat):Array v_:=#[i_ j_ id,i_ j_ RX,s_ a n c,i_ j_ 0,i_ j_ 0,i_ j_ 0,i_ j_ 0,i_ j_ 0,t_ ⟨#[]⟩,t_ ⟨#[]⟩,i_ j_ 0,i_ j_ 0]
structure ng {α:Type}(K:Kind α)(T:T_)(W w:w_)(acc:List α)(a:Option d_)(c:Nat):Prop where
 own:w.ownsRow W.heap.size T K.n (s_ a acc.length c) acc.length (K.flat acc)
 cd:B_ W.heap.size W w
def ng.start {α:Type}{K:Kind α}{T:T_}{W:w_}:ng K T W (W.alloc (c_ #[] T)) [] (o_ ⟨W.heap.size,0,n_⟩) 0:=⟨i6 (Kj _ _) (Ki _),(Kp _ _).alloc (Ki _) _⟩
def ng.add {α:Type}{K:Kind α}{T:T_}{W w:w_}{acc:List α}{a:Option d_}{c:Nat}(h:ng K T W w acc a c)(t:T_)(bytes:Nat){z0:v_}{P:Program}(ht:P.underlying t=o_ (.slice T))
  (hi:(P.info? T).map (λi=>(i.zero,i.size,i.bytes))=o_ (o_ z0,K.n,bytes))(hz:z0.cells.size=K.n)(hn:0<K.n)(hby:bytes<=1000)(z:α)(zs:Array v_)(hzs:zs.toList=K.vals z)(h1:∀u∈K.vals z,u.oneCell'=true)(hl:acc.length<=2000000):
  ∃a' c' w',(Builtin.append_ #[t,t] t #[s_ a acc.length c,s_ (o_ ⟨w.heap.size,0,n_⟩) 1 1]).run P (w.alloc (c_ zs T))=.ok (s_ a' (acc.length+1) c') w'/\ng K T W w' (acc++[z]) a' c':=by
 obtain⟨i,hi,e⟩:=Kw.1 hi;simp only[Kx]at e;have b1:B_ w.heap.size w (w.alloc (c_ zs T)):=(Kp _ _).alloc (Ki _) _;have b2:=h.cd.trans (b1.mono h.cd.size);obtain⟨a',c',w',hr,ho,hg,-⟩:=jD (P:=P) (w.alloc (c_ zs T)) W.heap.size t t T i z0 K.n bytes ht hi e.1 e.2.1 e.2.2 hz hn a acc.length c _ (cR h.own b1) (o_ ⟨w.heap.size,0,n_⟩) 1 1 (K.vals z) ZfL (by rw[K.len,Nat.one_mul]) h1 zw hby b2.size;refine⟨a',c',w',hr,⟨?_,b2.grown hg b2.size λk e=>(cf h.own (di e)).1⟩⟩;exact ZaE
def DQ {p q:af}{w W W2 w9:w_}{o b0 n9 c9:Nat}{x:ao}{xp:aD}{acc:List ao}{a9:Option d_}(hB:Laid w b0 (w.heap.size+1) p W2)(hQ:aqz W o (w.heap.size+1) p q W2)(hpb:∀g∈p.Mc,g<w.heap.size)(hl:ng bg 125 W2 w9 acc a9 c9)(ha:acc=bY (λy:ao=>y.id) x q.L8)(hn:acc.length=n9)(hx:x.toaD=xp)(hk:∀g,aR.bt x=o_ g->g∉q.Mc/\g≠o)(hm:aR.cO W2 W.heap.size x):
  ∃q',da (aro w W b0 (w.heap.size+1) o p q' {p.pure with L8:=bY (·.id) xp p.pure.L8} (w9.setCell ⟨o,2,n_⟩ (s_ a9 n9 c9))):=by
 subst hn;have h1:=hQ.2.2.2.2;refine⟨{q with L8:=acc,aN:=a9,aW:=c9},arc _ hB hQ zw hpb hl.own hl.cd ha hk hm hQ.2.1.eI (λg hg=>Zer) ?_ rfl (λV h1=>hQ.2.1.IX zw (λg hg=>ZeE) h1) ?_⟩
 .have h5:=hQ.2.1.nodup
  simp only[af.Mc,Kf]at h5;exact h5.2.1.1
 .show ({q.pure with L8:=acc.map (·.toaD)}:aE)=_
  have e1:q.L8.map (·.toaD)=p.pure.L8:=congrArg aE.L8 hQ.2.2.1;rw[ha,rF (je:=(·.id)) (λy:ao=>y.toaD) (λ_=>rfl),e1,hx,hQ.2.2.1]
def sB (p:af)(id RX:Int)(pa:Option d_)(ops:List dN)(pc:Nat)(w:w_)(b0:Nat)(hwf:(Lit.int j_ id).wf=true)(hop:ops.length<=1048576/\∀o∈ops,o.2.2.2.size<=1048576)(hrow:Row w pa (fk.flat ops))(qY:p.pure.Small)(h:ap w b0 p):
  k_ J3 92 #[a_ p.cells,i_ j_ id,i_ j_ RX,s_ pa ops.length pc] w λe w'=>gI w (cB p.pure {p.pure with L8:=bY (·.id) (newP id RX ops) p.pure.L8}) e w':=by
 have HB:=aA (aqL h);have fl:da (p.Fit/\(∀x∈p.L8,x.dX)/\p.pure.Small/\(Lit.int j_ id).wf=true):=⟨dV qY,λx hx=>(cY qY hx).1,qY,hwf⟩
 have tc:da ((ops.length<=1048576/\∀o∈ops,o.2.2.2.size<=1048576)/\Row w pa (fk.flat ops)):=⟨hop,hrow⟩
 have hpl:p.L8.length<=1048576:=fl.I.1.short.L8;have Au:da (∀g∈p.Mc,g<w.heap.size):=λg hg=>(h.lt g hg).2
 clear h qY hwf hop hrow;obtain⟨m0,m1,m2,m3,m4,m5,m6,m7⟩:=HB.I.1.cells;unfold af.cells at*
 go_enter func92,ntmps92
 go_wp2_with fail;generalize(w.alloc (c_ p.row 46)).alloc (c_ ar 46)=W at*;clear m0 m1 m2 m3 m4 m5 m6 m7;refine(fR p W fl.I.1 fl.I.2.1 HB.I.2.1.at).mono ?_;rintro e W1 ⟨q,rfl,hown,gn,hb1⟩;have hql:q.L8.length<=1048576:=by have e1:=congrArg (λz=>z.L8.length) gn;simp only[af.pure,KG]at e1;omega
 obtain⟨V,hV⟩:∃V,V=W1.alloc (c_ q.row 46):=⟨_,rfl⟩
 obtain⟨hb2,HQ,HL⟩:=aql HB.I hown gn hb1;rw[<-hV]at HQ HL;have hs2:V.heap.size=W1.heap.size+1:=by rw[hV];simp
 have hb3:B_ V.heap.size V (V.alloc (c_ #[] 217)):=(Kp _ _).alloc (Ki _) _;obtain⟨xa,xc,w4,hap,ho4,hg4,-⟩:=Gg (V.alloc (c_ #[] 217)) (W1.heap.size+1) (W1.heap.size+1) (by rw[<-hs2];exact Kj _ _) (Ki _) pa ops pc (tc.I.2.below (HL.I.2.2.1.trans (hb3.mono HL.I.2.2.1.size))) tc.I.1.1 (by have:=hb3.size;omega);have hb4:B_ V.heap.size V w4:=hb3.grown hg4 hb3.size λc e=>by cases e;exact Nat.le_of_eq hs2
 have iJ:B_ V.heap.size V (w4.alloc (c_ (aqV id RX xa ops.length xc) 125)):=hb4.alloc hb4.size _;have HX:da ((w4.alloc (c_ (aqV id RX xa ops.length xc) 125)).heap[w4.heap.size]? =o_ (c_ (aqV id RX xa ops.length xc) 125)/\aR.cO (w4.alloc (c_ (aqV id RX xa ops.length xc) 125)) (W1.heap.size+1) (⟨newP id RX ops,xa,xc⟩:ao)/\w4.heap.size<(w4.alloc (c_ (aqV id RX xa ops.length xc) 125)).heap.size):=⟨Kj _ _,cR ho4 ((Kp _ _).alloc (Ki _) _),zy⟩
 replace HQ:=aA (HQ.I.on iJ);replace HB:=aA (HL.I.on iJ);subst hV;clear HL hown gn hb1 hb2 hb3 hb4 iJ ho4 hg4 hs2;have En:=aA (ng.start (K:=bg) (T:=125) (W:=w4.alloc (c_ (aqV id RX xa ops.length xc) 125)));have Hw:(w4.alloc (c_ (aqV id RX xa ops.length xc) 125)).heap.size=w4.heap.size+1:=zy
 have HW:da ((w4.alloc (c_ (aqV id RX xa ops.length xc) 125)).heap.size=w4.heap.size+1):=Hw;clear Hw;unfold af.cells at*;go_wp2_with(at_builtin;refine br _ rfl _ _ 123 rfl _ _ _ _ rfl rfl hap ?_;clear hap);generalize w4.alloc (c_ (aqV id RX xa ops.length xc) 125)=W2 at*;generalize W1.heap.size=o at*;generalize w4.heap.size=xb at*
 go_loopw[12,13,14] (λl d i wr=>∃(k:Nat)(dn:Bool)(acc:List ao)(a:Option d_)(c:Nat),k<=q.L8.length/\i=i_ j_ k/\d=b_ dn/\l=s_ a acc.length c/\da (ng bg 125 W2 wr acc a c/\gY (λy:ao=>y.id) (⟨newP id RX ops,xa,xc⟩:ao) q.L8 k dn acc)) (λ_ _ i _=>q.L8.length-(Go.RowKit.intOf i).toNat)
 case atStart=>exact Zcy
 case round=>
  obtain⟨k,dn,acc,a,c,hk,rfl,rfl,rfl,HA⟩:=hrel;have i0:(0:Int)<=(k:Int):=zw
  have hbr:=HA.I.1.cd;have hal:=HA.I.2.le;have ajP:wr.cell? ⟨o,2,n_⟩=o_ (s_ q.aN q.L8.length q.aW):=(HQ.I.1.below hbr).cells.2.2.1;by_cases hlt:k<q.L8.length
  .have i1:(k:Int)<(q.L8.length:Int):=zw
   obtain⟨y,hy⟩:∃y,q.L8[k]? =o_ y:=⟨_,Kz hlt⟩
   have HY:da (q.L8[k]? =o_ y):=hy;obtain⟨g,ha,hat⟩:=cn (HQ.I.2.1.below hbr).at.1 hy;rw[ha]at ajP;obtain⟨d0,d1,d2,d3,d4,d5,d6,d7,d8,d9,tH,tS⟩:=hat;have HG:da (q.aN=o_ ⟨g,0,n_⟩):=ha;clear ha hy;obtain⟨a5,c5,w5,hap,rL⟩:=HA.I.1.add 39 128 (P:=J3) underlying39 nb rfl (by decide) (by decide) y y.row rfl rB zw;have F5:da (ng bg 125 W2 w5 (acc++[y]) a5 c5):=rL;clear rL;cases dn;rotate_left
   .go_wp2_with (at_builtin;first|(refine br _ rfl _ _ 39 rfl _ _ _ _ rfl rfl hap ?_;clear hap))
    exact L_
   by_cases hc:id<y.id;rotate_left
   .have HC:da (¬id<y.id):=hc
    go_wp2_with(at_builtin;first|(refine br _ rfl _ _ 39 rfl _ _ _ _ rfl rfl hap ?_;clear hap))
    exact Zaj
   clear hap F5 a5 c5 w5;have HC:da (id<y.id):=hc;obtain⟨a5,c5,w5,hap,rL⟩:=HA.I.1.add 39 128 (P:=J3) underlying39 nb rfl (by decide) (by decide) (⟨newP id RX ops,xa,xc⟩:ao) (aqV id RX xa ops.length xc) rfl rB zw;obtain⟨a7,c7,w7,gT,mI⟩:=rL.add 39 128 (P:=J3) underlying39 nb rfl (by decide) (by decide) y y.row rfl rB ZbI;rw[Lf]at gT;simp only[Lg,K4,Li]at gT;have HL7:da (ng bg 125 W2 w7 (acc++[(⟨newP id RX ops,xa,xc⟩:ao)]++[y]) a7 c7):=mI;have mo5:w5.cell? ⟨o,2,n_⟩=o_ (s_ q.aN q.L8.length q.aW):=(HQ.I.1.below rL.cd).cells.2.2.1;obtain⟨g2,ha2,g8⟩:=cn (HQ.I.2.1.below rL.cd).at.1 HY.I;rw[HG.I]at ha2 mo5;cases ha2;obtain⟨e0,e1,e2,e3,e4,e5,e6,e7,e8,e9,Pn,e11⟩:=g8;obtain⟨x0,x1,x2,x3,x4,x5,x6,x7,x8,x9,x10,Dm⟩:=bo (x:=(⟨newP id RX ops,xa,xc⟩:ao)) (X:=xb) (W:=wr) ((hbr.block _ HX.I.2.2).trans HX.I.1);clear rL mI;go_wp2_with(at_builtin;first|(refine br _ rfl _ _ 39 rfl _ _ _ _ rfl rfl hap ?_;clear hap)|(refine br _ rfl _ _ 39 rfl _ _ _ _ rfl rfl gT ?_;clear gT))
   go_round
   case rel=>exact⟨k+1,true,acc++[(⟨newP id RX ops,xa,xc⟩:ao)]++[y],a7,c7,zw,by go_num,rfl,zy,⟨HL7.I,HA.I.2.here HY.I HC.I⟩⟩
   case measure=>exact ZbL
  have i1:¬(k:Int)<(q.L8.length:Int):=zw
  cases dn
  .obtain ⟨a9,c9,w9,hap,Jy⟩:=HA.I.1.add 39 128 (P:=J3) underlying39 nb rfl (by decide) (by decide) (⟨newP id RX ops,xa,xc⟩:ao) (aqV id RX xa ops.length xc) rfl rB zw
   have HR:da (ng bg 125 W2 w9 (acc++[(⟨newP id RX ops,xa,xc⟩:ao)]) a9 c9/\acc++[(⟨newP id RX ops,xa,xc⟩:ao)]=bY (λy:ao=>y.id) (⟨newP id RX ops,xa,xc⟩:ao) q.L8/\(acc++[(⟨newP id RX ops,xa,xc⟩:ao)]).length=acc.length+1):=⟨Jy,HA.I.2.last hlt,zy⟩
   obtain⟨x0,x1,x2,x3,x4,x5,x6,x7,x8,x9,x10,Dm⟩:=bo (x:=(⟨newP id RX ops,xa,xc⟩:ao)) (X:=xb) (W:=wr) ((hbr.block _ HX.I.2.2).trans HX.I.1);clear Jy;obtain⟨q',eX⟩:=DQ HB.I HQ.I Au.I HR.I.1 HR.I.2.1 HR.I.2.2 rfl (λg hg=>ZdA) (HX.I.2.1.low (by have:=HQ.I.2.2.2.2.1;omega));have Mb:=aqd (W:=W) (z:=w.heap.size+1) ⟨fl.I.1,fl.I.2.1⟩ eX.I.1.2.1 eX.I.1.2.2.1 eX.I.1.2.2.2 ⟨zw,ZcQ⟩ eX.I.2.2.1 eX.I.2.2.2 (λhr=>pO fl.I.2.2.1 hr tc.I.1 fl.I.2.2.2);obtain⟨m0,m1,m2,m3,m4,m5,m6,m7⟩:=eX.I.1.1.cells;obtain⟨k0,k1,k2,k3,k4,k5,k6,k7⟩:=eX.I.2.1.cells;obtain⟨⟨u,co⟩,fo⟩:(∃u,w9.cell? ⟨o,2,n_⟩=o_ u)/\w9.frozen? ⟨o,2,n_⟩=false:=⟨⟨_,(HQ.I.1.below HR.I.1.cd).cells.2.2.1⟩,Ko _ _ _ _ _ (HQ.I.1.below HR.I.1.cd)⟩
   unfold af.cells at Mb;go_wp2_with(at_builtin;first|(refine br _ rfl _ _ 39 rfl _ _ _ _ rfl rfl hap ?_;clear hap));exact P_
  .have HR:da (ng bg 125 W2 wr acc a c/\acc=bY (λy:ao=>y.id) (⟨newP id RX ops,xa,xc⟩:ao) q.L8/\acc.length=acc.length):=⟨HA.I.1,HA.I.2.done hlt,rfl⟩
   obtain⟨q',eX⟩:=DQ HB.I HQ.I Au.I HR.I.1 HR.I.2.1 HR.I.2.2 rfl (λg hg=>ZdA) (HX.I.2.1.low (by have:=HQ.I.2.2.2.2.1;omega));have Mb:=aqd (W:=W) (z:=w.heap.size+1) ⟨fl.I.1,fl.I.2.1⟩ eX.I.1.2.1 eX.I.1.2.2.1 eX.I.1.2.2.2 ⟨zw,ZcQ⟩ eX.I.2.2.1 eX.I.2.2.2 (λhr=>pO fl.I.2.2.1 hr tc.I.1 fl.I.2.2.2);obtain⟨m0,m1,m2,m3,m4,m5,m6,m7⟩:=eX.I.1.1.cells;obtain⟨k0,k1,k2,k3,k4,k5,k6,k7⟩:=eX.I.2.1.cells;obtain⟨⟨u,co⟩,fo⟩:(∃u,wr.cell? ⟨o,2,n_⟩=o_ u)/\wr.frozen? ⟨o,2,n_⟩=false:=⟨⟨_,(HQ.I.1.below HR.I.1.cd).cells.2.2.1⟩,Ko _ _ _ _ _ (HQ.I.1.below HR.I.1.cd)⟩
   unfold af.cells at Mb;go_wp2_with fail;exact P_
end
section
open Go.Maps
def pX:arD 134 42 3 bG.flat:=by
 intro w bj a0 c0 l0 ho a l cap h hl lY;obtain⟨i,hi,e⟩:=Kw.1 sj;simp only[Kx]at e;rw[bG.dc];exact jD w bj _ _ 134 i _ 3 32 underlying42 hi e.1 e.2.1 e.2.2 rfl (by decide) a0 l0.length c0 _ ho a l.length cap _ h (bG.dM l) xV hl (by decide) lY
def ap.GV {w w':w_}{bj B:Nat}{q:af}{l:List az}{a':Option d_}{c':Nat}(h:ap w bj q)(hb:bj<=B)(hB:∀g∈q.Mc,g<B)(hs:∀g∈q.Mc,w'.heap[g]? =w.heap[g]?)
  (ho:w'.ownsRow B 134 3 (s_ a' l.length c') l.length (bG.flat l)):ap w' bj ({q with ag:=l,ax:=a',aP:=c'}:af):=by
 have h2:=h.same hs;refine⟨h2.L8,h2.aj,h2.L9,cq ho hb,h2.ae,h2.ai,h2.eI,h2.eE,h2.eR,?_⟩;have h5:=h.nodup;have h6:∀g∈blk a',g∉q.Mc:=λg hg hm=>Zcq
 have e1:∀(a2:Option d_)(l2:List az)(c2:Nat),({q with ag:=l2,ax:=a2,aP:=c2}:af).Mc=(blk q.aN++(q.L8.filterMap aR.bt++(blk q.bc++blk q.ay)))++(blk a2++(blk q.am++(q.ae.filterMap aC.bt++(blk q.aK++q.ai.filterMap aU.bt)))):=λ_ _ _=>ZcZ
 have e2:=e1 q.ax q.ag q.aP;rw[e1];have e3:q.Mc=(blk q.aN++(q.L8.filterMap aR.bt++(blk q.bc++blk q.ay)))++(blk q.ax++(blk q.am++(q.ae.filterMap aC.bt++(blk q.aK++q.ai.filterMap aU.bt)))):=e2;rw[e3]at h5 h6;exact qv h5 (fN _) h6
def qu:arD 131 41 2 bJ.flat:=by
 intro w bj a0 c0 l0 ho a l cap h hl lY;obtain⟨i,hi,e⟩:=Kw.1 so;simp only[Kx]at e;rw[bJ.dc];exact jD w bj _ _ 131 i _ 2 16 underlying41 hi e.1 e.2.1 e.2.2 rfl (by decide) a0 l0.length c0 _ ho a l.length cap _ h (bJ.dM l) xB hl (by decide) lY
def ap.Ge {w w':w_}{bj B:Nat}{q:af}{l:List aB}{a':Option d_}{c':Nat}(h:ap w bj q)(hb:bj<=B)(hB:∀g∈q.Mc,g<B)(hs:∀g∈q.Mc,w'.heap[g]? =w.heap[g]?)
  (ho:w'.ownsRow B 131 2 (s_ a' l.length c') l.length (bJ.flat l)):ap w' bj ({q with L9:=l,ay:=a',aO:=c'}:af):=by
 have h2:=h.same hs;refine⟨h2.L8,h2.aj,cq ho hb,h2.ag,h2.ae,h2.ai,h2.eI,h2.eE,h2.eR,?_⟩;have h5:=h.nodup;have h6:∀g∈blk a',g∉q.Mc:=λg hg hm=>Zcq
 have e1:∀(a2:Option d_)(l2:List aB)(c2:Nat),({q with L9:=l2,ay:=a2,aO:=c2}:af).Mc=(blk q.aN++(q.L8.filterMap aR.bt++blk q.bc))++(blk a2++(blk q.ax++(blk q.am++(q.ae.filterMap aC.bt++(blk q.aK++q.ai.filterMap aU.bt))))):=λ_ _ _=>ZcZ
 have e2:=e1 q.ay q.L9 q.aO;rw[e1];have e3:q.Mc=(blk q.aN++(q.L8.filterMap aR.bt++blk q.bc))++(blk q.ay++(blk q.ax++(blk q.am++(q.ae.filterMap aC.bt++(blk q.aK++q.ai.filterMap aU.bt))))):=e2;rw[e3]at h5 h6;exact qv h5 (fN _) h6
end
section
def vR {p:aE}{x:az}(h:p.Small)(hr:bK p=true)(hx:(Lit.int j_ x.id).wf=true/\x.text.size<=1048576):aE.Small {p with ag:=cA (·.id) x p.ag}:=by
 have h2:=((ch _).1 hr).cC;exact⟨h.dl,h.fx,h.cD,by show(cA (·.id) x p.ag).length<=_;rw[eJ];omega,h.cb,h.dH,h.L8,h.aj,h.L9,λy hy=>(js.1 hy).elim (λe=>e▸hx) (h.ag y),h.ae,h.ai⟩
def vS {p:aE}{x:aB}(h:p.Small)(hr:bK p=true)(hx:(Lit.int j_ x.id).wf=true):aE.Small {p with L9:=cA (·.id) x p.L9}:=by
 have h2:=((ch _).1 hr).cD;exact⟨h.dl,h.fx,by show(cA (·.id) x p.L9).length<=_;rw[eJ];omega,h.cC,h.cb,h.dH,h.L8,h.aj,λy hy=>(js.1 hy).elim (λe=>e▸hx) (h.L9 y),h.ag,h.ae,h.ai⟩
end
section
open Go Go.RowKit
def aaH (a:Act)(v:v_):a.put n_ v=a:=rfl
def oc (cs:Array v_)(T:T_)(X:Nat)(W:w_):Prop:=W.heap[X]? =o_ (c_ cs T)
section
variable {cs:Array v_}{T:T_}{X:Nat}{W W':w_}{bs:List Nat}
def oc.lt (h:oc cs T X W):X<W.heap.size:=(J2.1 h).1
def oc.below (h:oc cs T X W)(hb:B_ W.heap.size W W'):oc cs T X W':=(hb.block _ h.lt).trans h
def oc.kept (h:oc cs T X W)(hk:aI W W' bs)(hs:X∉bs):oc cs T X W':=(hk.same _ h.lt hs).trans h
end
def Y5 {α:Type}{l:List α}{i:Nat}(h:i<l.toArray.size):l.toArray[i]'h=l[i]'(ZdK):=by simp
def gs {α:Type}{a:α}{l:List α}{i:Nat}(h:i+1<(a::l).length):(a::l)[i+1]'h=l[i]'(Nat.lt_of_succ_lt_succ h):=rfl
section
variable {p q:af}{w W U V:w_}{B X b:Nat}{cs:Array v_}{T:T_}{Y:Prop}
end
end
end Go.Proofs.YtckenjkcmajicaaGreat
