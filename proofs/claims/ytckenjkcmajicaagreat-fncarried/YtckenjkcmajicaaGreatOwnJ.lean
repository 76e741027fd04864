/- Ends of proofs that stand more than once. -/
import Derived.BigQuiet
import Derived.Deep.AppendLies
import Derived.Deep.AppendSrc
import Derived.Deep.Cut
import Derived.Deep.CutRange
import Derived.Deep.DrawnRows
import Derived.Deep.OwnRows
import Derived.Deep.RegionHeld
import Derived.Deep.RegionHeld3
import Derived.Deep.WholeRow
import Derived.Great.FillDense
import Derived.Handy
import Derived.LaidEql
import Derived.Laws.CopyOwn
import Derived.Lib.ItoaNum
import Derived.Lib.Join
import Derived.Lib.SliceRun
import Derived.Maps.RangeWalk
import Derived.ProofKit
import Derived.RangeFuncCalls
import Derived.RangeFuncKeeps
import Derived.Shelf.SlIterI.Nil
import Derived.Shelf.SortM.Plain
import Derived.Shelf.SortM.SortNone
import Derived.ShutString
set_option linter.all false
namespace Go.Proofs.YtckenjkcmajicaaGreat
def aeb:=@Array.all_eq_true_iff_forall_mem
def adY:=@Array.getD_eq_getD_getElem?
def Qb:=@Array.getElem?_eq_getElem
def J2:=@Array.getElem?_eq_some_iff
def QJ:=@Array.getElem?_toList
def J7:=@Bool.and_eq_true
def PP:=@Bool.and_false
def J5:=@Bool.false_eq_true
def Qg:=@Bool.false_or
def PR:=@Bool.not_eq_true'
def Kb:=@Bool.or_eq_true
def QH:=@ByteArray.size_append
def Qc:=@Go.Act.put_comm
def aeS:=@Go.Addr.mk.injEq
def KX:=@Go.AllReadyH.cons
def KY:=@Go.AllReadyH.nil
def PQ:=@Go.ByteArray.toList_eq
def adn:=@Go.Calls.mono
def L1:=@Go.Calls.quiet_of_same
def QZ:=@Go.DataW.lit.injEq
def K8:=@Go.IntKind.wrap_i64
def Q0:=@Go.Lit.int.injEq
def RB:=@Go.Maps.keyOf_int_inv
def RD:=@Go.Proofs.AnyZI.keys_gives
def RC:=@Go.Proofs.AnyZI.keys_in
def RE:=@Go.Proofs.AnyZI.sorted_in
def LP:=@Go.Proofs.enters_of
def K6:=@Go.RowKit.Below.heap_setCell
def Kp:=@Go.RowKit.Below.refl
def QR:=@Go.Sem.run_bind
def LD:=@Go.Value.slice.injEq
def J1:=@Go.World.cell?_of_block
def KE:=@Go.World.news_of_block
def Ke:=@Go.World.ownsRow_nil
def RR:=@Go.World.size_alloc
def Le:=@Go.block_lt_of_cell
def KT:=@Go.bodyPost_ret
def LO:=@Go.callsIn_wide
def K5:=@Go.cell_of_row
def Ko:=@Go.frozen_of_row
def Kq:=@Go.heap_alloc2_new
def Kj:=@Go.heap_alloc_new
def K7:=@Go.heap_setCell_same
def Qf:=@Go.mem_ready
def Qe:=@Go.ready_mono
def K9:=@Go.results_cell_row
def KU:=@Go.setRow_heap
def KH:=@Go.setRow_other
def K3:=@Go.wpAnyH_done
def KW:=@Go.wpAnyH_ready
def KD:=@Go.wpList_append_own_at
def LS:=@Go.wpList_load_row
def Qd:=@Go.wpOp_mono
def LX:=@Go.wp_load_row
def Kr:=@Go.wp_region_held_drew
def LY:=@Go.wp_store_row
def QK:=@Int.eq_ofNat_of_zero_le
def LJ:=@Int.le_refl
def RA:=@List.Perm.refl
def PZ:=@List.all_eq_true
def Lm:=@List.append_assoc
def QO:=@List.append_nil
def adH:=@List.drop_eq_getElem_cons
def LW:=@List.filterMap_append
def QN:=@List.filter_append
def LN:=@List.filter_cons
def aeD:=@List.find?_cons_of_neg
def aeC:=@List.find?_cons_of_pos
def Qp:=@List.getElem?_append_left
def Qo:=@List.getElem?_append_right
def Kz:=@List.getElem?_eq_getElem
def Lj:=@List.getElem?_eq_some_iff
def Kk:=@List.getElem?_map
def LU:=@List.getElem?_set_self
def QW:=@List.getElem?_take
def PJ:=@List.getElem_mem
def Lf:=@List.length_append
def Ql:=@List.length_drop
def Qq:=@List.length_filter_le
def KG:=@List.length_map
def LI:=@List.length_set
def Lk:=@List.length_take
def Kl:=@List.map_append
def Lw:=@List.map_congr_left
def Lt:=@List.map_cons
def Lv:=@List.map_map
def QV:=@List.map_nil
def PN:=@List.map_set
def Kg:=@List.mem_append
def Lz:=@List.mem_append_left
def Ly:=@List.mem_append_right
def Kt:=@List.mem_cons
def LB:=@List.mem_cons_of_mem
def L2:=@List.mem_filter
def Lq:=@List.mem_filterMap
def Rt:=@List.mem_flatMap
def LK:=@List.mem_iff_getElem
def Lr:=@List.mem_map
def KA:=@List.mem_of_getElem?
def RL:=@List.mem_of_mem_drop
def RK:=@List.mem_of_mem_take
def PO:=@List.mem_or_eq_of_mem_set
def KB:=@List.mem_singleton
def Kf:=@List.nodup_append
def Lp:=@List.nodup_cons
def Ku:=@List.not_mem_nil
def LM:=@List.pairwise_cons
def P8:=@List.pairwise_iff_getElem
def Qm:=@List.pairwise_map
def Qr:=@List.setIfInBounds_toArray
def RJ:=@List.set_eq_take_append_cons_drop
def PV:=@List.set_set
def Qn:=@List.take_append_drop
def LQ:=@List.take_length
def KF:=@List.take_of_length_le
def QE:=@List.take_succ_eq_append_getElem
def aew:=@Nat.le_of_lt
def Ki:=@Nat.le_refl
def LG:=@Nat.le_trans
def Q5:=@Nat.lt_of_le_of_lt
def Kn:=@Nat.lt_of_lt_of_le
def QX:=@Nat.lt_succ_iff_lt_or_eq
def P9:=@Nat.lt_trichotomy
def adM:=@Nat.mul_comm
def Rs:=@Nat.mul_le_mul_right
def Lh:=@Nat.succ_mul
def Li:=@Nat.zero_add
def Ky:=@Nat.zero_le
def PX:=@Option.isNone_iff_eq_none
def PY:=@Option.isSome_eq_false_iff
def Kw:=@Option.map_eq_some_iff
def KC:=@Option.some.inj
def LF:=@Option.some.injEq
def Kx:=@Prod.mk.injEq
variable {P:Prop}
def zy (h:P:=by simp):P:=h
def zw (h:P:=by omega):P:=h
def ZeO (h:P:=by simp[results,go_sem, *]):P:=h
def ZcF (h:P:=by cases h):P:=h
def Zcc (h:P:=by simp[intOf];omega):P:=h
def aa (h:P:=by
 clear H0 hmk;obtain⟨k,hk,rfl,rfl,HA⟩:=hrel;obtain⟨l,hlm,hin,oC,hkm⟩:=HA.I;have HT:da (_/\_/\_):=⟨hlm,oC,hkm⟩
 have HI:da _:=hin;clear HA hlm hin oC hkm;by_cases hlt:k<dg.length
 .have i0:(0:Int)<=(k:Int):=by omega
  have i1:(k:Int)<(dg.length:Int):=by omega
  obtain⟨x,hx⟩:∃x,dg[k]? =o_ x:=⟨_,Kz hlt⟩
  have hmem:=KA hx;have HX:da (dg[k]? =o_ x):=hx;have HF:da (_/\_):=⟨HL.I.2.1 x hmem,HL.I.2.2 x hmem⟩
  obtain⟨gs,ha,hat⟩:=alN (HL.I.1.below HI.I.cd) hx
  iterate 11 try obtain⟨c,hat⟩:=hat
  subst ha;clear hx hmem;go_wp2_with fail;refine(anw x _).mono ?_;rintro e w2 ⟨rfl,hb2⟩;have jA:da _:=(HI.I.below ((Kp _ wr).alloc (Ki _) _)).below hb2;have HB:=anG x _ _ ((hb2.block _ zy).trans (Kj _ _));have HZ:da (w.heap.size+1<wr.heap.size):=by show w.heap.size+1<wr.heap.size;have:=(J2.1 HI.I.var).1;omega
  clear hb2 HI hat;have hd:=bA HB.I
  iterate 11 try obtain⟨c,hd⟩:=hd
  obtain⟨r0,r1,v0,v1,z0,z1⟩:=jA.I.cells;by_cases hle:x.id<=bW (·.id) 0 (dg.take k)
  .have HN:da (anL=false):=by
    show anL=false
    rw[<-HTB.I,bS HX.I (λhh=>absurd hh.2.1 (by show¬bW (·.id) 0 (dg.take k)<x.id;omega))];rfl
   go_wp2;refine KT (v:=u_ #[a_ #[i_ j_ 0,.map n_],b_ false]) ZeO rfl ?_;exact⟨(jA.I.lu _ _).2,.inl ⟨HN.I,rfl⟩⟩
  have j6:da (bW (·.id) 0 (dg.take k)<x.id):=by show _<_;omega
  have hkl:(RW (·.id) l).length<=1048576:=by
   rw[bZ]
   have:=congrArg List.length HT.I.1
   simp only[KG,Lk]at this;omega
  go_wp2_with fail;refine(anz Me (w.heap.size+1) (RW (·.id) l) x w2 jA.I.eh.map HF.I.2 hkl (HF.I.1.below jA.I.cd)).mono ?_;rintro e w3 ⟨rfl,hno,fm⟩;rcases two hno with fW|fW
  .rw [fW]
   have HN:da (anL=false):=HTB.I.symm.trans (iC HX.I HT.I.1 HT.I.2.1 j6.I fW);have Aw:da _:=jA.I.below (hno fW);clear hno fm fW jA r0 r1 v0 v1 z0 z1 hd HB;obtain⟨r0,r1,v0,v1,z0,z1⟩:=Aw.I.cells;go_wp2;refine KT (v:=u_ #[a_ #[i_ j_ 0,.map n_],b_ false]) ZeO rfl ?_;exact⟨(Aw.I.lu _ _).2,.inl ⟨HN.I,rfl⟩⟩
  .rw [fW]
   have HY:da (_/\_):=gM HX.I HT.I.1 HT.I.2.1 j6.I fW;obtain⟨g,ph⟩:=jA.I.lay (x:=x) (e:=r_ (b_ true)) (w':=w3) ⟨rfl,(λh=>ZcF),λ_=>fm fW⟩ (jB HT.I.1 HT.I.2.1 j6.I);have BD:da _:=ph;obtain⟨g',q1,q2,q3,hgr⟩:=fm fW;have oh:=anG x _ _ ((hgr.block _ (J2.1 HB.I).1 (λe=>by have:=KC e;have:=HZ.I;omega)).trans HB.I);clear hno fm fW jA r0 r1 v0 v1 z0 z1 hd HB ph q1 q2 q3 hgr;have hd:=bA oh.I
   iterate 11 try obtain⟨c,hd⟩:=hd
   go_wp2_with fail;refine(anw x _).mono ?_;rintro e w5 ⟨rfl,iJ⟩;have EY:da _:=BD.I.below iJ;have HE:da (bW (·.id) 0 (dg.take (k+1))=x.id):=eG HX.I 0;clear iJ BD;go_wp2;go_roundw
   case rel=>exact⟨k+1,by omega,by go_num,by rw[HE.I],⟨l++[(x,g)],by rw[Kl,HT.I.1,cj HX.I];rfl,EY.I,HY.I.1,HY.I.2⟩⟩
   case measure=>exact Zcc
 .have i1:¬(k:Int)<(dg.length:Int):=by omega
  have HK:da (dg.take k=dg/\((dg.length:Int)<=max Me 0)):=⟨KF zw,by have:=HT.I.2.2;omega⟩
  have HY:da (anL=true):=by
   show anL=true
   have h1:=HT.I.2.1;rw[HK.I.1]at h1;rw[<-HTB.I,h1,decide_eq_true HK.I.2];rfl
  obtain⟨r0,r1,v0,v1,z0,z1⟩:=HI.I.cells;go_wp2;refine KT (v:=u_ #[a_ #[i_ j_ Me,.map (o_ (w.heap.size+1))],b_ true]) ZeO rfl ?_;exact⟨(HI.I.lu _ _).2,.inr ⟨HY.I,w.heap.size+1,l,rfl,by rw[HT.I.1,HK.I.1],(HI.I.lu _ _).1⟩⟩):P:=h
def ZbG (h:P:=by kernel_rfl):P:=h
def ab (h:P:=by
 iterate 3 (refine agj ?_)
 refine clk u9 ?_;refine clk f9 ?_
 (refine agj ?_)
 rcases vA.eq_false_or_eq_true with rfl|rfl
 focus iterate 6 (refine nl ?_;simp only[pt,sb,s0,s1])
 rotate_left
 focus iterate 6 (refine agj ?_)
 all_goals iterate 2 (refine agj ?_)
 rcases vB.eq_false_or_eq_true with rfl|rfl
 focus iterate 5 (refine nl ?_;simp only[pt,sb,s0,s1])
 rotate_left
 focus
  iterate 2 (refine agj ?_)
  refine clk u9 ?_;refine clk p5 ?_
  (refine agj ?_)
 rotate_left
 focus iterate 5 (refine nl ?_;simp only[pt,sb,s0,s1])
 all_goals iterate 2 (refine agj ?_)
 rotate_right
 rcases vC.eq_false_or_eq_true with rfl|rfl
 focus
  iterate 2 (refine agj ?_)
  refine clk abz ?_
  (refine agj ?_)
 rotate_left
 focus iterate 4 (refine nl ?_;simp only[pt,sb,s0,s1])
 rotate_left
 focus iterate 4 (refine nl ?_;simp only[pt,sb,s0,s1])
 rotate_left
 focus iterate 4 (refine nl ?_;simp only[pt,sb,s0,s1])
 rotate_left
 all_goals(refine agj ?_)
 all_goals refine bk ZbG ?_ _
 all_goals intro w1 cm
 rcases vD.eq_false_or_eq_true with rfl|rfl;rotate_left
 iterate 4
  go_wp2;go_ret;exact ki HL.I.1 cm.2.1.I.cd
 go_wp2_with fail;refine eD _ 5 ZbG (anY _ cm.2.1.I.drew (cm.2.2.I.below (Kp _ _).drew)) ?_
 iterate 4 (refine ly 6 (v:=?_) (o_ _) rfl rfl ZbG (λ_ _ _ h=>h) (bV ZbG ?_) ?_;rotate_left;(intro w0 hS0;(first|obtain⟨⟨q0,q1,q2,q3,q4,q5,q6,q7,q8,q9,kY,kV,lB,lz,Ch⟩,hH⟩:=hS0|obtain⟨⟨q0,q1,q2,q3,q4,q5,q6,q7⟩,hH⟩:=hS0|obtain⟨⟨q0,q1,q2,q3,q4,q5⟩,hH⟩:=hS0|obtain⟨⟨q0,q1,q2,q3,q4⟩,hH⟩:=hS0);go_simp;try with_reducible rfl);simp only[pt,sb,s0,s1])
 refine ly 6 (v:=i_ j_ x.id) (o_ _) rfl rfl ZbG (λ_ _ _ h=>h) (iZ ZbG ?_ u9) ?_
 .intro w0 hS0
  (first|obtain⟨⟨q0,q1,q2,q3,q4,q5,q6,q7,q8,q9,kY,kV,lB,lz,Ch⟩,hH⟩:=hS0|obtain⟨⟨q0,q1,q2,q3,q4,q5,q6,q7⟩,hH⟩:=hS0|obtain⟨⟨q0,q1,q2,q3,q4,q5⟩,hH⟩:=hS0|obtain⟨⟨q0,q1,q2,q3,q4⟩,hH⟩:=hS0)
  go_simp
  try with_reducible rfl
 simp only[pt,sb,s0,s1];refine fL rfl ZbG ZbG ZbG ?_;intro w1 cm;obtain⟨w2,hput,hend⟩:=cm.2.1.I.put zw an0 HW.I.1 (HL.I.2 (by trivial)) HW.I.2.2 HW.I.2.1;have HE:=api hend;clear hend cm
 go_simp
 go_wp2;go_ret;rw[HL.I.1];exact HE.I):P:=h
def ZeC (h:P:=by simp[hp]):P:=h
def Zcw (h:P:=by simp[Value.oneCell']):P:=h
def Zb2 (h:P:=by unfold maxLen;omega):P:=h
def ZbI (h:P:=by simp;omega):P:=h
def ba (h:P:=by
 obtain⟨k,hk,rfl,a',cap',rfl,HO⟩:=hrel;by_cases hlt:k<m.length
 .have qE:(0:Int)<=(k:Int):=by omega
  have i1:(k:Int)<(m.length:Int):=by omega
  obtain⟨p,hp⟩:∃p,m[k]? =o_ p:=⟨_,Kz hlt⟩
  have hpm:=KA hp;obtain⟨g,ha,hc⟩:=(HR.I.below HO.I.2) k (i_ j_ p.1) ZeC;subst ha;have oE:=cy.I.size;have kT:=HO.I.2.size;have ut:cF wr b m:=HM.I.1.below (cy.I.trans (HO.I.2.mono oE));have hlk:=ut.look Zc (anF wr) (HM.I.2 p hpm) false;rw[jI ut.2 hpm]at hlk;have hsw:=(HO.I.2.block _ (J2.1 HS.I).1).trans HS.I;have s1:wr.cell? ⟨w.heap.size,1,n_⟩=o_ (.map (o_ b)):=by simp[World.cell?,hsw]
  have HP:da (m[k]? =o_ p):=hp;simp only[qz,dt,J5,if_false]at hlk;clear hp hpm ut hsw;go_wp2_with(at_builtin;refine KD _ rfl _ _ _ rfl w2.heap.size _ i0 (p_ n_) 1 8 YC HI.I.1 HI.I.2.1 HI.I.2.2.1 HI.I.2.2.2 rfl (by decide) (s_ a' k cap') k ((m.take k).map λp=>dt p.2) rfl (HO.I.1.alloc _) ⟨wr.heap.size,0,n_⟩ 1 1 [p_ (o_ ⟨p.2,0,n_⟩)] (by rfl) rfl (KE (cs:=#[p_ (o_ ⟨p.2,0,n_⟩)]) (fr:=(0,0)) (Kj wr _)) Zcw Zb2 zw ZbI ?_;intro v' w5 hown' hgrow hnil jV;obtain⟨a5,im,rfl,-⟩:=cr hown';have HN:da (anZ _ w2 m (k+1) a5 im w5):=⟨by rw[cj HP.I,Kl];exact hown',(HO.I.2.alloc kT _).grown hgrow ZbI (λq hq=>(HO.I.1.lt q hq).1)⟩;clear hown' hgrow hnil jV);go_roundw
  case rel=>exact⟨k+1,by omega,by go_num,a5,im,rfl,HN⟩
  case measure=>exact Zcc
 .have i1:¬(k:Int)<(m.length:Int):=by omega
  have e:k=m.length:=by omega
  subst e;go_wp2;go_ret;refine⟨a',cap',rfl,?_,cy.I.trans (HO.I.2.mono cy.I.size)⟩
  have:=cq HO.I.1 cy.I.size
  rwa[LQ]at this):P:=h
def e_ (h:P:=by refine Mb.mono ?_;clear Mb;rintro e D ⟨q2,rfl,hp2,ht⟩;have h5:=S.I.1.call ht;have H5:=aA (And.intro h5.1 ((h5.2 (w.heap.size+1) zw zw).trans S.I.2.1));have HP:da (q2.pure=_):=hp2;clear hp2 ht h5;go_wp2_with(refine ec _ _ q2.cells H5.I.2 ?_);refine gZ results172 H5.I.2 ?_;exact⟨q2,rfl,HP.I.trans HE.I.symm,H5.I.1.mK zw zw _⟩):P:=h
def fd (h:P:=by
 go_loop [5] (λi=>∃k:Nat,k<=l.length/\i=i_ j_ k/\da (id∉(l.map (·.id)).take k)) (λi=>l.length-(intOf i).toNat)
 case atStart=>exact⟨0,Ky _,rfl,(by simp:id∉(l.map (·.id)).take 0)⟩
 case round=>
  obtain⟨k,hk,rfl,HA⟩:=hrel;by_cases hlt:k<l.length
  .have i0:(0:Int)<=(k:Int):=by omega
   have i1:(k:Int)<(l.length:Int):=by omega
   obtain⟨x,hx⟩:∃x,l[k]? =o_ x:=⟨_,Kz hlt⟩
   have HX:da ((l.map (·.id))[k]? =o_ x.id):=by show _=_;rw[Kk,hx];rfl
   obtain⟨g,ha,hat⟩:=K H.I.1 hx;have c0:=hat.1;rw[ha]at q;clear hat hx;by_cases hc:x.id=id
   .have HC:da (x.id=id):=hc
    have h1:(x.id==id)=true:=by simp[hc]
    clear hc;go_wp2;go_ret;exact⟨ck (ku HA.I HX.I HC.I).symm,H.I.2⟩
   .have HC:da (¬x.id=id):=hc
    have h1:(x.id==id)=false:=by simp[hc]
    clear hc;go_wp2
    go_round
    case rel=>exact⟨k+1,by omega,by go_num,nh HA.I HX.I HC.I⟩
    case measure=>exact Zcc
  .have i1:¬(k:Int)<(l.length:Int):=by omega
   go_wp2;go_ret;exact⟨ck (jg HA.I (by rw[KG];omega)).symm,H.I.2⟩):P:=h
def ZcN (h:P:=by exact⟨n+1,by omega,by go_num,⟨λm y hm hy=>by rcases QX.1 hm with h5|h5;exact HI.I.1 m y h5 hy;subst h5;rw[HV.I]at hy;cases hy;exact Dx.I,bd HI.I.2 _⟩⟩):P:=h
def f_ (h:P:=by
 refine bk ZbG ?_ _;intro w1 cm;have HZ:da (av w1 w.heap.size p/\af.At w1 p/\B_ w.heap.size w w1):=cm.1.2.I;have HZW:da (B_ wr.heap.size wr w1):=cm.2.I;clear cm;obtain⟨z0,z1,z2,z3,z4,z5,z6,z7⟩:=HZ.I.1.cells;go_wp2_with fail;clear z0 z1 z2 z3 z4 z5 z6 z7
 go_loopw[4] (λi wr=>∃n:Nat,n<=k/\i=i_ j_ n/\da ((∀m y,m<n->p.L8[m]? =o_ y->¬(y.RU=x.RU/\0<x.RU))/\B_ w1.heap.size w1 wr)) (λi _=>k-(intOf i).toNat)
 case atStart=>exact⟨0,Ky _,rfl,⟨λm y hm=>absurd hm zw,Kp _ _⟩⟩
 case round=>
  obtain⟨n,hn,rfl,HI⟩:=hrel
  rename w_=>wi
  have iP:da (av wi w.heap.size p/\af.At wi p/\B_ w.heap.size w wi):=⟨HZ.I.1.below HI.I.2,HZ.I.2.1.below HI.I.2,HZ.I.2.2.trans (HI.I.2.mono HZ.I.2.2.size)⟩
  obtain⟨z0,z1,z2,z3,z4,z5,z6,z7⟩:=iP.I.1.cells;rw[mR.I.1]at z2;by_cases hnk:n<k
  .have j0':(0:Int)<=(n:Int):=by omega
   have j1':(n:Int)<(p.L8.length:Int):=by omega
   have j2':(n:Int)<((k:Nat):Int):=by omega
   obtain⟨v,hv⟩:∃v,p.L8[n]? =o_ v:=⟨_,Kz zw⟩
   obtain⟨g1,e1,FX⟩:=cn iP.I.2.1.1 hv;obtain⟨g2,e2,g8⟩:=cn iP.I.2.1.1 mR.I.2;rw[mR.I.1]at e1 e2;cases e1;cases e2;have d0:=FX.2.2.2.2.2.2.2.2.2.2.2;have d1:=g8.2.2.2.2.2.2.2.2.2.2.2;have HV:da (p.L8[n]? =o_ v):=hv;clear FX g8 hv;by_cases hsi:v.RU=x.RU
   .have es:(v.RU==x.RU)=true:=by simp[hsi]
    have HSI:da (v.RU=x.RU):=hsi;clear hsi;by_cases hpos:0<x.RU
    .have dpos:decide (0<x.RU)=true:=decide_eq_true hpos
     have HN:da (bK p.pure=false):=dL λhr=>absurd ((jk p).1 hr).2.2.2.2.2 (xn mR.I.2 HV.I hnk ⟨HSI.I,hpos⟩)
     go_wp2_with fail
     go_quiet (fail)
     go_wp2;go_ret;exact⟨al HN.I.symm,bd iP.I.2.2 _⟩
    have dpos:decide (0<x.RU)=false:=decide_eq_false hpos;have Dx:da (¬(v.RU=x.RU/\0<x.RU)):=λhh=>hpos hh.2
    clear hpos;go_wp2_with fail
    go_quiet (fail)
    go_wp2;go_roundw
    case rel=>exact ZcN
    case measure=>exact Zcc
   have es:(v.RU==x.RU)=false:=by simp[hsi]
   have Dx:da (¬(v.RU=x.RU/\0<x.RU)):=λhh=>hsi hh.1
   clear hsi;go_wp2_with fail
   go_quiet (fail)
   go_wp2;go_roundw
   case rel=>exact ZcN
   case measure=>exact Zcc
  .have j2':¬(n:Int)<((k:Nat):Int):=by omega
   have en:n=k:=by omega
   have wg:da (lR (p.L8.take (k+1))):=uU mR.I.2 HA.I.2.1 (λm y hm hy=>HI.I.1 m y zw hy);have HY:da (aw (λx:ao=>x.id) (oQ p) 0 (p.L8.take (k+1))=true):=ed HA.I.1 mR.I.2 lN.I.1 j6.I lN.I.2;clear en;have HE:da (B_ W1.heap.size W1 wi):=HA.I.2.2.trans ((HZW.I.trans (HI.I.2.mono HZW.I.size)).mono HA.I.2.2.size);go_wp2;go_roundw
   case rel=>exact⟨k+1,by omega,by go_num,⟨HY.I,wg.I,HE.I⟩⟩
   case measure=>exact Zcc):P:=h
def gt (h:P:=by refine Mb.mono ?_;clear Mb;rintro e A2 ⟨q2,rfl,hp,ht⟩;replace S:=aA (S.I.call ht);have HP:da (q2.pure=_):=hp;clear hp ht;go_wp2_with(refine ec _ _ q2.cells S.I.an ?_);refine gZ results184 S.I.an ?_;exact⟨q2,rfl,HP.I.trans HE.I.symm,S.I.done _⟩):P:=h
def gz (h:P:=by go_wp2_with(refine eT _ S.I.fr.box ?_);refine Mb.mono ?_;clear Mb;rintro e A2 ⟨q9,rfl,hp,ht⟩;replace S:=aA (S.I.call ht);have HP:da (q9.pure=_):=hp;clear hp ht;go_wp2_with(refine ec _ _ q9.cells S.I.an ?_);refine gZ results187 S.I.an ?_;exact⟨q9,rfl,HP.I.trans HE.I.symm,S.I.done _⟩):P:=h
def Zdv (h:P:=by simp[blk];omega):P:=h
def g_ (h:P:=by
 go_wp2_with fail;clear m0 m1 m2 m3 m4 m5 m6 m7 d3 e2;refine Mb.mono ?_;clear Mb;rintro e w2 ⟨q2,rfl,pv,DU,hb2,hk2⟩;have ky:da (q2.pure=gu q.pure y.toaD/\q2.Mc=q.Mc/\(∀x∈q2.L8,x.prog.length<=1048576)):=by rw[<-HG.I]at pv;rw[pv];exact Eb HO.I.wk HD.I.2.1 HD.I.2.2 HCO.I HO.I.short
 clear pv;have hgl:=HO.I.low gs (by rw[show q.Mc=q.Mc from rfl];exact un HG.I);have hww:w.heap.size+1<wr.heap.size:=(J2.1 Ih.I.1).1;have H2:da (av w2 w.heap.size q/\w2.heap[w.heap.size+1]? =o_ (c_ ar 46)/\ap w2 bj q2/\B_ bj w w2):=⟨(hk2.same _ zw Zdv).trans HW.I.1,(hk2.same _ zw Zdv).trans Ih.I.1,DU,Ih.I.2.trans hb2⟩
 clear DU hb2 hk2 hgl hww;have HI:da (DZ bE bj w q0 (lF bE q2.pure.L8).length q2 (w2.setRow w.heap.size q2.cells)/\(lF bE q2.pure.L8).length<gk):=by
  have hst:=HO.I.wk.step HD.I.1;have hc:=HO.I.cnt;have hbb:=HB.I.2;rw[ky.I.1];refine⟨⟨KU _ _ _ _ _ _ H2.I.1,(KH _ _ _ _ zw).trans H2.I.2.1,H2.I.2.2.1.same λg hg=>KH _ _ _ _ (by rw[ky.I.2.1]at hg;have:=HO.I.low g hg;omega),q_ H2.I.2.2.2 hbb _,by rw[ky.I.1];exact hst.1,by rw[ky.I.1,<-HO.I.same];exact(vn HO.I.wk HD.I.1).symm,by rw[ky.I.1],ky.I.2.2,λg hg=>HO.I.low g (by rw[<-ky.I.2.1];exact hg)⟩,by omega⟩
 go_wp2_with(refine ec _ _ q2.cells H2.I.1 ?_)
 go_roundg (lF bE q2.pure.L8).length
 case rel=>exact⟨q2,HI.I.1⟩
 case measure=>exact HI.I.2):P:=h
def h_ (h:P:=by
 change CallsIn _ _ J3 39 _ _ _ at cS
 refine(LO.1 cS).mono ?_;rintro e w' ⟨v,ss,rfl,hS,hrow,hnil,kj⟩;refine⟨v,rfl,?_,kj⟩;rw[jG h.2 hS]at hrow;have hl:ss.length=m.length:=by
  rw[hS.length_eq,lU,KG]
 rw[hl,Lv]at hrow;exact hrow):P:=h
def Zfm (h:P:=by simp[*]):P:=h
def Zd9 (h:P:=by exact⟨n+1,by omega,by go_num,S.I.less,HM.I⟩):P:=h
def ZbL (h:P:=by simp[Go.RowKit.intOf];omega):P:=h
def ir (h:P:=by
 cases h3:(d.src==c.src)
 case true=>
  have h3q:d.src=c.src:=by simpa using h3
  cases h4:(d.ga==c.ga)
  case true=>
   have h4q:d.ga=c.ga:=by simpa using h4
   by_cases h5:x1.Mf=true
   case pos=>
    have HN:da (eP k.pure=false):=gx (kq (ps:=k.pure.parts) Vn.I (.inr (aev.2 ⟨d,Td Vp.I sR,VB.I.trans Zfm⟩)));go_wp2;go_ret;exact⟨al HN.I.symm,S.I.ks.low⟩
   case neg=>
    replace h5:x1.Mf=false:=by simpa using h5
    have HM:da ((k.eC.take (n+1)).any (hR k.pure.parts c)=false):=(HJ Vp.I HA.I).trans (VB.I.trans Zfm);go_wp2;go_roundw
    case rel=>exact Zd9
    case measure=>exact ZbL
  case false=>
   have h4q:¬d.ga=c.ga:=by simpa using h4
   have HM:da ((k.eC.take (n+1)).any (hR k.pure.parts c)=false):=(HJ Vp.I HA.I).trans (VB.I.trans Zfm);go_wp2;go_roundw
   case rel=>exact Zd9
   case measure=>exact ZbL
 case false=>
  have h3q:¬d.src=c.src:=by simpa using h3
  have HM:da ((k.eC.take (n+1)).any (hR k.pure.parts c)=false):=(HJ Vp.I HA.I).trans (VB.I.trans Zfm);go_wp2;go_roundw
  case rel=>exact Zd9
  case measure=>exact ZbL):P:=h
def iv (h:P:=by refine Mb.mono ?_;clear Mb;rintro e A2 ⟨q2,rfl,hp,ht⟩;replace S:=aA (S.I.call ht);have HP:da (q2.pure=_):=hp;clear hp ht;go_wp2_with(refine ec _ _ q2.cells S.I.an ?_);refine gZ results186 S.I.an ?_;exact⟨q2,rfl,HP.I.trans HE.I.symm,S.I.done _⟩):P:=h
def ZeB (h:P:=by rw[HV.I]):P:=h
def i8 (h:P:=by
 go_wp2_with fail;refine(xT p x.Md x.on _ HS.I.1 HP.I.at').mono ?_;rintro e w4 ⟨rfl,hb4⟩;have I2:da (nI w w4 w.heap.size (w.heap.size+1) p x):=HP.I.below hb4;clear hb4 m0 m1 m2 m3 m4 m5 m6 m7 k0 k1 k2 k3 k4 k5 k6 k7 k8 k9 k10 k11;obtain⟨k0,k1,k2,k3,k4,k5,k6,k7,k8,k9,k10,k11⟩:=I2.I.proc.cells;cases hha:hasB p.pure x.Md x.on
 .have hz:True:=trivial
  have HV:da (bh p.pure x.toaD=false):=by show bh _ _=false;rw[HE.I];simp[hha]
  clear HE;go_wp2;go_ret;exact⟨al ZeB,I2.I.cd⟩
 have HHA:da (hasB p.pure x.Md x.on=true):=hha;clear hha;have HE:da (bh p.pure x.toaD=(cv x.Mg 1 2000000000||decide (x.Mg= -1))):=by show bh _ _=_;rw[HE.I,HHA.I];simp[lh]
 by_cases hm:x.Mg= -1
 .have hm':(x.Mg== -1)=true:=by simp[hm]
  have HV:da (bh p.pure x.toaD=true):=by show bh _ _=true;rw[HE.I];simp[hm]
  clear HE;go_wp2;go_ret;exact⟨al ZeB,I2.I.cd⟩
 have hm':(x.Mg== -1)=false:=by simp[hm]
 have HV:da (bh p.pure x.toaD=cv x.Mg 1 2000000000):=by show bh _ _=_;rw[HE.I];simp[hm]
 clear HE hm;go_wp2_with(go_at_call 41;refine(dx x.Mg 1 2000000000 _).mono ?_;rintro e w9 ⟨rfl,mW⟩;rw[mW];clear mW w9);go_ret;exact⟨al ZeB,I2.I.cd⟩):P:=h
def jp (h:P:=by
 have i1:¬(k:Int)<(l.length:Int):=by omega
 have ek:k=l.length:=by omega
 subst ek;go_wp2;go_ret;refine⟨a',cap',by rw[KG];rfl,?_,HO.I.2.trans (HA.I.2.mono HO.I.2.size)⟩;have h5:=cq HA.I.1 HO.I.2.size;rw[LQ]at h5;rw[KG];exact h5):P:=h
def l_ (h:P:=by exact⟨q2,rfl,HP.I.trans HE.I.symm,S.I.done _⟩):P:=h
def mi (h:P:=by
 go_roundw
 case rel=>exact⟨k+1,by omega,by go_num,a5,im,rfl,HN⟩
 case measure=>exact Zcc):P:=h
def mt (h:P:=by clear HE;go_wp2;go_ret;exact⟨al ZeB,HP.I.cd⟩):P:=h
def Zck (h:P:=by go_grown):P:=h
def m_ (h:P:=by
 go_enter func34,ntmps34
 go_wp2_with(first|(refine gq rfl rfl (w.heap.size+1) ?hN T HT.I ?_;(case hN=>(rw[RR];done)))|(refine j3 rfl rfl T HT.I ?_)|(refine fC rfl (.tmp 2) (.tmp 22) rfl (w.heap.size+1) T (by rfl) (by rfl) T (by exact Kq _ _ _) hs hs ho ?_));refine KT (ma (cs:=T) (b:=false) (g:=w.heap.size+1) (t:=65) (fr:=(0,0)) rfl rfl ?_ hs) rfl ⟨by rw[HT.I],?_⟩
 .exact KU _ _ T _ _ _ (Kq _ _ _)
 .exact q_ Zck zw _):P:=h
def ZbH (h:P:=by obtain⟨m0,m1,m2,m3,m4⟩:=hS0.I.1.kb.cells;obtain⟨n0,n1,n2,n3,n4⟩:=hS0.I.1.nb.cells;obtain⟨y0,y1,y2,y3⟩:=HCC.I _ hS0.I.2;go_simp;try with_reducible rfl):P:=h
def nv (h:P:=by
 refine b9 u2 10 #[a_ n.row,i_ j_ c.src,i_ j_ c.ga] HK22.I ?_
 iterate 5 (refine PI ?_ (hy:=λw0 hS0=>ZbH))
 refine b9 t2 10 #[a_ k.row,i_ j_ c.src,i_ j_ c.ga] asd.I ?_
 iterate 3 (refine PI ?_ (hy:=λw0 hS0=>ZbH))
 refine bk ZbG (λJC y5=>?_) _;go_wp2_with fail;go_roundw
 case rel=>exact⟨j+1,by omega,by go_num,y5.I.1⟩
 case measure=>exact ZbL):P:=h
def pl (h:P:=by
 have HY:da (gH s[k]=true->(s.data.toList.take (k+1)).all gH=true):=λh=>Bv hlt HA.I h
 have HX:da (gH s[k]=false->bw s=false):=λh=>by simp[bw,D7 hlt h]
 by_cases h1:(s[k].toNat:Int)<32
 .go_wp2
  go_ret;exact⟨al (HX.I (xo h1)).symm,rfl⟩
 by_cases h2:126<(s[k].toNat:Int)
 .go_wp2
  go_ret;exact⟨al (HX.I (uO h2)).symm,rfl⟩
 by_cases h3:(s[k].toNat:Int)=59
 .have h3':((s[k].toNat:Int)==59)=true:=by simp[h3]
  go_wp2;go_ret;exact⟨al (HX.I (uj h3)).symm,rfl⟩
 have h3':((s[k].toNat:Int)==59)=false:=by simp[h3]
 have HB:da (gH s[k]=true):=xR h1 h2 h3;go_wp2
 go_round
 case rel=>exact⟨k+1,by omega,by go_num,HY.I HB.I⟩
 case measure=>exact Zcc):P:=h
def qr (h:P:=by
 iterate 21 (refine nl ?_;simp only[pt,sb,s0,s1])
 iterate 1 (refine yl (v:=?_) ?_ ?_;rotate_left;(intro w0 hS0;obtain⟨q3,g1,g2,g3,g4,g5,g6⟩:=HR.I _ w0 hS0;go_simp;try with_reducible rfl);simp only[pt,sb,s0,s1])
 refine bk ZbG (λA3 NO=>?_) _;go_wp2;go_ret;exact⟨al HN.I.symm,NO.ks.low⟩):P:=h
def rg (h:P:=by clear hk;go_wp2_with fail;refine(MC m HM.I.1 HM.I.2 _).mono ?_;rintro e W3 ⟨rfl,hb⟩;replace S:da (Px w k n m s _):=S.I.below hb;clear hb b0 b1 b2 b3;go_wp2;go_ret;exact⟨by rw[HT.I];rfl,S.I.low⟩):P:=h
def ro (h:P:=by go_wp2;go_ret;exact⟨rfl,(Kp _ _).alloc (Ki _) _⟩):P:=h
def rt (h:P:=by
 have HA:da (fO r a len cap w (w9.setCell ⟨q,2,n_⟩ (i_ j_ VX)) q _ n VX ⟨#[]⟩):=YU.I.set rfl;clear kN zT H8;obtain⟨⟨o0,o1,o2,o3⟩,⟨r0,r1,r2,r3⟩,fD,fB⟩:=YU.I.cells;have q0:=fD 0;have q1:=fD 1;have q2:=fD 2;have q3:=fD 3;have y0:=fB 0;have y1:=fB 1;have y2:=fB 2;have y3:=fB 3;have hlt:=YU.I.lt;have hne:w.heap.size≠q:=by omega
 have mD:q≠w.heap.size:=by omega
 clear fD fB;go_wp2;refine KT (K9 results136 _ _ w.heap.size 217 _ (0,0) _ (by rfl) HA.I.ends.1 underlying217 rfl jy) rfl ?_;exact⟨(_,n,VX,⟨#[]⟩),Ky _,rfl,HA.I.ends.2.1,HA.I.ends.2.2⟩):P:=h
def te (h:P:=by
 have HA:da (fO r a len cap w (w9.setCell ⟨q,2,n_⟩ (i_ j_ VX)) q _ n VX tx):=YU.I.set rfl;clear kN zT H8;obtain⟨⟨o0,o1,o2,o3⟩,⟨r0,r1,r2,r3⟩,fD,fB⟩:=YU.I.cells;have q0:=fD 0;have q1:=fD 1;have q2:=fD 2;have q3:=fD 3;have y0:=fB 0;have y1:=fB 1;have y2:=fB 2;have y3:=fB 3;have hlt:=YU.I.lt;have hne:w.heap.size≠q:=by omega
 have mD:q≠w.heap.size:=by omega
 clear fD fB;go_wp2;refine KT (K9 results136 _ _ w.heap.size 217 _ (0,0) _ (by rfl) HA.I.ends.1 underlying217 rfl jy) rfl ?_;exact⟨(_,n,VX,tx),htx,rfl,HA.I.ends.2.1,HA.I.ends.2.2⟩):P:=h
def tl (h:P:=by
 have HO:da (mQ (K k) (N k) (M k) (S k)=j8 K N M S k):=rfl;rw[HO.I];clear hb1 c0 c1 c2 c3;cases hop:j8 K N M S k with
 |true=>
  have HP:da (j8 K N M S k=true):=hop;clear hop;go_wp2;go_roundw
  case rel=>exact ⟨k+1,by omega,by go_num,λj hj=>by
   by_cases e:j=k
   .subst e;exact HP.I
   .exact HA.I j zw,fQ.I⟩
  case measure=>exact Zcc
 |false=>
  have HP:da (j8 K N M S k=false):=hop;clear hop;go_wp2;go_ret;exact⟨al (iS (λh=>by have:=h.2.2 k hlt;rw[HP.I]at this;cases this)).symm,fQ.I⟩):P:=h
def ue (h:P:=by
 have h5:q∈blk a:=by simpa[four,bM]using hq'
 rcases hq q h5 with h6|h6
 .exact .inl (by rw[h6];simp[four,bM])
 .exact .inr h6):P:=h
def vc (h:P:=by
 go_enter func227,ntmps227
 go_wp2_with(first|(go_at_call 174;refine(eW _ _).mono ?_;rintro e w' ⟨rfl,rfl⟩)|(go_at_call 228;refine(iX _ _).mono ?_;rintro e w' ⟨rfl,rfl⟩))
 all_goals go_ret
 all_goals exact⟨al (by simp_all),Zck⟩):P:=h
def wl (h:P:=by
 simp only[pt,sb,s0,s1]
 (refine PI ?_)
 refine bk ZbG ?_ _;intro w1 cm;go_wp2;go_ret;exact⟨al HV.I.symm,cm.2.I.cd⟩):P:=h
def ws (h:P:=by go_wp2_with(first|(refine eT _ H5.I.1.box ?_)|(refine ec _ _ q.cells H5.I.2 ?_));refine gZ results172 H5.I.2 ?_;exact⟨_,congrArg (λc=>Ending.returned (a_ c)) (jd (nx:=q.next)).symm,HP.I.trans HE.I.symm,H5.I.1.mK zw zw _⟩):P:=h
def ZeD (h:P:=by have:=HC.I.2.2.2.1;omega):P:=h
def ww (h:P:=by obtain⟨k0,k1,k2,k3,k4,k5,k6,k7⟩:=HZ.I.2.1.cells;go_wp2_with(refine ec _ _ #[i_ j_ afG,i_ j_ afd,s_ (o_ ⟨gs,0,n_⟩) ps.length pC,s_ afV ss.length afX,s_ afA es.length afq,s_ afR bs.length afK,s_ aga fs.length afN,s_ afr ts.length af4] HZ.I.2.2.1 ?_);refine gZ results182 HZ.I.2.2.1 ?_;rw[afx.I];exact⟨rfl,HZ.I.1.same λg hg=>KH _ _ _ _ (HZ.I.2.2.2.2.1 g hg),q_ HZ.I.2.2.2.1 ZeD _,HZ.I.2.2.2.2.2.more (q_ (Kp _ _) zw _)⟩):P:=h
def xz (h:P:=by
 iterate 7 (refine nl ?_;simp only[pt,sb,s0,s1])
 (refine agj ?_)
 refine bk ZbG ?_ _;intro w1 cm;subst cm;go_wp2;go_ret;exact kO HN.I Dk.I.drew):P:=h
def x_ (h:P:=by
 go_simp
 try with_reducible rfl):P:=h
def y_ (h:P:=by
 intro w0 hS0
 have hq:=hS0.1.2.I;rw[show(Value.agg (p.L6 gs))=a_ p.cells by unfold af.cells;rw[mR.I.1]];refine(lk p x w0 fl.I.1.short HXS.I.1 Jf.I.1 Jf.I.2 hq.2.1 (lA hq.2.1.1 mR.I.2)).mono ?_;rintro e w2 ⟨rfl,hb2⟩;exact⟨al HPO.I,kQ mR.I.1 mR.I.2 ⟨hq.1.below hb2,hq.2.1.below hb2,hq.2.2.trans (hb2.mono hq.2.2.size)⟩ (rh mR.I.1 wV.I.2 (hq.2.1.below hb2)),hS0.2.I.trans (hb2.mono hS0.2.I.size)⟩):P:=h
def z_ (h:P:=by clear hp FN;go_wp2_with(refine eT _ S.I.1.box ?_);refine Mb.mono ?_;clear Mb;rintro e W ⟨q2,rfl,hp2,ht⟩;have h5:=S.I.1.call ht;have H5:=aA (And.intro h5.1 ((h5.2 _ zw zw).trans S.I.2));have HP:da (q2.pure=_):=hp2;clear hp2 ht h5;go_wp2_with(refine ec _ _ q2.cells H5.I.2 ?_);refine gZ results183 H5.I.2 ?_;exact⟨q2,rfl,HP.I.trans HE.I,H5.I.1.mK zw zw _⟩):P:=h
def AD (h:P:=by go_wp2;go_ret;exact⟨by rw[HT.I];rfl,S.I.low⟩):P:=h
def AM (h:P:=by go_wp2_with(refine ec _ _ ar HB.I.2.2.2 ?_);refine mG results94 (b_ false) HB.I.2.2.2 ?_;exact ca HN.I (q_ HB.I.2.2.1 zw _)):P:=h
def A_ (h:P:=by
 have h1:=congrArg Prod.fst abW;have h2:=congrArg Prod.snd abW
 simp only at h1 h2;exact⟨by rw[show x'.Ma=x'.todS.Ma from rfl,h1];rfl,by rw[show y'.Ma=y'.todS.Ma from rfl,h2];rfl⟩):P:=h
def BC (h:P:=by
 go_enter func116,ntmps116
 go_wp2_with fail;refine(lr p id _ H.I.2.ae H.I.1.1).mono ?_;rintro e w1 ⟨rfl,hb1⟩;have HB:da (B_ w.heap.size w w1):=H.I.1.2.trans (hb1.mono zy);have HM:da (decide (0<=place (p.ae.map (·.id)) id 0)=decide (id∈p.ae.map (·.id))):=mV _ id;clear hb1;go_wp2;go_ret;exact⟨al (HM.I.trans (by simp[hasB,af.pure])),HB.I⟩):P:=h
def CE (h:P:=by exact h.pR.xy i q (by rcases i with _|_|_|_|_<;>first|exact hi|exact absurd rfl ei)):P:=h
def C_ (h:P:=by exact cP h hu.up rfl zw):P:=h
def D_ (h:P:=by
 iterate 2 (refine PI ?_)
 iterate 13 (refine nl ?_;simp only[pt,sb,s0,s1])
 (refine PI ?_)
 refine bk ZbG ?_ _;intro w1 cm;have HV:da (B_ W1.heap.size W1 w1):=HN.I.2.2.2.trans (cm.2.I.mono HN.I.2.2.2.size);clear cm;go_wp2;go_roundw
 case rel=>exact⟨k+1,z,by omega,by go_num,rfl,⟨HY.I,HV.I⟩⟩
 case measure=>exact ZbL):P:=h
def E_ (h:P:=by
 refine bk ZbG ?_ _;intro w1 cm;subst cm;go_wp2;go_roundw
 case rel=>exact⟨k+1,k,by omega,by go_num,rfl,⟨HY.I,HN.I.2.2.2.drew⟩⟩
 case measure=>exact Zcc):P:=h
def Fd (h:P:=by
 rintro(h|h|h)
 .exact .inr (.inl h)
 .exact .inl h
 .exact .inr (.inr h)):P:=h
def FS (h:P:=by refine bk ZbG (λA3 NO=>?_) _;go_wp2;go_ret;exact⟨al HN.I.symm,NO.ks.low⟩):P:=h
def Zel (h:P:=by have h5:=Hb.I.2.left_eq;have h6:=j6.I;rw[h6.2];exact Q5 (Nat.le_of_eq h5) h6.1):P:=h
def F_ (h:P:=by
 simp only[dt]at hen;clear HN hrg hrg2 rx oE hkey hlk hv hat oX hpl td hpw lD oG hrow sY hg3;unfold dt;go_wp2_with(at_builtin;refine br _ rfl _ _ 49 rfl _ _ _ _ rfl rfl hap ?_;clear hap);go_roundw
 case rel=>exact⟨_,_,_,Hb.I.2,Hb.I.1⟩
 case measure=>exact Zel):P:=h
def G_ (h:P:=by have hv:=HA.I.cd.trans (iJ.mono HA.I.cd.size);have hs:=iJ.size;have hs2:=HA.I.size;have Ix:=HX.I;have hx:W5.heap[X]? =V.heap[X]?:=iJ.block X zw;have hk5:Tk W5 w.heap.size k:=(iJ.block _ zw).trans Ul.I;exact⟨⟨hv,hk5⟩,⟨hv.alloc hv.size _,(adD _ _ _ zw).trans hk5⟩,hx,(adD _ _ _ zw).trans hx⟩):P:=h
def H_ (h:P:=by
 go_enter func227,ntmps227
 go_wp2_with(first|(go_at_call 174;refine(eW _ _).mono ?_;rintro e w' ⟨rfl,rfl⟩)|(go_at_call 228;refine(iX _ _).mono ?_;rintro e w' ⟨rfl,rfl⟩)|(go_at_call 210;refine(iM _ _ hs).mono ?_;rintro e w' ⟨rfl,rfl⟩))
 all_goals go_ret
 all_goals exact⟨al (by simp_all),Zck⟩):P:=h
def I_ (h:P:=by
 subst ei
 have h5:q∈blk a:=by simpa[four,bM]using hq'
 rw[hall q h5];simp[four,bM]):P:=h
def J_ (h:P:=by
 go_enter func62,ntmps62
 go_wp2;go_ret;exact⟨al (hG zw).symm,Zck⟩):P:=h
def Zcb (h:P:=by have:=KC e;omega):P:=h
def K_ (h:P:=by have hb0:=Fy.I;refine(rx.block g (by have:=HO.I.size;omega) (λe=>Zcb)).trans (HO.I.same g zw (λhm=>by have:=Ia.I g hm;omega))):P:=h
def L_ (h:P:=by
 go_round
 case rel=>exact⟨k+1,true,acc++[y],a5,c5,by omega,by go_num,rfl,by simp,⟨F5.I,HA.I.2.on HY.I⟩⟩
 case measure=>exact ZbL):P:=h
def M_ (h:P:=by go_wp2_with(go_at_call 41;refine(dx _ _ _ _).mono ?_;rintro e w' ⟨rfl,rfl⟩);go_ret;exact⟨al (HN.I (hG zw)).symm,hB.alloc zw _⟩):P:=h
def N_ (h:P:=by clear hb1;go_wp2;go_ret;exact⟨al (HM.I.trans (by simp[hasB,af.pure])),HB.I⟩):P:=h
def O_ (h:P:=by clear HE;go_wp2;go_ret;exact⟨al ZeB,HP.I.cd.alloc HP.I.cd.size _⟩):P:=h
def PC (h:P:=by
 subst ei
 have h5:q∈blk a:=by simpa[four,bM]using hi
 rw[hall q h5];exact hgl):P:=h
def PM (h:P:=by rcases i with _|_|_|_|_<;>first|exact hq'|exact absurd rfl ei):P:=h
def P_ (h:P:=by
 refine Mb.mono ?_;clear Mb m0 m1 m2 m3 m4 m5 m6 m7 k0 k1 k2 k3 k4 k5 k6 k7;rintro e ow ⟨hz,⟨rfl,hR⟩|⟨rfl,hR⟩⟩
 all_goals
  have HZ:=aA (And.intro hz hR);clear hz hR;go_wp2_with(refine ec _ _ _ HZ.I.1 ?_);refine mG results92 (b_ _) HZ.I.1 ?_;exact HZ.I.2):P:=h
def Q1 (h:P:=by
 refine Mb.mono ?_;clear Mb m0 m1 m2 m3 m4 m5 m6 m7 k0 k1 k2 k3 k4 k5 k6 k7;rintro e ow ⟨hz,⟨rfl,hR⟩|⟨rfl,hR⟩⟩
 all_goals
  have HZ:=aA (And.intro hz hR);clear hz hR;go_wp2_with(refine ec _ _ _ HZ.I.1 ?_);refine mG results91 (b_ _) HZ.I.1 ?_;exact HZ.I.2):P:=h
def Q2 (h:P:=by
 refine Mb.mono ?_;clear Mb m0 m1 m2 m3 m4 m5 m6 m7 k0 k1 k2 k3 k4 k5 k6 k7;rintro e ow ⟨hz,⟨rfl,hR⟩|⟨rfl,hR⟩⟩
 all_goals
  have HZ:=aA (And.intro hz hR);clear hz hR;go_wp2_with(refine ec _ _ _ HZ.I.1 ?_);refine mG results90 (b_ _) HZ.I.1 ?_;exact HZ.I.2):P:=h
def Q3 (h:P:=by
 intro w0 hS0
 refine(dx x.Mg 1 bE w0).mono ?_;rintro e w2 ⟨rfl,rfl⟩;exact⟨afp.I,hS0⟩):P:=h
def Q4 (h:P:=by
 refine bk ZbG ?_ _;intro w1 cm;have HV:da (B_ W1.heap.size W1 w1):=HN.I.2.2.2.trans (cm.2.I.mono HN.I.2.2.2.size);clear cm;go_wp2;go_roundw
 case rel=>exact⟨k+1,k,by omega,by go_num,rfl,⟨HY.I,HV.I⟩⟩
 case measure=>exact ZbL):P:=h
def Q_ (h:P:=by
 rw[e2];refine uX Dl λg hg=>?_
 rcases hf g (fZ.2 hg)with hm|hm
 .exact ⟨λhq=>hP g (.inl hq) hm,λhq=>hP g (.inr hq) hm⟩
 .exact ⟨λhq=>by have:=(h.lt g (hin g (.inl hq))).2;omega,λhq=>by have:=(h.lt g (hin g (.inr hq))).2;omega⟩):P:=h
def R_ (h:P:=by
 have HN:da (eP k.pure=false):=by show _=_;rw[Ul.I];have:cv k.bE 0 500000000=false:=(by cases h:cv k.bE 0 500000000 with|false=>rfl|true=>(rw[bz]at h;omega));rw[this];rfl
 clear Ul;go_wp2;go_ret2;exact⟨S.I.low,.inl ⟨HN.I,rfl⟩⟩):P:=h
def Zfv (h:P:=by have:=HA.I.size;have:=HXX.I.2;omega):P:=h
def S_ (h:P:=by have hv:=HA.I.cd.trans (iJ.mono HA.I.cd.size);have hx:W5.heap[X]? =V.heap[X]?:=iJ.block X Zfv;exact⟨hv,hv.alloc hv.size _,hx,(adD _ _ _ (by have:=iJ.size;have:=HA.I.size;have:=HXX.I.2;omega)).trans hx⟩):P:=h
def Tu (h:P:=by
 go_roundw
 case rel=>exact⟨k+1,by omega,by go_num,⟨_,_,_,HN.I⟩⟩
 case measure=>simp[Go.RowKit.intOf];omega):P:=h
def TZ (h:P:=by go_wp2_with(refine stK 4 24 T9 S.I.I ?_);refine aaf results59 (b_ false) S.I.I ?_;exact aoc HN.I (q_ S.I.ks.low zw _)):P:=h
def U_ (h:P:=by go_wp2_with fail;go_ret2;exact⟨HK.I.cd.alloc HK.I.cd.size _,.inl ⟨HR.I,rfl⟩⟩):P:=h
def V_ (h:P:=by
 rw[e2]at hg
 rcases Kg.1 hg with hg|hg
 .exact .inl (hin g (.inl hg))
 .rcases Kg.1 hg with hg|hg
  .exact (hf g hg).imp_left λh7=>by rw[e1];simp only[Kg];exact .inr (.inl ((hkx g).1 h7))
  .exact .inl (hin g (.inr hg))):P:=h
def WP (h:P:=by
 show(W.setCell _ _).ownsRow bj _ 1 (s_ a l.length c) l.length (bT.flat l)
 exact aL ho λg hg=>hs g λe=>by
  rcases hf g hg with h7|h7
  .exact hP gs (.inl hgP) (e▸h7)
  .have:=(h.lt gs (hin gs (.inl hgP))).2;omega):P:=h
def W_ (h:P:=by
 rcases P9 i j with hlt|heq|hgt
 .have:=h5 i j hi1 DS hlt;omega
 .subst heq;rfl
 .have:=h5 j i DS hi1 hgt;omega):P:=h
def X_ (h:P:=by
 go_enter func231,ntmps231
 go_wp2;go_ret;exact⟨al (by simp[gw,cv, *]<;>omega),(Kp _ _).alloc (Ki _) _⟩):P:=h
def Y_ (h:P:=by simp only[Lv,Ls]at this;exact this):P:=h
def Z_ (h:P:=by
 have h1:=hall e he hb;have h0:=(Qf.1 hr).1;rw[heq]at h1;rcases Nat.lt_or_ge i RV.size with h'|h'
 . simp[h']at h0 h1;rw[h0]at h1;cases h1
 . simp[Array.getElem?_eq_none h']at h1):P:=h
def Zaa (h:P:=by
 replace S:=aA (S.I.reads hb2);clear hb2;have HB:=aA (HJ.I.2.2.2 z2 gV);clear gV;go_wp2_with fail
 go_roundg (gk-1)
 case rel=>exact⟨q2,z2,rfl,HB.I,S.I⟩
 case measure=>have:=HJ.I.1;omega):P:=h
def Zd3 (h:P:=by rw[bg.len];exact hj):P:=h
def Zab (h:P:=by rw[ha]at hg;cases hg;exactλj hj=>⟨by have h7:=(hrow.cell hx (r:=j) hj).1;rw[show bg.n=12 from rfl]at h7;rw[h7,Kz Zd3];rfl,(hrow.cell hx (r:=j) hj).2⟩):P:=h
def Zac (h:P:=by exact h.pR.apart i i2 hij q (e1 i q hi) (e1 i2 q hi2)):P:=h
def Zad (h:P:=by
 refine bk ZbG ?_ _;intro w1 cm;subst cm;go_wp2;go_roundw
 case rel=>exact⟨k+1,n,by omega,by go_num,rfl,⟨HY.I,HN.I.2.2.2.drew⟩⟩
 case measure=>exact Zcc):P:=h
def Zae (h:P:=by
 have h5:=h.nodup;rw[hsp]at h5;obtain⟨-,k2,k3⟩:=Kf.1 h5;obtain⟨-,-,k6⟩:=Kf.1 k2;rcases hg with hg|hg
 .exact k3 g hg gs (Lz _ hgl) he
 .exact k6 gs hgl g hg he.symm):P:=h
def Zaf (h:P:=by
 clear e1 e2 e3 e4 e5 e6 e7 z1 z2 z3 z4 z5 z6;go_wp2;go_roundw
 case rel=>exact⟨k+1,c7,by omega,by go_num,rfl,by omega,HE.I,NO.I⟩
 case measure=>exact ZbL):P:=h
def Zag (h:P:=by obtain⟨m0,m1,m2,m3⟩:=S.I.box.cells;go_wp2;go_ret;exact .inl ⟨HN.I,rfl,S.I.US.kept⟩):P:=h
def Zah (h:P:=by
 split at h3
 .simp only[J7]at h3;exact h3.1.1.1.1
 .split at h3
  .simp only[J7]at h3;exact h3.1.1
  .split at h3
   .simp only[J7]at h3;exact h3.1.1.1
   .cases h3):P:=h
def Zai (h:P:=by go_wp2;go_ret;exact⟨al HV.I.symm,(Kp _ _).alloc (Ki _) _⟩):P:=h
def Zaj (h:P:=by
 go_round
 case rel=>exact⟨k+1,false,acc++[y],a5,c5,by omega,by go_num,rfl,by simp,⟨F5.I,HA.I.2.past HY.I HC.I⟩⟩
 case measure=>exact ZbL):P:=h
def Zak (h:P:=by
 go_enter func42,ntmps42
 go_wp2_with(go_at_call 41;refine(dx _ _ _ _).mono ?_;rintro e w' ⟨rfl,rfl⟩);go_ret;exact⟨al (mm zw).symm,Zck⟩):P:=h
def Zal (h:P:=by
 obtain⟨-,k2,k3⟩:=Kf.1 Dl;obtain⟨-,-,k6⟩:=Kf.1 k2;rcases hg with hg|hg
 .exact k3 g hg g (Lz _ ((hkx g).1 hm)) rfl
 .exact k6 g ((hkx g).1 hm) g hg rfl):P:=h
def Zam (h:P:=by go_wp2;go_ret;exact⟨al HN.I.symm,cy.I.2.2⟩):P:=h
def Zan (h:P:=by have Ix:=HX.I;have zU:Tk w' w.heap.size k:=(qY _ zw).trans Ul.I;exact⟨⟨lY,zU⟩,lW,hpl,(ac5 _ _ _ _ (by show w.heap.size≠X;omega)).trans zU⟩):P:=h
def Zao (h:P:=by go_wp2;go_ret;exact⟨al HV.I.symm,Hs.I.cd⟩):P:=h
def Zap (h:P:=by exact .inr (eB (by show 1<=p.next;omega) (by show p.next<=p.next+1-1;omega))):P:=h
def Zaq (h:P:=by simp only[Kt,Ku,or_false]at hn;omega):P:=h
def Zar (h:P:=by obtain⟨m0,m1,m2,m3,m4⟩:=HE.I.box.cells;go_wp2_with(refine stK 2 78 _ HE.I.mK ?_);refine rtK results32 HE.I.mK ?_;exact⟨_,rfl,HE.I.fin⟩):P:=h
def Zas (h:P:=by
 refine⟨λy hy=>?_,List.Pairwise.cons (λy hy=>h1 y hy) h2⟩;rcases Kt.1 hy with rfl|hy
 .exact h.1.1.2
 .have:=h1 y hy;have:=h.1.1.2;omega):P:=h
def Zat (h:P:=by
 have c0:=hat.1;rw[ha]at m;clear hat hx;go_wp2
 go_round
 case rel=>exact⟨k+1,by omega,by go_num,HT.I⟩
 case measure=>exact ZbL):P:=h
def Zau (h:P:=by
 have HP:da (bw x=true):=hp;clear hp;go_wp2
 go_round
 case rel=>exact⟨k+1,by omega,by go_num,pQ HA.I HX.I HP.I⟩
 case measure=>exact Zcc):P:=h
def Zav (h:P:=by obtain⟨g,e,hc⟩:=h.at hx;exact⟨g,e,hc 0 _ rfl,hc 1 _ rfl,hc 2 _ rfl⟩):P:=h
def ZcC (h:P:=by unfold af.cells;simp):P:=h
def Zaw (h:P:=by exact⟨_,rfl,hq,ZcC,by rw[hq];exact hr2,HR.I.2.1⟩):P:=h
def Zax (h:P:=by go_wp2;go_ret;exact⟨al (kR zw).symm,rfl⟩):P:=h
def Zay (h:P:=by go_wp2;go_ret;exact⟨al (mA zw).symm,rfl⟩):P:=h
def Zaz (h:P:=by clear hr;go_wp2_with(refine stK 4 42 T9 HR.I.1.I ?_);refine aaf results59 (b_ false) HR.I.1.I ?_;exact aoc HN.I (q_ HR.I.1.low zw _)):P:=h
def ZaA (h:P:=by exact⟨a5,c5,w5,hap,oe,hb.grown A7 hb.size λc e=>by cases e;exact hge,λh _ hn hl=>A7.block h hl (λe=>hn (by cases e;rfl))⟩):P:=h
def ZaB (h:P:=by
 go_wp2
 go_roundw
 case rel=>exact⟨k+1,by omega,by go_num,HM.I zw,kj.alloc zw _⟩
 case measure=>exact Zcc):P:=h
def ZaC (h:P:=by rw[fG,J7]at k1⊢;refine⟨?_,k1.2⟩;have k4:=k1.1;unfold jY at k4⊢;simp only[J7]at k4⊢;exact⟨⟨k4.1.1,ht⟩,k4.2⟩):P:=h
def ZaD (h:P:=by
 rw[e1];rcases hg with hg|hg
 .exact Lz _ hg
 .exact Ly _ (Ly _ hg)):P:=h
def Zfz (h:P:=by simp[Kind.flat]):P:=h
def ZaE (h:P:=by
 have e1:(acc++[z]).length=acc.length+1:=by simp
 rw[e1,K.dc];have e2:K.flat [z]=K.vals z:=Zfz
 rw[e2];exact ho):P:=h
def ZaF (h:P:=by
 go_roundw
 case rel=>exact⟨k-1,q,rfl,by omega,by omega,aA (HD.I.up zw)⟩
 case measure=>exact ZbL):P:=h
def ZaG (h:P:=by have h7:y.todS.Ma=y.Ma:=rfl;have h8:y.todS.max=y.max:=rfl;rw[h7]at h5;rw[h8]at h5 h6;exact⟨h5.2.2,by omega,h5.2.1,h5.1⟩):P:=h
def ZaH (h:P:=by go_wp2;go_ret;exact⟨al (eB h1 h2).symm,rfl⟩):P:=h
def ZaI (h:P:=by
 have e1:IntKind.min j_<=0:=by decide
 have e2:100000<=IntKind.max j_:=by decide
 simp only[Lit.wf,J7,decide_eq_true_eq];omega):P:=h
def ZaJ (h:P:=by
 rw[fG,J7]
 refine⟨q4,mr q6 rfl ⟨by show 0<=z.pc;omega,?_⟩ a2 a3 a4 a6⟩
 have:=lK q6
 show z.pc<z.prog.length
 omega):P:=h
def ZaK (h:P:=by
 refine hfree k ok hk hki ?_ hno;by_cases hjk:j=k
 . subst hjk;exact hjun
 . rw[getD_set_ne true hjk]at hun;exact hun):P:=h
def ZaL (h:P:=by go_wp2_with(refine stK 4 15 T9 S.I.I ?_);refine aaf results8 (b_ false) S.I.I ?_;exact Zv HN.I (q_ S.I.ks.low zw _)):P:=h
def ZaM (h:P:=by
 go_wp2;go_roundw
 case rel=>exact⟨k+1,z,by omega,by go_num,rfl,⟨HY.I,HN.I.2.2.2⟩⟩
 case measure=>exact Zcc):P:=h
def ZaN (h:P:=by rw[ha]at hg;cases hg;have h7:=hrow.cell hx (r:=j) hj;exact⟨⟨_,h7.1.trans (Kz Zd3)⟩,h7.2⟩):P:=h
def ZaO (h:P:=by go_wp2_with(refine ec _ _ ar S.I.I ?_);refine mG results11 (b_ false) S.I.I ?_;exact ca HN.I (q_ S.I.ks.low zw _)):P:=h
def ZaP (h:P:=by go_wp2;go_ret;exact⟨al HN.I.symm,S.I.low⟩):P:=h
def ZaQ (h:P:=by
 simp only[J5,if_false,QO]
 split at h
 .exact h
 .obtain ⟨n,h1,h2,h3⟩:=h
  exact⟨n,h1,by omega,h3⟩):P:=h
def ZaR (h:P:=by cases ha.symm.trans h1;exact h2):P:=h
def ZaS (h:P:=by rw[ha]at hg;cases hg;exact⟨⟨_,(hrow.cell hx (r:=11) (by decide)).1⟩,(hrow.cell hx (r:=11) (by decide)).2⟩):P:=h
def ZaT (h:P:=by rw[ha]at ha2;cases ha2;exact g8.1):P:=h
def ZaU (h:P:=by exact .inl ⟨by simp only[Lt,place];rw[if_neg h];exact h1,by simp only[LL,h,decide_false];exact h2⟩):P:=h
def ZaV (h:P:=by
 have h3:ce y.id f r=r:=qB λz hz e=>by have:=hr.1 z hz;omega
 simp only[ce,Lt,if_true]at h3⊢;rw[h3]):P:=h
def ZaW (h:P:=by have s1:=MD (n:=n) zw zw;have s2:=MD (n:=m) zw zw;simp only[QH];omega):P:=h
def ZaX (h:P:=by refine⟨?_,λj hj=>(J1 (w:=w) e).trans (h.2 j hj)⟩;have h1:=h.1;rw[Qb h1]at e;exact(J2.1 e).1):P:=h
def ZaY (h:P:=by rw[e1];rw[e3]at h5 h6 hk;exact oS h5 (fN _) hn h6 hk):P:=h
def ZaZ (h:P:=by
 rcases hk with rfl
 all_goals
  go_enter func226,ntmps226
  go_wp2;go_ret2;exact⟨rfl,Zck⟩):P:=h
def Za0 (h:P:=by refine bk ZbG (λA3 NO=>?_) _;go_wp2;go_ret;exact⟨al (by simp[h1,h2]),NO.2.2⟩):P:=h
def Za1 (h:P:=by rw[if_neg zw,if_neg zw,if_neg zw,if_neg zw,if_neg zw]):P:=h
def Za2 (h:P:=by
 split at h
 .rename_i e
  rw[e];exact⟨k,rfl,by omega,hx⟩
 .obtain ⟨n,h1,_⟩:=h
  omega):P:=h
def Za3 (h:P:=by simp only[Kt,Ku,or_false]at ht;rw[ht];exact f3):P:=h
def Za4 (h:P:=by
 split at h
 .exact .inl (KC h).symm
 .split at h
  .exact .inl (KC h).symm
  .exact .inr h):P:=h
def Za5 (h:P:=by
 split at h
 .omega
 .rename_i y e
  obtain⟨n,h1,h2,h3⟩:=h;exact⟨n,y,h1,h2,h3,e⟩):P:=h
def Za6 (h:P:=by
 refine cP (mx h λy hy hk=>?_) hu.up rfl (n7 p.next)
 rw[only h.aj hs hy hk];omega):P:=h
def Za7 (h:P:=by go_wp2;go_ret;exact⟨al HN.I.symm,HB.I.2.2⟩):P:=h
def Za8 (h:P:=by
 rcases Kt.1 hy with rfl|hy
 .exact h.1.1.2
 .have:=h2 y hy;have:=h.1.1.2;omega):P:=h
def Za9 (h:P:=by refine aaf results7 (b_ false) S.I.I ?_;exact Zv HN.I (q_ S.I.ks.low zw _)):P:=h
def Zba (h:P:=by rintro e w2 ⟨x,rfl,hb2,hr2⟩;go_wp2;go_ret;exact⟨_,rfl,hb.trans hb2,hr2⟩):P:=h
def Zbb (h:P:=by exact hy.wpOp hi hS λw' GH=>⟨GH,H⟩):P:=h
def Zbc (h:P:=by
 clear HE
 go_enter func220,ntmps220
 go_wp2;go_ret;exact⟨al HV.I.symm,HB.I⟩):P:=h
def Zbd (h:P:=by
 cases xs with
 |nil=>rfl
 |cons u r=>
  obtain⟨g,e',_⟩:=h 0 u rfl;cases e'):P:=h
def Zbe (h:P:=by exact q1 g zw zw zw):P:=h
def Zbf (h:P:=by
 go_enter func107,ntmps107
 go_wp2;go_ret2;exact⟨by rw[HP.I];rfl,Kp _ _⟩):P:=h
def Zbg (h:P:=by
 show _=_
 rw[M4 HX.I.2,<-HA.I.1,e7.I,e6.I,e5.I,e4.I,e3.I,e2.I,e1.I];rfl):P:=h
def Zbh (h:P:=by go_wp2_with(refine eT _ S.I.fr.box ?_);refine Mb.mono ?_;clear Mb;rintro e A2 ⟨q2,rfl,hp,ht⟩;replace S:=aA (S.I.call ht);have HP:da (q2.pure=_):=hp;clear hp ht;go_wp2_with(refine ec _ _ q2.cells S.I.an ?_);refine gZ results188 S.I.an ?_;exact l_):P:=h
def Zbi (h:P:=by refine Mb.mono ?_;clear Mb;rintro e A2 ⟨q2,rfl,hp,ht⟩;replace S:=aA (S.I.call ht);have HP:da (q2.pure=_):=hp;clear hp ht;go_wp2_with(refine ec _ _ q2.cells S.I.an ?_);refine gZ results185 S.I.an ?_;exact l_):P:=h
def ZbQ (h:P:=by rw[HR.I.2.2.1];decide):P:=h
def Zbj (h:P:=by clear hf;have Mb:=bB (n:=n) 3 S.I.fr.own S.I.low HR.I.1 HR.I.2.1 ZbQ;go_wp2_with(refine eT _ S.I.fr.box ?_);exact gt):P:=h
def Zbk (h:P:=by
 clear hf hfm;go_upto_region 2 with fail;replace S:=aA (S.I.reads (Kp _ _).drew);refine aT (λw1=>w1=A2.drew) ZbG rfl ?_;generalize A2.drew=B at*
 iterate 3 (refine agj ?_)
 iterate 10 (refine nl ?_;simp only[pt,sb,s0,s1])
 (refine agj ?_)
 refine bk ZbG ?_ _;intro w1 cm;rw[cm];clear cm w1;have Mb:=bB (n:=n) 3 S.I.fr.own S.I.low HR.I.1 HR.I.2.1 ZbQ;exact gz):P:=h
def Zbl (h:P:=by go_wp2_with(refine eT _ S.I.fr.box ?_);exact gt):P:=h
def Zbm (h:P:=by clear hz hr hx h0 hn eu hw;go_wp2_with(refine eT _ S.I.fr.box ?_);refine Mb.mono ?_;clear Mb;rintro e A2 ⟨q2,rfl,hp,ht⟩;replace S:=aA (S.I.call ht);have HP:da (q2.pure=_):=hp;clear hp ht;go_wp2_with(refine ec _ _ q2.cells S.I.an ?_);refine gZ results190 S.I.an ?_;exact l_):P:=h
def Zbn (h:P:=by clear hf;have Mb:=bB (n:=n) 3 S.I.fr.own S.I.low HR.I.1 HR.I.2.1 ZbQ;go_wp2_with(refine eT _ S.I.fr.box ?_);exact iv):P:=h
def Zbo (h:P:=by have Mb:=bB (n:=n) 3 S.I.fr.own S.I.low HR.I.1 HR.I.2.1 ZbQ;exact gz):P:=h
def ZbU (h:P:=by have:=S.I.1.sz;omega):P:=h
def Zbp (h:P:=by have HE:da (lX bE x.toaD (1,N,M,s) q.pure=bu 0 x.id q.pure):=IC.I.trans (if_pos h1);have Mb:=bB (n:=n) 0 S.I.1.own ZbU HR.I.1 HR.I.2.1 ZbQ;clear h1 hv IC HL;go_wp2_with(refine eT _ S.I.1.box ?_);exact e_):P:=h
def Zbq (h:P:=by
 iterate 10 (refine nl ?_;simp only[pt,sb,s0,s1])
 iterate 2 (refine yl (v:=?_) ?_ ?_;rotate_left;(intro w0 hS0;obtain⟨q3,g1,g2,g3,g4,g5,g6⟩:=HR.I _ w0 hS0;go_simp;try with_reducible rfl);simp only[pt,sb,s0,s1])
 exact qr):P:=h
def Zbr (h:P:=by
 intro w0 hS0
 obtain⟨⟨q0,q1,q2⟩,hH⟩:=hS0
 exact x_):P:=h
def ZbO (h:P:=by rcases j with _|_|_|_|_<;>first|rfl|exact absurd rfl hj):P:=h
def Zbs (h:P:=by
 obtain⟨q0,nu,hqe⟩:=hnew
 have hw2:=(cf ho nu).2;refine h.pR.up 0 (λj hj=>ZbO) (λq hq'=>?_) zw hsz;exact ue):P:=h
def Zbt (h:P:=by
 obtain⟨q0,nu,hqe⟩:=hnew
 have hw2:=(cf ho nu).2;refine h.pR.up 1 (λj hj=>ZbO) (λq hq'=>?_) zw hsz;exact ue):P:=h
def Zbu (h:P:=by
 clear hA;go_wp2_with fail;refine aT (λw'=>w'=w5.drew) ZbG rfl ?_
 iterate 6 (refine agj ?_)
 iterate 9 (refine nl ?_;simp only[pt,sb,s0,s1])
 iterate 2 (refine agj ?_)
 exact xz):P:=h
def Zbv (h:P:=by
 intro w0 hS0
 obtain⟨⟨⟨⟨q0,q1,q2,q3,q4,q5,q6,q7⟩,⟨x0,x1,x2,x3,x4,x5,x6,x7,x8,x9,x10,Dm⟩,hpre⟩,hH⟩,hH2⟩:=hS0;unfold rk at hpre
 exact x_):P:=h
def Zbw (h:P:=by
 iterate 20 (refine ty (o_ _) rfl rfl ZbG (λ_ _ _ h=>h) (np ZbG) ?_;simp only[pt,sb,s0,s1])
 (refine agj ?_)
 exact E_):P:=h
def Zbx (h:P:=by
 clear hA hB;go_wp2_with fail;refine aT (λw'=>w'=w5.drew) ZbG rfl ?_
 iterate 17 (refine agj ?_)
 exact xz):P:=h
def Zby (h:P:=by have h5:=h.kW;rw[P8]at h5;obtain⟨i,hi1,rfl⟩:=LK.1 hy;obtain⟨j,DS,rfl⟩:=LK.1 hx;exact W_):P:=h
def Zbz (h:P:=by
 have HV:da (bh p.pure x.toaD=false):=by show bh _ _=false;rw[HE.I];simp[HSF.I]
 exact mt):P:=h
def ZbA (h:P:=by
 have HV:da (bh p.pure x.toaD=false):=by show bh _ _=false;rw[HE.I];simp[hz]
 exact mt):P:=h
def ZcP (h:P:=by simp[hk]):P:=h
def ZbB (h:P:=by
 have PF:(k==12)=false:=ZcP
 exact rg):P:=h
def ZbC (h:P:=by rw[HQ.I.1,HQ.I.2.1]at Mb;go_wp2_with(refine eT _ S.I.fr.box ?_);exact iv):P:=h
def ZbD (h:P:=by clear hf hfm;have Mb:=bB (n:=n) 3 S.I.fr.own S.I.low HR.I.1 HR.I.2.1 ZbQ;go_wp2_with(refine eT _ S.I.fr.box ?_);exact Zbi):P:=h
def ZbE (h:P:=by clear hf hfm;have Mb:=bB (n:=n) 3 S.I.fr.own S.I.low HR.I.1 HR.I.2.1 ZbQ;exact Zbh):P:=h
def ZbF (h:P:=by clear h0;have Mb:=bB (n:=n) 1 S.I.fr.own S.I.low HR.I.1 HR.I.2.1 ZbQ;exact Zbh):P:=h
def ZbJ (h:P:=by obtain⟨q0,q1,q2,q3,q4,q5,q6,q7,q8,q9,kY,kV⟩:=bo hS0.I.2;go_simp;try with_reducible rfl):P:=h
def ZbK (h:P:=by obtain⟨m,q0,q1,q2⟩:=HC.I w0 hS0.I;go_simp;try with_reducible rfl):P:=h
def ZbM (h:P:=by have cm:=hS0;go_simp;try with_reducible rfl):P:=h
def ZbN (h:P:=by have q0:w0.cell? ⟨w.heap.size,3,n_⟩=o_ (s_ p.bc p.aj.length p.bF):=hS0.1.cells.2.2.2.1;obtain⟨q1,q2,q3⟩:=gm (x:=z) hS0.2;go_simp;try with_reducible rfl):P:=h
def ZbP (h:P:=by obtain⟨b0,-⟩:=hS0.cells;go_simp;try with_reducible rfl):P:=h
def ZbR (h:P:=by obtain⟨⟨⟨⟨q0,q1,q2,q3,q4,q5,q6,q7⟩,⟨x0,x1,x2,x3,x4,x5,x6,x7,x8,x9,x10,Dm⟩,hpre⟩,hH⟩,hH2⟩:=hS0;unfold rk at hpre;go_simp;try with_reducible rfl):P:=h
def ZbS (h:P:=by exact⟨0,Ky _,rfl,n_,0,rfl,⟨Ke _ _ _ _,Kp _ _⟩⟩):P:=h
def ZbT (h:P:=by obtain⟨q0,q1,q2,q3,q4⟩:=gE hS0.I.2;go_simp;try with_reducible rfl):P:=h
def ZbV (h:P:=by obtain⟨l4,l5⟩:=abN hS0.1;go_simp;try with_reducible rfl):P:=h
def ZbW (h:P:=by simp only[Kg,Lq];simp[dd hy hk]):P:=h
def ZbX (h:P:=by have:=HF.I;omega):P:=h
def ZbY (h:P:=by obtain⟨b0,b1,b2,b3⟩:=hS0.cells;go_simp;try with_reducible rfl):P:=h
def ZbZ (h:P:=by rw[show x2.Md=x.Md from congrArg aD.Md sw,HR.I.2.2.1];decide):P:=h
def Zb0 (h:P:=by have:=hn.2 k.toNat (by have:=HK.I;omega);rw[HK.I.2,M9.I]at this;exact this):P:=h
def Zb1 (h:P:=by subst hW hV;exact⟨hok,hr.below ((Kp _ _).alloc (Ki _) _)⟩):P:=h
def Zb3 (h:P:=by unfold lX;simp[h]):P:=h
def Zb4 (h:P:=by have:=h.size;omega):P:=h
def Zb5 (h:P:=by subst hW hV;exact⟨hb.alloc hb.size _,hb.size,by simp⟩):P:=h
def Zb6 (h:P:=by obtain⟨⟨⟨⟨q0,q1,q2,q3,q4,q5,q6,q7⟩,⟨x0,x1,x2,x3,x4,x5,x6,x7,x8,x9,x10,Dm⟩,hpre⟩,hH⟩,hH2⟩:=hS0;go_simp;try with_reducible rfl):P:=h
def Zb7 (h:P:=by subst hS0;go_simp;try with_reducible rfl):P:=h
def Zb8 (h:P:=by obtain⟨m0,m1,m2,m3,m4,m5,m6,m7⟩:=hS0.I.1.1.cells;obtain⟨n0,n1,n2,n3,n4,n5,n6,n7⟩:=hS0.I.2.1.1.cells;go_simp;try with_reducible rfl):P:=h
def Zb9 (h:P:=by obtain⟨⟨⟨q0,q1,q2,q3,q4,q5,q6,q7⟩,⟨x0,x1,x2,x3,x4,x5,x6,x7,x8,x9,x10,Dm⟩,hpre⟩,hH⟩:=hS0;go_simp;try with_reducible rfl):P:=h
def Zca (h:P:=by rw[K8];omega):P:=h
def Zcd (h:P:=by show¬x.Md=0;rw[HR.I.2.2.1];decide):P:=h
def Zce (h:P:=by have:=HA.I.1;rwa[KF zw]at this):P:=h
def Zcf (h:P:=by show _<_;rw[hk0,lx];have:=bz.1 (lN.I.trans e);omega):P:=h
def Zcg (h:P:=by rw[hc,<-decide_not];exact decide_eq_decide.2 zw):P:=h
def Zch (h:P:=by simpa[four,bM]using hq):P:=h
def Zci (h:P:=by have:=HK.I.part.cells;simp only[this]):P:=h
def Zcj (h:P:=by simp[World.cell?,afa.I.1]):P:=h
def Zcl (h:P:=by cases hx):P:=h
def Zcm (h:P:=by simp[bR]):P:=h
def Zcn (h:P:=by have h5:=cX hi;simpa using h5):P:=h
def Zco (h:P:=by obtain⟨m,q0,q1⟩:=HC.I w0 hS0.I;go_simp;try with_reducible rfl):P:=h
def Zcp (h:P:=by rw[uZ];simp[hg]):P:=h
def Zcq (h:P:=by have:=(cf ho hg).1;have:=hB g hm;omega):P:=h
def Zcr (h:P:=by have:=hb1.size;simp only[RR]at this;exact this):P:=h
def Zcs (h:P:=by rw[hsz];unfold maxLen;omega):P:=h
def Zct (h:P:=by rw[hc];show decide (_<x.id)=_;rw[eG hy 0]):P:=h
def Zcu (h:P:=by obtain⟨m0,m1,m2,m3,m4⟩:=hS0.1.cells;rw[HG1.I.1]at m3;go_simp;try with_reducible rfl):P:=h
def Zcv (h:P:=by rw[HW.I.2.2];decide):P:=h
def Zcx (h:P:=by simp only[Zk,pt,sb,s0,s1];rfl):P:=h
def Zcy (h:P:=by exact⟨0,false,[],o_ ⟨W2.heap.size,0,n_⟩,0,Ky _,rfl,rfl,by rw[HW.I];rfl,⟨En.I,gY.start _ _⟩⟩):P:=h
def Zcz (h:P:=by simp[hx]):P:=h
def ZcA (h:P:=by simp[World.cell?,hcb]):P:=h
def ZcB (h:P:=by simp[World.cell?,Uc.I.1]):P:=h
def ZcD (h:P:=by assumption):P:=h
def ZcE (h:P:=by simp[four,e]):P:=h
def ZcG (h:P:=by have:=HA.I.1;rwa[ek,LQ]at this):P:=h
def ZcH (h:P:=by rw[K5 _ _ _ _ _ _ (Kj _ _)];rfl):P:=h
def ZcI (h:P:=by subst hW hV;exact HK.I.push hb _):P:=h
def ZcJ (h:P:=by rw[ha];simp[blk]):P:=h
def ZcK (h:P:=by rw[hk1.I];go_num):P:=h
def ZcL (h:P:=by obtain⟨q0,q1,-,-,-,-,-,-⟩:=hS0.I.box.cells;go_simp;try with_reducible rfl):P:=h
def ZcM (h:P:=by obtain⟨y1,y2,y3⟩:=HLS.I.2.1;unfold af.cells;rw[y1,y2,y3];rfl):P:=h
def ZcO (h:P:=by rw[hk1.I];omega):P:=h
def ZcQ (h:P:=by have:=HQ.I.2.2.2.2;omega):P:=h
def ZcR (h:P:=by have:=h.size;simp;omega):P:=h
def ZcS (h:P:=by rw[HK.I];exact hl):P:=h
def ZcT (h:P:=by show fw ms me mb mf x=_;simp[fw,hs]):P:=h
def ZcU (h:P:=by simp[World.cell?,lW]):P:=h
def ZcV (h:P:=by subst hd;simpa[four,bM]using hq):P:=h
def ZcW (h:P:=by cases hx:d3 with|false=>rfl|true=>rw[(h.cl.2 hx).1]at he;cases he):P:=h
def ZcX (h:P:=by have:=of_decide_eq_false h;omega):P:=h
def ZcY (h:P:=by simpa using congrArg List.length hi):P:=h
def ZcZ (h:P:=by simp[af.Mc]):P:=h
def Zc0 (h:P:=by simpa[four,bM]using hb):P:=h
def Zc1 (h:P:=by rw[K5 _ _ _ _ _ _ (show W8.drew.heap[o]? =_ from H8.I.1.2.1)];rfl):P:=h
def Zc2 (h:P:=by cases e with|false=>rfl|true=>have:=h.cl.1 rfl;simp at this):P:=h
def Zc3 (h:P:=by obtain⟨m0,m1,m2,m3,m4⟩:=hS0.I.1.kb.cells;obtain⟨y0,y1,y2,y3⟩:=HCC.I _ hS0.I.2;go_simp;try with_reducible rfl):P:=h
def Zc4 (h:P:=by obtain⟨m0,m1,m2,m3,m4⟩:=hS0.I.1.nb.cells;obtain⟨y0,y1,y2,y3⟩:=HCC.I _ hS0.I.2;go_simp;try with_reducible rfl):P:=h
def Zc5 (h:P:=by show dC (12,N,M,s) bE x.id q.pure=_;unfold dC;rw[show cg (λx:az=>x.id) N q.pure.ag=o_ y from HM.I.2.2];simp[hu]):P:=h
def Zc6 (h:P:=by show p.next<=gf p.next y/\gf p.next y<=p.next+7;omega):P:=h
def Zc7 (h:P:=by simp[World.cell?,lW,Zq]):P:=h
def Zc8 (h:P:=by unfold wrap64;omega):P:=h
def Zc9 (h:P:=by show dE (7,N,M,s) bE x.id q.pure=_;unfold dE;rw[show cg (λx:aB=>x.id) N q.pure.L9=o_ y from HM.I.2.2];simp[hu]):P:=h
def Zda (h:P:=by obtain⟨x,rfl,_⟩:=RB underlying2 hk;exact⟨x,rfl⟩):P:=h
def Zdb (h:P:=by rw[hp];exact iR):P:=h
def Zdc (h:P:=by show(W.setCell _ _).ownsRow _ _ _ (s_ _ (List.set _ _ _).length _) (List.set _ _ _).length _;rw[LI];exact h1):P:=h
def Zdd (h:P:=by exact⟨0,Ky _,rfl,⟨rfl,Kp _ _⟩⟩):P:=h
def Zde (h:P:=by have:=HR.I.2.2.2.1;omega):P:=h
def Zdf (h:P:=by rw[KC e];simp[four,bM]):P:=h
def Zdg (h:P:=by rw[ha];exact h):P:=h
def Zdh (h:P:=by simp[World.cell?,hxx]):P:=h
def Zdi (h:P:=by simp[hg]):P:=h
def Zdj (h:P:=by simp only[Kt]at hx⊢;exact .inr (.inr (.inr hx))):P:=h
def Zdk (h:P:=by cases e):P:=h
def Zdl (h:P:=by have:=(ho.lt hm).1;omega):P:=h
def Zdm (h:P:=by have:=hz.size;omega):P:=h
def Zdn (h:P:=by rw[(bo h.box).2.2.2.1,hs]):P:=h
def Zdo (h:P:=by rw[hsz];omega):P:=h
def Zdp (h:P:=by rw[<-HW.I];exact HA.I.1.box):P:=h
def Zdq (h:P:=by simp[RW,hp]):P:=h
def Zdr (h:P:=by simp[hy]):P:=h
def Zds (h:P:=by apply vN;intro _;rfl):P:=h
def Zdt (h:P:=by have p3:=hS0.2.1;go_simp;try with_reducible rfl):P:=h
def Zdu (h:P:=by show bu 0 x2.id qk.pure=_;rw[HE.I,<-HK.I.1.same,qO hw,show x2.id=x.id from congrArg aD.id sw]):P:=h
def Zdw (h:P:=by funext x;simp only[dG,hasB,hi]):P:=h
def Zdx (h:P:=by have:=hpb g hg;omega):P:=h
def Zdy (h:P:=by have:=(h.own.lt hm).1;omega):P:=h
def Zdz (h:P:=by obtain⟨g,rfl,_⟩:=oI hv;exact⟨g,rfl⟩):P:=h
def ZdA (h:P:=by have h5:=(HX.I.2.1.lt hg).1;exact⟨λh6=>by have:=HQ.I.2.2.2.1 g h6;omega,by omega⟩):P:=h
def ZdB (h:P:=by have:=(Lj.1 HR.I.2.1).1;omega):P:=h
def ZdC (h:P:=by have:=hlow g hg;omega):P:=h
def ZdD (h:P:=by rw[h.2];exact h0):P:=h
def ZdE (h:P:=by simp[af.Mc,Lm]):P:=h
def ZdF (h:P:=by cases hx:d3 with|false=>rfl|true=>have:=(h.cl.2.1 hx).1;rw[he]at this;cases this):P:=h
def ZdG (h:P:=by have:=hlow _ hm;omega):P:=h
def ZdH (h:P:=by have:=hlow g hm;omega):P:=h
def ZdI (h:P:=by have h5:=(S.I.fr.lo gp (gD (.inl (by rw[ud.I];simp[blk])))).2;have:=afa.I.2;omega):P:=h
def ZdJ (h:P:=by rw[<-HO.I.Mc];exact Lr.2 ⟨p,hp,rfl⟩):P:=h
def ZdK (h:P:=by simpa using h):P:=h
def ZdL (h:P:=by have:=h.lt;omega):P:=h
def ZdM (h:P:=by rw[Lk];omega):P:=h
def ZdN (h:P:=by simp[af.pure]):P:=h
def ZdO (h:P:=by show(p.1.ak).map (·.block)=o_ g;rw[show p.1.ak=o_ ⟨g,0,n_⟩from e];rfl):P:=h
def ZdP (h:P:=by have:=(cf ho hg).1;have:=hk2 g hm;omega):P:=h
def ZdQ (h:P:=by simp<;>omega):P:=h
def ZdR (h:P:=by simp[four]):P:=h
def ZdS (h:P:=by have:=(Lj.1 hx).1;omega):P:=h
def ZdT (h:P:=by simpa using hx):P:=h
def ZdU (h:P:=by rw[hw];exact h.L8):P:=h
def ZdV (h:P:=by rw[<-hl];exact Lr.2 ⟨q,hq,rfl⟩):P:=h
def ZdW (h:P:=by cases hk;omega):P:=h
def ZdX (h:P:=by have:=h.cd.size;omega):P:=h
def ZdY (h:P:=by have:=h.sz;omega):P:=h
def ZdZ (h:P:=by obtain⟨v0,v1,v2,v3,v4⟩:=gE hS0.2.2.1;go_simp;try with_reducible rfl):P:=h
def Zd0 (h:P:=by rw[hit];simp):P:=h
def Zd1 (h:P:=by rw[uZ];simp only[Kg];exact .inl (.inr (.inl (dP.2 ⟨z,hz,hg⟩)))):P:=h
def Zd2 (h:P:=by simp at h):P:=h
def Zd4 (h:P:=by obtain⟨v0,v1,v2,v3,v4⟩:=gE hS0.2;go_simp;try with_reducible rfl):P:=h
def Zd5 (h:P:=by rw[hx]at hy;cases hy;exact hc e):P:=h
def Zd6 (h:P:=by simp[aZ.pure]):P:=h
def Zd7 (h:P:=by simpa[Value.ownBlock]using hbl):P:=h
def Zd8 (h:P:=by unfold Addr.add;split<;>simp_all):P:=h
def Zea (h:P:=by simp[h1]):P:=h
def Zeb (h:P:=by have h5:=Kj (V2.alloc (c_ #[] 9)) (c_ #[t_ s] 9);simpa using h5):P:=h
def Zec (h:P:=by rw[HE.I];simp[bI]):P:=h
def Zed (h:P:=by rw[RJ,if_pos hn]):P:=h
def Zee (h:P:=by simp[blk]):P:=h
def Zef (h:P:=by rw[HG.I];simp[blk]):P:=h
def Zeg (h:P:=by have:=(h.own.lt g hg).1;omega):P:=h
def Zeh (h:P:=by rw[mI];exact cR H8.I.2.1 hbd):P:=h
def Zei (h:P:=by simp[four,bM]):P:=h
def Zej (h:P:=by rw[HO.I];simp_all):P:=h
def Zek (h:P:=by simp[bI,hes]):P:=h
def Zem (h:P:=by simp[af.Mc,hq.1,hq.2,blk]):P:=h
def Zen (h:P:=by simp[hz]):P:=h
def Zeo (h:P:=by unfold hP af.pure;rw[aeu];rfl):P:=h
def Zep (h:P:=by unfold pJ at h1;unfold mF at h2;unfold isText at h3;omega):P:=h
def Zeq (h:P:=by simp[World.cell?,wU]):P:=h
def Zer (h:P:=by simp only[af.Mc,Kg];simp[hg]):P:=h
def Zes (h:P:=by rw[e1];simp only[Kg];exact .inr (.inl ((hkx g).1 hx))):P:=h
def Zet (h:P:=by simp at hy):P:=h
def Zeu (h:P:=by obtain⟨l4,l5⟩:=abN hS0;go_simp;try with_reducible rfl):P:=h
def Zev (h:P:=by show w.heap.size<_;omega):P:=h
def Zew (h:P:=by have:=HX.I;omega):P:=h
def Zex (h:P:=by have:=TX g hg;exact sm1 g zw zw zw):P:=h
def Zey (h:P:=by rw[hl];exact ho):P:=h
def Zez (h:P:=by simp only[Kg];exact .inr (.inl (dP.2 ⟨z,hz,hg⟩))):P:=h
def ZeA (h:P:=by simp only[af.row,sR];rfl):P:=h
def ZeE (h:P:=by have:=hQ.2.2.2.1 g hg;omega):P:=h
def ZeF (h:P:=by have:=hq.2.2.2.1 g hg;omega):P:=h
def ZeG (h:P:=by rcases i with _|_|_|_|_<;>simp[four,bM]at hq):P:=h
def ZeH (h:P:=by rw[List.filterMap_map];rfl):P:=h
def ZeI (h:P:=by simpa[four,bM]using ha):P:=h
def ZeJ (h:P:=by rw[HV.I];exact g7 (nx:=q.next) HR.I.1.kW HR.I.2.1 rfl):P:=h
def ZeK (h:P:=by show(q.ag.set m _)[m]? =_;rw[LU (Lj.1 HM.I.1).1]):P:=h
def ZeL (h:P:=by have:=h.kept.size;omega):P:=h
def ZeM (h:P:=by have:=h1.2.1 g hg;omega):P:=h
def ZeN (h:P:=by rw[K5 _ _ _ _ _ _ lV];rfl):P:=h
def ZeP (h:P:=by simpa[four,bM]using hg):P:=h
def ZeQ (h:P:=by rw[only HR.I.1.aj HM.I.2.2 hz hk];have:=HN.I;omega):P:=h
def ZeR (h:P:=by simp only[Kt,Ku,or_false]at ht;rw[ht];exact IB.I):P:=h
def ZeS (h:P:=by show(q.L8.set n _)[n]? =_;rw[LU HR.I.2.2.2.1]):P:=h
def ZeT (h:P:=by have:=congrArg List.length hc.acE;simpa using this):P:=h
def ZeU (h:P:=by rw[hv,List.getElem?_set_ne (by simp at hn;omega)]):P:=h
def ZeV (h:P:=by show gC (14,N,M,s) x.id q.pure=_;rw[HU.I,nu];rfl):P:=h
def ZeW (h:P:=by have:=S.I.2.2.1;omega):P:=h
def ZeX (h:P:=by have:=hw.1.size;omega):P:=h
def ZeY (h:P:=by rw[Ck.I.2.2.2.2.2];have:=HR.I.2.2.2.1;omega):P:=h
def ZeZ (h:P:=by rw[h]at hr;cases hr):P:=h
def Ze0 (h:P:=by simp[World.cell?,HW.I.1]):P:=h
def Ze1 (h:P:=by rw[HO.I];simp[hem]):P:=h
def Ze2 (h:P:=by simp[gH];omega):P:=h
def Ze3 (h:P:=by unfold hP;rw[aeu];rfl):P:=h
def Ze4 (h:P:=by have h5:=HV.I.2.2.1;simp[World.frozen?,h5,cW]):P:=h
def Ze5 (h:P:=by have:=congrArg List.length e6;simpa using this):P:=h
def Ze6 (h:P:=by have:=Aq.size;omega):P:=h
def Ze7 (h:P:=by rw[HO.I];simp[hm]):P:=h
def Ze8 (h:P:=by rw[K.len];exact hj):P:=h
def Ze9 (h:P:=by simp[World.frozen?,oG]):P:=h
def Zfa (h:P:=by have:=S3.I.kept.size;have:=HH.I.2.2.2;omega):P:=h
def Zfb (h:P:=by have h5:=HX.I y hy;show¬y.id<id;omega):P:=h
def Zfc (h:P:=by have:=S.I.ks.low.size;have:=HF.I.2.2;omega):P:=h
def Zfd (h:P:=by have:=kj.size;simp only[RR]at this;omega):P:=h
def Zfe (h:P:=by rw[empty_eq h.2];rfl):P:=h
def Zff (h:P:=by rw[uZ];exact Ly _ (dP.2 ⟨z,hz,hg⟩)):P:=h
def Zfg (h:P:=by simp[bv,h]):P:=h
def Zfh (h:P:=by simpa using h1):P:=h
def Zfi (h:P:=by exact⟨0,Ky _,rfl,λj hj=>absurd hj zw,Kp _ _⟩):P:=h
def Zfj (h:P:=by rw[l9];simp[blk]):P:=h
def Zfk (h:P:=by rw[mI,hkd];omega):P:=h
def Zfl (h:P:=by show bh _ _=false;rw[HE.I];simp[sf g4]):P:=h
def Zfn (h:P:=by rw[show x.toaD.Md=1 from hs];decide):P:=h
def Zfo (h:P:=by show¬v.Md=0;rw[HW.I.2.2];decide):P:=h
def Zfp (h:P:=by cases hk;exact Ki _):P:=h
def Zfq (h:P:=by have:=n6 g hm;omega):P:=h
def Zfr (h:P:=by rw[sR];exact ho):P:=h
def Zfs (h:P:=by rw[<-h.Mc];exact Lr.2 ⟨p,hp,rfl⟩):P:=h
def Zft (h:P:=by simp[hs]):P:=h
def Zfu (h:P:=by simp only[World.putObj_size];omega):P:=h
def Zfw (h:P:=by have:=HA.I;rwa[KF zw]at this):P:=h
def Zfx (h:P:=by show bh _ _=false;rw[HE.I];simp[g0]):P:=h
def Zfy (h:P:=by show bh _ _=false;rw[HE.I];simp[g1]):P:=h
def ZfA (h:P:=by simp only[LL,h,decide_false];exact h3):P:=h
def ZfB (h:P:=by cases e;exact Ki _):P:=h
def ZfC (h:P:=by simp[results,results86,go_sem,mn]):P:=h
def ZfD (h:P:=by exact⟨0,Ky _,rfl,(by simp:(l.take 0).all bw=true)⟩):P:=h
def ZfE (h:P:=by have:=(HL.I.1.own.lt hb).1;omega):P:=h
def ZfF (h:P:=by have:k.bE<=500000000:=eu.2;omega):P:=h
def ZfG (h:P:=by have:q.pure.next=q.next:=rfl;omega):P:=h
def ZfH (h:P:=by show _=_;rw[ko,HCB.I,<-HM.I];rfl):P:=h
def ZfI (h:P:=by simp[h0]):P:=h
def ZfJ (h:P:=by rw[uZ,IQ];simp only[af.Mc,h6,Lm]):P:=h
def ZfK (h:P:=by rw[<-HW.I.1];exact aqt HW.I.2.1):P:=h
def ZfL (h:P:=by rw[<-hzs];exact jO (Kj _ _)):P:=h
def ZfM (h:P:=by show(Lit.int j_ 0).wf=true;decide):P:=h
def ZfN (h:P:=by show kt _ _ _=_;unfold kt;rw[hf]):P:=h
def ZfO (h:P:=by cases hp):P:=h
def ZfP (h:P:=by have:=(dW HJ.I.2.2.1).1;omega):P:=h
def ZfQ (h:P:=by have:=(dW HQ.I.2.2.1).1;omega):P:=h
def ZfR (h:P:=by simp[Value.ownBlock]at hg;omega):P:=h
def ZfS (h:P:=by rw[hkl];show 0+k<=_;omega):P:=h
def ZfT (h:P:=by rw[hkl];show k+1<=_;omega):P:=h
def ZfU (h:P:=by show _<=w.heap.size+1;omega):P:=h
end Go.Proofs.YtckenjkcmajicaaGreat
