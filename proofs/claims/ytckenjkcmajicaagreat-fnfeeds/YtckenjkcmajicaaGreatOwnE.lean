/- Ends of proofs that stand more than once. -/
import Derived.BigQuiet
import Derived.Deep.AppendLies
import Derived.Deep.AppendSrc
import Derived.Deep.CutRange
import Derived.Deep.DrawnRows
import Derived.Deep.OwnRows
import Derived.Deep.RegionHeld
import Derived.Deep.RegionHeld3
import Derived.Deep.RegionLaw
import Derived.Deep.WholeRow
import Derived.Great.FillDense
import Derived.Handy
import Derived.LaidEql
import Derived.Laws.CopyOwn
import Derived.Lib.ItoaNum
import Derived.Maps.RangeWalk
import Derived.ProofKit
import Derived.RangeFuncCalls
import Derived.RangeFuncKeeps
import Derived.Shelf.SlIterI.Nil
import Derived.Shelf.SortM.Plain
import Derived.Shelf.SortM.SortNone
import Derived.ShutString
import Derived.Sort.OwnSortedInts
set_option linter.all false
namespace Go.Proofs.YtckenjkcmajicaaGreat
def aeb:=@Array.all_eq_true_iff_forall_mem
def adY:=@Array.getD_eq_getD_getElem?
def Qb:=@Array.getElem?_eq_getElem
def J2:=@Array.getElem?_eq_some_iff
def QJ:=@Array.getElem?_toList
def J7:=@Bool.and_eq_true
def PP:=@Bool.and_false
def J5:=@Bool.false_eq_true
def Qg:=@Bool.false_or
def PR:=@Bool.not_eq_true'
def Kb:=@Bool.or_eq_true
def Qc:=@Go.Act.put_comm
def aeS:=@Go.Addr.mk.injEq
def KX:=@Go.AllReadyH.cons
def KY:=@Go.AllReadyH.nil
def PQ:=@Go.ByteArray.toList_eq
def adn:=@Go.Calls.mono
def L1:=@Go.Calls.quiet_of_same
def QZ:=@Go.DataW.lit.injEq
def K8:=@Go.IntKind.wrap_i64
def Q0:=@Go.Lit.int.injEq
def RB:=@Go.Maps.keyOf_int_inv
def RD:=@Go.Proofs.AnyZI.keys_gives
def RC:=@Go.Proofs.AnyZI.keys_in
def RE:=@Go.Proofs.AnyZI.sorted_in
def LP:=@Go.Proofs.enters_of
def K6:=@Go.RowKit.Below.heap_setCell
def Kp:=@Go.RowKit.Below.refl
def QR:=@Go.Sem.run_bind
def LD:=@Go.Value.slice.injEq
def J1:=@Go.World.cell?_of_block
def KE:=@Go.World.news_of_block
def Ke:=@Go.World.ownsRow_nil
def RR:=@Go.World.size_alloc
def Le:=@Go.block_lt_of_cell
def KT:=@Go.bodyPost_ret
def LO:=@Go.callsIn_wide
def K5:=@Go.cell_of_row
def Ko:=@Go.frozen_of_row
def Kq:=@Go.heap_alloc2_new
def Kj:=@Go.heap_alloc_new
def K7:=@Go.heap_setCell_same
def Qf:=@Go.mem_ready
def Qe:=@Go.ready_mono
def K9:=@Go.results_cell_row
def KU:=@Go.setRow_heap
def KH:=@Go.setRow_other
def K3:=@Go.wpAnyH_done
def KW:=@Go.wpAnyH_ready
def KD:=@Go.wpList_append_own_at
def LS:=@Go.wpList_load_row
def Qd:=@Go.wpOp_mono
def LX:=@Go.wp_load_row
def Kr:=@Go.wp_region_held_drew
def LY:=@Go.wp_store_row
def QK:=@Int.eq_ofNat_of_zero_le
def LJ:=@Int.le_refl
def RA:=@List.Perm.refl
def PZ:=@List.all_eq_true
def Lm:=@List.append_assoc
def QO:=@List.append_nil
def adH:=@List.drop_eq_getElem_cons
def LW:=@List.filterMap_append
def QN:=@List.filter_append
def LN:=@List.filter_cons
def aeD:=@List.find?_cons_of_neg
def aeC:=@List.find?_cons_of_pos
def Qp:=@List.getElem?_append_left
def Qo:=@List.getElem?_append_right
def Kz:=@List.getElem?_eq_getElem
def Lj:=@List.getElem?_eq_some_iff
def Kk:=@List.getElem?_map
def LU:=@List.getElem?_set_self
def QW:=@List.getElem?_take
def PJ:=@List.getElem_mem
def Lf:=@List.length_append
def Ql:=@List.length_drop
def Qq:=@List.length_filter_le
def KG:=@List.length_map
def LI:=@List.length_set
def Lk:=@List.length_take
def Kl:=@List.map_append
def Lw:=@List.map_congr_left
def Lt:=@List.map_cons
def Lv:=@List.map_map
def QV:=@List.map_nil
def PN:=@List.map_set
def Kg:=@List.mem_append
def Lz:=@List.mem_append_left
def Ly:=@List.mem_append_right
def Kt:=@List.mem_cons
def LB:=@List.mem_cons_of_mem
def L2:=@List.mem_filter
def Lq:=@List.mem_filterMap
def Rt:=@List.mem_flatMap
def LK:=@List.mem_iff_getElem
def Lr:=@List.mem_map
def KA:=@List.mem_of_getElem?
def RL:=@List.mem_of_mem_drop
def RK:=@List.mem_of_mem_take
def PO:=@List.mem_or_eq_of_mem_set
def KB:=@List.mem_singleton
def Kf:=@List.nodup_append
def Lp:=@List.nodup_cons
def Ku:=@List.not_mem_nil
def LM:=@List.pairwise_cons
def P8:=@List.pairwise_iff_getElem
def Qm:=@List.pairwise_map
def RJ:=@List.set_eq_take_append_cons_drop
def PV:=@List.set_set
def Qn:=@List.take_append_drop
def LQ:=@List.take_length
def KF:=@List.take_of_length_le
def QE:=@List.take_succ_eq_append_getElem
def aew:=@Nat.le_of_lt
def Ki:=@Nat.le_refl
def LG:=@Nat.le_trans
def Q5:=@Nat.lt_of_le_of_lt
def Kn:=@Nat.lt_of_lt_of_le
def QX:=@Nat.lt_succ_iff_lt_or_eq
def P9:=@Nat.lt_trichotomy
def adM:=@Nat.mul_comm
def Rs:=@Nat.mul_le_mul_right
def Lh:=@Nat.succ_mul
def Li:=@Nat.zero_add
def Ky:=@Nat.zero_le
def PX:=@Option.isNone_iff_eq_none
def PY:=@Option.isSome_eq_false_iff
def Kw:=@Option.map_eq_some_iff
def KC:=@Option.some.inj
def LF:=@Option.some.injEq
def Kx:=@Prod.mk.injEq
variable {P:Prop}
def zy (h:P:=by simp):P:=h
def zw (h:P:=by omega):P:=h
def aa (h:P:=by
 clear H0 hmk;obtain ⟨k,hk,rfl,rfl,HA⟩:=hrel;obtain ⟨l,hlm,hin,oC,hkm⟩:=HA.I;have HT:bN (_/\_/\_):=⟨hlm,oC,hkm⟩
 have HI:bN _:=hin;clear HA hlm hin oC hkm;by_cases hlt:k < da.length
 .have i0:(0:Int)<=(k:Int):=by omega
  have i1:(k:Int) < (da.length:Int):=by omega
  obtain ⟨x,hx⟩: ∃ x,da[k]? =o_ x:=⟨_,Kz hlt⟩
  have hmem:=KA hx;have HX:bN (da[k]? =o_ x):=hx;have HF:bN (_/\_):=⟨HL.I.2.1 x hmem,HL.I.2.2 x hmem⟩
  obtain ⟨gs,ha,hat⟩:=alN (HL.I.1.below HI.I.cd) hx
  iterate 11 try obtain ⟨c,hat⟩:=hat
  subst ha;clear hx hmem;go_wp2_with fail;refine (anw x _).mono ?_;rintro e w2 ⟨rfl,hb2⟩;have jA:bN _:=(HI.I.below ((Kp _ wr).alloc (Ki _) _)).below hb2;have HB:=anG x _ _ ((hb2.block _ zy).trans (Kj _ _));have HZ:bN (w.heap.size+1 < wr.heap.size):=by show w.heap.size+1 < wr.heap.size; have:=(J2.1 HI.I.var).1; omega
  clear hb2 HI hat;have hd:=bA HB.I
  iterate 11 try obtain ⟨c,hd⟩:=hd
  obtain ⟨r0,r1,v0,v1,z0,z1⟩:=jA.I.cells;by_cases hle:x.id<=bW (·.id) 0 (da.take k)
  .have HN:bN (anL=false):=by
    show anL=false
    rw [<- HTB.I,bS HX.I (fun hh=>absurd hh.2.1 (by show ¬ bW (·.id) 0 (da.take k) < x.id; omega))]; rfl
   go_wp2;refine KT (v:=u_ #[a_ #[i_ j_ 0,.map n_],b_ false]) (by simp [results,go_sem, *]) rfl ?_;exact ⟨(jA.I.lu _ _).2,.inl ⟨HN.I,rfl⟩⟩
  have j6:bN (bW (·.id) 0 (da.take k) < x.id):=by show _ < _; omega
  have hkl:(RW (·.id) l).length<=1048576:=by
   rw [bZ]
   have:=congrArg List.length HT.I.1
   simp only [KG,Lk] at this;omega
  go_wp2_with fail;refine (anz Me (w.heap.size+1) (RW (·.id) l) x w2 jA.I.eh.map HF.I.2 hkl (HF.I.1.below jA.I.cd)).mono ?_;rintro e w3 ⟨rfl,hno,fm⟩;rcases two hno with fW | fW
  .rw [fW]
   have HN:bN (anL=false):=HTB.I.symm.trans (iC HX.I HT.I.1 HT.I.2.1 j6.I fW);have Aw:bN _:=jA.I.below (hno fW);clear hno fm fW jA r0 r1 v0 v1 z0 z1 hd HB;obtain ⟨r0,r1,v0,v1,z0,z1⟩:=Aw.I.cells;go_wp2;refine KT (v:=u_ #[a_ #[i_ j_ 0,.map n_],b_ false]) (by simp [results,go_sem, *]) rfl ?_;exact ⟨(Aw.I.lu _ _).2,.inl ⟨HN.I,rfl⟩⟩
  .rw [fW]
   have HY:bN (_/\_):=gM HX.I HT.I.1 HT.I.2.1 j6.I fW;obtain ⟨g,ph⟩:=jA.I.lay (x:=x) (e:=r_ (b_ true)) (w':=w3) ⟨rfl,(fun h=>by cases h),fun _=>fm fW⟩ (jB HT.I.1 HT.I.2.1 j6.I);have BD:bN _:=ph;obtain ⟨g',q1,q2,q3,hgr⟩:=fm fW;have oh:=anG x _ _ ((hgr.block _ (J2.1 HB.I).1 (fun e=>by have:=KC e; have:=HZ.I; omega)).trans HB.I);clear hno fm fW jA r0 r1 v0 v1 z0 z1 hd HB ph q1 q2 q3 hgr;have hd:=bA oh.I
   iterate 11 try obtain ⟨c,hd⟩:=hd
   go_wp2_with fail;refine (anw x _).mono ?_;rintro e w5 ⟨rfl,iJ⟩;have EY:bN _:=BD.I.below iJ;have HE:bN (bW (·.id) 0 (da.take (k+1))=x.id):=eG HX.I 0;clear iJ BD;go_wp2;go_roundw
   case rel=>exact ⟨k+1,by omega,by go_num,by rw [HE.I],⟨l ++ [(x,g)],by rw [Kl,HT.I.1,cj HX.I]; rfl,EY.I,HY.I.1,HY.I.2⟩⟩
   case measure=>simp [intOf]; omega
 .have i1: ¬ (k:Int) < (da.length:Int):=by omega
  have HK:bN (da.take k=da/\((da.length:Int)<=max Me 0)):=⟨KF zw,by have:=HT.I.2.2; omega⟩
  have HY:bN (anL=true):=by
   show anL=true
   have h1:=HT.I.2.1;rw [HK.I.1] at h1;rw [<- HTB.I,h1,decide_eq_true HK.I.2]; rfl
  obtain ⟨r0,r1,v0,v1,z0,z1⟩:=HI.I.cells;go_wp2;refine KT (v:=u_ #[a_ #[i_ j_ Me,.map (o_ (w.heap.size+1))],b_ true]) (by simp [results,go_sem, *]) rfl ?_;exact ⟨(HI.I.lu _ _).2,.inr ⟨HY.I,w.heap.size+1,l,rfl,by rw [HT.I.1,HK.I.1],(HI.I.lu _ _).1⟩⟩):P:=h
def ab (h:P:=by
 iterate 3 (refine agj ?_)
 refine clk u9 ?_;refine clk f9 ?_
 (refine agj ?_)
 rcases vA.eq_false_or_eq_true with rfl | rfl
 focus iterate 6 (refine nl ?_; simp only [pt,sb,s0,s1])
 rotate_left
 focus iterate 6 (refine agj ?_)
 all_goals iterate 2 (refine agj ?_)
 rcases vB.eq_false_or_eq_true with rfl | rfl
 focus iterate 5 (refine nl ?_; simp only [pt,sb,s0,s1])
 rotate_left
 focus
  iterate 2 (refine agj ?_)
  refine clk u9 ?_;refine clk p5 ?_
  (refine agj ?_)
 rotate_left
 focus iterate 5 (refine nl ?_; simp only [pt,sb,s0,s1])
 all_goals iterate 2 (refine agj ?_)
 rotate_right
 rcases vC.eq_false_or_eq_true with rfl | rfl
 focus
  iterate 2 (refine agj ?_)
  refine clk abz ?_
  (refine agj ?_)
 rotate_left
 focus iterate 4 (refine nl ?_; simp only [pt,sb,s0,s1])
 rotate_left
 focus iterate 4 (refine nl ?_; simp only [pt,sb,s0,s1])
 rotate_left
 focus iterate 4 (refine nl ?_; simp only [pt,sb,s0,s1])
 rotate_left
 all_goals (refine agj ?_)
 all_goals refine bk (by kernel_rfl) ?_ _
 all_goals intro w1 cm
 rcases vD.eq_false_or_eq_true with rfl | rfl;rotate_left
 iterate 4
  go_wp2;go_ret;exact ki HL.I.1 cm.2.1.I.cd
 go_wp2_with fail;refine eD _ 5 (by kernel_rfl) (anY _ cm.2.1.I.drew (cm.2.2.I.below (Kp _ _).drew)) ?_
 iterate 4 (refine ly 6 (v:= ?_) (o_ _) rfl rfl (by kernel_rfl) (fun _ _ _ h=>h) (bV (by kernel_rfl) ?_) ?_; rotate_left; (intro w0 hS0; (first | obtain ⟨⟨q0,q1,q2,q3,q4,q5,q6,q7,q8,q9,kY,kV,lB,lz,Ch⟩,hH⟩:=hS0 | obtain ⟨⟨q0,q1,q2,q3,q4,q5,q6,q7⟩,hH⟩:=hS0 | obtain ⟨⟨q0,q1,q2,q3,q4,q5⟩,hH⟩:=hS0 | obtain ⟨⟨q0,q1,q2,q3,q4⟩,hH⟩:=hS0); go_simp; try with_reducible rfl); simp only [pt,sb,s0,s1])
 refine ly 6 (v:=i_ j_ x.id) (o_ _) rfl rfl (by kernel_rfl) (fun _ _ _ h=>h) (iZ (by kernel_rfl) ?_ u9) ?_
 .intro w0 hS0
  (first | obtain ⟨⟨q0,q1,q2,q3,q4,q5,q6,q7,q8,q9,kY,kV,lB,lz,Ch⟩,hH⟩:=hS0 | obtain ⟨⟨q0,q1,q2,q3,q4,q5,q6,q7⟩,hH⟩:=hS0 | obtain ⟨⟨q0,q1,q2,q3,q4,q5⟩,hH⟩:=hS0 | obtain ⟨⟨q0,q1,q2,q3,q4⟩,hH⟩:=hS0)
  go_simp
  try with_reducible rfl
 simp only [pt,sb,s0,s1];refine fL rfl (by kernel_rfl) (by kernel_rfl) (by kernel_rfl) ?_;intro w1 cm;obtain ⟨w2,hput,hend⟩:=cm.2.1.I.put zw an0 HW.I.1 (HL.I.2 (by trivial)) HW.I.2.2 HW.I.2.1;have HE:=api hend;clear hend cm
 go_simp
 go_wp2;go_ret;rw [HL.I.1];exact HE.I):P:=h
def ba (h:P:=by refine Mb.mono ?_;clear Mb;rintro e D ⟨q2,rfl,hp2,ht⟩;have h5:=S.I.1.call ht;have H5:=aA (And.intro h5.1 ((h5.2 (w.heap.size+1) zw zw).trans S.I.2.1));have HP:bN (q2.pure=_):=hp2;clear hp2 ht h5;go_wp2_with (refine ec _ _ q2.cells H5.I.2 ?_);refine gZ results172 H5.I.2 ?_;exact ⟨q2,rfl,HP.I.trans HE.I.symm,H5.I.1.mK zw zw _⟩):P:=h
def ee (h:P:=by
 go_loop [5] (fun i=> ∃ k:Nat,k<=l.length/\i=i_ j_ k/\bN (id∉(l.map (·.id)).take k)) (fun i=>l.length - (intOf i).toNat)
 case atStart=>exact ⟨0,Ky _,rfl,(by simp:id∉(l.map (·.id)).take 0)⟩
 case round=>
  obtain ⟨k,hk,rfl,HA⟩:=hrel;by_cases hlt:k < l.length
  .have i0:(0:Int)<=(k:Int):=by omega
   have i1:(k:Int) < (l.length:Int):=by omega
   obtain ⟨x,hx⟩: ∃ x,l[k]? =o_ x:=⟨_,Kz hlt⟩
   have HX:bN ((l.map (·.id))[k]? =o_ x.id):=by show _=_; rw [Kk,hx]; rfl
   obtain ⟨g,ha,hat⟩:=K H.I.1 hx;have c0:=hat.1;rw [ha] at q;clear hat hx;by_cases hc:x.id=id
   .have HC:bN (x.id=id):=hc
    have h1:(x.id == id)=true:=by simp [hc]
    clear hc;go_wp2;go_ret;exact ⟨ck (ku HA.I HX.I HC.I).symm,H.I.2⟩
   .have HC:bN (¬ x.id=id):=hc
    have h1:(x.id == id)=false:=by simp [hc]
    clear hc;go_wp2
    go_round
    case rel=>exact ⟨k+1,by omega,by go_num,nh HA.I HX.I HC.I⟩
    case measure=>simp [intOf]; omega
  .have i1: ¬ (k:Int) < (l.length:Int):=by omega
   go_wp2;go_ret;exact ⟨ck (jg HA.I (by rw [KG]; omega)).symm,H.I.2⟩):P:=h
def e_ (h:P:=by
 refine bk (by kernel_rfl) ?_ _;intro w1 cm;have HZ:bN (av w1 w.heap.size p/\af.At w1 p/\B_ w.heap.size w w1):=cm.1.2.I;have HZW:bN (B_ wr.heap.size wr w1):=cm.2.I;clear cm;obtain ⟨z0,z1,z2,z3,z4,z5,z6,z7⟩:=HZ.I.1.cells;go_wp2_with fail;clear z0 z1 z2 z3 z4 z5 z6 z7
 go_loopw [4] (fun i wr=> ∃ n:Nat,n<=k/\i=i_ j_ n/\bN ((∀ m y,m < n->p.L8[m]? =o_ y-> ¬ (y.RU=x.RU/\0 < x.RU))/\B_ w1.heap.size w1 wr)) (fun i _=>k - (intOf i).toNat)
 case atStart=>exact ⟨0,Ky _,rfl,⟨fun m y hm=>absurd hm zw,Kp _ _⟩⟩
 case round=>
  obtain ⟨n,hn,rfl,HI⟩:=hrel
  rename w_=>wi
  have iP:bN (av wi w.heap.size p/\af.At wi p/\B_ w.heap.size w wi):=⟨HZ.I.1.below HI.I.2,HZ.I.2.1.below HI.I.2,HZ.I.2.2.trans (HI.I.2.mono HZ.I.2.2.size)⟩
  obtain ⟨z0,z1,z2,z3,z4,z5,z6,z7⟩:=iP.I.1.cells;rw [mR.I.1] at z2;by_cases hnk:n < k
  .have j0':(0:Int)<=(n:Int):=by omega
   have j1':(n:Int) < (p.L8.length:Int):=by omega
   have j2':(n:Int) < ((k:Nat):Int):=by omega
   obtain ⟨v,hv⟩: ∃ v,p.L8[n]? =o_ v:=⟨_,Kz zw⟩
   obtain ⟨g1,e1,FX⟩:=cn iP.I.2.1.1 hv;obtain ⟨g2,e2,g8⟩:=cn iP.I.2.1.1 mR.I.2;rw [mR.I.1] at e1 e2;cases e1;cases e2;have d0:=FX.2.2.2.2.2.2.2.2.2.2.2;have d1:=g8.2.2.2.2.2.2.2.2.2.2.2;have HV:bN (p.L8[n]? =o_ v):=hv;clear FX g8 hv;by_cases hsi:v.RU=x.RU
   .have es:(v.RU == x.RU)=true:=by simp [hsi]
    have HSI:bN (v.RU=x.RU):=hsi;clear hsi;by_cases hpos:0 < x.RU
    .have dpos:decide (0 < x.RU)=true:=decide_eq_true hpos
     have HN:bN (bK p.pure=false):=dL fun hr=>absurd ((jk p).1 hr).2.2.2.2.2 (xn mR.I.2 HV.I hnk ⟨HSI.I,hpos⟩)
     go_wp2_with fail
     go_quiet (fail)
     go_wp2;go_ret;exact ⟨al HN.I.symm,bd iP.I.2.2 _⟩
    have dpos:decide (0 < x.RU)=false:=decide_eq_false hpos;have Dx:bN (¬ (v.RU=x.RU/\0 < x.RU)):=fun hh=>hpos hh.2
    clear hpos;go_wp2_with fail
    go_quiet (fail)
    go_wp2;go_roundw
    case rel=>exact ⟨n+1,by omega,by go_num,⟨fun m y hm hy=>by rcases QX.1 hm with h5 | h5; exact HI.I.1 m y h5 hy; subst h5; rw [HV.I] at hy; cases hy; exact Dx.I,bd HI.I.2 _⟩⟩
    case measure=>simp [intOf]; omega
   have es:(v.RU == x.RU)=false:=by simp [hsi]
   have Dx:bN (¬ (v.RU=x.RU/\0 < x.RU)):=fun hh=>hsi hh.1
   clear hsi;go_wp2_with fail
   go_quiet (fail)
   go_wp2;go_roundw
   case rel=>exact ⟨n+1,by omega,by go_num,⟨fun m y hm hy=>by rcases QX.1 hm with h5 | h5; exact HI.I.1 m y h5 hy; subst h5; rw [HV.I] at hy; cases hy; exact Dx.I,bd HI.I.2 _⟩⟩
   case measure=>simp [intOf]; omega
  .have j2': ¬ (n:Int) < ((k:Nat):Int):=by omega
   have en:n=k:=by omega
   have wg:bN (lR (p.L8.take (k+1))):=uU mR.I.2 HA.I.2.1 (fun m y hm hy=>HI.I.1 m y zw hy);have HY:bN (aw (fun x:ao=>x.id) (oQ p) 0 (p.L8.take (k+1))=true):=ed HA.I.1 mR.I.2 lN.I.1 j6.I lN.I.2;clear en;have HE:bN (B_ W1.heap.size W1 wi):=HA.I.2.2.trans ((HZW.I.trans (HI.I.2.mono HZW.I.size)).mono HA.I.2.2.size);go_wp2;go_roundw
   case rel=>exact ⟨k+1,by omega,by go_num,⟨HY.I,wg.I,HE.I⟩⟩
   case measure=>simp [intOf]; omega):P:=h
def fd (h:P:=by
 obtain ⟨v1,h1⟩: ∃ v,(left == 0)=v:=⟨_,rfl⟩
 obtain ⟨v2,h2⟩: ∃ v,cv Mg 1 2000000000=v:=⟨_,rfl⟩
 obtain ⟨v3,h3⟩: ∃ v,(Mg == -1)=v:=⟨_,rfl⟩
 have HE:=aA (HE.I.trans (show _=(v0 && v1 && (v2 || v3) && bI held) by simp only [h0,h1,h2,h3]));have tc:=aA h0;clear h0;have Hd:=aA h2;clear h2;obtain ⟨c0,c1,c2,c3,c4,c5,c6,c7,c8,c9,qF,pe⟩:=bo HI.I.box;unfold aX at *;rcases qL v0 v1 v2 v3 with rfl | ⟨rfl,rfl⟩ | ⟨rfl,rfl,rfl⟩ | ⟨rfl,rfl,rfl,rfl⟩ | ⟨rfl,rfl,rfl,rfl⟩
 all_goals
  go_enter func222,ntmps222
  go_wp2_with (first | (go_at_call 218; refine (kn _ _ HI.I.fit.1.prog).mono ?_; rintro e w1 ⟨rfl,hb1⟩; have HI:=aA (HI.I.below hb1); obtain ⟨c0,c1,c2,c3,c4,c5,c6,c7,c8,c9,qF,pe⟩:=bo HI.I.box; clear hb1; rw [tc.I]) | (go_at_call 225; refine (kb Mg _).mono ?_; rintro e w1 ⟨rfl,hw1⟩; rw [Hd.I,hw1]; clear hw1 w1));go_ret;exact ⟨al (by rw [HE.I]; simp [bI]),HI.I.cd⟩):P:=h
def f_ (h:P:=by refine Mb.mono ?_;clear Mb;rintro e A2 ⟨q2,rfl,hp,ht⟩;replace S:=aA (S.I.call ht);have HP:bN (q2.pure=_):=hp;clear hp ht;go_wp2_with (refine ec _ _ q2.cells S.I.an ?_);refine gZ results184 S.I.an ?_;exact ⟨q2,rfl,HP.I.trans HE.I.symm,S.I.done _⟩):P:=h
def gt (h:P:=by
 go_upto_region 17 with fail;have DM:bN (l.length<=6):=S.I.2.1.len HK.I HI.I;cases hq:x1.Mf
 .have HM:bN (Xk w k B (w.heap.size+1) l a1 Xv _/\Xj k.pure part l/\Xy k.pure (n+1) _ l0 l):=⟨S.I.1,S.I.2.1,Xu S.I.2.2.1 HC.I.1 S.I.2.2.2 (fun h=>by rw [HQ.I,hq] at h; cases h)⟩
  clear hq;go_wp2;go_roundw
  case rel=>exact ⟨l,a1,Xv,_,n+1,by omega,rfl,rfl,by go_num,HM.I⟩
  case measure=>simp [Go.RowKit.intOf]; omega
 have Ck:bN (zo k.pure.parts c=true):=HQ.I.trans hq;clear hq;have Mb:=Xq a1 l Xv c.src _ (by have:=DM.I; omega) (nP S.I.1.own);obtain ⟨c0,c1,c2,c3⟩:=HX.I.cells;go_wp2_with fail;clear c0 c1 c2 c3;refine Mb.mono ?_;clear Mb;rintro e W9 ⟨rfl,hb⟩;replace S:=aA (And.intro (S.I.1.below hb) S.I.2);replace HX:=aA (HX.I.below hb);clear hb;by_cases hs:c.src∈l
 case neg=>
  have HM:bN (Xk w k B (w.heap.size+1) l a1 Xv W9/\Xj k.pure part l/\Xy k.pure (n+1) _ l0 l):=⟨S.I.1,S.I.2.1,Xu S.I.2.2.1 HC.I.1 S.I.2.2.2 (fun _ h=>absurd h hs)⟩
  rw [decide_eq_false hs];clear hs;go_wp2;go_roundw
  case rel=>exact ⟨l,a1,Xv,_,n+1,by omega,rfl,rfl,by go_num,HM.I.1,HM.I.2⟩
  case measure=>simp [Go.RowKit.intOf]; omega
 have Mb:=Xq a1 l Xv c.dst W9 (by have:=DM.I; omega) (nP S.I.1.own);obtain ⟨c0,c1,c2,c3⟩:=HX.I.cells;rw [decide_eq_true hs];go_wp2_with fail;clear c0 c1 c2 c3;refine Mb.mono ?_;clear Mb;rintro e W10 ⟨rfl,hb⟩;replace S:=aA (And.intro (S.I.1.below hb) S.I.2);replace HX:=aA (HX.I.below hb);clear hb;by_cases hd:c.dst∈l
 .have HM:bN (Xk w k B (w.heap.size+1) l a1 Xv W10/\Xj k.pure part l/\Xy k.pure (n+1) _ l0 l):=⟨S.I.1,S.I.2.1,Xu S.I.2.2.1 HC.I.1 S.I.2.2.2 (fun _ _=>hd)⟩
  rw [decide_eq_true hd];clear hs hd;go_wp2;go_roundw
  case rel=>exact ⟨l,a1,Xv,_,n+1,by omega,rfl,rfl,by go_num,HM.I.1,HM.I.2⟩
  case measure=>simp [Go.RowKit.intOf]; omega
 .obtain ⟨a4,XM,Yt,hap,ho,hkp,-⟩:=XB c.dst S.I.1.own (by have:=DM.I; omega) S.I.1.b0.2.2
  have HM:bN (Xk w k B (w.heap.size+1) (l ++ [c.dst]) a4 XM Yt/\Xj k.pure part (l ++ [c.dst])/\Xy k.pure (n+1) true l0 (l ++ [c.dst])):=⟨S.I.1.more ho hkp,S.I.2.1.dst HC.I.2 Ck.I hs hd,XJ S.I.2.2.1 _⟩
  rw [decide_eq_false hd];clear ho hkp hs hd;obtain ⟨c0,c1,c2,c3⟩:=HX.I.cells;go_wp2_with (at_builtin; refine br _ rfl _ _ 53 rfl _ _ _ _ rfl rfl hap ?_);go_roundw
  case rel=>exact ⟨l ++ [c.dst],a4,XM,true,n+1,by omega,by simp,rfl,by go_num,HM.I.1,HM.I.2⟩
  case measure=>simp [Go.RowKit.intOf]; omega):P:=h
def gz (h:P:=by go_wp2_with (refine eT _ S.I.fr.box ?_);refine Mb.mono ?_;clear Mb;rintro e A2 ⟨q9,rfl,hp,ht⟩;replace S:=aA (S.I.call ht);have HP:bN (q9.pure=_):=hp;clear hp ht;go_wp2_with (refine ec _ _ q9.cells S.I.an ?_);refine gZ results187 S.I.an ?_;exact ⟨q9,rfl,HP.I.trans HE.I.symm,S.I.done _⟩):P:=h
def g_ (h:P:=by
 go_wp2_with fail;clear m0 m1 m2 m3 m4 m5 m6 m7 d3 e2;refine Mb.mono ?_;clear Mb;rintro e w2 ⟨q2,rfl,pv,DU,hb2,hk2⟩;have ky:bN (q2.pure=gu q.pure y.toaD/\q2.Mc=q.Mc/\(∀ x∈q2.L8,x.prog.length<=1048576)):=by rw [<- HG.I] at pv; rw [pv]; exact Eb HO.I.wk HD.I.2.1 HD.I.2.2 HCO.I HO.I.short
 clear pv;have hgl:=HO.I.low gs (by rw [show q.Mc=q.Mc from rfl]; exact un HG.I);have hww:w.heap.size+1 < wr.heap.size:=(J2.1 Ih.I.1).1;have H2:bN (av w2 w.heap.size q/\w2.heap[w.heap.size+1]? =o_ (c_ ar 46)/\ap w2 bi q2/\B_ bi w w2):=⟨(hk2.same _ zw (by simp [blk]; omega)).trans HW.I.1,(hk2.same _ zw (by simp [blk]; omega)).trans Ih.I.1,DU,Ih.I.2.trans hb2⟩
 clear DU hb2 hk2 hgl hww;have HI:bN (DZ bj bi w q0 (lF bj q2.pure.L8).length q2 (w2.setRow w.heap.size q2.cells)/\(lF bj q2.pure.L8).length < gk):=by
  have hst:=HO.I.wk.step HD.I.1;have hc:=HO.I.cnt;have hbb:=HB.I.2;rw [ky.I.1];refine ⟨⟨KU _ _ _ _ _ _ H2.I.1,(KH _ _ _ _ zw).trans H2.I.2.1,H2.I.2.2.1.same fun g hg=>KH _ _ _ _ (by rw [ky.I.2.1] at hg; have:=HO.I.low g hg; omega),kz H2.I.2.2.2 hbb _,by rw [ky.I.1]; exact hst.1,by rw [ky.I.1,<- HO.I.same]; exact (vn HO.I.wk HD.I.1).symm,by rw [ky.I.1],ky.I.2.2,fun g hg=>HO.I.low g (by rw [<- ky.I.2.1]; exact hg)⟩,by omega⟩
 go_wp2_with (refine ec _ _ q2.cells H2.I.1 ?_)
 go_roundg (lF bj q2.pure.L8).length
 case rel=>exact ⟨q2,HI.I.1⟩
 case measure=>exact HI.I.2):P:=h
def h_ (h:P:=by
 cases h3:(d.src == c.src)
 case true=>
  have h3q:d.src=c.src:=by simpa using h3
  cases h4:(d.ga == c.ga)
  case true=>
   have h4q:d.ga=c.ga:=by simpa using h4
   by_cases h5:x1.Mf=true
   case pos=>
    have HN:bN (eP k.pure=false):=gx (kq (ps:=k.pure.parts) Vn.I (.inr (aev.2 ⟨d,Td Vp.I sR,VB.I.trans (by simp [*])⟩)));go_wp2;go_ret;exact ⟨al HN.I.symm,S.I.ks.low⟩
   case neg=>
    replace h5:x1.Mf=false:=by simpa using h5
    have HM:bN ((k.eC.take (n+1)).any (hR k.pure.parts c)=false):=(HJ Vp.I HA.I).trans (VB.I.trans (by simp [*]));go_wp2;go_roundw
    case rel=>exact ⟨n+1,by omega,by go_num,S.I.less,HM.I⟩
    case measure=>simp [Go.RowKit.intOf]; omega
  case false=>
   have h4q: ¬ d.ga=c.ga:=by simpa using h4
   have HM:bN ((k.eC.take (n+1)).any (hR k.pure.parts c)=false):=(HJ Vp.I HA.I).trans (VB.I.trans (by simp [*]));go_wp2;go_roundw
   case rel=>exact ⟨n+1,by omega,by go_num,S.I.less,HM.I⟩
   case measure=>simp [Go.RowKit.intOf]; omega
 case false=>
  have h3q: ¬ d.src=c.src:=by simpa using h3
  have HM:bN ((k.eC.take (n+1)).any (hR k.pure.parts c)=false):=(HJ Vp.I HA.I).trans (VB.I.trans (by simp [*]));go_wp2;go_roundw
  case rel=>exact ⟨n+1,by omega,by go_num,S.I.less,HM.I⟩
  case measure=>simp [Go.RowKit.intOf]; omega):P:=h
def ir (h:P:=by refine Mb.mono ?_;clear Mb;rintro e A2 ⟨q2,rfl,hp,ht⟩;replace S:=aA (S.I.call ht);have HP:bN (q2.pure=_):=hp;clear hp ht;go_wp2_with (refine ec _ _ q2.cells S.I.an ?_);refine gZ results186 S.I.an ?_;exact ⟨q2,rfl,HP.I.trans HE.I.symm,S.I.done _⟩):P:=h
def iv (h:P:=by
 go_wp2_with fail;refine (xT p x.Md x.on _ HS.I.1 HP.I.at').mono ?_;rintro e w4 ⟨rfl,hb4⟩;have I2:bN (nI w w4 w.heap.size (w.heap.size+1) p x):=HP.I.below hb4;clear hb4 m0 m1 m2 m3 m4 m5 m6 m7 k0 k1 k2 k3 k4 k5 k6 k7 k8 k9 k10 k11;obtain ⟨k0,k1,k2,k3,k4,k5,k6,k7,k8,k9,k10,k11⟩:=I2.I.proc.cells;cases hha:hasB p.pure x.Md x.on
 .have hz:True:=trivial
  have HV:bN (bh p.pure x.toaD=false):=by show bh _ _=false; rw [HE.I]; simp [hha]
  clear HE;go_wp2;go_ret;exact ⟨al (by rw [HV.I]),I2.I.cd⟩
 have HHA:bN (hasB p.pure x.Md x.on=true):=hha;clear hha;have HE:bN (bh p.pure x.toaD=(cv x.Mg 1 2000000000 || decide (x.Mg= -1))):=by show bh _ _=_; rw [HE.I,HHA.I]; simp [lh]
 by_cases hm:x.Mg= -1
 .have hm':(x.Mg == -1)=true:=by simp [hm]
  have HV:bN (bh p.pure x.toaD=true):=by show bh _ _=true; rw [HE.I]; simp [hm]
  clear HE;go_wp2;go_ret;exact ⟨al (by rw [HV.I]),I2.I.cd⟩
 have hm':(x.Mg == -1)=false:=by simp [hm]
 have HV:bN (bh p.pure x.toaD=cv x.Mg 1 2000000000):=by show bh _ _=_; rw [HE.I]; simp [hm]
 clear HE hm;go_wp2_with (go_at_call 41; refine (dx x.Mg 1 2000000000 _).mono ?_; rintro e w9 ⟨rfl,mW⟩; rw [mW]; clear mW w9);go_ret;exact ⟨al (by rw [HV.I]),I2.I.cd⟩):P:=h
def i8 (h:P:=by exact ⟨q2,rfl,HP.I.trans HE.I.symm,S.I.done _⟩):P:=h
def jp (h:P:=by
 have lY:B_ w.heap.size w w7:=HB.I.2.2.1.trans (gh.mono (by have:=HB.I.2.2.1.size; omega));refine ⟨⟨⟨(aH zw).trans (HB.I.1.below gh),(HB.I.2.1.below gh).same fun g hg=>aH (fun e=> ?_),bP lY zw,(aH zw).trans ((gh.block _ zw).trans HB.I.2.2.2)⟩,cx (HQ.I.1.below gh),(HQ.I.2.1.below gh).same fun g hg=>aH (by have:=HQ.I.2.2.2.1 g hg; omega)⟩,aL Em.I.1 fun g hg=>aH (by have:=(cf Em.I.1 hg).1; omega),?_⟩
 .have:=Au.I g hg; omega
 .rw [ja]; exact gh.size):P:=h
def l_ (h:P:=by clear HE;go_wp2;go_ret;exact ⟨al (by rw [HV.I]),HP.I.cd⟩):P:=h
def mi (h:P:=by
 go_enter func34,ntmps34
 go_wp2_with (first | (refine gq rfl rfl (w.heap.size+1) ?hN T HT.I ?_; (case hN=>(rw [RR]; done))) | (refine j3 rfl rfl T HT.I ?_) | (refine fC rfl (.tmp 2) (.tmp 22) rfl (w.heap.size+1) T (by rfl) (by rfl) T (by exact Kq _ _ _) hs hs ho ?_));refine KT (ma (cs:=T) (b:=false) (g:=w.heap.size+1) (t:=65) (fr:=(0,0)) rfl rfl ?_ hs) rfl ⟨by rw [HT.I],?_⟩
 .exact KU _ _ T _ _ _ (Kq _ _ _)
 .exact kz (by go_grown) zw _):P:=h
def mt (h:P:=by
 have HY:bN (gH s[k] =true->(s.data.toList.take (k+1)).all gH=true):=fun h=>Bv hlt HA.I h
 have HX:bN (gH s[k] =false->bw s=false):=fun h=>by simp [bw,D7 hlt h]
 by_cases h1:(s[k].toNat:Int) < 32
 .go_wp2
  go_ret;exact ⟨al (HX.I (xo h1)).symm,rfl⟩
 by_cases h2:126 < (s[k].toNat:Int)
 .go_wp2
  go_ret;exact ⟨al (HX.I (uO h2)).symm,rfl⟩
 by_cases h3:(s[k].toNat:Int)=59
 .have h3':((s[k].toNat:Int) == 59)=true:=by simp [h3]
  go_wp2;go_ret;exact ⟨al (HX.I (uj h3)).symm,rfl⟩
 have h3':((s[k].toNat:Int) == 59)=false:=by simp [h3]
 have HB:bN (gH s[k] =true):=xR h1 h2 h3;go_wp2
 go_round
 case rel=>exact ⟨k+1,by omega,by go_num,HY.I HB.I⟩
 case measure=>simp [intOf]; omega):P:=h
def m_ (h:P:=by
 have Yx:bN (XT (ls.map (·.c)) q id o.c.dst):=XV HO.I.2.2.2.2 (by rw [<- HXQ.I]; exact hq) (by rw [HSI.I]; exact XA);clear hq;go_wp2_with fail;clear b0 b2 b4 e3 e1 p2;refine Mb.mono ?_;clear Mb;rintro e W8 ⟨rfl,dw,a7,Ym,hD,hF,hG⟩;obtain ⟨q1,q2,q3⟩:=S.I.2.1.call Yx.I hF;have HN:bN (Xh V (H+1) V.heap.size dw a7 Ym W8/\Xp (ls.map (·.c)) q ids (l ++ [id]) id (n+1) dw/\Xm (H+1) W1 a W8 a7):=⟨hD,q1.next HO.I.1 (fun h=>q3 _ (S.I.2.2.2 h)) (fun _ _=>q2),S.I.2.2.1.trans hG⟩
 clear hD hF hG q1 q2 q3 HM Yx;go_wp2;go_roundw
 case rel=>exact ⟨n+1,dw,a7,Ym,by omega,by go_num,HN.I.1,HN.I.2⟩
 case measure=>simp [Go.RowKit.intOf]; omega):P:=h
def no (h:P:=by
 iterate 21 (refine nl ?_; simp only [pt,sb,s0,s1])
 iterate 1 (refine yl (v:= ?_) ?_ ?_; rotate_left; (intro w0 hS0; obtain ⟨q3,g1,g2,g3,g4,g5,g6⟩:=HR.I _ w0 hS0; go_simp; try with_reducible rfl); simp only [pt,sb,s0,s1])
 refine bk (by kernel_rfl) (fun A3 NO=> ?_) _;go_wp2;go_ret;exact ⟨al HN.I.symm,NO.ks.low⟩):P:=h
def nv (h:P:=by
 intro g bR
 rw [rN] at bR;rw [hbs];simp only [Kg] at bR ⊢;rcases bR with bR | bR | (bR | bR) | bR
 .exact .inl (.inl bR)
 .rcases hb g bR with h1 | h1
  .exact .inl (.inr (.inl h1))
  .exact .inr (.inr h1)
 .exact .inl (.inr (.inr (.inl bR)))
 .exact .inr (.inl (j5.1 bR))
 .exact .inl (.inr (.inr (.inr bR)))):P:=h
def n8 (h:P:=by go_wp2;go_ret;exact ⟨rfl,(Kp _ _).alloc (Ki _) _⟩):P:=h
def pl (h:P:=by
 have HA:bN (fO r a len cap w (w9.setCell ⟨q,2,n_⟩ (i_ j_ VX)) q _ n VX ⟨#[]⟩):=YU.I.set rfl;clear kN zT H8;obtain ⟨⟨o0,o1,o2,o3⟩,⟨r0,r1,r2,r3⟩,fD,fB⟩:=YU.I.cells;have q0:=fD 0;have q1:=fD 1;have q2:=fD 2;have q3:=fD 3;have y0:=fB 0;have y1:=fB 1;have y2:=fB 2;have y3:=fB 3;have hlt:=YU.I.lt;have hne:w.heap.size≠q:=by omega
 have mD:q≠w.heap.size:=by omega
 clear fD fB;go_wp2;refine KT (K9 results136 _ _ w.heap.size 217 _ (0,0) _ (by rfl) HA.I.ends.1 underlying217 rfl jy) rfl ?_;exact ⟨(_,n,VX,⟨#[]⟩),Ky _,rfl,HA.I.ends.2.1,HA.I.ends.2.2⟩):P:=h
def qr (h:P:=by
 have HA:bN (fO r a len cap w (w9.setCell ⟨q,2,n_⟩ (i_ j_ VX)) q _ n VX tx):=YU.I.set rfl;clear kN zT H8;obtain ⟨⟨o0,o1,o2,o3⟩,⟨r0,r1,r2,r3⟩,fD,fB⟩:=YU.I.cells;have q0:=fD 0;have q1:=fD 1;have q2:=fD 2;have q3:=fD 3;have y0:=fB 0;have y1:=fB 1;have y2:=fB 2;have y3:=fB 3;have hlt:=YU.I.lt;have hne:w.heap.size≠q:=by omega
 have mD:q≠w.heap.size:=by omega
 clear fD fB;go_wp2;refine KT (K9 results136 _ _ w.heap.size 217 _ (0,0) _ (by rfl) HA.I.ends.1 underlying217 rfl jy) rfl ?_;exact ⟨(_,n,VX,tx),htx,rfl,HA.I.ends.2.1,HA.I.ends.2.2⟩):P:=h
def q_ (h:P:=by
 have HO:bN (mQ (K k) (N k) (M k) (S k)=j8 K N M S k):=rfl;rw [HO.I];clear hb1 c0 c1 c2 c3;cases hop:j8 K N M S k with
 | true=>
  have HP:bN (j8 K N M S k=true):=hop;clear hop;go_wp2;go_roundw
  case rel=>exact ⟨k+1,by omega,by go_num,fun j hj=>by
   by_cases e:j=k
   .subst e; exact HP.I
   .exact HA.I j zw,fQ.I⟩
  case measure=>simp [intOf]; omega
 | false=>
  have HP:bN (j8 K N M S k=false):=hop;clear hop;go_wp2;go_ret;exact ⟨al (iS (fun h=>by have:=h.2.2 k hlt; rw [HP.I] at this; cases this)).symm,fQ.I⟩):P:=h
def rg (h:P:=by have b1:B_ w.heap.size w ((w.alloc (c_ p.row 46)).alloc (c_ ar 46)):=((Kp _ _).alloc (Ki _) _).alloc zy _;exact ⟨(PU zy).trans (Kj _ _),h.below b1,b1,Kq _ _ _⟩):P:=h
def ro (h:P:=by
 refine ⟨fun hz=>key g (.inl hz) rfl,fun hz=>key g (.inr (.inl hz)) rfl,fun hz=> ?_,fun hz=>key g (.inr (.inr hz)) rfl⟩;rw [j5] at hz;rcases hb g iE with h1 | h1
 .exact hx g hz (by rw [hbs]; simp only [Kg]; exact .inr (.inl h1))
 .have:=(hm.lt hz).2
  omega):P:=h
def rt (h:P:=by
 have h5:q∈blk a:=by simpa [four,bM] using hq'
 rcases hq q h5 with h6 | h6
 .exact .inl (by rw [h6]; simp [four,bM])
 .exact .inr h6):P:=h
def te (h:P:=by
 go_enter func227,ntmps227
 go_wp2_with (first | (go_at_call 174; refine (eW _ _).mono ?_; rintro e w' ⟨rfl,rfl⟩) | (go_at_call 228; refine (iX _ _).mono ?_; rintro e w' ⟨rfl,rfl⟩))
 all_goals go_ret
 all_goals exact ⟨al (by simp_all),by go_grown⟩):P:=h
def tl (h:P:=by
 simp only [pt,sb,s0,s1]
 (refine PI ?_)
 refine bk (by kernel_rfl) ?_ _;intro w1 cm;go_wp2;go_ret;exact ⟨al HV.I.symm,cm.2.I.cd⟩):P:=h
def ue (h:P:=by go_wp2_with (first | (refine eT _ H5.I.1.box ?_) | (refine ec _ _ q.cells H5.I.2 ?_));refine gZ results172 H5.I.2 ?_;exact ⟨_,congrArg (fun c=>Ending.returned (a_ c)) (jd (nx:=q.next)).symm,HP.I.trans HE.I.symm,H5.I.1.mK zw zw _⟩):P:=h
def vc (h:P:=by obtain ⟨k0,k1,k2,k3,k4,k5,k6,k7⟩:=HZ.I.2.1.cells;go_wp2_with (refine ec _ _ #[i_ j_ afG,i_ j_ afd,s_ (o_ ⟨gs,0,n_⟩) ps.length pC,s_ afV ss.length afX,s_ afA es.length afq,s_ afR bs.length afK,s_ aga fs.length afN,s_ afr ts.length af4] HZ.I.2.2.1 ?_);refine gZ results182 HZ.I.2.2.1 ?_;rw [afx.I];exact ⟨rfl,HZ.I.1.same fun g hg=>KH _ _ _ _ (HZ.I.2.2.2.2.1 g hg),kz HZ.I.2.2.2.1 (by have:=HC.I.2.2.2.1; omega) _,HZ.I.2.2.2.2.2.more (kz (Kp _ _) zw _)⟩):P:=h
def wl (h:P:=by
 iterate 7 (refine nl ?_; simp only [pt,sb,s0,s1])
 (refine agj ?_)
 refine bk (by kernel_rfl) ?_ _;intro w1 cm;subst cm;go_wp2;go_ret;exact kO HN.I Dk.I.drew):P:=h
def ws (h:P:=by
 intro w0 hS0
 have hq:=hS0.1.2.I;rw [show (Value.agg (p.L6 gs))=a_ p.cells by unfold af.cells; rw [mR.I.1]];refine (lk p x w0 fl.I.1.short HXS.I.1 Jf.I.1 Jf.I.2 hq.2.1 (lA hq.2.1.1 mR.I.2)).mono ?_;rintro e w2 ⟨rfl,hb2⟩;exact ⟨al HPO.I,kQ mR.I.1 mR.I.2 ⟨hq.1.below hb2,hq.2.1.below hb2,hq.2.2.trans (hb2.mono hq.2.2.size)⟩ (rh mR.I.1 wV.I.2 (hq.2.1.below hb2)),hS0.2.I.trans (hb2.mono hS0.2.I.size)⟩):P:=h
def ww (h:P:=by
 go_simp
 try with_reducible rfl):P:=h
def xz (h:P:=by
 obtain ⟨-,h2,h3⟩:=Kf.1 hnd;obtain ⟨-,-,h4⟩:=Kf.1 h2;rcases bR with bR | bR
 .exact h3 g bR g (Lz _ hA) rfl
 .exact h4 g hA g bR rfl):P:=h
def x_ (h:P:=by clear hp FN;go_wp2_with (refine eT _ S.I.1.box ?_);refine Mb.mono ?_;clear Mb;rintro e W ⟨q2,rfl,hp2,ht⟩;have h5:=S.I.1.call ht;have H5:=aA (And.intro h5.1 ((h5.2 _ zw zw).trans S.I.2));have HP:bN (q2.pure=_):=hp2;clear hp2 ht h5;go_wp2_with (refine ec _ _ q2.cells H5.I.2 ?_);refine gZ results183 H5.I.2 ?_;exact ⟨q2,rfl,HP.I.trans HE.I,H5.I.1.mK zw zw _⟩):P:=h
def y_ (h:P:=by
 refine cq (bi:=wr.heap.size) ?_ zw;refine aL h7.2.2.1 fun g hg'=> ?_
 have h5:=h7.2.2.2 g hg';have h6:=cf h7.2.2.1 hg';subst e9;refine (PU zw).trans ?_;subst e8;exact aH zw):P:=h
def z_ (h:P:=by
 have xj:pH.heap[o]? =W9.heap[o]? :=hg.block o (Kn p7 kN.size) fun e=>h.free (by
  have:=di e.symm
  simp [af.Mc,this])
 have lV:=xj.trans h9.I;exact ⟨hL,by simp [World.cell?,lV],Ko _ _ _ _ _ lV⟩):P:=h
def AD (h:P:=by go_wp2_with (refine ec _ _ ar HB.I.2.2.2 ?_);refine mG results94 (b_ false) HB.I.2.2.2 ?_;exact ca HN.I (kz HB.I.2.2.1 zw _)):P:=h
def AM (h:P:=by
 go_enter func116,ntmps116
 go_wp2_with fail;refine (lr p id _ H.I.2.ae H.I.1.1).mono ?_;rintro e w1 ⟨rfl,hb1⟩;have HB:bN (B_ w.heap.size w w1):=H.I.1.2.trans (hb1.mono zy);have HM:bN (decide (0<=place (p.ae.map (·.id)) id 0)=decide (id∈p.ae.map (·.id))):=mV _ id;clear hb1;go_wp2;go_ret;exact ⟨al (HM.I.trans (by simp [hasB,af.pure])),HB.I⟩):P:=h
def A_ (h:P:=by exact h.pR.xy i q (by rcases i with _ | _ | _ | _ | _ <;> first | exact hi | exact absurd rfl ei)):P:=h
def BC (h:P:=by exact cP h hu.up rfl zw):P:=h
def CE (h:P:=by
 simp only [af.Mc,Kg,Lq]
 exact .inr (.inr (.inr (.inr (.inr (.inr (.inr (.inr ⟨x,hx,hg⟩)))))))):P:=h
def C_ (h:P:=by
 obtain ⟨-,h2,h3⟩:=Kf.1 hnd;obtain ⟨-,-,h4⟩:=Kf.1 h2;rcases bR with bR | bR | bR
 .exact h3 g bR g (Lz _ hA) rfl
 .exact h4 g hA g (Lz _ bR) rfl
 .exact h4 g hA g (Ly _ bR) rfl):P:=h
def D_ (h:P:=by
 iterate 2 (refine PI ?_)
 iterate 13 (refine nl ?_; simp only [pt,sb,s0,s1])
 (refine PI ?_)
 refine bk (by kernel_rfl) ?_ _;intro w1 cm;have HV:bN (B_ W1.heap.size W1 w1):=HN.I.2.2.2.trans (cm.2.I.mono HN.I.2.2.2.size);clear cm;go_wp2;go_roundw
 case rel=>exact ⟨k+1,z,by omega,by go_num,rfl,⟨HY.I,HV.I⟩⟩
 case measure=>simp [Go.RowKit.intOf]; omega):P:=h
def E_ (h:P:=by
 refine bk (by kernel_rfl) ?_ _;intro w1 cm;subst cm;go_wp2;go_roundw
 case rel=>exact ⟨k+1,k,by omega,by go_num,rfl,⟨HY.I,HN.I.2.2.2.drew⟩⟩
 case measure=>simp [intOf]; omega):P:=h
def Fd (h:P:=by
 cases a with
 | none=>simp [blk] at hg'
 | some ad=>
  simp [blk] at hg';subst hg';rcases hb with hb | hb
  .exact .inl (di hb.symm)
  .exact .inr (by simpa [Value.ownBlock] using hb)):P:=h
def FS (h:P:=by
 rintro (h | h | h)
 .exact .inr (.inl h)
 .exact .inl h
 .exact .inr (.inr h)):P:=h
def F_ (h:P:=by refine bk (by kernel_rfl) (fun A3 NO=> ?_) _;go_wp2;go_ret;exact ⟨al HN.I.symm,NO.ks.low⟩):P:=h
def G_ (h:P:=by
 simp only [dt] at hen;clear HN hrg hrg2 rx oE hkey hlk hv hat oX hpl td hpw lD oG hrow sY hg3;unfold dt;go_wp2_with (at_builtin; refine br _ rfl _ _ 49 rfl _ _ _ _ rfl rfl hap ?_; clear hap);go_roundw
 case rel=>exact ⟨_,_,_,Hb.I.2,Hb.I.1⟩
 case measure=>have h5:=Hb.I.2.left_eq; have h6:=j6.I; rw [h6.2]; exact Q5 (Nat.le_of_eq h5) h6.1):P:=h
def H_ (h:P:=by have hv:=HA.I.cd.trans (iJ.mono HA.I.cd.size);have hs:=iJ.size;have hs2:=HA.I.size;have Ix:=HX.I;have hx:W5.heap[X]? =V.heap[X]? :=iJ.block X zw;have hk5:Tk W5 w.heap.size k:=(iJ.block _ zw).trans Ul.I;exact ⟨⟨hv,hk5⟩,⟨hv.alloc hv.size _,(adD _ _ _ zw).trans hk5⟩,hx,(adD _ _ _ zw).trans hx⟩):P:=h
def I_ (h:P:=by
 simp only [af.Mc,Kg,Lq]
 exact .inr (.inr (.inr (.inr (.inr (.inr (.inl ⟨x,hx,hg⟩))))))):P:=h
def J_ (h:P:=by
 go_enter func227,ntmps227
 go_wp2_with (first | (go_at_call 174; refine (eW _ _).mono ?_; rintro e w' ⟨rfl,rfl⟩) | (go_at_call 228; refine (iX _ _).mono ?_; rintro e w' ⟨rfl,rfl⟩) | (go_at_call 210; refine (iM _ _ hs).mono ?_; rintro e w' ⟨rfl,rfl⟩))
 all_goals go_ret
 all_goals exact ⟨al (by simp_all),by go_grown⟩):P:=h
def K_ (h:P:=by
 subst ei
 have h5:q∈blk a:=by simpa [four,bM] using hq'
 rw [hall q h5];simp [four,bM]):P:=h
def L_ (h:P:=by
 go_enter func62,ntmps62
 go_wp2;go_ret;exact ⟨al (hG zw).symm,by go_grown⟩):P:=h
def M_ (h:P:=by have hb0:=Fy.I;refine (rx.block g (by have:=HO.I.size; omega) (fun e=>by have:=KC e; omega)).trans (HO.I.same g zw (fun hm=>by have:=Ia.I g hm; omega))):P:=h
def N_ (h:P:=by
 go_round
 case rel=>exact ⟨k+1,true,acc ++ [y],a5,c5,by omega,by go_num,rfl,by simp,⟨F5.I,HA.I.2.on HY.I⟩⟩
 case measure=>simp [Go.RowKit.intOf]; omega):P:=h
def Or (h:P:=by go_wp2_with (go_at_call 41; refine (dx _ _ _ _).mono ?_; rintro e w' ⟨rfl,rfl⟩);go_ret;exact ⟨al (HN.I (hG zw)).symm,hB.alloc zw _⟩):P:=h
def O_ (h:P:=by clear hb1;go_wp2;go_ret;exact ⟨al (HM.I.trans (by simp [hasB,af.pure])),HB.I⟩):P:=h
def PC (h:P:=by clear HE;go_wp2;go_ret;exact ⟨al (by rw [HV.I]),HP.I.cd.alloc HP.I.cd.size _⟩):P:=h
def PM (h:P:=by
 subst ei
 have h5:q∈blk a:=by simpa [four,bM] using hi
 rw [hall q h5];exact hgl):P:=h
def P_ (h:P:=by
 rw [hbs];simp only [Kg];simp only [Kg] at bR;rcases bR with bR | bR | bR
 .exact .inl bR
 .exact .inr (.inr (.inl bR))
 .exact .inr (.inr (.inr bR))):P:=h
def Q1 (h:P:=by
 rw [j5] at EI
 have hn:=hx g EI;exact ⟨fun hz=>hn (hmem g (.inl hz)),fun hz=>hn (hmem g (.inr (.inl hz))),fun hz=>hn (hmem g (.inr (.inr hz)))⟩):P:=h
def Q2 (h:P:=by rcases i with _ | _ | _ | _ | _ <;> first | exact hq' | exact absurd rfl ei):P:=h
def Q3 (h:P:=by
 intro w0 hS0
 refine (dx x.Mg 1 bj w0).mono ?_;rintro e w2 ⟨rfl,rfl⟩;exact ⟨afp.I,hS0⟩):P:=h
def Q4 (h:P:=by
 refine bk (by kernel_rfl) ?_ _;intro w1 cm;have HV:bN (B_ W1.heap.size W1 w1):=HN.I.2.2.2.trans (cm.2.I.mono HN.I.2.2.2.size);clear cm;go_wp2;go_roundw
 case rel=>exact ⟨k+1,k,by omega,by go_num,rfl,⟨HY.I,HV.I⟩⟩
 case measure=>simp [Go.RowKit.intOf]; omega):P:=h
def Q_ (h:P:=by
 rw [e2];refine uX Dl fun g hg=> ?_
 rcases hf g (fZ.2 hg) with hm | hm
 .exact ⟨fun hq=>hP g (.inl hq) hm,fun hq=>hP g (.inr hq) hm⟩
 .exact ⟨fun hq=>by have:=(h.lt g (hin g (.inl hq))).2; omega,fun hq=>by have:=(h.lt g (hin g (.inr hq))).2; omega⟩):P:=h
def R_ (h:P:=by
 have HN:bN (eP k.pure=false):=by show _=_; rw [Ul.I]; have:cv k.bj 0 500000000=false:=(by cases h:cv k.bj 0 500000000 with | false=>rfl | true=>(rw [bz] at h; omega)); rw [this]; rfl
 clear Ul;go_wp2;go_ret2;exact ⟨S.I.low,.inl ⟨HN.I,rfl⟩⟩):P:=h
def S_ (h:P:=by
 have HN:bN (cB p.pure { p.pure with ai:=bY (·.id) (⟨z.id,z.I,z.Mf,z.max,[]⟩:dS) p.pure.ai } =n_):=jh hok
 clear hok;go_wp2_with (refine ec _ _ ar HZ.I.2.1 ?_);refine mG results91 (b_ false) HZ.I.2.1 ?_;exact ca HN.I (kz HZ.I.1 zw _)):P:=h
def Tu (h:P:=by go_wp2_with (refine stK 4 24 T9 S.I.I ?_);refine aaf results59 (b_ false) S.I.I ?_;exact aoc HN.I (kz S.I.ks.low zw _)):P:=h
def TZ (h:P:=by exact ca HN.I (kz HZ.I.1 zw _)):P:=h
def U_ (h:P:=by go_wp2_with fail;go_ret2;exact ⟨HK.I.cd.alloc HK.I.cd.size _,.inl ⟨HR.I,rfl⟩⟩):P:=h
def V_ (h:P:=by
 obtain ⟨z,hz,he⟩:=Lq.1 hg;rw [ha] at hz;rcases fq.1 hz with rfl | hz
 .exact .inr he
 .exact .inl (Lq.2 ⟨z,hz,he⟩)):P:=h
def WP (h:P:=by
 rw [e2] at hg
 rcases Kg.1 hg with hg | hg
 .exact .inl (hin g (.inl hg))
 .rcases Kg.1 hg with hg | hg
  .exact (hf g hg).imp_left fun h7=>by rw [e1]; simp only [Kg]; exact .inr (.inl ((hkx g).1 h7))
  .exact .inl (hin g (.inr hg))):P:=h
def W_ (h:P:=by
 show (W.setCell _ _).ownsRow bi _ 1 (s_ a l.length c) l.length (bT.flat l)
 exact aL ho fun g hg=>hs g fun e=>by
  rcases hf g hg with h7 | h7
  .exact hP gs (.inl hgP) (e ▸ h7)
  .have:=(h.lt gs (hin gs (.inl hgP))).2; omega):P:=h
def X_ (h:P:=by
 rcases P9 i j with hlt | heq | hgt
 .have:=h5 i j hi1 DS hlt; omega
 .subst heq; rfl
 .have:=h5 j i DS hi1 hgt; omega):P:=h
def Y_ (h:P:=by
 go_enter func231,ntmps231
 go_wp2;go_ret;exact ⟨al (by simp [gw,cv, *] <;> omega),(Kp _ _).alloc (Ki _) _⟩):P:=h
def Z_ (h:P:=by simp only [Lv,Ls] at this;exact this):P:=h
def Zaa (h:P:=by
 have h1 := hall e he hb;have h0 := (Qf.1 hr).1;rw [heq] at h1;rcases Nat.lt_or_ge i RV.size with h' | h'
 . simp [h'] at h0 h1; rw [h0] at h1; cases h1
 . simp [Array.getElem?_eq_none h'] at h1):P:=h
def Zab (h:P:=by
 simp only [af.Mc,Kg,Lq]
 exact .inr (.inl ⟨x,hx,hg⟩)):P:=h
def Zac (h:P:=by
 replace S:=aA (S.I.reads hb2);clear hb2;have HB:=aA (HJ.I.2.2.2 z2 gV);clear gV;go_wp2_with fail
 go_roundg (gk - 1)
 case rel=>exact ⟨q2,z2,rfl,HB.I,S.I⟩
 case measure=>have:=HJ.I.1; omega):P:=h
def Zad (h:P:=by rw [ha] at hg;cases hg;exact fun j hj=>⟨by have h7:=(hrow.cell hx (r:=j) hj).1; rw [show bg.n=12 from rfl] at h7; rw [h7,Kz (by rw [bg.len]; exact hj)]; rfl,(hrow.cell hx (r:=j) hj).2⟩):P:=h
def Zae (h:P:=by exact h.pR.apart i i2 hij q (e1 i q hi) (e1 i2 q hi2)):P:=h
def Zaf (h:P:=by
 go_wp2_with fail;go_roundw
 case rel=>exact ⟨q+1,by omega,by rw [xD.I]; rfl,by go_num,S.I.1.below (Kp _ _).drew,S.I.2.below (Kp _ _).drew⟩
 case measure=>simp [Go.RowKit.intOf]; omega):P:=h
def Zag (h:P:=by
 have h5:=h7.2.2.2 g (fZ.2 hk);refine ⟨fun hm'=> ?_,by omega⟩
 have:=(h.own.lt g hm').2
 omega):P:=h
def Zah (h:P:=by
 refine bk (by kernel_rfl) ?_ _;intro w1 cm;subst cm;go_wp2;go_roundw
 case rel=>exact ⟨k+1,n,by omega,by go_num,rfl,⟨HY.I,HN.I.2.2.2.drew⟩⟩
 case measure=>simp [intOf]; omega):P:=h
def Zai (h:P:=by
 have h5:=h.nodup;rw [hsp] at h5;obtain ⟨-,k2,k3⟩:=Kf.1 h5;obtain ⟨-,-,k6⟩:=Kf.1 k2;rcases hg with hg | hg
 .exact k3 g hg gs (Lz _ hgl) he
 .exact k6 gs hgl g hg he.symm):P:=h
def Zaj (h:P:=by
 rcases hb g iE with h1 | h1
 .exact nc g' hg' (e ▸ h1)
 .have:=hlt g' (hmem g' hg')
  omega):P:=h
def Zak (h:P:=by
 split at h3
 .simp only [J7] at h3; exact h3.1.1.1.1
 .split at h3
  .simp only [J7] at h3; exact h3.1.1
  .split at h3
   .simp only [J7] at h3; exact h3.1.1.1
   .cases h3):P:=h
def Zal (h:P:=by obtain ⟨m0,m1,m2,m3⟩:=S.I.box.cells;go_wp2;go_ret;exact .inl ⟨HN.I,rfl,S.I.US.kept⟩):P:=h
def Zam (h:P:=by go_wp2;go_ret;exact ⟨al HV.I.symm,(Kp _ _).alloc (Ki _) _⟩):P:=h
def Zan (h:P:=by
 go_round
 case rel=>exact ⟨k+1,false,acc ++ [y],a5,c5,by omega,by go_num,rfl,by simp,⟨F5.I,HA.I.2.past HY.I HC.I⟩⟩
 case measure=>simp [Go.RowKit.intOf]; omega):P:=h
def Zao (h:P:=by
 go_enter func42,ntmps42
 go_wp2_with (go_at_call 41; refine (dx _ _ _ _).mono ?_; rintro e w' ⟨rfl,rfl⟩);go_ret;exact ⟨al (mm zw).symm,by go_grown⟩):P:=h
def Zap (h:P:=by
 obtain ⟨-,k2,k3⟩:=Kf.1 Dl;obtain ⟨-,-,k6⟩:=Kf.1 k2;rcases hg with hg | hg
 .exact k3 g hg g (Lz _ ((hkx g).1 hm)) rfl
 .exact k6 g ((hkx g).1 hm) g hg rfl):P:=h
def Zaq (h:P:=by go_wp2;go_ret;exact ⟨al HN.I.symm,cy.I.2.2⟩):P:=h
def Zar (h:P:=by
 rcases hbl o hm' with h1 | h1 | h1
 .exact h.free h1
 .exact (hx o h1).2 rfl
 .omega):P:=h
def Zas (h:P:=by have h3:=h1.trans h.I;refine ⟨by simp [World.cell?,h3],?_⟩;simp [World.cell?,h2]):P:=h
def Zat (h:P:=by have Ix:=HX.I;have zU:Tk w' w.heap.size k:=(qY _ zw).trans Ul.I;exact ⟨⟨lY,zU⟩,lW,hpl,(ac5 _ _ _ _ (by show w.heap.size≠X; omega)).trans zU⟩):P:=h
def Zau (h:P:=by go_wp2;go_ret;exact ⟨al HV.I.symm,Hs.I.cd⟩):P:=h
def Zav (h:P:=by
 go_wp2_with fail;go_roundw
 case rel=>exact ⟨q+1,by omega,by rw [xD.I]; rfl,by go_num,S.I.below (Kp _ _).drew⟩
 case measure=>simp [Go.RowKit.intOf]; omega):P:=h
def Zaw (h:P:=by exact .inr (eB (by show 1<=p.next; omega) (by show p.next<=p.next+1 - 1; omega))):P:=h
def Zax (h:P:=by subst e8 e9;exact ⟨(bP h7.2.1 (Ki _)).alloc (bP h7.2.1 (Ki _)).size _,fH [_]⟩):P:=h
def Zay (h:P:=by obtain ⟨m0, m1, m2, m3, m4⟩ := HE.I.box.cells;go_wp2_with (refine stK 2 78 _ HE.I.mK ?_);refine rtK results32 HE.I.mK ?_;exact ⟨_, rfl, HE.I.fin⟩):P:=h
def Zaz (h:P:=by
 refine ⟨fun y hy=> ?_,List.Pairwise.cons (fun y hy=>h1 y hy) h2⟩;rcases Kt.1 hy with rfl | hy
 .exact h.1.1.2
 .have:=h1 y hy; have:=h.1.1.2; omega):P:=h
def ZaA (h:P:=by
 have HP:bN (bw x=true):=hp;clear hp;go_wp2
 go_round
 case rel=>exact ⟨k+1,by omega,by go_num,pQ HA.I HX.I HP.I⟩
 case measure=>simp [intOf]; omega):P:=h
def ZaB (h:P:=by
 rcases iH g hg with h5 | h5
 .have:=nW g (hin g h5); omega
 .exact (hm.lt h5).2):P:=h
def ZaC (h:P:=by obtain ⟨g,e,hc⟩:=h.at hx;exact ⟨g,e,hc 0 _ rfl,hc 1 _ rfl,hc 2 _ rfl⟩):P:=h
def ZaD (h:P:=by exact ⟨_,rfl,hq,by unfold af.cells; simp,by rw [hq]; exact hr2,HR.I.2.1⟩):P:=h
def ZaE (h:P:=by go_wp2;go_ret;exact ⟨al (kR zw).symm,rfl⟩):P:=h
def ZaF (h:P:=by go_wp2;go_ret;exact ⟨al (mA zw).symm,rfl⟩):P:=h
def ZaG (h:P:=by have h5:=nW g (hin g (Lq.2 ⟨z,hz,hg⟩));exact sm g zw zw):P:=h
def ZaH (h:P:=by clear hr;go_wp2_with (refine stK 4 42 T9 HR.I.1.I ?_);refine aaf results59 (b_ false) HR.I.1.I ?_;exact aoc HN.I (kz HR.I.1.low zw _)):P:=h
def ZaI (h:P:=by
 go_wp2;go_roundw
 case rel=>exact ⟨Xl,a2,Ta,_,n+1,by omega,rfl,rfl,by go_num,HM.I.1,HM.I.2⟩
 case measure=>simp [Go.RowKit.intOf]; omega):P:=h
def ZaJ (h:P:=by exact ⟨a5,c5,w5,hap,oe,hb.grown A7 hb.size fun c e=>by cases e; exact hge,fun h _ hn hl=>A7.block h hl (fun e=>hn (by cases e; rfl))⟩):P:=h
def ZaK (h:P:=by
 go_wp2;go_roundw
 case rel=>exact ⟨n+1,l3,a4,XM,by omega,by go_num,S.I.1,HN.I,S.I.2.2.1⟩
 case measure=>simp [Go.RowKit.intOf]; omega):P:=h
def ZaL (h:P:=by
 go_wp2;go_roundw
 case rel=>exact ⟨n+1,l2,a3,UY,by omega,by go_num,S.I.1,HN.I,S.I.2.2.1⟩
 case measure=>simp [Go.RowKit.intOf]; omega):P:=h
def ZaM (h:P:=by
 go_wp2
 go_roundw
 case rel=>exact ⟨k+1,by omega,by go_num,HM.I zw,kj.alloc zw _⟩
 case measure=>simp [intOf]; omega):P:=h
def ZaN (h:P:=by rw [fG,J7] at k1 ⊢;refine ⟨?_,k1.2⟩;have k4:=k1.1;unfold jY at k4 ⊢;simp only [J7] at k4 ⊢;exact ⟨⟨k4.1.1,ht⟩,k4.2⟩):P:=h
def ZaO (h:P:=by
 rw [e1];rcases hg with hg | hg
 .exact Lz _ hg
 .exact Ly _ (Ly _ hg)):P:=h
def ZaP (h:P:=by
 have e1:(acc ++ [z]).length=acc.length+1:=by simp
 rw [e1,K.dc];have e2:K.flat [z] =K.vals z:=by simp [Kind.flat]
 rw [e2];exact ho):P:=h
def ZaQ (h:P:=by
 go_roundw
 case rel=>exact ⟨k - 1,q,rfl,by omega,by omega,aA (HD.I.up zw)⟩
 case measure=>simp [Go.RowKit.intOf]; omega):P:=h
def ZaR (h:P:=by have h7:y.todS.Ma=y.Ma:=rfl;have h8:y.todS.max=y.max:=rfl;rw [h7] at h5;rw [h8] at h5 h6;exact ⟨h5.2.2,by omega,h5.2.1,h5.1⟩):P:=h
def ZaS (h:P:=by
 rcases iH g hg with h5 | h5
 .exact .inl h5
 .exact .inr (hk g h5).1):P:=h
def ZaT (h:P:=by go_wp2;go_ret;exact ⟨al (eB h1 h2).symm,rfl⟩):P:=h
def ZaU (h:P:=by
 rw [fG,J7]
 refine ⟨q4,mr q6 rfl ⟨by show 0<=z.pc; omega,?_⟩ a2 a3 a4 a6⟩
 have:=lK q6
 show z.pc < z.prog.length
 omega):P:=h
def ZaV (h:P:=by
 refine hfree k ok hk hki ?_ hno;by_cases hjk : j = k
 . subst hjk; exact hjun
 . rw [getD_set_ne true hjk] at hun; exact hun):P:=h
def ZaW (h:P:=by
 go_wp2;go_roundw
 case rel=>exact ⟨k+1,z,by omega,by go_num,rfl,⟨HY.I,HN.I.2.2.2⟩⟩
 case measure=>simp [intOf]; omega):P:=h
def ZaX (h:P:=by exact ⟨e1,(J1 (aH (by show w.heap.size≠o; omega))).trans e1⟩):P:=h
def ZaY (h:P:=by
 rcases hbl with hbl | hbl
 .rw [hm2] at hbl; exact .inl (VC hbl.symm)
 .rw [hm2] at hbl; simp at hbl; exact .inr zw):P:=h
def ZaZ (h:P:=by rw [ha] at hg;cases hg;have h7:=hrow.cell hx (r:=j) hj;exact ⟨⟨_,h7.1.trans (Kz (by rw [bg.len]; exact hj))⟩,h7.2⟩):P:=h
def Za0 (h:P:=by go_wp2;go_ret;exact ⟨al HN.I.symm,S.I.low⟩):P:=h
def Za1 (h:P:=by
 simp only [J5,if_false,QO]
 split at h
 .exact h
 .obtain ⟨n,h1,h2,h3⟩:=h
  exact ⟨n,h1,by omega,h3⟩):P:=h
def Za2 (h:P:=by
 go_wp2_with fail;go_roundw
 case rel=>exact ⟨j+1,by omega,by go_num,S.I⟩
 case measure=>simp [Go.RowKit.intOf]; omega):P:=h
def Za3 (h:P:=by rw [sR];exact aL xj fun g hg=>aH (by have:=(cf xj hg).1; omega)):P:=h
def Za4 (h:P:=by exact aL hl.own fun g hg=>aH (by have:=(cf hl.own hg).1; omega)):P:=h
def Za5 (h:P:=by rw [ha] at hg;cases hg;exact ⟨⟨_,(hrow.cell hx (r:=11) (by decide)).1⟩,(hrow.cell hx (r:=11) (by decide)).2⟩):P:=h
def Za6 (h:P:=by rw [ha] at ha2;cases ha2;exact g8.1):P:=h
def Za7 (h:P:=by
 go_wp2
 go_round
 case rel=>exact ⟨k+1,by omega,by go_num,HT.I⟩
 case measure=>simp [Go.RowKit.intOf]; omega):P:=h
def Za8 (h:P:=by exact .inl ⟨by simp only [Lt,place]; rw [if_neg h]; exact h1,by simp only [LL,h,decide_false]; exact h2⟩):P:=h
def Za9 (h:P:=by
 have h3:ce y.id f r=r:=qB fun z hz e=>by have:=hr.1 z hz; omega
 simp only [ce,Lt,if_true] at h3 ⊢;rw [h3]):P:=h
def Zba (h:P:=by refine ⟨?_,fun j hj=>(J1 (w:=w) e).trans (h.2 j hj)⟩;have h1:=h.1;rw [Qb h1] at e;exact (J2.1 e).1):P:=h
def Zbb (h:P:=by rw [e1];rw [e3] at h5 h6 hk;exact oS h5 (fN _) hn h6 hk):P:=h
def Zbc (h:P:=by
 rcases hk with rfl
 all_goals
  go_enter func226,ntmps226
  go_wp2;go_ret2;exact ⟨rfl,by go_grown⟩):P:=h
def Zbd (h:P:=by refine bk (by kernel_rfl) (fun A3 NO=> ?_) _;go_wp2;go_ret;exact ⟨al (by simp [h1,h2]),NO.2.2⟩):P:=h
def Zbe (h:P:=by exact hm.same fun g hg=>sm g (hm.lt hg).2 (hk g hg).2):P:=h
def Zbf (h:P:=by go_wp2;go_ret;exact ⟨[],o_ ⟨w.heap.size+1,0,n_⟩,0,rfl,i6 S.I.2 zw,HN.I,S.I.1.low⟩):P:=h
def Zbg (h:P:=by rw [if_neg zw,if_neg zw,if_neg zw,if_neg zw,if_neg zw]):P:=h
def Zbh (h:P:=by
 split at h
 .rename_i e
  rw [e];exact ⟨k,rfl,by omega,hx⟩
 .obtain ⟨n,h1,_⟩:=h
  omega):P:=h
def Zbi (h:P:=by simp only [Kt,Ku,or_false] at ht; rw [ht]; exact f3):P:=h
def Zbj (h:P:=by
 cases a' with
 | none=>simp [blk] at hm
 | some ad=>simpa [Value.ownBlock,blk,eq_comm] using hm):P:=h
def Zbk (h:P:=by
 split at h
 .exact .inl (KC h).symm
 .split at h
  .exact .inl (KC h).symm
  .exact .inr h):P:=h
def Zbl (h:P:=by
 split at h
 .omega
 .rename_i y e
  obtain ⟨n,h1,h2,h3⟩:=h;exact ⟨n,y,h1,h2,h3,e⟩):P:=h
def Zbm (h:P:=by
 refine cP (mx h fun y hy hk=> ?_) hu.up rfl (n7 p.next)
 rw [only h.aj hs hy hk]; omega):P:=h
def Zbn (h:P:=by go_wp2;go_ret;exact ⟨al HN.I.symm,HB.I.2.2⟩):P:=h
def Zbo (h:P:=by simp only [Lit.wf,J7,decide_eq_true_eq];omega):P:=h
def Zbp (h:P:=by rw [Lm];exact tP HA.I (fun y hy=>by have h5:=HX.I y hy; show ¬ y.id < id; omega)):P:=h
def Zbq (h:P:=by rintro e w2 ⟨x,rfl,hb2,hr2⟩;go_wp2;go_ret;exact ⟨_,rfl,hb.trans hb2,hr2⟩):P:=h
def Zbr (h:P:=by exact hy.wpOp hi hS fun w' GH => ⟨GH, H⟩):P:=h
def Zbs (h:P:=by
 clear HE
 go_enter func220,ntmps220
 go_wp2;go_ret;exact ⟨al HV.I.symm,HB.I⟩):P:=h
def Zbt (h:P:=by
 cases xs with
 | nil=>rfl
 | cons u r=>
  obtain ⟨g,e',_⟩:=h 0 u rfl;cases e'):P:=h
def Zbu (h:P:=by exact q1 g zw zw zw):P:=h
def Zbv (h:P:=by
 go_enter func107,ntmps107
 go_wp2;go_ret2;exact ⟨by rw [HP.I]; rfl,Kp _ _⟩):P:=h
def Zbw (h:P:=by rw [qZ];unfold World.cell?;rw [h1];exact h2):P:=h
def Zbx (h:P:=by rw [<- h1];exact hg.block g (by have:=hz.size; omega) fun e=>hgn (VC e.symm)):P:=h
def Zby (h:P:=by go_wp2_with (refine eT _ S.I.fr.box ?_);refine Mb.mono ?_;clear Mb;rintro e A2 ⟨q2,rfl,hp,ht⟩;replace S:=aA (S.I.call ht);have HP:bN (q2.pure=_):=hp;clear hp ht;go_wp2_with (refine ec _ _ q2.cells S.I.an ?_);refine gZ results188 S.I.an ?_;exact i8):P:=h
def Zbz (h:P:=by refine Mb.mono ?_;clear Mb;rintro e A2 ⟨q2,rfl,hp,ht⟩;replace S:=aA (S.I.call ht);have HP:bN (q2.pure=_):=hp;clear hp ht;go_wp2_with (refine ec _ _ q2.cells S.I.an ?_);refine gZ results185 S.I.an ?_;exact i8):P:=h
def ZbA (h:P:=by clear hf;have Mb:=bB (n:=n) 3 S.I.fr.own S.I.low HR.I.1 HR.I.2.1 (by rw [HR.I.2.2.1]; decide);go_wp2_with (refine eT _ S.I.fr.box ?_);exact f_):P:=h
def ZbB (h:P:=by
 clear hf hfm;go_upto_region 2 with fail;replace S:=aA (S.I.reads (Kp _ _).drew);refine aT (fun w1=>w1=A2.drew) (by kernel_rfl) rfl ?_;generalize A2.drew=B at *
 iterate 3 (refine agj ?_)
 iterate 10 (refine nl ?_; simp only [pt,sb,s0,s1])
 (refine agj ?_)
 refine bk (by kernel_rfl) ?_ _;intro w1 cm;rw [cm];clear cm w1;have Mb:=bB (n:=n) 3 S.I.fr.own S.I.low HR.I.1 HR.I.2.1 (by rw [HR.I.2.2.1]; decide);exact gz):P:=h
def ZbC (h:P:=by go_wp2_with (refine eT _ S.I.fr.box ?_);exact f_):P:=h
def ZbD (h:P:=by clear hz hr hx h0 hn eu hw;go_wp2_with (refine eT _ S.I.fr.box ?_);refine Mb.mono ?_;clear Mb;rintro e A2 ⟨q2,rfl,hp,ht⟩;replace S:=aA (S.I.call ht);have HP:bN (q2.pure=_):=hp;clear hp ht;go_wp2_with (refine ec _ _ q2.cells S.I.an ?_);refine gZ results190 S.I.an ?_;exact i8):P:=h
def ZbE (h:P:=by clear hf;have Mb:=bB (n:=n) 3 S.I.fr.own S.I.low HR.I.1 HR.I.2.1 (by rw [HR.I.2.2.1]; decide);go_wp2_with (refine eT _ S.I.fr.box ?_);exact ir):P:=h
def ZbF (h:P:=by have Mb:=bB (n:=n) 3 S.I.fr.own S.I.low HR.I.1 HR.I.2.1 (by rw [HR.I.2.2.1]; decide);exact gz):P:=h
def ZbG (h:P:=by have HE:bN (lX bj x.toaD (1,N,M,s) q.pure=bu 0 x.id q.pure):=IC.I.trans (if_pos h1);have Mb:=bB (n:=n) 0 S.I.1.own (by have:=S.I.1.sz; omega) HR.I.1 HR.I.2.1 (by rw [HR.I.2.2.1]; decide);clear h1 hv IC HL;go_wp2_with (refine eT _ S.I.1.box ?_);exact ba):P:=h
def ZbH (h:P:=by
 iterate 10 (refine nl ?_; simp only [pt,sb,s0,s1])
 iterate 2 (refine yl (v:= ?_) ?_ ?_; rotate_left; (intro w0 hS0; obtain ⟨q3,g1,g2,g3,g4,g5,g6⟩:=HR.I _ w0 hS0; go_simp; try with_reducible rfl); simp only [pt,sb,s0,s1])
 exact no):P:=h
def ZbI (h:P:=by
 intro w0 hS0
 obtain ⟨⟨q0,q1,q2⟩,hH⟩:=hS0
 exact ww):P:=h
def ZbJ (h:P:=by
 have HN:bN (cB p.pure { p.pure with ae:=bY (·.id) (⟨id,Me,[]⟩:ci) p.pure.ae } =n_):=jh hok
 clear hok;go_wp2_with (refine ec _ _ ar HZ.I.2.1 ?_);refine mG results90 (b_ false) HZ.I.2.1 ?_;exact TZ):P:=h
def ZbK (h:P:=by
 have HN:bN (cB p.pure { p.pure with L8:=bY (·.id) (newP id RX ops) p.pure.L8 } =n_):=jh hok
 clear hok;go_wp2_with (refine ec _ _ ar HZ.I.2.1 ?_);refine mG results92 (b_ false) HZ.I.2.1 ?_;exact TZ):P:=h
def ZbL (h:P:=by
 obtain ⟨q0,nu,hqe⟩:=hnew
 have hw2:=(cf ho nu).2;refine h.pR.up 0 (fun j hj=>by rcases j with _ | _ | _ | _ | _ <;> first | rfl | exact absurd rfl hj) (fun q hq'=> ?_) zw hsz;exact rt):P:=h
def ZbM (h:P:=by
 obtain ⟨q0,nu,hqe⟩:=hnew
 have hw2:=(cf ho nu).2;refine h.pR.up 1 (fun j hj=>by rcases j with _ | _ | _ | _ | _ <;> first | rfl | exact absurd rfl hj) (fun q hq'=> ?_) zw hsz;exact rt):P:=h
def ZbN (h:P:=by
 clear hA;go_wp2_with fail;refine aT (fun w'=>w'=w5.drew) (by kernel_rfl) rfl ?_
 iterate 6 (refine agj ?_)
 iterate 9 (refine nl ?_; simp only [pt,sb,s0,s1])
 iterate 2 (refine agj ?_)
 exact wl):P:=h
def ZbO (h:P:=by
 intro w0 hS0
 obtain ⟨⟨⟨⟨q0,q1,q2,q3,q4,q5,q6,q7⟩,⟨x0,x1,x2,x3,x4,x5,x6,x7,x8,x9,x10,Dm⟩,hpre⟩,hH⟩,hH2⟩:=hS0; unfold rk at hpre
 exact ww):P:=h
def ZbP (h:P:=by
 iterate 20 (refine ty (o_ _) rfl rfl (by kernel_rfl) (fun _ _ _ h=>h) (np (by kernel_rfl)) ?_; simp only [pt,sb,s0,s1])
 (refine agj ?_)
 exact E_):P:=h
def ZbQ (h:P:=by
 clear hA hB;go_wp2_with fail;refine aT (fun w'=>w'=w5.drew) (by kernel_rfl) rfl ?_
 iterate 17 (refine agj ?_)
 exact wl):P:=h
def ZbR (h:P:=by have h5:=h.kW;rw [P8] at h5;obtain ⟨i,hi1,rfl⟩:=LK.1 hy;obtain ⟨j,DS,rfl⟩:=LK.1 hx;exact X_):P:=h
def ZbS (h:P:=by
 have HV:bN (bh p.pure x.toaD=false):=by show bh _ _=false; rw [HE.I]; simp [HSF.I]
 exact l_):P:=h
def ZbT (h:P:=by
 have HV:bN (bh p.pure x.toaD=false):=by show bh _ _=false; rw [HE.I]; simp [hz]
 exact l_):P:=h
def ZbU (h:P:=by rw [HQ.I.1,HQ.I.2.1] at Mb;go_wp2_with (refine eT _ S.I.fr.box ?_);exact ir):P:=h
def ZbV (h:P:=by clear hf hfm;have Mb:=bB (n:=n) 3 S.I.fr.own S.I.low HR.I.1 HR.I.2.1 (by rw [HR.I.2.2.1]; decide);go_wp2_with (refine eT _ S.I.fr.box ?_);exact Zbz):P:=h
def ZbW (h:P:=by clear hf hfm;have Mb:=bB (n:=n) 3 S.I.fr.own S.I.low HR.I.1 HR.I.2.1 (by rw [HR.I.2.2.1]; decide);exact Zby):P:=h
def ZbX (h:P:=by clear h0;have Mb:=bB (n:=n) 1 S.I.fr.own S.I.low HR.I.1 HR.I.2.1 (by rw [HR.I.2.2.1]; decide);exact Zby):P:=h
def ZbY (h:P:=by kernel_rfl):P:=h
def ZbZ (h:P:=by simp; omega):P:=h
def Zb0 (h:P:=by simp only [Kg,Lq]; simp [dd hy hk]):P:=h
def Zb1 (h:P:=by simp [af.Mc,hg]):P:=h
def Zb2 (h:P:=by simp [bR]):P:=h
def Zb3 (h:P:=by have:=S.I.1.sz; omega):P:=h
def Zb4 (h:P:=by have:=HF.I; omega):P:=h
def Zb5 (h:P:=by rw [show x2.Md=x.Md from congrArg aD.Md sw,HR.I.2.2.1]; decide):P:=h
def Zb6 (h:P:=by rw [HR.I.2.2.1]; decide):P:=h
def Zb7 (h:P:=by have:=(HZ.I.2.2.1.lt g hg).1; omega):P:=h
def Zb8 (h:P:=by have:=h.size; omega):P:=h
def Zb9 (h:P:=by unfold maxLen; omega):P:=h
def Zca (h:P:=by have:=hpb g hg; omega):P:=h
def Zcb (h:P:=by show ¬ x.Md=0; rw [HR.I.2.2.1]; decide):P:=h
def Zcc (h:P:=by have:=nW g hg; omega):P:=h
def Zcd (h:P:=by show _ < _; rw [hk0,lx]; have:=bz.1 (lN.I.trans e); omega):P:=h
def Zce (h:P:=by simpa [four,bM] using hq):P:=h
def Zcf (h:P:=by rw [uZ]; simp [hg]):P:=h
def Zcg (h:P:=by rw [HW.I.2.2]; decide):P:=h
def Zch (h:P:=by simp [hx]):P:=h
def Zci (h:P:=by assumption):P:=h
def Zcj (h:P:=by simp [four,e]):P:=h
def Zck (h:P:=by subst hd; simpa [four,bM] using hq):P:=h
def Zcl (h:P:=by have:=of_decide_eq_false h; omega):P:=h
def Zcm (h:P:=by simpa [four,bM] using hb):P:=h
def Zcn (h:P:=by show p.next<=gf p.next y/\gf p.next y<=p.next+7; omega):P:=h
def Zco (h:P:=by show (W.setCell _ _).ownsRow _ _ _ (s_ _ (List.set _ _ _).length _) (List.set _ _ _).length _; rw [LI]; exact h1):P:=h
def Zcp (h:P:=by rw [hp]; exact iR):P:=h
def Zcq (h:P:=by rw [KC e]; simp [four,bM]):P:=h
def Zcr (h:P:=by have:=HR.I.2.2.2.1; omega):P:=h
def Zcs (h:P:=by have:=h.kept.size; omega):P:=h
def Zct (h:P:=by simp [hg]):P:=h
def Zcu (h:P:=by rw [<- HW.I]; exact HA.I.1.box):P:=h
def Zcv (h:P:=by rw [hbs]; simp only [Kg]; exact .inr (.inl hA)):P:=h
def Zcw (h:P:=by apply vN; intro _; rfl):P:=h
def Zcx (h:P:=by have:=DM.I; omega):P:=h
def Zcy (h:P:=by simp [Value.oneCell']):P:=h
def Zcz (h:P:=by rw [ha]; exact h):P:=h
def ZcA (h:P:=by have:=(h.own.lt hm).1; omega):P:=h
def ZcB (h:P:=by rw [ha]; simp [blk]):P:=h
def ZcC (h:P:=by rw [KB.1 hy] at e; rw [<- e]; exact hx):P:=h
def ZcD (h:P:=by show (p.1.ak).map (·.block)=o_ g; rw [show p.1.ak=o_ ⟨g,0,n_⟩ from e]; rfl):P:=h
def ZcE (h:P:=by simp <;> omega):P:=h
def ZcF (h:P:=by simp [four]):P:=h
def ZcG (h:P:=by simp [hy]):P:=h
def ZcH (h:P:=by rw [uZ]; simp only [Kg]; exact .inl (.inr (.inl (dP.2 ⟨z,hz,hg⟩)))):P:=h
def ZcI (h:P:=by have:=h.cd.size; omega):P:=h
def ZcJ (h:P:=by simpa [Value.ownBlock] using hbl):P:=h
def ZcK (h:P:=by have h5:=Kj (V2.alloc (c_ #[] 9)) (c_ #[t_ s] 9); simpa using h5):P:=h
def ZcL (h:P:=by simp [four,bM]):P:=h
def ZcM (h:P:=by rw [mI]; exact cR H8.I.2.1 hbd):P:=h
def ZcN (h:P:=by rw [HO.I]; simp_all):P:=h
def ZcO (h:P:=by unfold pJ at h1; unfold mF at h2; unfold isText at h3; omega):P:=h
def ZcP (h:P:=by rw [hkl]; show k+1<=_; omega):P:=h
def ZcQ (h:P:=by rw [hkl]; show 0+k<=_; omega):P:=h
def ZcR (h:P:=by rw [e1]; simp only [Kg]; exact .inr (.inl ((hkx g).1 hx))):P:=h
def ZcS (h:P:=by show w.heap.size < _; omega):P:=h
def ZcT (h:P:=by simp [blk]; omega):P:=h
def ZcU (h:P:=by rw [hl]; exact ho):P:=h
def ZcV (h:P:=by have:=HX.I; omega):P:=h
def ZcW (h:P:=by simp only [Kg]; exact .inr (.inl (dP.2 ⟨z,hz,hg⟩))):P:=h
def ZcX (h:P:=by simp [hz]):P:=h
def ZcY (h:P:=by show (q.ag.set m _)[m]? =_; rw [LU (Lj.1 HM.I.1).1]):P:=h
def ZcZ (h:P:=by simpa [four,bM] using hg):P:=h
def Zc0 (h:P:=by simpa [four,bM] using ha):P:=h
def Zc1 (h:P:=by have:=(Lj.1 hx).1; omega):P:=h
def Zc2 (h:P:=by show (q.L8.set n _)[n]? =_; rw [LU HR.I.2.2.2.1]):P:=h
end Go.Proofs.YtckenjkcmajicaaGreat
