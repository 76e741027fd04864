/- What the proof leans on, part 44. -/
import Derived.Test.YtkbcplnlehdjfaaGreatOwnP29
import Derived.Test.YtkbcplnlehdjfaaGreatOwnP32
import Derived.Test.YtkbcplnlehdjfaaGreatOwnP35
import Derived.Test.YtkbcplnlehdjfaaGreatOwnP43
import Derived.Deep.CutRange
set_option maxRecDepth 100000
set_option maxHeartbeats 8000000
open Array renaming getElem?_eq_some_iff->J2
open Bool renaming and_eq_true->J7
open Go renaming heap_alloc_new->Kj,setRow_heap->KU,setRow_other->KH,wpAnyH_done->K3,wpAnyH_ready->KW,wp_at_succ->Kd,wp_at_zero->Kc,wp_load_row->LX,wp_region_held_drew->Kr,wp_store_row->LY
open Go.AllReadyH renaming cons->KX,nil->KY
open Go.IntKind renaming wrap_i64->K8
open Go.Proofs.Tryz renaming prog->J3,results160->Qa,underlying32->KV
open Go.RowKit.Below renaming refl->Kp
open List renaming getElem_cons_succ->K1,getElem_cons_zero->K0,getElem_toArray->KZ,mem_map->Lr,mem_or_eq_of_mem_set->PO
open Nat renaming le_refl->Ki,zero_le->Ky

namespace Go.Proofs.YtkbcplnlehdjfaaGreat
section
open Go.RowKit Go.Maps
attribute [local go_sem ↓] Kc Kd
theorem zx (p:af) (now:Int) (w:World) (hf:p.Fit) (hs: ∀ x∈p.L8,x.dX) (h:af.At w p) (hr:aQ p.pure) (hn:p.next≤999999980) (eu:0≤now∧now≤1000000000):
  Calls J3 204 #[.agg p.cells,.int .i64 now] w fun e w'=> ∃ q:af,e= .returned (.agg q.cells)∧q.pure=mS now p.pure∧ap w' w.heap.size q∧Below w.heap.size w w':=by
 have b1:=dT w (.cells p.cells 32) (.cells ar 32);have h2:=cZ w (.cells p.cells 32) (.cells ar 32);have hA:af.At ((w.alloc (.cells p.cells 32)).alloc (.cells ar 32)) p:=h.below b1;have S:Hid (av ((w.alloc (.cells p.cells 32)).alloc (.cells ar 32)) w.heap.size p∧Below w.heap.size w ((w.alloc (.cells p.cells 32)).alloc (.cells ar 32))∧((w.alloc (.cells p.cells 32)).alloc (.cells ar 32)).heap[w.heap.size+1]? =some (.cells ar 32 (0,0))):=⟨h2.1,b1,h2.2⟩
 have HR:Hid (aQ p.pure∧p.next≤999999980∧(0≤now∧now≤1000000000)∧p.Fit∧(∀ x∈p.L8,x.dX)):=⟨hr,hn,eu,hf,hs⟩
 have Mb:=fR p _ hf hs hA;clear h b1 h2 hA hr hn eu hf hs
 go_enter Tryz.func204,Tryz.ntmps204
 go_upto_region 1 with fail;generalize (w.alloc (.cells p.cells 32)).alloc (.cells ar 32)=A at *;go_wp2_with (refine eT 2 S.I.1 ?_);refine Mb.mono ?_;clear Mb;rintro e A1 ⟨q,rfl,hown,gn,hb1⟩;have hsz:=(J2.1 S.I.2.2).1;replace S:Hid (Below w.heap.size w A1∧A1.heap[w.heap.size+1]? =some (.cells ar 32 (0,0))∧w.heap.size+1 < A.heap.size∧A.heap.size≤A1.heap.size):=⟨S.I.2.1.trans (hb1.mono S.I.2.1.size),(hb1.block _ hsz).trans S.I.2.2,hsz,hb1.size⟩
 have Pv: ∀ x∈q.L8,x.prog.length≤1048576:=fun x hx=>by
  have h5:x.toaD∈p.pure.L8:=by rw [← gn]; exact Lr.2 ⟨x,hx,rfl⟩
  obtain ⟨y,hy,e⟩:=Lr.1 h5;have h6:=(HR.I.2.2.2.2 y hy).1;have h7:y.prog=x.prog:=congrArg aD.prog e;rw [← h7]; exact h6
 have Mb:=ti q now A.heap.size A1 hown hb1.size (by rw [gn]; exact Wk.of HR.I.1 HR.I.2.1) Pv;rw [gn] at Mb;clear hsz hown gn hb1 Pv;go_wp2_with fail;refine Mb.mono ?_;clear Mb;rintro e A2 ⟨q2,rfl,hp2,DU,hb2⟩;have h5:=(Kp A2.heap.size A2).alloc (Ki _) (.cells q2.cells 32);replace S:Hid (Below w.heap.size w A2∧A2.heap[w.heap.size+1]? =some (.cells ar 32 (0,0))∧w.heap.size+1 < A.heap.size∧ap A2 A.heap.size q2∧q2.pure=gj now p.pure∧A.heap.size≤A2.heap.size):=⟨S.I.1.trans (hb2.mono (by have:=S.I.2.2.1; omega)),(hb2.block _ S.I.2.2.1).trans S.I.2.1,S.I.2.2.1,DU,hp2,Nat.le_trans S.I.2.2.2 hb2.size⟩
 clear hp2 DU hb2 h5;go_upto_region 2 with (refine ec 5 10 q2.cells (Kj _ _) ?_);have lW:Below A2.heap.size A2 ((A2.alloc (.cells ar 32)).setRow A2.heap.size q2.cells):=below_setRow ((Kp _ _).alloc (Ki _) _) (Ki _) _;replace S:Hid (Below w.heap.size w ((A2.alloc (.cells ar 32)).setRow A2.heap.size q2.cells)∧((A2.alloc (.cells ar 32)).setRow A2.heap.size q2.cells).heap[w.heap.size+1]? =some (.cells ar 32 (0,0))∧w.heap.size+1 < A.heap.size∧ap ((A2.alloc (.cells ar 32)).setRow A2.heap.size q2.cells) A.heap.size q2∧q2.pure=gj now p.pure∧av ((A2.alloc (.cells ar 32)).setRow A2.heap.size q2.cells) A2.heap.size q2∧A.heap.size≤A2.heap.size∧A2.heap.size < ((A2.alloc (.cells ar 32)).setRow A2.heap.size q2.cells).heap.size∧(∀ g∈q2.Mc,g < A2.heap.size)):=⟨S.I.1.trans (lW.mono S.I.1.size),(lW.block _ (by have:=S.I.2.2; omega)).trans S.I.2.1,S.I.2.2.1,S.I.2.2.2.1.below lW,S.I.2.2.2.2.1,KU _ _ _ _ _ _ (Kj _ _),S.I.2.2.2.2.2,by simp,fun g hg=>(S.I.2.2.2.1.lt g hg).2⟩
 clear lW;generalize (A2.alloc (.cells ar 32)).setRow A2.heap.size q2.cells=B at *;generalize A2.heap.size=X at *;have HW:=aA (ru (now:=now) HR.I.1 (by have h5:=HR.I.2.1; have e:p.pure.next=p.next:=rfl; omega));have HWR:Hid (aQ q2.pure):=by show aQ q2.pure; rw [S.I.2.2.2.2.1]; exact HW.I.1
 have Mb:=ij q2 1 0 B (by have:=(dW HWR.I).1; omega) S.I.2.2.2.1.at;go_wp2_with (refine eT 5 S.I.2.2.2.2.2.1 ?_);refine Mb.mono ?_;clear Mb;rintro e B2 ⟨⟨z,rfl,gV⟩,hb2⟩;replace S:Hid (Below w.heap.size w B2∧B2.heap[w.heap.size+1]? =some (.cells ar 32 (0,0))∧w.heap.size+1 < A.heap.size∧ap B2 A.heap.size q2∧q2.pure=gj now p.pure∧av B2 X q2∧A.heap.size≤X∧X < B2.heap.size∧(∀ g∈q2.Mc,g < X)):=⟨S.I.1.trans (hb2.mono S.I.1.size),(hb2.block _ (by have:=S.I.2.2; omega)).trans S.I.2.1,S.I.2.2.1,S.I.2.2.2.1.below hb2,S.I.2.2.2.2.1,S.I.2.2.2.2.2.1.below hb2,S.I.2.2.2.2.2.2.1,by have:=hb2.size; have:=S.I.2.2.2.2.2.2.2.1; omega,S.I.2.2.2.2.2.2.2.2⟩
 clear hb2;rcases pp gV with ⟨hz,hw⟩ | ⟨i,v,hz,hi,hw⟩
 ·have dz:decide (z < 0)=true:=decide_eq_true hz
  have HE:Hid (q2.pure=mS now p.pure):=by show q2.pure=_; unfold mS; rw [← S.I.2.2.2.2.1,hw]
  clear gV hz hw;go_wp2_with (first | (refine eT 5 S.I.2.2.2.2.2.1 ?_) | (refine ec 4 15 q2.cells S.I.2.1 ?_));refine gZ Tryz.results204 S.I.2.1 ?_;exact ⟨q2,rfl,HE.I,(S.I.2.2.2.1.lower (by have:=S.I.2.2.1; omega)).same fun g hg=>KH _ _ _ _ (by have:=(S.I.2.2.2.1.lt g hg).1; have:=S.I.2.2.1; omega),below_setRow S.I.1 (by omega) _⟩
 subst hz;have dz:decide ((i:Int) < 0)=false:=decide_eq_false (by omega);have hm:=ft hw;have HE:Hid (lX now v.toaD (opAt v.toaD) q2.pure=mS now p.pure):=by show lX now v.toaD (opAt v.toaD) q2.pure=_; unfold mS; rw [← S.I.2.2.2.2.1,hw]
 have Mb:=G6 q2 i A.heap.size v now B2 S.I.2.2.2.1 (by have:=S.I.2.2.2.2.2.2; omega) HWR.I hi hm.2.1 (by have h5:=HW.I.2.2; have h6:q2.next=(gj now p.pure).next:=congrArg aE.next S.I.2.2.2.2.1; have h7:=HR.I.2.1; have e:p.pure.next=p.next:=rfl; omega) HR.I.2.2.1;rw [HE.I] at Mb;clear gV hi hw hm;go_wp2_with (refine eT 5 S.I.2.2.2.2.2.1 ?_);refine Mb.mono ?_;clear Mb dz;rintro e B3 ⟨q3,rfl,wu,ht⟩;have S3:Hid (Below w.heap.size w B3∧B3.heap[w.heap.size+1]? =some (.cells ar 32 (0,0))∧ap B3 A.heap.size q3∧q3.pure=mS now p.pure∧w.heap.size+1 < A.heap.size):=by
  have hlt:=S.I.2.2.1;have hbb:=S.I.2.2.2.2.2.2;have hlo: ∀ g∈q2.Mc,A.heap.size≤g:=fun g hg=>(S.I.2.2.2.1.lt g hg).1
  exact ⟨S.I.1.trans ((ht.kept.below (by omega) hlo).mono (by omega)),(ht.kept.same _ (by omega) (fun hm=>by have:=hlo _ hm; omega)).trans S.I.2.1,ht.own,wu,hlt⟩
 clear wu ht S;go_wp2_with (refine ec 4 19 q3.cells S3.I.2.1 ?_);refine gZ Tryz.results204 S3.I.2.1 ?_;exact ⟨q3,rfl,S3.I.2.2.2.1,(S3.I.2.2.1.lower (by have:=S3.I.2.2.2.2; omega)).same fun g hg=>KH _ _ _ _ (by have:=(S3.I.2.2.1.lt g hg).1; have:=S3.I.2.2.2.2; omega),below_setRow S3.I.1 (by omega) _⟩
theorem vu (p:af) (now:Int) (w:World) (hf:p.Fit) (hs: ∀ x∈p.L8,x.dX) (h:af.At w p):
  Calls J3 160 #[.agg p.cells,.int .i64 now] w fun e w'=>gI w (hZ p.pure now) e w':=by
 have b1:=dT w (.cells p.cells 32) (.cells ar 32);have h2:=cZ w (.cells p.cells 32) (.cells ar 32);have S:Hid (av ((w.alloc (.cells p.cells 32)).alloc (.cells ar 32)) w.heap.size p∧af.At ((w.alloc (.cells p.cells 32)).alloc (.cells ar 32)) p∧Below w.heap.size w ((w.alloc (.cells p.cells 32)).alloc (.cells ar 32))∧((w.alloc (.cells p.cells 32)).alloc (.cells ar 32)).heap[w.heap.size+1]? =some (.cells ar 32 (0,0))):=⟨h2.1,h.below b1,b1,h2.2⟩
 have fl:Hid (p.Fit∧ ∀ x∈p.L8,x.dX):=⟨hf,hs⟩
 clear h hf hs b1 h2
 go_enter Tryz.func160,Tryz.ntmps160
 go_upto_region 1 with fail;generalize (w.alloc (.cells p.cells 32)).alloc (.cells ar 32)=A at *;have Mb:=eV p A fl.I.1 fl.I.2 S.I.2.1;go_wp2_with (refine eT 2 S.I.1 ?_);refine Mb.mono ?_;clear Mb;rintro e A1 ⟨rfl,hb⟩;replace S:Hid (av (A1) w.heap.size p∧af.At (A1) p∧Below w.heap.size w (A1)∧(A1).heap[w.heap.size+1]? =some (.cells ar 32 (0,0))):=⟨S.I.1.below hb,S.I.2.1.below hb,S.I.2.2.1.trans (hb.mono S.I.2.2.1.size),(hb.block _ (J2.1 S.I.2.2.2).1).trans S.I.2.2.2⟩
 clear hb;cases h4:bK p.pure
 ·have HN:Hid (hZ p.pure now=none):=by show hZ _ _=none; simp [hZ,h4]
  clear h4;go_wp2_with (refine ec 4 19 ar S.I.2.2.2 ?_);refine mG Qa (.bool false) S.I.2.2.2 ?_;exact ca HN.I (below_setRow S.I.2.2.1 (by omega) _)
 have H4:Hid (bK p.pure=true):=h4;clear h4;have Mb:=dx now 0 1000000000 A1;go_wp2_with fail;refine Mb.mono ?_;clear Mb;rintro e A2 ⟨rfl,rfl⟩;cases h5:cv now 0 1000000000
 ·have HN:Hid (hZ p.pure now=none):=by show hZ _ _=none; simp [hZ,h5]
  clear h5;go_wp2_with (refine ec 4 19 ar S.I.2.2.2 ?_);refine mG Qa (.bool false) S.I.2.2.2 ?_;exact ca HN.I (below_setRow S.I.2.2.1 (by omega) _)
 have H5:Hid (cv now 0 1000000000=true):=h5;clear h5;have Mb:=uy p A2;unfold af.cells at Mb;obtain ⟨m0,m1,m2,m3,m4,m5,m6,m7⟩:=S.I.1.cells;go_wp2_with fail;clear m0 m1 m2 m3 m4 m5 m6 m7;refine Mb.mono ?_;clear Mb;rintro e A3 ⟨rfl,hb⟩;replace S:Hid (av (A3) w.heap.size p∧af.At (A3) p∧Below w.heap.size w (A3)∧(A3).heap[w.heap.size+1]? =some (.cells ar 32 (0,0))):=⟨S.I.1.below hb,S.I.2.1.below hb,S.I.2.2.1.trans (hb.mono S.I.2.2.1.size),(hb.block _ (J2.1 S.I.2.2.2).1).trans S.I.2.2.2⟩
 clear hb;by_cases h6:p.next≤999999980;rotate_left
 ·have HN:Hid (hZ p.pure now=none):=by show hZ _ _=none; have h7:decide (p.pure.next≤999999980)=false:=decide_eq_false h6; simp only [hZ,h7,Bool.and_false]; rfl
  have d6:decide (p.next≤999999980)=false:=decide_eq_false h6;clear h6;go_wp2_with (refine ec 4 19 ar S.I.2.2.2 ?_);refine mG Qa (.bool false) S.I.2.2.2 ?_;exact ca HN.I (below_setRow S.I.2.2.1 (by omega) _)
 have HN:Hid (hZ p.pure now=some (mS now p.pure)):=by show hZ _ _=some _; have h7:decide (p.pure.next≤999999980)=true:=decide_eq_true h6; simp only [hZ,H4.I,H5.I,h7,Bool.and_true]; rfl
 have d6:decide (p.next≤999999980)=true:=decide_eq_true h6;have Mb:=zx p now A3 fl.I.1 fl.I.2 S.I.2.1 ((ch _).1 H4.I) h6 (bz.1 H5.I);clear h6;go_wp2_with (refine eT 2 S.I.1 ?_);refine Mb.mono ?_;clear Mb d6;rintro e A4 ⟨q,rfl,hp,ho,hb⟩;have hlt:=(J2.1 S.I.2.2.2).1;have S3:Hid (Below w.heap.size w A4∧A4.heap[w.heap.size+1]? =some (.cells ar 32 (0,0))∧ap A4 A3.heap.size q∧q.pure=mS now p.pure∧w.heap.size+1 < A3.heap.size):=⟨S.I.2.2.1.trans (hb.mono S.I.2.2.1.size),(hb.block _ hlt).trans S.I.2.2.2,ho,hp,hlt⟩
 clear hp ho hb hlt S;go_wp2_with (refine ec 4 22 q.cells S3.I.2.1 ?_);refine mG Qa (.bool true) S3.I.2.1 ?_;rw [HN.I];exact ⟨q,rfl,(S3.I.2.2.1.lower (by have:=S3.I.2.2.2.2; omega)).same fun g hg=>KH _ _ _ _ (by have:=(S3.I.2.2.1.lt g hg).1; have:=S3.I.2.2.2.2; omega),S3.I.2.2.2.1,below_setRow S3.I.1 (by omega) _⟩
end
section
open Go.RowKit
theorem kv {s:ByteArray} (h:bw s=true):s.size≤1048576:=by
 unfold bw at h;simp only [J7,decide_eq_true_eq] at h;omega
theorem ta {p:aE} (h:aQ p):p.Small:=by
 have hid: ∀ {α:Type} {num:α→Int} {ok:α→Bool} {last:Int} {l:List α},aw num ok last l=true→ ∀ x∈l,(Lit.int .i64 (num x)).wf=true∧ok x=true:=fun hl x hx=>by
  obtain ⟨h1,h2⟩:=cK hl x hx
  have:=bz.1 h1
  exact ⟨pT (by omega) (by omega),h2⟩
 have hwf: ∀ {α:Type} {num:α→Int} {ok:α→Bool} {last k:Int} {l:List α},aw num ok last l=true→decide (k∈l.map num)=true→(Lit.int .i64 k).wf=true:=fun hl hk=>by
  obtain ⟨x,hx,rfl⟩:=Lr.1 (of_decide_eq_true hk);exact (hid hl x hx).1
 refine ⟨by have:=h.dl; omega,by have:=h.fx; omega,by have:=h.cD; omega,by have:=h.cC; omega,by have:=h.cb; omega,by have:=h.dH; omega,fun x hx=> ?_,fun x hx=>(hid h.aj x hx).1,fun x hx=>(hid h.L9 x hx).1,fun x hx=> ?_,fun x hx=> ?_,fun x hx=> ?_⟩
 ·obtain ⟨k0,k1,k2,k3⟩:=h.proc hx
  have hb:=iF k1;unfold jY at hb;simp only [J7] at hb;have hl:=lK hb.1.1.1.2;have hi:=bz.1 k0;have hnx:=bz.1 h.next;refine ⟨⟨by omega,fun o ho=> ?_,kv hb.1.1.2,kv hb.1.2⟩,pT (by omega) (by omega),?_,?_⟩
  ·obtain ⟨i,hi1,hi2⟩:=List.mem_iff_getElem.1 ho
   exact kv (dv (yG hb.1.1.1.2 (i:=i) (by rw [List.getElem?_eq_getElem hi1,hi2]))).2.2.2.1
  ·unfold dG at k3
   by_cases h3:3≤x.Md
   ·rw [if_pos h3] at k3
    unfold hasB at k3
    split at k3
    ·exact hwf h.aj k3
    ·split at k3
     ·exact hwf h.L9 k3
     ·split at k3
      ·exact hwf h.ae k3
      ·split at k3
       ·exact hwf h.ag k3
       ·cases k3
   ·rw [fG,J7] at k1
    have k4:=k1.2;unfold bO at k4;have h0:x.on=0:=by
     split at k4
     ·simp only [J7,decide_eq_true_eq] at k4; exact k4.1.1.2
     ·split at k4
      ·simp only [J7,decide_eq_true_eq] at k4; exact k4.1.2
      ·split at k4
       ·simp only [J7,decide_eq_true_eq] at k4; exact k4.1.2
       ·split at k4
        ·omega
        ·split at k4
         ·omega
         ·cases k4
    rw [h0]; rfl
  ·by_cases h0:x.Md=0
   ·rw [kx k1 h0]; rfl
   ·unfold fF at k2
    simp only [Bool.or_eq_true,decide_eq_true_eq,h0,false_or] at k2
    have:=bz.1 k2
    exact pT (by omega) (by omega)
 ·obtain ⟨k1,k2⟩:=hid h.ag x hx
  unfold cU at k2;simp only [J7] at k2;exact ⟨k1,kv k2.1⟩
 ·obtain ⟨k1,k2⟩:=hid h.ae x hx
  unfold ct at k2;simp only [J7] at k2;have k3:=lv.1 k2.2;have k4:=bz.1 k2.1;exact ⟨k1,by omega,fun s hs=>kv (k3.2 s hs)⟩
 ·obtain ⟨k1,k2⟩:=hid h.ai x hx
  unfold dj at k2;simp only [J7] at k2;have k3:=lv.1 k2.2;have k4:=bz.1 k2.1.1;exact ⟨k1,by omega,fun s hs=>kv (k3.2 s hs)⟩
theorem iR {p p':aE} :((cB p p').getD cN).Small:=by
 unfold cB
 split
 ·rename_i h
  simp only [J7] at h;exact ta ((ch _).1 h.2)
 ·exact hY
theorem za {p:aE} {now:Int} :((hZ p now).getD cN).Small:=by
 unfold hZ
 split
 ·rename_i h
  simp only [J7,decide_eq_true_eq] at h;exact ta (DA ((ch _).1 h.1.1) h.2 (bz.1 h.1.2)).1
 ·exact hY
theorem Qy {p p':aE} {q:af} {M:Int} (h:q.pure=(cB p p').getD cN) (hm:0≤M∧p'.next≤M):0≤M∧q.next≤M:=by
 have e:q.next=((cB p p').getD cN).next:=congrArg aE.next h;refine ⟨hm.1,?_⟩;rw [e];unfold cB
 split
 ·exact hm.2
 ·exact hm.1
theorem Sk {p:aE} {q:af} {M now:Int} (h:q.pure=(hZ p now).getD cN) (hm:0≤M∧p.next≤M):0≤M+13∧q.next≤M+13:=by
 have e:q.next=((hZ p now).getD cN).next:=congrArg aE.next h;refine ⟨by omega,?_⟩;rw [e];unfold hZ
 split
 ·rename_i h
  simp only [J7,decide_eq_true_eq] at h
  have:=(DA ((ch _).1 h.1.1) h.2 (bz.1 h.1.2)).2.2
  show (mS now p).next≤_
  omega
 ·show (0:Int)≤_
  omega
theorem Si {p:aE} {q:af} {M id:Int} (h:q.pure=(kD p id).getD cN) (hm:0≤M∧p.next≤M):0≤M+1∧q.next≤M+1:=by
 have e:q.next=((kD p id).getD cN).next:=congrArg aE.next h;refine ⟨by omega,?_⟩;rw [e];unfold kD hU
 repeat' split
 ·show p.next+1≤_
  omega
 all_goals show (0:Int)≤_; omega
theorem wZ {p:aE} {id:Int} (hp:p.Small):((kD p id).getD cN).Small:=by
 unfold kD;refine zJ hp fun h y _ hy=> ?_
 have h2:=IZ h;exact ⟨hy.1,hy.2.1,hy.2.2.1,h2⟩
theorem ap.S6 {W:World} {base:Nat} {q:af} (h:ap W base q) (id nx:Int):ap W base { q with id:=id,next:=nx } :=⟨h.L8,h.aj,h.L9,h.ag,h.ae,h.ai,h.eI,h.eE,h.eR,h.nodup⟩
theorem EV {id:Int} (_h:cv id 1 6=true):(⟨id,1,[],none,0,[],none,0,[],none,0,[],none,0,[],none,0,[],none,0⟩:af).pure.Small:=⟨Ky _,Ky _,Ky _,Ky _,Ky _,Ky _,(fun x hx=>by cases hx),(fun x hx=>by cases hx),(fun x hx=>by cases hx),(fun x hx=>by cases hx),(fun x hx=>by cases hx),(fun x hx=>by cases hx)⟩
theorem vP: ∀ os:List dN,gO os=fk.flat os
 | [] =>rfl
 | o :: os=>by
  show _=fk.vals o ++ fk.flat os
  rw [← vP os];rfl
theorem gG.setRow {r X:Nat} {w W:World} (h:gG r w W) (hX:w.heap.size≤X) (cs:Array Value):gG r w (W.setRow X cs):=
 ⟨h.os,h.tape,h.output,by simpa using h.size,fun k h1 h2=>(KH _ _ _ _ (by omega)).trans (h.block k h1 h2)⟩
structure Dw (M:Int) (r:Nat) (a:Option Addr) (len cap:Nat) (w:World) (X:Nat) (q:af) (W:World):Prop where
 rd:Rd r a len cap W
 st:Rd r a len cap w
 but:gG r w W
 own:ap W (w.heap.size+1) q
 nin:X∉q.Mc
 small:q.pure.Small
 low:0≤M∧q.next≤M
 box:av W X q
 mK:W.heap[w.heap.size]? =some (.cells ar 32 (0,0))
 hx:w.heap.size < X
section
variable {r len cap X:Nat} {a:Option Addr} {w W W2:World} {q q2:af} {M M2:Int}
theorem Dw.drawn (h:Dw M r a len cap w X q W) (hb:gG r W W2) (hr:Rd r a len cap W2):Dw M r a len cap w X q W2:=by
 have hl:=h.st.lt;have hx:=h.hx;exact ⟨hr,h.st,h.but.trans hb,h.own.same fun g hg=>hb.block g (h.own.lt g hg).2 (by have:=(h.own.lt g hg).1; omega),h.nin,h.small,h.low,(hb.block _ (av.lt h.box) (by omega)).trans h.box,(hb.block _ (J2.1 h.mK).1 (by omega)).trans h.mK,hx⟩
theorem Dw.up (h:Dw M r a len cap w X q W) (hm:M≤M2):Dw M2 r a len cap w X q W:=⟨h.rd,h.st,h.but,h.own,h.nin,h.small,⟨by have:=h.low; omega,by have:=h.low; omega⟩,h.box,h.mK,h.hx⟩
theorem Dw.reads (h:Dw M r a len cap w X q W) (hb:Below W.heap.size W W2):Dw M r a len cap w X q W2:=h.drawn (gG.dI hb) (h.rd.below hb)
theorem Dw.put (h:Dw M r a len cap w X q W) (hb:Below W.heap.size W W2) (ho:ap W2 W.heap.size q2) (hs:q2.pure.Small) (hn:0≤M2∧q2.next≤M2):Dw M2 r a len cap w X q2 (W2.setRow X q2.cells):=by
 have h1:=h.reads hb;have hx:=h.hx;have hl:=h.st.lt;have hXW:=av.lt h.box;have hrl:=h1.rd;refine ⟨⟨?_,h.st.2.but (h1.but.setRow (by omega) _)⟩,h.st,h1.but.setRow (by omega) _,(ho.lower (by omega)).same fun g hg=>KH _ _ _ _ (by have:=(ho.lt g hg).1; omega),fun hm=>by have:=(ho.lt X hm).1; omega,hs,hn,KU _ _ _ _ _ _ h1.box,(KH _ _ _ _ (by omega)).trans h1.mK,hx⟩;obtain ⟨p,hp,hc⟩:=hrl.1;exact ⟨p,hp,(KH _ _ _ _ (by omega)).trans hc⟩
theorem Dw.first (hr:Rd r a len cap W) (st:Rd r a len cap w) (hb:gG r w W) (ho:ap W (w.heap.size+1) q) (hs:q.pure.Small) (hn:0≤M∧q.next≤M) (ha:W.heap[w.heap.size]? =some (.cells ar 32 (0,0))):Dw M r a len cap w W.heap.size q ((W.alloc (.cells ar 32)).setRow W.heap.size q.cells):=by
 have hl:=(J2.1 ha).1;have h1:Below W.heap.size W ((W.alloc (.cells ar 32)).setRow W.heap.size q.cells):=below_setRow ((Kp _ _).alloc (Ki _) _) (Ki _) _;exact ⟨hr.below h1,st,hb.trans (gG.dI h1),ho.below h1,fun hm=>by have:=(ho.lt _ hm).2; omega,hs,hn,KU _ _ _ _ _ _ (Kj _ _),(h1.block _ hl).trans ha,hl⟩
theorem Dw.fin (h:Dw M r a len cap w X q W) {cs:Array Value} :ap (W.setRow w.heap.size cs) w.heap.size q∧q.pure.Small∧q.next≤M∧gG r w (W.setRow w.heap.size cs)∧Rd r a len cap (W.setRow w.heap.size cs):=by
 have hx:=h.hx;have hl:=h.st.lt;refine ⟨(h.own.lower (by omega)).same fun g hg=>KH _ _ _ _ (by have:=(h.own.lt g hg).1; omega),h.small,h.low.2,h.but.setRow (Ki _) _,?_,h.st.2.but (h.but.setRow (Ki _) _)⟩;obtain ⟨p,hp,hc⟩:=h.rd.1;exact ⟨p,hp,(KH _ _ _ _ (by omega)).trans hc⟩
theorem Dw.cell {x y:ao} {gs n j:Nat} {v:Value} (h:Dw M r a len cap w X q W) (hx:q.L8[n]? =some x) (ha:q.aN=some ⟨gs,0,none⟩) (hy:y.prog=x.prog∧y.aY=x.aY∧y.bH=x.bH) (hj:j < 12) (hv:bg.vals y=(bg.vals x).set j v) (hs:({ q with L8:=q.L8.set n y } :af).pure.Small):
  Dw M r a len cap w X ({ q with L8:=q.L8.set n y } :af) (W.setCell ⟨gs,n * 12+j,none⟩ v)∧(∃ u,W.cell? ⟨gs,n * 12+j,none⟩=some u)∧W.frozen? ⟨gs,n * 12+j,none⟩=false:=by
 obtain ⟨s1,h2⟩:=eY h.own hx ha hy hj hv;have hg:gs∈q.Mc:=tN ha;have hgl:=h.own.lt gs hg;have hl:=h.st.lt;have hb:gG r w (W.setCell ⟨gs,n * 12+j,none⟩ v):=⟨h.but.os,h.but.tape,h.but.output,by rw [ja]; exact h.but.size,fun k h5 h6=>(aH (by omega)).trans (h.but.block k h5 h6)⟩
 have hne:X≠gs:=fun e=>h.nin (e ▸ hg)
 have hbl:({ q with L8:=q.L8.set n y } :af).Mc=q.Mc:=nT (nx:=q.next) hx hy.2.1;refine ⟨⟨⟨?_,h.st.2.but hb⟩,h.st,hb,s1.own,by rw [hbl]; exact h.nin,hs,h.low,?_,(aH (by omega)).trans h.mK,h.hx⟩,h2⟩
 ·obtain ⟨p,hp,hc⟩:=h.rd.1
  exact ⟨p,hp,(aH (by omega)).trans hc⟩
 ·have h5:=(aH (i:=n * 12+j) (v:=v) hne).trans h.box
  unfold av at h5 ⊢;simpa only [List.length_set] using h5
theorem Ao {x:ao} {n:Nat} {v:Int} (h:q.pure.Small) (hx:q.L8[n]? =some x) (hv:(Lit.int .i64 v).wf=true):({ q with L8:=q.L8.set n { x with RU:=v } } :af).pure.Small:=by
 have hp:=h.L8 x.toaD (iu hx);refine ⟨by have h5:=h.dl; simpa [af.pure] using h5,h.fx,h.cD,h.cC,h.cb,h.dH,fun y hy=> ?_,h.aj,h.L9,h.ag,h.ae,h.ai⟩;obtain ⟨z,hz,rfl⟩:=Lr.1 hy;rcases PO hz with hz | rfl
 ·exact h.L8 z.toaD (Lr.2 ⟨z,hz,rfl⟩)
 ·exact ⟨hp.1,hp.2.1,hp.2.2.1,hv⟩
theorem Ax {x:ao} {n:Nat} {v:Int} (h:q.pure.Small) (hx:q.L8[n]? =some x):({ q with L8:=q.L8.set n { x with Md:=v } } :af).pure.Small:=by
 have hp:=h.L8 x.toaD (iu hx);refine ⟨by have h5:=h.dl; simpa [af.pure] using h5,h.fx,h.cD,h.cC,h.cb,h.dH,fun y hy=> ?_,h.aj,h.L9,h.ag,h.ae,h.ai⟩;obtain ⟨z,hz,rfl⟩:=Lr.1 hy;rcases PO hz with hz | rfl
 ·exact h.L8 z.toaD (Lr.2 ⟨z,hz,rfl⟩)
 ·exact ⟨hp.1,hp.2.1,hp.2.2.1,hp.2.2.2⟩
end
end
section
open Go.RowKit Go.Maps
attribute [local go_sem ↓] Kc Kd
theorem FL (r:Nat) (a:Option Addr) (len cap:Nat) (id:Int) (w:World) (hl:len≤1048576) (hid:cv id 1 6=true) (h:Rd r a len cap w):
  Calls J3 159 #[.pointer (some ⟨r,0,none⟩),.int .i64 id] w fun e w'=> ∃ q:af,e= .returned (.agg q.cells)∧ap w' w.heap.size q∧q.pure.Small∧q.next≤4∧gG r w w'∧Rd r a len cap w':=by
 have Mb:=tJ id (w.alloc (.cells ar 32));simp only [hid,if_true,mn] at Mb;have h5:=(Kp w.heap.size w).alloc (Ki _) (.cells ar 32);have S:Hid (Rd r a len cap w∧Below w.heap.size w (w.alloc (.cells ar 32))∧(w.alloc (.cells ar 32)).heap[w.heap.size]? =some (.cells ar 32 (0,0))∧w.heap.size < (w.alloc (.cells ar 32)).heap.size):=⟨h,h5,Kj _ _,by simp⟩
 clear h h5
 go_enter Tryz.func159,Tryz.ntmps159
 go_upto_region 1 with fail;generalize w.alloc (.cells ar 32)=A at *;go_wp2_with fail;refine Mb.mono ?_;clear Mb;rintro e A2 ⟨rfl,hb⟩;have hba:=(Kp A2.heap.size A2).alloc (Ki _) (.cells #[.int .i64 id,.int .i64 1,.slice none 0 0,.slice none 0 0,.slice none 0 0,.slice none 0 0,.slice none 0 0,.slice none 0 0] 32);have HD:Hid (Dw 1 r a len cap w A2.heap.size (⟨id,1,[],none,0,[],none,0,[],none,0,[],none,0,[],none,0,[],none,0⟩:af) (A2.alloc (.cells #[.int .i64 id,.int .i64 1,.slice none 0 0,.slice none 0 0,.slice none 0 0,.slice none 0 0,.slice none 0 0,.slice none 0 0] 32))):=by
  have hs:=hb.size;have h6:=S.I.2.1.trans ((hb.trans (hba.mono hs)).mono S.I.2.1.size);exact ⟨S.I.1.below h6,S.I.1,gG.dI h6,(Ai (A2.alloc (.cells #[.int .i64 id,.int .i64 1,.slice none 0 0,.slice none 0 0,.slice none 0 0,.slice none 0 0,.slice none 0 0,.slice none 0 0] 32)) _).S6 id 1,by simp [af.Mc,blk],EV hid,⟨by decide,(by decide:(1:Int)≤1)⟩,Kj _ _,((hb.trans (hba.mono hs)).block _ S.I.2.2.2).trans S.I.2.2.1,by have:=S.I.2.2.2; omega⟩
 clear hba hb S;go_upto_region 2 with fail;generalize A2.alloc (.cells #[.int .i64 id,.int .i64 1,.slice none 0 0,.slice none 0 0,.slice none 0 0,.slice none 0 0,.slice none 0 0,.slice none 0 0] 32)=B at *;generalize A2.heap.size=X at *;generalize nu:(⟨id,1,[],none,0,[],none,0,[],none,0,[],none,0,[],none,0,[],none,0⟩:af)=q0 at *;clear nu hid;go_wp2_with fail
 go_loopw [7] (fun i wr=> ∃ (k:Int) (q:af),i= .int .i64 k∧1≤k∧k≤3∧Hid (Dw 1 r a len cap w X q wr)) (fun i _=>(3 - Go.RowKit.intOf i).toNat)
 case atStart=>exact ⟨1,q0,rfl,by omega,by omega,HD⟩
 case round=>
  clear HD;obtain ⟨k,q,rfl,k0,k1,HD⟩:=hrel;have hwf:=pT (n:=k) (by omega) (by omega);have hwf2:=pT (n:=k+2) (by omega) (by omega);by_cases hk:k≤2
  ·skip
   go_upto_region 5 with fail
   go_cut [] from 18 to 30 (fun wx=> ∃ q2:af,Hid (Dw 1 r a len cap w X q2 wx))
   case first=>
    replace HD:=aA (HD.I.reads (Kp _ _).drew);refine Kr (S:=fun _=>True) (by kernel_rfl) trivial (fun _=> ?_);generalize World.drew _=V at *;refine tt 1 trivial ?_;refine tt 2 trivial ?_;refine tt 4 trivial ?_;refine KW (rs:= [0,3]) (by kernel_rfl) (by simp) ?_;refine KX rfl (fun K hK=> ?_) (KX rfl (fun K hK=> ?_) KY)
    focus
     simp only [KZ,K0];rw [if_pos (by rfl)];refine LX 32 (.tmp 5) rfl X rfl 32 q.cells (0,0) _ HD.I.box KV rfl (by kernel_rfl) ?_;refine hK.out _ _ trivial (fun _=> ?_);clear hK K
     try simp only [pt,sb,s0,s1]
     refine L7 3 (fun K hK=> ?_);go_wp2_with fail;refine (dh r a len cap 2 _ hl (by omega) (by omega) HD.I.rd).mono ?_;rintro e W1 ⟨u,ua,ub,rfl,hb1,hr1⟩;replace HD:=aA (HD.I.drawn hb1 hr1);clear hb1 hr1;refine hK.out _ _ trivial (fun _=> ?_);clear hK K
     try simp only [pt,sb,s0,s1]
     refine L7 5 (fun K hK=> ?_);go_wp2_with fail;refine (dh r a len cap 2 _ hl (by omega) (by omega) HD.I.rd).mono ?_;rintro e W2 ⟨v,va,vb,rfl,hb1,hr1⟩;replace HD:=aA (HD.I.drawn hb1 hr1);clear hb1 hr1;refine hK.out _ _ trivial (fun _=> ?_);clear hK K
     try simp only [pt,sb,s0,s1]
     refine tt 6 trivial ?_;refine tt 7 trivial ?_
    rotate_left
    focus
     simp only [KZ,K0,K1];rw [if_pos (by rfl)];go_wp2_with fail;refine (dh r a len cap 2 _ hl (by omega) (by omega) HD.I.rd).mono ?_;rintro e W1 ⟨u,ua,ub,rfl,hb1,hr1⟩;replace HD:=aA (HD.I.drawn hb1 hr1);clear hb1 hr1;refine hK.out _ _ trivial (fun _=> ?_);clear hK K
     try simp only [pt,sb,s0,s1]
     refine KW (rs:= [0,5]) (by kernel_rfl) (by simp) ?_;refine KX rfl (fun K hK=> ?_) (KX rfl (fun K hK=> ?_) KY)
     focus
      simp only [KZ,K0];rw [if_pos (by rfl)];refine LX 32 (.tmp 5) rfl X rfl 32 q.cells (0,0) _ HD.I.box KV rfl (by kernel_rfl) ?_;refine hK.out _ _ trivial (fun _=> ?_);clear hK K
      try simp only [pt,sb,s0,s1]
      refine L7 5 (fun K hK=> ?_);go_wp2_with fail;refine (dh r a len cap 2 _ hl (by omega) (by omega) HD.I.rd).mono ?_;rintro e W2 ⟨v,va,vb,rfl,hb1,hr1⟩;replace HD:=aA (HD.I.drawn hb1 hr1);clear hb1 hr1;refine hK.out _ _ trivial (fun _=> ?_);clear hK K
      try simp only [pt,sb,s0,s1]
      refine tt 6 trivial ?_;refine tt 7 trivial ?_
     rotate_left
     focus
      simp only [KZ,K0,K1];rw [if_pos (by rfl)];go_wp2_with fail;refine (dh r a len cap 2 _ hl (by omega) (by omega) HD.I.rd).mono ?_;rintro e W2 ⟨v,va,vb,rfl,hb1,hr1⟩;replace HD:=aA (HD.I.drawn hb1 hr1);clear hb1 hr1;refine hK.out _ _ trivial (fun _=> ?_);clear hK K
      try simp only [pt,sb,s0,s1]
      refine tt 6 trivial ?_;refine tt 7 trivial ?_;refine L7 0 (fun K hK=> ?_);refine LX 32 (.tmp 5) rfl X rfl 32 q.cells (0,0) _ HD.I.box KV rfl (by kernel_rfl) ?_;refine hK.out _ _ trivial (fun _=> ?_);clear hK K
      try simp only [pt,sb,s0,s1]
    all_goals
     refine L7 8 (fun K hK=> ?_);go_wp2_with fail;refine (tF q ⟨k,u,_⟩ W2 (w.heap.size+1) hwf HD.I.small HD.I.own).mono ?_;rintro e Wa ⟨q2,rfl,ho,hp,hb⟩;have HB:=aA ((HD.I.reads hb).box);replace HD:=aA (HD.I.put hb ho (by rw [hp]; exact iR) (Qy hp HD.I.low));clear hb ho hp;refine hK.out _ _ trivial (fun _=> ?_);clear hK K;refine tt 9 trivial ?_;refine tt 10 trivial ?_;refine tt 11 trivial ?_;refine L7 12 (fun K hK=> ?_);refine LY 32 (.tmp 5) (.tmp 28) rfl X q2.cells rfl rfl _ _ HB.I (by kernel_rfl) rfl (by kernel_rfl) ?_;refine hK.out _ _ trivial (fun _=> ?_);clear hK K;refine K3 (by kernel_rfl) ?_ _;clear HB;go_wp2_with fail;go_meet;exact ⟨q2,HD⟩
   case rest=>
    clear HD;obtain ⟨qo,qP⟩: ∃ qo:af,qo=q:=⟨_,rfl⟩
    subst qP;obtain ⟨q,HD⟩:=hcut;have Mb:=rz q k _ (w.heap.size+1) hwf HD.I.small HD.I.own;go_wp2_with (refine eT 5 HD.I.box ?_);refine Mb.mono ?_;clear Mb;rintro e Wb1 ⟨q2,rfl,ho,hp,hb⟩;have HB:=aA ((HD.I.reads hb).box);replace HD:=aA (HD.I.put hb ho (by rw [hp]; exact iR) (Qy hp HD.I.low));clear hb ho hp;go_upto_region 7 with (refine ec 5 34 q2.cells HB.I ?_);generalize Wb1.setRow X q2.cells=Wc1 at *;clear HB;obtain ⟨qo,qP⟩: ∃ qo:af,qo=q:=⟨_,rfl⟩
    subst qP;obtain ⟨q,qP⟩: ∃ q:af,q=q2:=⟨_,rfl⟩
    subst qP;have Mb:=ra q k _ (w.heap.size+1) hwf HD.I.small HD.I.own;go_wp2_with (refine eT 5 HD.I.box ?_);refine Mb.mono ?_;clear Mb;rintro e Wb2 ⟨q2,rfl,ho,hp,hb⟩;have HB:=aA ((HD.I.reads hb).box);replace HD:=aA (HD.I.put hb ho (by rw [hp]; exact iR) (Qy hp HD.I.low));clear hb ho hp;go_upto_region 8 with (refine ec 5 40 q2.cells HB.I ?_);generalize Wb2.setRow X q2.cells=Wc2 at *;clear HB;obtain ⟨qo,qP⟩: ∃ qo:af,qo=q:=⟨_,rfl⟩
    subst qP;obtain ⟨q,qP⟩: ∃ q:af,q=q2:=⟨_,rfl⟩
    subst qP;go_upto_region 8 with fail;simp only [pn]
    go_cut [] from 42 to 51 (fun wx=> ∃ q2:af,Hid (Dw 1 r a len cap w X q2 wx))
    case first=>
     replace HD:=aA (HD.I.reads (Kp _ _).drew);refine Kr (S:=fun _=>True) (by kernel_rfl) trivial (fun _=> ?_);generalize World.drew _=V at *;refine tt 1 trivial ?_;refine tt 2 trivial ?_;refine KW (rs:= [0,3]) (by kernel_rfl) (by simp) ?_;refine KX rfl (fun K hK=> ?_) (KX rfl (fun K hK=> ?_) KY)
     focus
      simp only [KZ,K0];rw [if_pos (by rfl)];refine LX 32 (.tmp 5) rfl X rfl 32 q.cells (0,0) _ HD.I.box KV rfl (by kernel_rfl) ?_;refine hK.out _ _ trivial (fun _=> ?_);clear hK K
      try simp only [pt,sb,s0,s1]
      refine L7 3 (fun K hK=> ?_);go_wp2_with fail;refine (dh r a len cap 2 _ hl (by omega) (by omega) HD.I.rd).mono ?_;rintro e W2 ⟨u,ua,ub,rfl,hb1,hr1⟩;replace HD:=aA (HD.I.drawn hb1 hr1);clear hb1 hr1;refine hK.out _ _ trivial (fun _=> ?_);clear hK K
      try simp only [pt,sb,s0,s1]
      refine tt 4 trivial ?_
     rotate_left
     focus
      simp only [KZ,K0,K1];rw [if_pos (by rfl)];go_wp2_with fail;refine (dh r a len cap 2 _ hl (by omega) (by omega) HD.I.rd).mono ?_;rintro e W2 ⟨u,ua,ub,rfl,hb1,hr1⟩;replace HD:=aA (HD.I.drawn hb1 hr1);clear hb1 hr1;refine hK.out _ _ trivial (fun _=> ?_);clear hK K
      try simp only [pt,sb,s0,s1]
      refine tt 4 trivial ?_;refine L7 0 (fun K hK=> ?_);refine LX 32 (.tmp 5) rfl X rfl 32 q.cells (0,0) _ HD.I.box KV rfl (by kernel_rfl) ?_;refine hK.out _ _ trivial (fun _=> ?_);clear hK K
      try simp only [pt,sb,s0,s1]
     all_goals
      refine L7 5 (fun K hK=> ?_);go_wp2_with fail;refine (qh q k _ W2 (w.heap.size+1) hwf HD.I.small HD.I.own).mono ?_;rintro e Wa ⟨q2,rfl,ho,hp,hb⟩;have HB:=aA ((HD.I.reads hb).box);replace HD:=aA (HD.I.put hb ho (by rw [hp]; exact iR) (Qy hp HD.I.low));clear hb ho hp;refine hK.out _ _ trivial (fun _=> ?_);clear hK K;refine tt 6 trivial ?_;refine tt 7 trivial ?_;refine tt 8 trivial ?_;refine L7 9 (fun K hK=> ?_);refine LY 32 (.tmp 5) (.tmp 49) rfl X q2.cells rfl rfl _ _ HB.I (by kernel_rfl) rfl (by kernel_rfl) ?_;refine hK.out _ _ trivial (fun _=> ?_);clear hK K;refine K3 (by kernel_rfl) ?_ _;clear HB;go_wp2_with fail;go_meet;exact ⟨q2,HD⟩
    case rest=>
     clear HD;obtain ⟨qo,qP⟩: ∃ qo:af,qo=q:=⟨_,rfl⟩
     subst qP;obtain ⟨q,HD⟩:=hcut;have Mb:=nd q ⟨⟨k,k == 1,true,2,[]⟩,none,0⟩ _ (w.heap.size+1) hwf HD.I.small HD.I.own;go_wp2_with (refine eT 5 HD.I.box ?_);refine Mb.mono ?_;clear Mb;rintro e Wb3 ⟨q2,rfl,ho,hp,hb⟩;have HB:=aA ((HD.I.reads hb).box);replace HD:=aA (HD.I.put hb ho (by rw [hp]; exact iR) (Qy hp HD.I.low));clear hb ho hp;go_upto_region 10 with (refine ec 5 58 q2.cells HB.I ?_);generalize Wb3.setRow X q2.cells=Wc3 at *;clear HB;obtain ⟨qo,qP⟩: ∃ qo:af,qo=q:=⟨_,rfl⟩
     subst qP;obtain ⟨q,qP⟩: ∃ q:af,q=q2:=⟨_,rfl⟩
     subst qP;have e2:IntKind.wrap .i64 (k+2)=k+2:=by rw [K8]; omega
     have Mb:=nd q ⟨⟨k+2,k == 1,false,1,[]⟩,none,0⟩ _ (w.heap.size+1) hwf2 HD.I.small HD.I.own;go_wp2_with (refine eT 5 HD.I.box ?_);refine Mb.mono ?_;clear Mb;rintro e Wb4 ⟨q2,rfl,ho,hp,hb⟩;have HB:=aA ((HD.I.reads hb).box);replace HD:=aA (HD.I.put hb ho (by rw [hp]; exact iR) (Qy hp HD.I.low));clear hb ho hp;go_upto_region 4 with (refine ec 5 68 q2.cells HB.I ?_);generalize Wb4.setRow X q2.cells=Wc4 at *;clear HB;obtain ⟨qo,qP⟩: ∃ qo:af,qo=q:=⟨_,rfl⟩
     subst qP;obtain ⟨q,qP⟩: ∃ q:af,q=q2:=⟨_,rfl⟩
     subst qP;have e3:IntKind.wrap .i64 (k+1)=k+1:=by rw [K8]; omega
     go_wp2_with fail;go_roundw
     case rel=>exact ⟨k+1,q,rfl,by omega,by omega,HD⟩
     case measure=>simp [Go.RowKit.intOf]; omega
  clear hwf hwf2;go_wp2_with fail;refine (dh r a len cap 3 _ hl (by omega) (by omega) HD.I.rd).mono ?_;rintro e W1 ⟨u,ua,ub,rfl,hb1,hr1⟩;replace HD:=aA (HD.I.drawn hb1 hr1);clear hb1 hr1;have e1:IntKind.wrap .i64 (1+u)=1+u:=by rw [K8]; omega
  go_wp2_with fail
  go_loopw [8] (fun i wr=> ∃ (k:Int) (q:af),i= .int .i64 k∧0≤k∧k≤3∧Hid (Dw (4 - k) r a len cap w X q wr)) (fun i _=>(Go.RowKit.intOf i).toNat)
  case atStart=>exact ⟨1+u,q,rfl,by omega,by omega,aA (HD.I.up (by omega))⟩
  case round=>
   clear HD;obtain ⟨qo,qP⟩: ∃ qo:af,qo=q:=⟨_,rfl⟩
   subst qP;obtain ⟨ko,hko⟩: ∃ ko:Int,ko=k:=⟨_,rfl⟩
   subst hko;obtain ⟨k,q,rfl,kz,kt,HD⟩:=hrel;have hwf:=pT (n:=k) (by omega) (by omega);by_cases hk2:0 < k
   ·skip
    go_upto_region 14 with fail
    go_cut [] from 77 to 88 (fun wx=> ∃ q2:af,Hid (Dw (4 - k) r a len cap w X q2 wx))
    case first=>
     replace HD:=aA (HD.I.reads (Kp _ _).drew);refine Kr (S:=fun _=>True) (by kernel_rfl) trivial (fun _=> ?_);generalize World.drew _=V at *;refine tt 1 trivial ?_;refine tt 2 trivial ?_;refine tt 5 trivial ?_;refine KW (rs:= [0,3]) (by kernel_rfl) (by simp) ?_;refine KX rfl (fun K hK=> ?_) (KX rfl (fun K hK=> ?_) KY)
     focus
      simp only [KZ,K0];rw [if_pos (by rfl)];refine LX 32 (.tmp 5) rfl X rfl 32 q.cells (0,0) _ HD.I.box KV rfl (by kernel_rfl) ?_;refine hK.out _ _ trivial (fun _=> ?_);clear hK K
      try simp only [pt,sb,s0,s1]
      refine L7 3 (fun K hK=> ?_);go_wp2_with fail;refine (dh r a len cap 3 _ hl (by omega) (by omega) HD.I.rd).mono ?_;rintro e W3 ⟨v,va,vb,rfl,hb1,hr1⟩;replace HD:=aA (HD.I.drawn hb1 hr1);clear hb1 hr1;refine hK.out _ _ trivial (fun _=> ?_);clear hK K
      try simp only [pt,sb,s0,s1]
      refine tt 4 trivial ?_;refine L7 6 (fun K hK=> ?_);go_wp2_with fail;refine (uz r a len cap _ hl HD.I.rd).mono ?_;rintro e W2 ⟨g,c,os,rfl,hos,hpg⟩;have HPG:=aA (And.intro hos hpg);replace HD:=aA (HD.I.drawn hpg.but hpg.rd);clear hos hpg;refine hK.out _ _ trivial (fun _=> ?_);clear hK K
      try simp only [pt,sb,s0,s1]
     rotate_left
     focus
      simp only [KZ,K0,K1];rw [if_pos (by rfl)];go_wp2_with fail;refine (dh r a len cap 3 _ hl (by omega) (by omega) HD.I.rd).mono ?_;rintro e W3 ⟨v,va,vb,rfl,hb1,hr1⟩;replace HD:=aA (HD.I.drawn hb1 hr1);clear hb1 hr1;refine hK.out _ _ trivial (fun _=> ?_);clear hK K
      try simp only [pt,sb,s0,s1]
      refine tt 4 trivial ?_;refine KW (rs:= [0,6]) (by kernel_rfl) (by simp) ?_;refine KX rfl (fun K hK=> ?_) (KX rfl (fun K hK=> ?_) KY)
      focus
       simp only [KZ,K0];rw [if_pos (by rfl)];refine LX 32 (.tmp 5) rfl X rfl 32 q.cells (0,0) _ HD.I.box KV rfl (by kernel_rfl) ?_;refine hK.out _ _ trivial (fun _=> ?_);clear hK K
       try simp only [pt,sb,s0,s1]
       refine L7 6 (fun K hK=> ?_);go_wp2_with fail;refine (uz r a len cap _ hl HD.I.rd).mono ?_;rintro e W2 ⟨g,c,os,rfl,hos,hpg⟩;have HPG:=aA (And.intro hos hpg);replace HD:=aA (HD.I.drawn hpg.but hpg.rd);clear hos hpg;refine hK.out _ _ trivial (fun _=> ?_);clear hK K
       try simp only [pt,sb,s0,s1]
      rotate_left
      focus
       simp only [KZ,K0,K1];rw [if_pos (by rfl)];go_wp2_with fail;refine (uz r a len cap _ hl HD.I.rd).mono ?_;rintro e W2 ⟨g,c,os,rfl,hos,hpg⟩;have HPG:=aA (And.intro hos hpg);replace HD:=aA (HD.I.drawn hpg.but hpg.rd);clear hos hpg;refine hK.out _ _ trivial (fun _=> ?_);clear hK K
       try simp only [pt,sb,s0,s1]
       refine L7 0 (fun K hK=> ?_);refine LX 32 (.tmp 5) rfl X rfl 32 q.cells (0,0) _ HD.I.box KV rfl (by kernel_rfl) ?_;refine hK.out _ _ trivial (fun _=> ?_);clear hK K
       try simp only [pt,sb,s0,s1]
     all_goals
      refine L7 7 (fun K hK=> ?_);go_wp2_with fail;refine (sB q k _ (some ⟨g,0,none⟩) os c W2 (w.heap.size+1) hwf ⟨by have:=HPG.I.1; omega,fun o ho=>by have:=HPG.I.2.sz o ho; omega⟩ (by rw [← vP]; exact nP HPG.I.2.own) HD.I.small HD.I.own).mono ?_;rintro e Wa ⟨q2,rfl,ho,hp,hb⟩;have HB:=aA ((HD.I.reads hb).box);replace HD:=aA (HD.I.put hb ho (by rw [hp]; exact iR) (Qy hp HD.I.low));clear hb ho hp;refine hK.out _ _ trivial (fun _=> ?_);clear hK K;refine tt 8 trivial ?_;refine tt 9 trivial ?_;refine tt 10 trivial ?_;refine L7 11 (fun K hK=> ?_);refine LY 32 (.tmp 5) (.tmp 86) rfl X q2.cells rfl rfl _ _ HB.I (by kernel_rfl) rfl (by kernel_rfl) ?_;refine hK.out _ _ trivial (fun _=> ?_);clear hK K;refine K3 (by kernel_rfl) ?_ _;clear HB;go_wp2_with fail;go_meet;exact ⟨q2,HD⟩
    case rest=>
     clear HD;obtain ⟨qo,qP⟩: ∃ qo:af,qo=q:=⟨_,rfl⟩
     subst qP;obtain ⟨q,HD⟩:=hcut;go_wp2_with fail;refine (jt r a len cap 3 _ hl (by omega) (by omega) HD.I.rd).mono ?_;rintro e W4 ⟨b,rfl,hb1,hr1⟩;replace HD:=aA (HD.I.drawn hb1 hr1);clear hb1 hr1;have e3:IntKind.wrap .i64 (k - 1)=k - 1:=by rw [K8]; omega
     cases b
     ·skip
      have Mb:=tK q k W4 (dV HD.I.small) (fun x hx=>(cY HD.I.small hx).1) HD.I.own.at;go_wp2_with (refine eT 5 HD.I.box ?_);refine Mb.mono ?_;clear Mb;rintro e Wb5 ⟨q2,rfl,ho,hp,hb⟩;have HB:=aA ((HD.I.reads hb).box);replace HD:=aA (HD.I.put hb ho (by rw [hp]; exact wZ HD.I.small) (Si hp HD.I.low));clear hb ho hp;go_upto_region 13 with (refine ec 5 95 q2.cells HB.I ?_);generalize Wb5.setRow X q2.cells=Wc5 at *;clear HB;obtain ⟨qo,qP⟩: ∃ qo:af,qo=q:=⟨_,rfl⟩
      subst qP;obtain ⟨q,qP⟩: ∃ q:af,q=q2:=⟨_,rfl⟩
      subst qP;go_wp2_with fail;go_roundw
      case rel=>exact ⟨k - 1,q,rfl,by omega,by omega,aA (HD.I.up (by omega))⟩
      case measure=>simp [Go.RowKit.intOf]; omega
     ·go_wp2_with fail
      go_roundw
      case rel=>exact ⟨k - 1,q,rfl,by omega,by omega,aA (HD.I.up (by omega))⟩
      case measure=>simp [Go.RowKit.intOf]; omega
   go_wp2_with (first | (refine eT 5 HD.I.box ?_) | (refine ec 4 97 q.cells HD.I.mK ?_));refine gZ Tryz.results159 HD.I.mK ?_;exact ⟨q,rfl,(HD.I.up (by omega)).fin⟩
end
end Go.Proofs.YtkbcplnlehdjfaaGreat
