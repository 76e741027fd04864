/- What the proof leans on, part 7. -/
import Derived.Test.YtnlbiglljiopmaaGreatDoorOwnT6
set_option linter.unusedVariables false
set_option maxRecDepth 100000
set_option maxHeartbeats 8000000
open Go.Proofs.Tryz
open Go renaming World->w_,Value->v_,Calls->k_,Addr->d_,TypeId->T_
open Go.Ending renaming returned->r_
open Go.IntKind renaming i64->j_
open Go.Obj renaming cells->c_
open Go.RowKit renaming Below->B_
open Go.Value renaming int->i_,slice->s_,bool->b_,string->t_,agg->a_,pointer->p_,tuple->u_
open Option renaming some->o_,none->n_
open Array renaming getElem?_eq_some_iff->J2
open Function renaming comp_def->Ls
open Go renaming block_lt_of_cell->Le,bodyPost_ret->KT,heap_alloc_new->Kj,results_cell_row->K9,setRow_heap->KU,wpList_append_own_at->KD,wp_at_succ->Kd,wp_at_zero->Kc
open Go.Proofs.Tryz renaming prog->J3
open Go.RowKit.Below renaming heap_setCell->K6,refl->Kp
open Go.World renaming cell?_of_block->J1,news_of_block->KE,ownsRow_nil->Ke
open List renaming append_assoc->Lm,append_nil->QO,drop_length->adW,eq_nil_of_length_eq_zero->adU,filterMap_append->LW,filterMap_cons->LH,getElem?_eq_getElem->Kz,length_map->KG,length_take->Lk,map_append->Kl,map_map->Lv,mem_append->Kg,mem_append_left->Lz,mem_append_right->Ly,mem_cons->Kt,mem_cons_of_mem->LB,mem_filterMap->Lq,mem_map->Lr,mem_of_getElem?->KA,mem_singleton->KB,nodup_cons->Lp,take_length->LQ,take_of_length_le->KF
open Nat renaming add_assoc->adV,add_zero->PT,le_refl->Ki,zero_le->Ky
open Option renaming map_eq_some_iff->Kw
open Prod.mk renaming injEq->Kx

namespace Go.Proofs.YtnlbiglljiopmaaGreatDoor
section
open Go.RowKit
section
variable {α:Type} {N:gd α} {w w':w_} {base g:Nat} {A B:List α} {x y:α}
structure fp (N:gd α) (w:w_) (base g:Nat) (l:List α):Prop where
 mine: ∀ z∈l,N.cO w base z
 nodup:(g :: l.filterMap N.bt).Nodup
theorem fp.keep {l:List α} (h:fp N w base g l) (hk:aI w w' [g]):fp N w' base g l:=
 ⟨fun z hz=>(h.mine z hz).same fun b hb=>hk.same b ((h.mine z hz).lt hb).2 fun hm=>by
  simp only [Kt,List.not_mem_nil,or_false] at hm;subst hm;exact (Lp.1 h.nodup).1 (Lq.2 ⟨z,hz,hb⟩),h.nodup⟩
theorem fp.ju (h:fp N w base g (A ++ x :: B)) (hk:N.bt y=N.bt x) (hm:N.cO w base y):fp N w base g (A ++ y :: B):=by
 refine ⟨fun z hz=> ?_,?_⟩
 ·rcases Kg.1 hz with hz | hz
  ·exact h.mine z (Lz _ hz)
  ·rcases Kt.1 hz with rfl | hz
   ·exact hm
   ·exact h.mine z (Ly _ (LB _ hz))
 ·have:=h.nodup
  rw [LW,LH] at this ⊢;rw [hk];exact this
theorem fp.inner (h:fp N w base g (A ++ x :: B)) (hw:aI w w' (blk (N.ad x))) (hk:N.bt y=N.bt x) (hm:N.cO w' base y):fp N w' base g (A ++ y :: B):=by
 have hmem: ∀ b,b∈blk (N.ad x)↔N.bt x=o_ b:=fun b=>fZ
 have hn:=(Lp.1 h.nodup).2;rw [LW] at hn;have key: ∀ z∈A ++ B,∀ b,N.bt z=o_ b→ ¬ N.bt x=o_ b:=fun z hz b hb hx=>by
  rw [List.nodup_append] at hn;rcases Kg.1 hz with hz | hz
  ·exact hn.2.2 b (Lq.2 ⟨z,hz,hb⟩) b (Lq.2 ⟨x,by simp,hx⟩) rfl
  ·have h2:=hn.2.1
   rw [LH,hx,Lp] at h2;exact h2.1 (Lq.2 ⟨z,hz,hb⟩)
 have hz: ∀ z∈A ++ B,N.cO w base z→N.cO w' base z:=fun z hz hmz=>hmz.same fun b hb=>hw.same b (hmz.lt hb).2 fun hm'=>key z hz b hb ((hmem b).1 hm')
 refine ⟨fun z hz'=> ?_,?_⟩
 ·rcases Kg.1 hz' with h1 | h1
  ·exact hz z (Lz _ h1) (h.mine z (Lz _ h1))
  ·rcases Kt.1 h1 with rfl | h1
   ·exact hm
   ·exact hz z (Ly _ h1) (h.mine z (Ly _ (LB _ h1)))
 ·have:=h.nodup
  rw [LW,LH] at this ⊢;rw [hk];exact this
theorem fp.apart {l:List α} (h:fp N w base g l) {z:α} (hz:z∈l):g∉blk (N.ad z):=fun hm=>
 (Lp.1 h.nodup).1 (Lq.2 ⟨z,hz,fZ.1 hm⟩)
end
end
section
open Go.RowKit
attribute [local go_sem ↓] Kc Kd
def fj (k:Int) (_:dN):dN:=(k,k+1,k+1+1,cu (k+1+1+1))
theorem xP (a:Option d_) (l:List dN) (cap:Nat) (k:Int) (w:w_) (base:Nat) (hl:l.length≤1048576) (h0:1≤k) (h1:k+(aF (fun _=>4) l:Nat)≤90000000) (ho:w.ownsRow base 165 4 (s_ a l.length cap) l.length (fk.flat l)):
  k_ J3 73 #[s_ a l.length cap,i_ j_ k] w fun e w'=>e=r_ (i_ j_ (k+(aF (fun _=>4) l:Nat)))∧w'.ownsRow base 165 4 (s_ a l.length cap) l.length (fk.flat (aJ fj (fun _=>4) k l))∧aI w w' (blk a):=by
 by_cases hz:l.length=0
 ·have hl0:l= [] :=adU hz
  subst hl0;have HO:Hid (w.ownsRow base 165 4 (s_ a 0 cap) 0 (fk.flat [])):=ho;clear ho
  go_enter func73,ntmps73
  exact te
 obtain ⟨g,rfl,hrow⟩:=bl.fX (K:=fk) ho hz;have HR:Hid (bl fk 165 w base g cap l):=hrow;have HB:Hid (k+(aF (fun _:dN=>4) l:Nat)≤90000000):=h1;clear ho hrow h1 hz
 go_enter func73,ntmps73
 go_wp2_with fail
 go_loopw [1,5] (fun q i wr=> ∃ (j:Nat) (m:Int),j≤l.length∧i=i_ j_ j∧q=i_ j_ m∧1≤m∧m≤90000000∧Hid (m=k+(aF (fun _:dN=>4) (l.take j):Nat)∧bl fk 165 wr base g cap (aJ fj (fun _=>4) k (l.take j) ++ l.drop j)∧aI w wr [g])) (fun _ i _=>l.length - (intOf i).toNat)
 case atStart=>exact ⟨0,k,Ky _,rfl,rfl,h0,by have:=HB.I; omega,⟨by simp [aF],HR.I,aI.refl _ _⟩⟩
 case round=>
  clear HR;obtain ⟨j,m,hj,rfl,rfl,m0,m1,HA⟩:=hrel;by_cases hlt:j < l.length
  ·have i0:(0:Int)≤(j:Int):=by omega
   have i1:(j:Int) < (l.length:Int):=by omega
   obtain ⟨x,hx⟩: ∃ x,l[j]? =o_ x:=⟨_,Kz hlt⟩
   have pI:l.drop j=x :: l.drop (j+1):=mz hx;have qw:=du (c:=fun _:dN=>4) hx;have hup:=gK (c:=fun _:dN=>4) hx;have HX:Hid (l[j]? =o_ x∧m+4≤90000000∧m+4=k+(aF (fun _:dN=>4) (l.take (j+1)):Nat)):=⟨hx,by have:=HB.I; have:=HA.I.1; omega,by have:=HA.I.1; omega⟩
   have HW:Hid (bl fk 165 wr base g cap (aJ fj (fun _=>4) k (l.take j) ++ x :: l.drop (j+1))∧(aJ fj (fun _=>4) k (l.take j)).length=j):=⟨by have:=HA.I.2.1; rwa [pI] at this,by rw [bE,Lk]; omega⟩
   clear hx pI qw hup;have m2:m+4≤90000000:=HX.I.2.1;have hgl:g < wr.heap.size:=HW.I.1.lt;have q0:=bl.eO HW.I.1 HW.I.2 (r:=0) (by decide:0 < fk.n);obtain ⟨⟨u0,c0⟩,f0⟩:(∃ u,wr.cell? ⟨g,j * 4,n_⟩=o_ u)∧wr.frozen? ⟨g,j * 4,n_⟩=false:=q0;have q1:=bl.eO HW.I.1 HW.I.2 (r:=1) (by decide:1 < fk.n);obtain ⟨⟨u1,c1⟩,f1⟩:(∃ u,wr.cell? ⟨g,j * 4+1,n_⟩=o_ u)∧wr.frozen? ⟨g,j * 4+1,n_⟩=false:=q1;have q2:=bl.eO HW.I.1 HW.I.2 (r:=2) (by decide:2 < fk.n);obtain ⟨⟨u2,c2⟩,f2⟩:(∃ u,wr.cell? ⟨g,j * 4+2,n_⟩=o_ u)∧wr.frozen? ⟨g,j * 4+2,n_⟩=false:=q2;have h5:=bl.part (K:=fk) (x:=(x.1,x.2.1,x.2.2.1,x.2.2.2)) (y:=(m,m+1,m+1+1,x.2.2.2)) (j:=0) (vs:= [i_ j_ (m),i_ j_ (m+1),i_ j_ (m+1+1)]) HW.I.1 (by show 0+3≤4; omega) (fun r hr=>by match r,hr with | 0,_=>rfl | 1,_=>rfl | 2,_=>rfl) (fun r hr hn=>by match r,hr,hn with | 0,_,hn=>exact absurd ⟨by omega,by show 0 < 0+3; omega⟩ hn | 1,_,hn=>exact absurd ⟨by omega,by show 1 < 0+3; omega⟩ hn | 2,_,hn=>exact absurd ⟨by omega,by show 2 < 0+3; omega⟩ hn | 3,_,_=>rfl );rw [HW.I.2,show fk.n=4 from rfl] at h5;simp only [bn,adV,Nat.reduceAdd,PT] at h5;have ES:Hid (bl fk 165 (((wr.setCell ⟨g,j * 4,n_⟩ (i_ j_ (m))).setCell ⟨g,j * 4+1,n_⟩ (i_ j_ (m+1))).setCell ⟨g,j * 4+2,n_⟩ (i_ j_ (m+1+1))) base g cap (aJ fj (fun _=>4) k (l.take j) ++ (m,m+1,m+1+1,x.2.2.2) :: l.drop (j+1))∧(aJ fj (fun _=>4) k (l.take j)).length=j):=⟨h5,HW.I.2⟩
   have h6:aI w (bn wr g (j * 4) [i_ j_ (m),i_ j_ (m+1),i_ j_ (m+1+1)]) [g] :=HA.I.2.2.trans (aI.set _ (by simp));simp only [bn,adV,Nat.reduceAdd] at h6;have zy:Hid (aI w (((wr.setCell ⟨g,j * 4,n_⟩ (i_ j_ (m))).setCell ⟨g,j * 4+1,n_⟩ (i_ j_ (m+1))).setCell ⟨g,j * 4+2,n_⟩ (i_ j_ (m+1+1))) [g]):=h6;clear h6;clear h5;go_wp2_with fail;refine (fh (m+1+1+1) (by omega) (by omega) _).mono ?_;rintro e v3 ⟨rfl,hb3⟩;have Fx:Hid (bl fk 165 v3 base g cap (aJ fj (fun _=>4) k (l.take j) ++ (m,m+1,m+1+1,x.2.2.2) :: l.drop (j+1))∧(aJ fj (fun _=>4) k (l.take j)).length=j):=⟨ES.I.1.same (hb3.block g ES.I.1.lt),ES.I.2⟩
   have HV3K:Hid (aI w v3 [g]):=zy.I.trans (aI.dI hb3);clear hb3;have q3:=bl.eO Fx.I.1 Fx.I.2 (r:=3) (by decide:3 < fk.n);obtain ⟨⟨u3,c3⟩,f3⟩:(∃ u,v3.cell? ⟨g,j * 4+3,n_⟩=o_ u)∧v3.frozen? ⟨g,j * 4+3,n_⟩=false:=q3;have h5:=bl.part (K:=fk) (x:=(m,m+1,m+1+1,x.2.2.2)) (y:=(m,m+1,m+1+1,cu (m+1+1+1))) (j:=3) (vs:= [t_ (cu (m+1+1+1))]) Fx.I.1 (by show 3+1≤4; omega) (fun r hr=>by match r,hr with | 0,_=>rfl) (fun r hr hn=>by match r,hr,hn with | 0,_,_=>rfl | 1,_,_=>rfl | 2,_,_=>rfl | 3,_,hn=>exact absurd ⟨by omega,by show 3 < 3+1; omega⟩ hn );rw [Fx.I.2,show fk.n=4 from rfl] at h5;simp only [bn] at h5;have mH:Hid (bl fk 165 (v3.setCell ⟨g,j * 4+3,n_⟩ (t_ (cu (m+1+1+1)))) base g cap (aJ fj (fun _=>4) k (l.take j) ++ (m,m+1,m+1+1,cu (m+1+1+1)) :: l.drop (j+1))∧(aJ fj (fun _=>4) k (l.take j)).length=j):=⟨h5,Fx.I.2⟩
   have h6:aI w (bn v3 g (j * 4+3) [t_ (cu (m+1+1+1))]) [g] :=HV3K.I.trans (aI.set _ (by simp));simp only [bn] at h6;have HS1K:Hid (aI w (v3.setCell ⟨g,j * 4+3,n_⟩ (t_ (cu (m+1+1+1)))) [g]):=h6;clear h6;clear h5;have HN:Hid (bl fk 165 (v3.setCell ⟨g,j * 4+3,n_⟩ (t_ (cu (m+1+1+1)))) base g cap (aJ fj (fun _=>4) k (l.take (j+1)) ++ l.drop (j+1))∧aI w (v3.setCell ⟨g,j * 4+3,n_⟩ (t_ (cu (m+1+1+1)))) [g]):=⟨by rw [kE HX.I.1,Lm,← HA.I.1]; exact mH.I.1,HS1K.I⟩
   go_wp2;go_roundw
   case rel=>exact ⟨j+1,m+4,by omega,by go_num,by go_num,by omega,by omega,⟨HX.I.2.2,HN.I.1,HN.I.2⟩⟩
   case measure=>simp [intOf]; omega
  ·have i1: ¬ (j:Int) < (l.length:Int):=by omega
   have ej:j=l.length:=by omega
   subst ej;have HE:Hid (bl fk 165 wr base g cap (aJ fj (fun _=>4) k l)∧m=k+(aF (fun _:dN=>4) l:Nat)):=by have h5:=HA.I.2.1; have h6:=HA.I.1; rw [LQ,adW,QO] at h5; rw [LQ] at h6; exact ⟨h5,h6⟩
   exact H_
def DI (w:w_) (a:Option d_) (l:List dN) (g j:Nat) (m:Int) (w':w_):Prop:=w'.cell? ⟨g,j * 4+3,n_⟩=o_ (t_ (cu m))∧Hid (fk.bU w' a l∧B_ w.heap.size w w')
theorem xg (a:Option d_) (l:List dN) (cap:Nat) (k:Int) (w:w_) (hl:l.length≤1048576) (h0:1≤k) (h1:k+(aF (fun _=>4) l:Nat)≤90000000) (hr:fk.bU w a (aJ fj (fun _=>4) k l)):
  k_ J3 76 #[s_ a l.length cap,i_ j_ k] w fun e w'=>e=r_ (i_ j_ (k+(aF (fun _=>4) l:Nat)))∧B_ w.heap.size w w':=by
 have HR:Hid (fk.bU w a (aJ fj (fun _=>4) k l)∧k+(aF (fun _:dN=>4) l:Nat)≤90000000):=⟨hr,h1⟩
 clear hr h1
 go_enter func76,ntmps76
 go_wp2_with fail
 go_loopw [1,5] (fun q i wr=> ∃ (j:Nat) (m:Int),j≤l.length∧i=i_ j_ j∧q=i_ j_ m∧1≤m∧m≤90000000∧Hid (m=k+(aF (fun _:dN=>4) (l.take j):Nat)∧B_ w.heap.size w wr)) (fun _ i _=>l.length - (intOf i).toNat)
 case atStart=>exact ⟨0,k,Ky _,rfl,rfl,h0,by have:=HR.I.2; omega,⟨by simp [aF],Kp _ _⟩⟩
 case round=>
  obtain ⟨j,m,hj,rfl,rfl,m0,m1,HA⟩:=hrel;by_cases hlt:j < l.length
  ·have i0:(0:Int)≤(j:Int):=by omega
   have i1:(j:Int) < (l.length:Int):=by omega
   obtain ⟨x,hx⟩: ∃ x,l[j]? =o_ x:=⟨_,Kz hlt⟩
   have qw:=du (c:=fun _:dN=>4) hx;have hup:=gK (c:=fun _:dN=>4) hx;have hg:=jK (f:=fj) (c:=fun _:dN=>4) (k:=k) hx;rw [← HA.I.1] at hg;obtain ⟨g,ha,hat⟩:=(HR.I.1.below HA.I.2).at hg;have c0:wr.cell? ⟨g,j * 4,n_⟩=o_ (i_ j_ (m)):=hat 0 _ rfl;have c1:wr.cell? ⟨g,j * 4+1,n_⟩=o_ (i_ j_ (m+1)):=hat 1 _ rfl;have c2:wr.cell? ⟨g,j * 4+2,n_⟩=o_ (i_ j_ (m+1+1)):=hat 2 _ rfl;have c3:wr.cell? ⟨g,j * 4+3,n_⟩=o_ (t_ (cu (m+1+1+1))):=hat 3 _ rfl;have HX:Hid (m+4≤90000000∧m+4=k+(aF (fun _:dN=>4) (l.take (j+1)):Nat)∧a=o_ ⟨g,0,n_⟩∧(aJ fj (fun _=>4) k l)[j]? =o_ (fj m x)):=⟨by have:=HR.I.2; have:=HA.I.1; omega,by have:=HA.I.1; omega,ha,hg⟩
   have m2:m+4≤90000000:=HX.I.1;subst ha;clear hx qw hup hg hat;go_wp2_with fail;have HT:Hid (DI w (o_ ⟨g,0,n_⟩) (aJ fj (fun _=>4) k l) g j (m+1+1+1) wr.drew):=⟨c3,(HR.I.1.below HA.I.2).below (Kp _ _).drew,HA.I.2.drew⟩
   clear c0 c1 c2 c3;refine aT (DI w (o_ ⟨g,0,n_⟩) (aJ fj (fun _=>4) k l) g j (m+1+1+1)) ZcR HT.I ?_
   iterate 6 (refine PI ?_ (hy:=fun w0 hS0=>by obtain ⟨q0,hH⟩:=hS0; go_simp; try with_reducible rfl))
   refine cl (t_ (cu (m+1+1+1))) 74 #[i_ j_ (m+1+1+1)] ?_ ?_ ?_
   ·exact ZcI
   ·intro w0 hS0
    refine (fh (m+1+1+1) (by omega) (by omega) w0).mono ?_;exact Zah
   simp only [pt,sb,s0,s1]
   (refine PI ?_ (hy:=fun w0 hS0=>by obtain ⟨q0,hH⟩:=hS0; go_simp; try with_reducible rfl))
   refine bk ZcR ?_ _;intro w1 cm;have HZ:Hid (B_ w.heap.size w w1):=cm.2.I.2;clear cm HT;go_wp2;go_roundw
   case rel=>exact ⟨j+1,m+4,by omega,by go_num,by go_num,by omega,by omega,⟨HX.I.2.1,HZ.I⟩⟩
   case measure=>simp [intOf]; omega
  ·have i1: ¬ (j:Int) < (l.length:Int):=by omega
   have HE:Hid (m=k+(aF (fun _:dN=>4) l:Nat)):=by have h6:=HA.I.1; rw [KF (by omega)] at h6; exact h6
   exact Zax
def hJ (k:Int) (_:bD):bD:=⟨k,k+1,k+1+1⟩
theorem CF (a:Option d_) (l:List bD) (cap:Nat) (k:Int) (w:w_) (base:Nat) (hl:l.length≤1048576) (h0:1≤k) (h1:k+(aF (fun _=>3) l:Nat)≤90000000) (ho:w.ownsRow base 105 3 (s_ a l.length cap) l.length (dm.flat l)):
  k_ J3 37 #[s_ a l.length cap,i_ j_ k] w fun e w'=>e=r_ (i_ j_ (k+(aF (fun _=>3) l:Nat)))∧w'.ownsRow base 105 3 (s_ a l.length cap) l.length (dm.flat (aJ hJ (fun _=>3) k l))∧aI w w' (blk a):=by
 by_cases hz:l.length=0
 ·have hl0:l= [] :=adU hz
  subst hl0;have HO:Hid (w.ownsRow base 105 3 (s_ a 0 cap) 0 (dm.flat [])):=ho;clear ho
  go_enter func37,ntmps37
  exact te
 obtain ⟨g,rfl,hrow⟩:=bl.fX (K:=dm) ho hz;have HR:Hid (bl dm 105 w base g cap l):=hrow;have HB:Hid (k+(aF (fun _:bD=>3) l:Nat)≤90000000):=h1;clear ho hrow h1 hz
 go_enter func37,ntmps37
 go_wp2_with fail
 go_loopw [1,5] (fun q i wr=> ∃ (j:Nat) (m:Int),j≤l.length∧i=i_ j_ j∧q=i_ j_ m∧1≤m∧m≤90000000∧Hid (m=k+(aF (fun _:bD=>3) (l.take j):Nat)∧bl dm 105 wr base g cap (aJ hJ (fun _=>3) k (l.take j) ++ l.drop j)∧aI w wr [g])) (fun _ i _=>l.length - (intOf i).toNat)
 case atStart=>exact ⟨0,k,Ky _,rfl,rfl,h0,by have:=HB.I; omega,⟨by simp [aF],HR.I,aI.refl _ _⟩⟩
 case round=>
  clear HR;obtain ⟨j,m,hj,rfl,rfl,m0,m1,HA⟩:=hrel;by_cases hlt:j < l.length
  ·have i0:(0:Int)≤(j:Int):=by omega
   have i1:(j:Int) < (l.length:Int):=by omega
   obtain ⟨x,hx⟩: ∃ x,l[j]? =o_ x:=⟨_,Kz hlt⟩
   have pI:l.drop j=x :: l.drop (j+1):=mz hx;have qw:=du (c:=fun _:bD=>3) hx;have hup:=gK (c:=fun _:bD=>3) hx;have HX:Hid (l[j]? =o_ x∧m+3≤90000000∧m+3=k+(aF (fun _:bD=>3) (l.take (j+1)):Nat)):=⟨hx,by have:=HB.I; have:=HA.I.1; omega,by have:=HA.I.1; omega⟩
   have HW:Hid (bl dm 105 wr base g cap (aJ hJ (fun _=>3) k (l.take j) ++ x :: l.drop (j+1))∧(aJ hJ (fun _=>3) k (l.take j)).length=j):=⟨by have:=HA.I.2.1; rwa [pI] at this,by rw [bE,Lk]; omega⟩
   clear hx pI qw hup;have m2:m+3≤90000000:=HX.I.2.1;have hgl:g < wr.heap.size:=HW.I.1.lt;have q0:=bl.eO HW.I.1 HW.I.2 (r:=0) (by decide:0 < dm.n);obtain ⟨⟨u0,c0⟩,f0⟩:(∃ u,wr.cell? ⟨g,j * 3,n_⟩=o_ u)∧wr.frozen? ⟨g,j * 3,n_⟩=false:=q0;have q1:=bl.eO HW.I.1 HW.I.2 (r:=1) (by decide:1 < dm.n);obtain ⟨⟨u1,c1⟩,f1⟩:(∃ u,wr.cell? ⟨g,j * 3+1,n_⟩=o_ u)∧wr.frozen? ⟨g,j * 3+1,n_⟩=false:=q1;have q2:=bl.eO HW.I.1 HW.I.2 (r:=2) (by decide:2 < dm.n);obtain ⟨⟨u2,c2⟩,f2⟩:(∃ u,wr.cell? ⟨g,j * 3+2,n_⟩=o_ u)∧wr.frozen? ⟨g,j * 3+2,n_⟩=false:=q2;have h5:=bl.part (K:=dm) (x:=(⟨x.id,x.n,x.max⟩:bD)) (y:=(⟨m,m+1,m+1+1⟩:bD)) (j:=0) (vs:= [i_ j_ (m),i_ j_ (m+1),i_ j_ (m+1+1)]) HW.I.1 (by show 0+3≤3; omega) (fun r hr=>by match r,hr with | 0,_=>rfl | 1,_=>rfl | 2,_=>rfl) (fun r hr hn=>by match r,hr,hn with | 0,_,hn=>exact absurd ⟨by omega,by show 0 < 0+3; omega⟩ hn | 1,_,hn=>exact absurd ⟨by omega,by show 1 < 0+3; omega⟩ hn | 2,_,hn=>exact absurd ⟨by omega,by show 2 < 0+3; omega⟩ hn );rw [HW.I.2,show dm.n=3 from rfl] at h5;simp only [bn,adV,Nat.reduceAdd,PT] at h5;have ES:Hid (bl dm 105 (((wr.setCell ⟨g,j * 3,n_⟩ (i_ j_ (m))).setCell ⟨g,j * 3+1,n_⟩ (i_ j_ (m+1))).setCell ⟨g,j * 3+2,n_⟩ (i_ j_ (m+1+1))) base g cap (aJ hJ (fun _=>3) k (l.take j) ++ (⟨m,m+1,m+1+1⟩:bD) :: l.drop (j+1))∧(aJ hJ (fun _=>3) k (l.take j)).length=j):=⟨h5,HW.I.2⟩
   have h6:aI w (bn wr g (j * 3) [i_ j_ (m),i_ j_ (m+1),i_ j_ (m+1+1)]) [g] :=HA.I.2.2.trans (aI.set _ (by simp));simp only [bn,adV,Nat.reduceAdd] at h6;have zy:Hid (aI w (((wr.setCell ⟨g,j * 3,n_⟩ (i_ j_ (m))).setCell ⟨g,j * 3+1,n_⟩ (i_ j_ (m+1))).setCell ⟨g,j * 3+2,n_⟩ (i_ j_ (m+1+1))) [g]):=h6;clear h6;clear h5;have HN:Hid (bl dm 105 (((wr.setCell ⟨g,j * 3,n_⟩ (i_ j_ (m))).setCell ⟨g,j * 3+1,n_⟩ (i_ j_ (m+1))).setCell ⟨g,j * 3+2,n_⟩ (i_ j_ (m+1+1))) base g cap (aJ hJ (fun _=>3) k (l.take (j+1)) ++ l.drop (j+1))∧aI w (((wr.setCell ⟨g,j * 3,n_⟩ (i_ j_ (m))).setCell ⟨g,j * 3+1,n_⟩ (i_ j_ (m+1))).setCell ⟨g,j * 3+2,n_⟩ (i_ j_ (m+1+1))) [g]):=⟨by rw [kE HX.I.1,Lm,← HA.I.1]; exact ES.I.1,zy.I⟩
   exact Za4
  ·have i1: ¬ (j:Int) < (l.length:Int):=by omega
   have ej:j=l.length:=by omega
   subst ej;have HE:Hid (bl dm 105 wr base g cap (aJ hJ (fun _=>3) k l)∧m=k+(aF (fun _:bD=>3) l:Nat)):=by have h5:=HA.I.2.1; have h6:=HA.I.1; rw [LQ,adW,QO] at h5; rw [LQ] at h6; exact ⟨h5,h6⟩
   exact H_
theorem Cn (a:Option d_) (l:List bD) (cap:Nat) (k:Int) (w:w_) (hl:l.length≤1048576) (h0:1≤k) (h1:k+(aF (fun _=>3) l:Nat)≤90000000) (hr:dm.bU w a (aJ hJ (fun _=>3) k l)):
  k_ J3 43 #[s_ a l.length cap,i_ j_ k] w fun e w'=>e=r_ (i_ j_ (k+(aF (fun _=>3) l:Nat)))∧B_ w.heap.size w w':=by
 have HR:Hid (dm.bU w a (aJ hJ (fun _=>3) k l)∧k+(aF (fun _:bD=>3) l:Nat)≤90000000):=⟨hr,h1⟩
 clear hr h1
 go_enter func43,ntmps43
 go_wp2_with fail
 go_loopw [1,5] (fun q i wr=> ∃ (j:Nat) (m:Int),j≤l.length∧i=i_ j_ j∧q=i_ j_ m∧1≤m∧m≤90000000∧Hid (m=k+(aF (fun _:bD=>3) (l.take j):Nat)∧B_ w.heap.size w wr)) (fun _ i _=>l.length - (intOf i).toNat)
 case atStart=>exact ⟨0,k,Ky _,rfl,rfl,h0,by have:=HR.I.2; omega,⟨by simp [aF],Kp _ _⟩⟩
 case round=>
  obtain ⟨j,m,hj,rfl,rfl,m0,m1,HA⟩:=hrel;by_cases hlt:j < l.length
  ·have i0:(0:Int)≤(j:Int):=by omega
   have i1:(j:Int) < (l.length:Int):=by omega
   obtain ⟨x,hx⟩: ∃ x,l[j]? =o_ x:=⟨_,Kz hlt⟩
   have qw:=du (c:=fun _:bD=>3) hx;have hup:=gK (c:=fun _:bD=>3) hx;have hg:=jK (f:=hJ) (c:=fun _:bD=>3) (k:=k) hx;rw [← HA.I.1] at hg;obtain ⟨g,ha,hat⟩:=(HR.I.1.below HA.I.2).at hg;have c0:wr.cell? ⟨g,j * 3,n_⟩=o_ (i_ j_ (m)):=hat 0 _ rfl;have c1:wr.cell? ⟨g,j * 3+1,n_⟩=o_ (i_ j_ (m+1)):=hat 1 _ rfl;have c2:wr.cell? ⟨g,j * 3+2,n_⟩=o_ (i_ j_ (m+1+1)):=hat 2 _ rfl;have HX:Hid (m+3≤90000000∧m+3=k+(aF (fun _:bD=>3) (l.take (j+1)):Nat)∧a=o_ ⟨g,0,n_⟩∧(aJ hJ (fun _=>3) k l)[j]? =o_ (hJ m x)):=⟨by have:=HR.I.2; have:=HA.I.1; omega,by have:=HA.I.1; omega,ha,hg⟩
   have m2:m+3≤90000000:=HX.I.1;subst ha;clear hx qw hup hg hat;go_wp2;go_roundw
   case rel=>exact ⟨j+1,m+3,by omega,by go_num,by go_num,by omega,by omega,⟨HX.I.2.1,HA.I.2⟩⟩
   case measure=>simp [intOf]; omega
  ·have i1: ¬ (j:Int) < (l.length:Int):=by omega
   have HE:Hid (m=k+(aF (fun _:bD=>3) l:Nat)):=by have h6:=HA.I.1; rw [KF (by omega)] at h6; exact h6
   exact Zax
def eM (k:Int) (_:aB):aB:=⟨k,(k+1) % 3 == 0⟩
theorem zw (a:Option d_) (l:List aB) (cap:Nat) (k:Int) (w:w_) (base:Nat) (hl:l.length≤1048576) (h0:1≤k) (h1:k+(aF (fun _=>2) l:Nat)≤90000000) (ho:w.ownsRow base 109 2 (s_ a l.length cap) l.length (bJ.flat l)):
  k_ J3 38 #[s_ a l.length cap,i_ j_ k] w fun e w'=>e=r_ (i_ j_ (k+(aF (fun _=>2) l:Nat)))∧w'.ownsRow base 109 2 (s_ a l.length cap) l.length (bJ.flat (aJ eM (fun _=>2) k l))∧aI w w' (blk a):=by
 by_cases hz:l.length=0
 ·have hl0:l= [] :=adU hz
  subst hl0;have HO:Hid (w.ownsRow base 109 2 (s_ a 0 cap) 0 (bJ.flat [])):=ho;clear ho
  go_enter func38,ntmps38
  exact te
 obtain ⟨g,rfl,hrow⟩:=bl.fX (K:=bJ) ho hz;have HR:Hid (bl bJ 109 w base g cap l):=hrow;have HB:Hid (k+(aF (fun _:aB=>2) l:Nat)≤90000000):=h1;clear ho hrow h1 hz
 go_enter func38,ntmps38
 go_wp2_with fail
 go_loopw [1,5] (fun q i wr=> ∃ (j:Nat) (m:Int),j≤l.length∧i=i_ j_ j∧q=i_ j_ m∧1≤m∧m≤90000000∧Hid (m=k+(aF (fun _:aB=>2) (l.take j):Nat)∧bl bJ 109 wr base g cap (aJ eM (fun _=>2) k (l.take j) ++ l.drop j)∧aI w wr [g])) (fun _ i _=>l.length - (intOf i).toNat)
 case atStart=>exact ⟨0,k,Ky _,rfl,rfl,h0,by have:=HB.I; omega,⟨by simp [aF],HR.I,aI.refl _ _⟩⟩
 case round=>
  clear HR;obtain ⟨j,m,hj,rfl,rfl,m0,m1,HA⟩:=hrel;by_cases hlt:j < l.length
  ·have i0:(0:Int)≤(j:Int):=by omega
   have i1:(j:Int) < (l.length:Int):=by omega
   obtain ⟨x,hx⟩: ∃ x,l[j]? =o_ x:=⟨_,Kz hlt⟩
   have pI:l.drop j=x :: l.drop (j+1):=mz hx;have qw:=du (c:=fun _:aB=>2) hx;have hup:=gK (c:=fun _:aB=>2) hx;have HX:Hid (l[j]? =o_ x∧m+2≤90000000∧m+2=k+(aF (fun _:aB=>2) (l.take (j+1)):Nat)):=⟨hx,by have:=HB.I; have:=HA.I.1; omega,by have:=HA.I.1; omega⟩
   have HW:Hid (bl bJ 109 wr base g cap (aJ eM (fun _=>2) k (l.take j) ++ x :: l.drop (j+1))∧(aJ eM (fun _=>2) k (l.take j)).length=j):=⟨by have:=HA.I.2.1; rwa [pI] at this,by rw [bE,Lk]; omega⟩
   clear hx pI qw hup;have m2:m+2≤90000000:=HX.I.2.1;have hgl:g < wr.heap.size:=HW.I.1.lt;have q0:=bl.eO HW.I.1 HW.I.2 (r:=0) (by decide:0 < bJ.n);obtain ⟨⟨u0,c0⟩,f0⟩:(∃ u,wr.cell? ⟨g,j * 2,n_⟩=o_ u)∧wr.frozen? ⟨g,j * 2,n_⟩=false:=q0;have q1:=bl.eO HW.I.1 HW.I.2 (r:=1) (by decide:1 < bJ.n);obtain ⟨⟨u1,c1⟩,f1⟩:(∃ u,wr.cell? ⟨g,j * 2+1,n_⟩=o_ u)∧wr.frozen? ⟨g,j * 2+1,n_⟩=false:=q1;have h5:=bl.part (K:=bJ) (x:=(⟨x.id,x.up⟩:aB)) (y:=(⟨m,(m+1) % 3 == 0⟩:aB)) (j:=0) (vs:= [i_ j_ (m),b_ ((m+1) % 3 == 0)]) HW.I.1 (by show 0+2≤2; omega) (fun r hr=>by match r,hr with | 0,_=>rfl | 1,_=>rfl) (fun r hr hn=>by match r,hr,hn with | 0,_,hn=>exact absurd ⟨by omega,by show 0 < 0+2; omega⟩ hn | 1,_,hn=>exact absurd ⟨by omega,by show 1 < 0+2; omega⟩ hn );rw [HW.I.2,show bJ.n=2 from rfl] at h5;simp only [bn,PT] at h5;have ES:Hid (bl bJ 109 ((wr.setCell ⟨g,j * 2,n_⟩ (i_ j_ (m))).setCell ⟨g,j * 2+1,n_⟩ (b_ ((m+1) % 3 == 0))) base g cap (aJ eM (fun _=>2) k (l.take j) ++ (⟨m,(m+1) % 3 == 0⟩:aB) :: l.drop (j+1))∧(aJ eM (fun _=>2) k (l.take j)).length=j):=⟨h5,HW.I.2⟩
   have h6:aI w (bn wr g (j * 2) [i_ j_ (m),b_ ((m+1) % 3 == 0)]) [g] :=HA.I.2.2.trans (aI.set _ (by simp));simp only [bn] at h6;have zy:Hid (aI w ((wr.setCell ⟨g,j * 2,n_⟩ (i_ j_ (m))).setCell ⟨g,j * 2+1,n_⟩ (b_ ((m+1) % 3 == 0))) [g]):=h6;clear h6;clear h5;have HN:Hid (bl bJ 109 ((wr.setCell ⟨g,j * 2,n_⟩ (i_ j_ (m))).setCell ⟨g,j * 2+1,n_⟩ (b_ ((m+1) % 3 == 0))) base g cap (aJ eM (fun _=>2) k (l.take (j+1)) ++ l.drop (j+1))∧aI w ((wr.setCell ⟨g,j * 2,n_⟩ (i_ j_ (m))).setCell ⟨g,j * 2+1,n_⟩ (b_ ((m+1) % 3 == 0))) [g]):=⟨by rw [kE HX.I.1,Lm,← HA.I.1]; exact ES.I.1,zy.I⟩
   go_wp2;go_roundw
   case rel=>exact ⟨j+1,m+2,by omega,by go_num,by go_num,by omega,by omega,⟨HX.I.2.2,HN.I.1,HN.I.2⟩⟩
   case measure=>simp [intOf]; omega
  ·have i1: ¬ (j:Int) < (l.length:Int):=by omega
   have ej:j=l.length:=by omega
   subst ej;have HE:Hid (bl bJ 109 wr base g cap (aJ eM (fun _=>2) k l)∧m=k+(aF (fun _:aB=>2) l:Nat)):=by have h5:=HA.I.2.1; have h6:=HA.I.1; rw [LQ,adW,QO] at h5; rw [LQ] at h6; exact ⟨h5,h6⟩
   exact H_
theorem yb (a:Option d_) (l:List aB) (cap:Nat) (k:Int) (w:w_) (hl:l.length≤1048576) (h0:1≤k) (h1:k+(aF (fun _=>2) l:Nat)≤90000000) (hr:bJ.bU w a (aJ eM (fun _=>2) k l)):
  k_ J3 44 #[s_ a l.length cap,i_ j_ k] w fun e w'=>e=r_ (i_ j_ (k+(aF (fun _=>2) l:Nat)))∧B_ w.heap.size w w':=by
 have HR:Hid (bJ.bU w a (aJ eM (fun _=>2) k l)∧k+(aF (fun _:aB=>2) l:Nat)≤90000000):=⟨hr,h1⟩
 clear hr h1
 go_enter func44,ntmps44
 go_wp2_with fail
 go_loopw [1,5] (fun q i wr=> ∃ (j:Nat) (m:Int),j≤l.length∧i=i_ j_ j∧q=i_ j_ m∧1≤m∧m≤90000000∧Hid (m=k+(aF (fun _:aB=>2) (l.take j):Nat)∧B_ w.heap.size w wr)) (fun _ i _=>l.length - (intOf i).toNat)
 case atStart=>exact ⟨0,k,Ky _,rfl,rfl,h0,by have:=HR.I.2; omega,⟨by simp [aF],Kp _ _⟩⟩
 case round=>
  obtain ⟨j,m,hj,rfl,rfl,m0,m1,HA⟩:=hrel;by_cases hlt:j < l.length
  ·have i0:(0:Int)≤(j:Int):=by omega
   have i1:(j:Int) < (l.length:Int):=by omega
   obtain ⟨x,hx⟩: ∃ x,l[j]? =o_ x:=⟨_,Kz hlt⟩
   have qw:=du (c:=fun _:aB=>2) hx;have hup:=gK (c:=fun _:aB=>2) hx;have hg:=jK (f:=eM) (c:=fun _:aB=>2) (k:=k) hx;rw [← HA.I.1] at hg;obtain ⟨g,ha,hat⟩:=(HR.I.1.below HA.I.2).at hg;have c0:wr.cell? ⟨g,j * 2,n_⟩=o_ (i_ j_ (m)):=hat 0 _ rfl;have c1:wr.cell? ⟨g,j * 2+1,n_⟩=o_ (b_ ((m+1) % 3 == 0)):=hat 1 _ rfl;have HX:Hid (m+2≤90000000∧m+2=k+(aF (fun _:aB=>2) (l.take (j+1)):Nat)∧a=o_ ⟨g,0,n_⟩∧(aJ eM (fun _=>2) k l)[j]? =o_ (eM m x)):=⟨by have:=HR.I.2; have:=HA.I.1; omega,by have:=HA.I.1; omega,ha,hg⟩
   have m2:m+2≤90000000:=HX.I.1;subst ha;clear hx qw hup hg hat;go_wp2;go_roundw
   case rel=>exact ⟨j+1,m+2,by omega,by go_num,by go_num,by omega,by omega,⟨HX.I.2.1,HA.I.2⟩⟩
   case measure=>simp [intOf]; omega
  ·have i1: ¬ (j:Int) < (l.length:Int):=by omega
   have HE:Hid (m=k+(aF (fun _:aB=>2) l:Nat)):=by have h6:=HA.I.1; rw [KF (by omega)] at h6; exact h6
   exact Zax
def dZ (k:Int) (_:az):az:=⟨k,(k+1) % 3 == 0,cu (k+1+1)⟩
theorem zB (a:Option d_) (l:List az) (cap:Nat) (k:Int) (w:w_) (base:Nat) (hl:l.length≤1048576) (h0:1≤k) (h1:k+(aF (fun _=>3) l:Nat)≤90000000) (ho:w.ownsRow base 112 3 (s_ a l.length cap) l.length (bG.flat l)):
  k_ J3 39 #[s_ a l.length cap,i_ j_ k] w fun e w'=>e=r_ (i_ j_ (k+(aF (fun _=>3) l:Nat)))∧w'.ownsRow base 112 3 (s_ a l.length cap) l.length (bG.flat (aJ dZ (fun _=>3) k l))∧aI w w' (blk a):=by
 by_cases hz:l.length=0
 ·have hl0:l= [] :=adU hz
  subst hl0;have HO:Hid (w.ownsRow base 112 3 (s_ a 0 cap) 0 (bG.flat [])):=ho;clear ho
  go_enter func39,ntmps39
  exact te
 obtain ⟨g,rfl,hrow⟩:=bl.fX (K:=bG) ho hz;have HR:Hid (bl bG 112 w base g cap l):=hrow;have HB:Hid (k+(aF (fun _:az=>3) l:Nat)≤90000000):=h1;clear ho hrow h1 hz
 go_enter func39,ntmps39
 go_wp2_with fail
 go_loopw [1,5] (fun q i wr=> ∃ (j:Nat) (m:Int),j≤l.length∧i=i_ j_ j∧q=i_ j_ m∧1≤m∧m≤90000000∧Hid (m=k+(aF (fun _:az=>3) (l.take j):Nat)∧bl bG 112 wr base g cap (aJ dZ (fun _=>3) k (l.take j) ++ l.drop j)∧aI w wr [g])) (fun _ i _=>l.length - (intOf i).toNat)
 case atStart=>exact ⟨0,k,Ky _,rfl,rfl,h0,by have:=HB.I; omega,⟨by simp [aF],HR.I,aI.refl _ _⟩⟩
 case round=>
  clear HR;obtain ⟨j,m,hj,rfl,rfl,m0,m1,HA⟩:=hrel;by_cases hlt:j < l.length
  ·have i0:(0:Int)≤(j:Int):=by omega
   have i1:(j:Int) < (l.length:Int):=by omega
   obtain ⟨x,hx⟩: ∃ x,l[j]? =o_ x:=⟨_,Kz hlt⟩
   have pI:l.drop j=x :: l.drop (j+1):=mz hx;have qw:=du (c:=fun _:az=>3) hx;have hup:=gK (c:=fun _:az=>3) hx;have HX:Hid (l[j]? =o_ x∧m+3≤90000000∧m+3=k+(aF (fun _:az=>3) (l.take (j+1)):Nat)):=⟨hx,by have:=HB.I; have:=HA.I.1; omega,by have:=HA.I.1; omega⟩
   have HW:Hid (bl bG 112 wr base g cap (aJ dZ (fun _=>3) k (l.take j) ++ x :: l.drop (j+1))∧(aJ dZ (fun _=>3) k (l.take j)).length=j):=⟨by have:=HA.I.2.1; rwa [pI] at this,by rw [bE,Lk]; omega⟩
   clear hx pI qw hup;have m2:m+3≤90000000:=HX.I.2.1;have hgl:g < wr.heap.size:=HW.I.1.lt;have q0:=bl.eO HW.I.1 HW.I.2 (r:=0) (by decide:0 < bG.n);obtain ⟨⟨u0,c0⟩,f0⟩:(∃ u,wr.cell? ⟨g,j * 3,n_⟩=o_ u)∧wr.frozen? ⟨g,j * 3,n_⟩=false:=q0;have q1:=bl.eO HW.I.1 HW.I.2 (r:=1) (by decide:1 < bG.n);obtain ⟨⟨u1,c1⟩,f1⟩:(∃ u,wr.cell? ⟨g,j * 3+1,n_⟩=o_ u)∧wr.frozen? ⟨g,j * 3+1,n_⟩=false:=q1;have h5:=bl.part (K:=bG) (x:=(⟨x.id,x.shown,x.text⟩:az)) (y:=(⟨m,(m+1) % 3 == 0,x.text⟩:az)) (j:=0) (vs:= [i_ j_ (m),b_ ((m+1) % 3 == 0)]) HW.I.1 (by show 0+2≤3; omega) (fun r hr=>by match r,hr with | 0,_=>rfl | 1,_=>rfl) (fun r hr hn=>by match r,hr,hn with | 0,_,hn=>exact absurd ⟨by omega,by show 0 < 0+2; omega⟩ hn | 1,_,hn=>exact absurd ⟨by omega,by show 1 < 0+2; omega⟩ hn | 2,_,_=>rfl );rw [HW.I.2,show bG.n=3 from rfl] at h5;simp only [bn,PT] at h5;have ES:Hid (bl bG 112 ((wr.setCell ⟨g,j * 3,n_⟩ (i_ j_ (m))).setCell ⟨g,j * 3+1,n_⟩ (b_ ((m+1) % 3 == 0))) base g cap (aJ dZ (fun _=>3) k (l.take j) ++ (⟨m,(m+1) % 3 == 0,x.text⟩:az) :: l.drop (j+1))∧(aJ dZ (fun _=>3) k (l.take j)).length=j):=⟨h5,HW.I.2⟩
   have h6:aI w (bn wr g (j * 3) [i_ j_ (m),b_ ((m+1) % 3 == 0)]) [g] :=HA.I.2.2.trans (aI.set _ (by simp));simp only [bn] at h6;have zy:Hid (aI w ((wr.setCell ⟨g,j * 3,n_⟩ (i_ j_ (m))).setCell ⟨g,j * 3+1,n_⟩ (b_ ((m+1) % 3 == 0))) [g]):=h6;clear h6;clear h5;go_wp2_with fail;refine (fh (m+1+1) (by omega) (by omega) _).mono ?_;rintro e v2 ⟨rfl,hb2⟩;have FD:Hid (bl bG 112 v2 base g cap (aJ dZ (fun _=>3) k (l.take j) ++ (⟨m,(m+1) % 3 == 0,x.text⟩:az) :: l.drop (j+1))∧(aJ dZ (fun _=>3) k (l.take j)).length=j):=⟨ES.I.1.same (hb2.block g ES.I.1.lt),ES.I.2⟩
   have HV2K:Hid (aI w v2 [g]):=zy.I.trans (aI.dI hb2);clear hb2;have q2:=bl.eO FD.I.1 FD.I.2 (r:=2) (by decide:2 < bG.n);obtain ⟨⟨u2,c2⟩,f2⟩:(∃ u,v2.cell? ⟨g,j * 3+2,n_⟩=o_ u)∧v2.frozen? ⟨g,j * 3+2,n_⟩=false:=q2;have h5:=bl.part (K:=bG) (x:=(⟨m,(m+1) % 3 == 0,x.text⟩:az)) (y:=(⟨m,(m+1) % 3 == 0,cu (m+1+1)⟩:az)) (j:=2) (vs:= [t_ (cu (m+1+1))]) FD.I.1 (by show 2+1≤3; omega) (fun r hr=>by match r,hr with | 0,_=>rfl) (fun r hr hn=>by match r,hr,hn with | 0,_,_=>rfl | 1,_,_=>rfl | 2,_,hn=>exact absurd ⟨by omega,by show 2 < 2+1; omega⟩ hn );rw [FD.I.2,show bG.n=3 from rfl] at h5;simp only [bn] at h5;have mH:Hid (bl bG 112 (v2.setCell ⟨g,j * 3+2,n_⟩ (t_ (cu (m+1+1)))) base g cap (aJ dZ (fun _=>3) k (l.take j) ++ (⟨m,(m+1) % 3 == 0,cu (m+1+1)⟩:az) :: l.drop (j+1))∧(aJ dZ (fun _=>3) k (l.take j)).length=j):=⟨h5,FD.I.2⟩
   have h6:aI w (bn v2 g (j * 3+2) [t_ (cu (m+1+1))]) [g] :=HV2K.I.trans (aI.set _ (by simp));simp only [bn] at h6;have HS1K:Hid (aI w (v2.setCell ⟨g,j * 3+2,n_⟩ (t_ (cu (m+1+1)))) [g]):=h6;clear h6;clear h5;have HN:Hid (bl bG 112 (v2.setCell ⟨g,j * 3+2,n_⟩ (t_ (cu (m+1+1)))) base g cap (aJ dZ (fun _=>3) k (l.take (j+1)) ++ l.drop (j+1))∧aI w (v2.setCell ⟨g,j * 3+2,n_⟩ (t_ (cu (m+1+1)))) [g]):=⟨by rw [kE HX.I.1,Lm,← HA.I.1]; exact mH.I.1,HS1K.I⟩
   exact Za4
  ·have i1: ¬ (j:Int) < (l.length:Int):=by omega
   have ej:j=l.length:=by omega
   subst ej;have HE:Hid (bl bG 112 wr base g cap (aJ dZ (fun _=>3) k l)∧m=k+(aF (fun _:az=>3) l:Nat)):=by have h5:=HA.I.2.1; have h6:=HA.I.1; rw [LQ,adW,QO] at h5; rw [LQ] at h6; exact ⟨h5,h6⟩
   exact H_
def vw (w:w_) (a:Option d_) (l:List az) (g j:Nat) (m:Int) (w':w_):Prop:=w'.cell? ⟨g,j * 3+2,n_⟩=o_ (t_ (cu m))∧Hid (bG.bU w' a l∧B_ w.heap.size w w')
theorem yF (a:Option d_) (l:List az) (cap:Nat) (k:Int) (w:w_) (hl:l.length≤1048576) (h0:1≤k) (h1:k+(aF (fun _=>3) l:Nat)≤90000000) (hr:bG.bU w a (aJ dZ (fun _=>3) k l)):
  k_ J3 45 #[s_ a l.length cap,i_ j_ k] w fun e w'=>e=r_ (i_ j_ (k+(aF (fun _=>3) l:Nat)))∧B_ w.heap.size w w':=by
 have HR:Hid (bG.bU w a (aJ dZ (fun _=>3) k l)∧k+(aF (fun _:az=>3) l:Nat)≤90000000):=⟨hr,h1⟩
 clear hr h1
 go_enter func45,ntmps45
 go_wp2_with fail
 go_loopw [1,5] (fun q i wr=> ∃ (j:Nat) (m:Int),j≤l.length∧i=i_ j_ j∧q=i_ j_ m∧1≤m∧m≤90000000∧Hid (m=k+(aF (fun _:az=>3) (l.take j):Nat)∧B_ w.heap.size w wr)) (fun _ i _=>l.length - (intOf i).toNat)
 case atStart=>exact ⟨0,k,Ky _,rfl,rfl,h0,by have:=HR.I.2; omega,⟨by simp [aF],Kp _ _⟩⟩
 case round=>
  obtain ⟨j,m,hj,rfl,rfl,m0,m1,HA⟩:=hrel;by_cases hlt:j < l.length
  ·have i0:(0:Int)≤(j:Int):=by omega
   have i1:(j:Int) < (l.length:Int):=by omega
   obtain ⟨x,hx⟩: ∃ x,l[j]? =o_ x:=⟨_,Kz hlt⟩
   have qw:=du (c:=fun _:az=>3) hx;have hup:=gK (c:=fun _:az=>3) hx;have hg:=jK (f:=dZ) (c:=fun _:az=>3) (k:=k) hx;rw [← HA.I.1] at hg;obtain ⟨g,ha,hat⟩:=(HR.I.1.below HA.I.2).at hg;have c0:wr.cell? ⟨g,j * 3,n_⟩=o_ (i_ j_ (m)):=hat 0 _ rfl;have c1:wr.cell? ⟨g,j * 3+1,n_⟩=o_ (b_ ((m+1) % 3 == 0)):=hat 1 _ rfl;have c2:wr.cell? ⟨g,j * 3+2,n_⟩=o_ (t_ (cu (m+1+1))):=hat 2 _ rfl;have HX:Hid (m+3≤90000000∧m+3=k+(aF (fun _:az=>3) (l.take (j+1)):Nat)∧a=o_ ⟨g,0,n_⟩∧(aJ dZ (fun _=>3) k l)[j]? =o_ (dZ m x)):=⟨by have:=HR.I.2; have:=HA.I.1; omega,by have:=HA.I.1; omega,ha,hg⟩
   have m2:m+3≤90000000:=HX.I.1;subst ha;clear hx qw hup hg hat;go_wp2_with fail;have HT:Hid (vw w (o_ ⟨g,0,n_⟩) (aJ dZ (fun _=>3) k l) g j (m+1+1) wr.drew):=⟨c2,(HR.I.1.below HA.I.2).below (Kp _ _).drew,HA.I.2.drew⟩
   clear c0 c1 c2;refine aT (vw w (o_ ⟨g,0,n_⟩) (aJ dZ (fun _=>3) k l) g j (m+1+1)) ZcR HT.I ?_
   iterate 6 (refine PI ?_ (hy:=fun w0 hS0=>by obtain ⟨q0,hH⟩:=hS0; go_simp; try with_reducible rfl))
   refine cl (t_ (cu (m+1+1))) 74 #[i_ j_ (m+1+1)] ?_ ?_ ?_
   ·exact ZcI
   ·intro w0 hS0
    refine (fh (m+1+1) (by omega) (by omega) w0).mono ?_;exact Zah
   simp only [pt,sb,s0,s1]
   (refine PI ?_ (hy:=fun w0 hS0=>by obtain ⟨q0,hH⟩:=hS0; go_simp; try with_reducible rfl))
   refine bk ZcR ?_ _;intro w1 cm;have HZ:Hid (B_ w.heap.size w w1):=cm.2.I.2;clear cm HT;go_wp2;go_roundw
   case rel=>exact ⟨j+1,m+3,by omega,by go_num,by go_num,by omega,by omega,⟨HX.I.2.1,HZ.I⟩⟩
   case measure=>simp [intOf]; omega
  ·have i1: ¬ (j:Int) < (l.length:Int):=by omega
   have HE:Hid (m=k+(aF (fun _:az=>3) l:Nat)):=by have h6:=HA.I.1; rw [KF (by omega)] at h6; exact h6
   exact Zax
def mkStr (k:Int) (_:ByteArray):ByteArray:=cu (k)
theorem uu (a:Option d_) (l:List ByteArray) (cap:Nat) (k:Int) (w:w_) (base:Nat) (hl:l.length≤1048576) (h0:1≤k) (h1:k+(aF (fun _=>1) l:Nat)≤90000000) (ho:w.ownsRow base 9 1 (s_ a l.length cap) l.length (bT.flat l)):
  k_ J3 75 #[s_ a l.length cap,i_ j_ k] w fun e w'=>e=r_ (i_ j_ (k+(aF (fun _=>1) l:Nat)))∧w'.ownsRow base 9 1 (s_ a l.length cap) l.length (bT.flat (aJ mkStr (fun _=>1) k l))∧aI w w' (blk a):=by
 by_cases hz:l.length=0
 ·have hl0:l= [] :=adU hz
  subst hl0;have HO:Hid (w.ownsRow base 9 1 (s_ a 0 cap) 0 (bT.flat [])):=ho;clear ho
  go_enter func75,ntmps75
  exact te
 obtain ⟨g,rfl,hrow⟩:=bl.fX (K:=bT) ho hz;have HR:Hid (bl bT 9 w base g cap l):=hrow;have HB:Hid (k+(aF (fun _:ByteArray=>1) l:Nat)≤90000000):=h1;clear ho hrow h1 hz
 go_enter func75,ntmps75
 go_wp2_with fail
 go_loopw [1,5] (fun q i wr=> ∃ (j:Nat) (m:Int),j≤l.length∧i=i_ j_ j∧q=i_ j_ m∧1≤m∧m≤90000000∧Hid (m=k+(aF (fun _:ByteArray=>1) (l.take j):Nat)∧bl bT 9 wr base g cap (aJ mkStr (fun _=>1) k (l.take j) ++ l.drop j)∧aI w wr [g])) (fun _ i _=>l.length - (intOf i).toNat)
 case atStart=>exact ⟨0,k,Ky _,rfl,rfl,h0,by have:=HB.I; omega,⟨by simp [aF],HR.I,aI.refl _ _⟩⟩
 case round=>
  clear HR;obtain ⟨j,m,hj,rfl,rfl,m0,m1,HA⟩:=hrel;by_cases hlt:j < l.length
  ·have i0:(0:Int)≤(j:Int):=by omega
   have i1:(j:Int) < (l.length:Int):=by omega
   obtain ⟨x,hx⟩: ∃ x,l[j]? =o_ x:=⟨_,Kz hlt⟩
   have pI:l.drop j=x :: l.drop (j+1):=mz hx;have qw:=du (c:=fun _:ByteArray=>1) hx;have hup:=gK (c:=fun _:ByteArray=>1) hx;have HX:Hid (l[j]? =o_ x∧m+1≤90000000∧m+1=k+(aF (fun _:ByteArray=>1) (l.take (j+1)):Nat)):=⟨hx,by have:=HB.I; have:=HA.I.1; omega,by have:=HA.I.1; omega⟩
   have HW:Hid (bl bT 9 wr base g cap (aJ mkStr (fun _=>1) k (l.take j) ++ x :: l.drop (j+1))∧(aJ mkStr (fun _=>1) k (l.take j)).length=j):=⟨by have:=HA.I.2.1; rwa [pI] at this,by rw [bE,Lk]; omega⟩
   clear hx pI qw hup;have m2:m+1≤90000000:=HX.I.2.1;have hgl:g < wr.heap.size:=HW.I.1.lt;go_wp2_with fail;refine (fh (m) (by omega) (by omega) _).mono ?_;rintro e v0 ⟨rfl,hb0⟩;have HV0:Hid (bl bT 9 v0 base g cap (aJ mkStr (fun _=>1) k (l.take j) ++ (x) :: l.drop (j+1))∧(aJ mkStr (fun _=>1) k (l.take j)).length=j):=⟨HW.I.1.same (hb0.block g HW.I.1.lt),HW.I.2⟩
   have HV0K:Hid (aI w v0 [g]):=HA.I.2.2.trans (aI.dI hb0);clear hb0;have q0:=bl.eO HV0.I.1 HV0.I.2 (r:=0) (by decide:0 < bT.n);obtain ⟨⟨u0,c0⟩,f0⟩:(∃ u,v0.cell? ⟨g,j,n_⟩=o_ u)∧v0.frozen? ⟨g,j,n_⟩=false:=by have h5:=q0; rw [show j * bT.n+0=j by show j * 1+0=j; omega] at h5; exact h5
   have h5:=bl.part (K:=bT) (x:=x) (y:=(cu (m))) (j:=0) (vs:= [t_ (cu (m))]) HV0.I.1 (by show 0+1≤1; omega) (fun r hr=>by match r,hr with | 0,_=>rfl) (fun r hr hn=>by match r,hr,hn with | 0,_,hn=>exact absurd ⟨by omega,by show 0 < 0+1; omega⟩ hn );rw [HV0.I.2,show bT.n=1 from rfl] at h5;simp only [bn,Nat.mul_one,PT] at h5;have ES:Hid (bl bT 9 (v0.setCell ⟨g,j,n_⟩ (t_ (cu (m)))) base g cap (aJ mkStr (fun _=>1) k (l.take j) ++ (cu (m)) :: l.drop (j+1))∧(aJ mkStr (fun _=>1) k (l.take j)).length=j):=⟨h5,HV0.I.2⟩
   have h6:aI w (bn v0 g (j) [t_ (cu (m))]) [g] :=HV0K.I.trans (aI.set _ (by simp));simp only [bn] at h6;have zy:Hid (aI w (v0.setCell ⟨g,j,n_⟩ (t_ (cu (m)))) [g]):=h6;clear h6;clear h5;have HN:Hid (bl bT 9 (v0.setCell ⟨g,j,n_⟩ (t_ (cu (m)))) base g cap (aJ mkStr (fun _=>1) k (l.take (j+1)) ++ l.drop (j+1))∧aI w (v0.setCell ⟨g,j,n_⟩ (t_ (cu (m)))) [g]):=⟨by rw [kE HX.I.1,Lm,← HA.I.1]; exact ES.I.1,zy.I⟩
   go_wp2;go_roundw
   case rel=>exact ⟨j+1,m+1,by omega,by go_num,by go_num,by omega,by omega,⟨HX.I.2.2,HN.I.1,HN.I.2⟩⟩
   case measure=>simp [intOf]; omega
  ·have i1: ¬ (j:Int) < (l.length:Int):=by omega
   have ej:j=l.length:=by omega
   subst ej;have HE:Hid (bl bT 9 wr base g cap (aJ mkStr (fun _=>1) k l)∧m=k+(aF (fun _:ByteArray=>1) l:Nat)):=by have h5:=HA.I.2.1; have h6:=HA.I.1; rw [LQ,adW,QO] at h5; rw [LQ] at h6; exact ⟨h5,h6⟩
   exact H_
def B7 (w:w_) (a:Option d_) (l:List ByteArray) (g j:Nat) (m:Int) (w':w_):Prop:=w'.cell? ⟨g,j,n_⟩=o_ (t_ (cu m))∧Hid (bT.bU w' a l∧B_ w.heap.size w w')
theorem uo (a:Option d_) (l:List ByteArray) (cap:Nat) (k:Int) (w:w_) (hl:l.length≤1048576) (h0:1≤k) (h1:k+(aF (fun _=>1) l:Nat)≤90000000) (hr:bT.bU w a (aJ mkStr (fun _=>1) k l)):
  k_ J3 77 #[s_ a l.length cap,i_ j_ k] w fun e w'=>e=r_ (i_ j_ (k+(aF (fun _=>1) l:Nat)))∧B_ w.heap.size w w':=by
 have HR:Hid (bT.bU w a (aJ mkStr (fun _=>1) k l)∧k+(aF (fun _:ByteArray=>1) l:Nat)≤90000000):=⟨hr,h1⟩
 clear hr h1
 go_enter func77,ntmps77
 go_wp2_with fail
 go_loopw [1,5] (fun q i wr=> ∃ (j:Nat) (m:Int),j≤l.length∧i=i_ j_ j∧q=i_ j_ m∧1≤m∧m≤90000000∧Hid (m=k+(aF (fun _:ByteArray=>1) (l.take j):Nat)∧B_ w.heap.size w wr)) (fun _ i _=>l.length - (intOf i).toNat)
 case atStart=>exact ⟨0,k,Ky _,rfl,rfl,h0,by have:=HR.I.2; omega,⟨by simp [aF],Kp _ _⟩⟩
 case round=>
  obtain ⟨j,m,hj,rfl,rfl,m0,m1,HA⟩:=hrel;by_cases hlt:j < l.length
  ·have i0:(0:Int)≤(j:Int):=by omega
   have i1:(j:Int) < (l.length:Int):=by omega
   obtain ⟨x,hx⟩: ∃ x,l[j]? =o_ x:=⟨_,Kz hlt⟩
   have qw:=du (c:=fun _:ByteArray=>1) hx;have hup:=gK (c:=fun _:ByteArray=>1) hx;have hg:=jK (f:=mkStr) (c:=fun _:ByteArray=>1) (k:=k) hx;rw [← HA.I.1] at hg;obtain ⟨g,ha,hat⟩:=(HR.I.1.below HA.I.2).at hg;have c0:wr.cell? ⟨g,j,n_⟩=o_ (t_ (cu (m))):=by have h5:=hat 0 _ rfl; rw [show j * bT.n+0=j by show j * 1+0=j; omega] at h5; exact h5
   have HX:Hid (m+1≤90000000∧m+1=k+(aF (fun _:ByteArray=>1) (l.take (j+1)):Nat)∧a=o_ ⟨g,0,n_⟩∧(aJ mkStr (fun _=>1) k l)[j]? =o_ (mkStr m x)):=⟨by have:=HR.I.2; have:=HA.I.1; omega,by have:=HA.I.1; omega,ha,hg⟩
   have m2:m+1≤90000000:=HX.I.1;subst ha;clear hx qw hup hg hat;go_wp2_with fail;have HT:Hid (B7 w (o_ ⟨g,0,n_⟩) (aJ mkStr (fun _=>1) k l) g j (m) wr.drew):=⟨c0,(HR.I.1.below HA.I.2).below (Kp _ _).drew,HA.I.2.drew⟩
   clear c0;refine aT (B7 w (o_ ⟨g,0,n_⟩) (aJ mkStr (fun _=>1) k l) g j (m)) ZcR HT.I ?_
   iterate 5 (refine PI ?_ (hy:=fun w0 hS0=>by obtain ⟨q0,hH⟩:=hS0; go_simp; try with_reducible rfl))
   refine cl (t_ (cu (m))) 74 #[i_ j_ (m)] ?_ ?_ ?_
   ·exact ZcI
   ·intro w0 hS0
    refine (fh (m) (by omega) (by omega) w0).mono ?_;exact Zah
   simp only [pt,sb,s0,s1]
   (refine PI ?_ (hy:=fun w0 hS0=>by obtain ⟨q0,hH⟩:=hS0; go_simp; try with_reducible rfl))
   refine bk ZcR ?_ _;intro w1 cm;have HZ:Hid (B_ w.heap.size w w1):=cm.2.I.2;clear cm HT;go_wp2;go_roundw
   case rel=>exact ⟨j+1,m+1,by omega,by go_num,by go_num,by omega,by omega,⟨HX.I.2.1,HZ.I⟩⟩
   case measure=>simp [intOf]; omega
  ·have i1: ¬ (j:Int) < (l.length:Int):=by omega
   have HE:Hid (m=k+(aF (fun _:ByteArray=>1) l:Nat)):=by have h6:=HA.I.1; rw [KF (by omega)] at h6; exact h6
   exact Zax
structure af.ep (w:w_) (p:af):Prop where
 L8:bg.ep w p.aN p.L8
 aj:dm.ep w p.bc p.aj
 L9:bJ.ep w p.ay p.L9
 ag:bG.ep w p.ax p.ag
 ae:bm.ep w p.am p.ae
 ai:bX.ep w p.aK p.ai
theorem af.ep.below {w w':w_} {p:af} (h:p.ep w) (hb:B_ w.heap.size w w'):p.ep w':=⟨h.L8.below hb,h.aj.below hb,h.L9.below hb,h.ag.below hb,h.ae.below hb,h.ai.below hb⟩
structure af.Ud (p:af):Prop where
 dl:p.L8.length≤maxLen
 fx:p.aj.length≤maxLen
 cD:p.L9.length≤maxLen
 cC:p.ag.length≤maxLen
 cb:p.ae.length≤maxLen
 dH:p.ai.length≤maxLen
 L8: ∀ x∈p.L8,((x.prog.length≤maxLen∧ ∀ o∈x.prog,o.2.2.2.size≤maxLen)∧x.held.size≤maxLen∧x.got.size≤maxLen)
 ag: ∀ x∈p.ag,(x.text.size≤maxLen)
 ae: ∀ x∈p.ae,(x.Ma.length≤maxLen∧ ∀ s∈x.Ma,s.size≤maxLen)
 ai: ∀ x∈p.ai,(x.Ma.length≤maxLen∧ ∀ s∈x.Ma,s.size≤maxLen)
structure af.yq (p:af):Prop where
 dl:p.L8.length≤1048576
 fx:p.aj.length≤1048576
 cD:p.L9.length≤1048576
 cC:p.ag.length≤1048576
 cb:p.ae.length≤1048576
 dH:p.ai.length≤1048576
 L8: ∀ x∈p.L8,x.dX
 ag: ∀ x∈p.ag,(x.text.size≤1048576)
 ae: ∀ x∈p.ae,(x.Ma.length≤1048576∧ ∀ s∈x.Ma,s.size≤1048576)
 ai: ∀ x∈p.ai,(x.Ma.length≤1048576∧ ∀ s∈x.Ma,s.size≤1048576)
def aE.total (p:aE):Nat:=p.L8.length+g9 (fun x:aD=>x.prog.length) p.L8+p.aj.length+p.L9.length+p.ag.length+(p.ae.length+g9 (fun x:ci=>x.Ma.length) p.ae)+(p.ai.length+g9 (fun x:dS=>x.Ma.length) p.ai)
theorem af.Bf (p:af):p.pure.total=p.L8.length+g9 (fun x:ao=>x.prog.length) p.L8+p.aj.length+p.L9.length+p.ag.length+(p.ae.length+g9 (fun x:au=>x.Ma.length) p.ae)+(p.ai.length+g9 (fun x:aM=>x.Ma.length) p.ai):=by
 simp only [aE.total,af.pure,g9,KG,Lv];rfl
theorem U6 (p:af) (left:Int) (w:w_) (hb:p.Ud) (hc:p.ep w) (h0:0≤left) (h1:left≤1048576):
  k_ J3 5 #[a_ p.cells,i_ j_ left] w fun e w'=>jZ w left p.pure.total p.yq e w':=by
 have HB:Hid p.Ud:=hb;have HX:Hid ((w.alloc (c_ p.row 29)).heap[w.heap.size]? =o_ (c_ p.row 29)∧B_ w.heap.size w (w.alloc (c_ p.row 29))):=⟨Kj _ _,(Kp _ _).alloc (Ki _) _⟩
 have HC:Hid (p.ep w):=hc;clear hb hc;unfold af.cells
 go_enter func5,ntmps5
 go_wp2_with fail;generalize w.alloc (c_ p.row 29)=W0 at *;refine (E1 p.aN p.L8 p.aW left W0 HB.I.dl (HC.I.L8.below HX.I.2) HB.I.L8 (by omega) (by omega)).mono ?_;rintro e W1 ⟨r1,rfl,a1,b1,s1,hb1⟩;have HQ1:Hid (0≤r1→(p.L8.length≤1048576∧ ∀ x∈p.L8,x.dX)∧r1+(p.L8.length+g9 (fun x:ao=>x.prog.length) p.L8:Nat)≤left):=s1;have HY:Hid (W1.heap[w.heap.size]? =o_ (c_ p.row 29)∧B_ w.heap.size w W1):=⟨(hb1.block _ (J2.1 HX.I.1).1).trans HX.I.1,HX.I.2.trans (hb1.mono HX.I.2.size)⟩
 clear hb1 s1 HX;have HX:=HY;clear HY;by_cases n1:r1 < 0
 ·exact Zbt
 have m1:W1.cell? ⟨w.heap.size,3,n_⟩=o_ (s_ p.bc p.aj.length p.bF):=by have:=HX.I.1; simp [World.cell?,this]
 go_wp2_with fail;clear m1;refine (Hq p.bc p.aj p.bF r1 W1 HB.I.fx (by omega) (by omega)).mono ?_;rintro e W2 ⟨r2,rfl,a2,b2,s2,hb2⟩;have ky:Hid (0≤r2→(p.aj.length≤1048576)∧r2+(p.aj.length:Nat)≤r1):=s2;have HY:Hid (W2.heap[w.heap.size]? =o_ (c_ p.row 29)∧B_ w.heap.size w W2):=⟨(hb2.block _ (J2.1 HX.I.1).1).trans HX.I.1,HX.I.2.trans (hb2.mono HX.I.2.size)⟩
 clear hb2 s2 HX;have HX:=HY;clear HY;by_cases n2:r2 < 0
 ·exact Zbt
 have m2:W2.cell? ⟨w.heap.size,4,n_⟩=o_ (s_ p.ay p.L9.length p.aO):=by have:=HX.I.1; simp [World.cell?,this]
 go_wp2_with fail;clear m2;refine (Dq p.ay p.L9 p.aO r2 W2 HB.I.cD (by omega) (by omega)).mono ?_;rintro e W3 ⟨r3,rfl,a3,b3,s3,hb3⟩;have Ck:Hid (0≤r3→(p.L9.length≤1048576)∧r3+(p.L9.length:Nat)≤r2):=s3;have HY:Hid (W3.heap[w.heap.size]? =o_ (c_ p.row 29)∧B_ w.heap.size w W3):=⟨(hb3.block _ (J2.1 HX.I.1).1).trans HX.I.1,HX.I.2.trans (hb3.mono HX.I.2.size)⟩
 clear hb3 s3 HX;have HX:=HY;clear HY;by_cases n3:r3 < 0
 ·exact Zbt
 have m3:W3.cell? ⟨w.heap.size,5,n_⟩=o_ (s_ p.ax p.ag.length p.aP):=by have:=HX.I.1; simp [World.cell?,this]
 go_wp2_with fail;clear m3;refine (C4 p.ax p.ag p.aP r3 W3 HB.I.cC (HC.I.ag.below HX.I.2) HB.I.ag (by omega) (by omega)).mono ?_;rintro e W4 ⟨r4,rfl,a4,b4,s4,hb4⟩;have Xc:Hid (0≤r4→(p.ag.length≤1048576∧ ∀ x∈p.ag,(x.text.size≤1048576))∧r4+(p.ag.length:Nat)≤r3):=s4;have HY:Hid (W4.heap[w.heap.size]? =o_ (c_ p.row 29)∧B_ w.heap.size w W4):=⟨(hb4.block _ (J2.1 HX.I.1).1).trans HX.I.1,HX.I.2.trans (hb4.mono HX.I.2.size)⟩
 clear hb4 s4 HX;have HX:=HY;clear HY;by_cases n4:r4 < 0
 ·exact Zbt
 have m4:W4.cell? ⟨w.heap.size,6,n_⟩=o_ (s_ p.am p.ae.length p.aG):=by have:=HX.I.1; simp [World.cell?,this]
 go_wp2_with fail;clear m4;refine (Ca p.am p.ae p.aG r4 W4 HB.I.cb (HC.I.ae.below HX.I.2) HB.I.ae (by omega) (by omega)).mono ?_;rintro e W5 ⟨r5,rfl,a5,b5,s5,iJ⟩;have Xb:Hid (0≤r5→(p.ae.length≤1048576∧ ∀ x∈p.ae,(x.Ma.length≤1048576∧ ∀ s∈x.Ma,s.size≤1048576))∧r5+(p.ae.length+g9 (fun x:au=>x.Ma.length) p.ae:Nat)≤r4):=s5;have HY:Hid (W5.heap[w.heap.size]? =o_ (c_ p.row 29)∧B_ w.heap.size w W5):=⟨(iJ.block _ (J2.1 HX.I.1).1).trans HX.I.1,HX.I.2.trans (iJ.mono HX.I.2.size)⟩
 clear iJ s5 HX;have HX:=HY;clear HY;by_cases n5:r5 < 0
 ·exact Zbt
 have m5:W5.cell? ⟨w.heap.size,7,n_⟩=o_ (s_ p.aK p.ai.length p.aV):=by have:=HX.I.1; simp [World.cell?,this]
 go_wp2_with fail;clear m5;refine (EC p.aK p.ai p.aV r5 W5 HB.I.dH (HC.I.ai.below HX.I.2) HB.I.ai (by omega) (by omega)).mono ?_;rintro e W6 ⟨r6,rfl,a6,b6,s6,jQ⟩;have HQ6:Hid (0≤r6→(p.ai.length≤1048576∧ ∀ x∈p.ai,(x.Ma.length≤1048576∧ ∀ s∈x.Ma,s.size≤1048576))∧r6+(p.ai.length+g9 (fun x:aM=>x.Ma.length) p.ai:Nat)≤r5):=s6;have HY:Hid (W6.heap[w.heap.size]? =o_ (c_ p.row 29)∧B_ w.heap.size w W6):=⟨(jQ.block _ (J2.1 HX.I.1).1).trans HX.I.1,HX.I.2.trans (jQ.mono HX.I.2.size)⟩
 clear jQ s6 HX;have HX:=HY;clear HY;by_cases n6:r6 < 0
 ·exact Zbt
 go_wp2;go_ret;exact ⟨r6,rfl,by omega,by omega,fun _=>⟨⟨(HQ1.I (by omega)).1.1,(ky.I (by omega)).1,(Ck.I (by omega)).1,(Xc.I (by omega)).1.1,(Xb.I (by omega)).1.1,(HQ6.I (by omega)).1.1,(HQ1.I (by omega)).1.2,(Xc.I (by omega)).1.2,(Xb.I (by omega)).1.2,(HQ6.I (by omega)).1.2⟩,by rw [af.Bf]; have t1:=(HQ1.I (by omega)).2; have t2:=(ky.I (by omega)).2; have t3:=(Ck.I (by omega)).2; have t4:=(Xc.I (by omega)).2; have t5:=(Xb.I (by omega)).2; have t6:=(HQ6.I (by omega)).2; omega⟩,HX.I.2⟩
theorem p8 {α:Type} {N:gd α} {K:Kind α} {w w':w_} {len lo:Nat} {l I:List α} (h:sd N K w w' len l I) (hl:lo≤w.heap.size):fV lo (fun W'=>W'.ownsRow w.heap.size N.T K.n (s_ (o_ ⟨w.heap.size,0,n_⟩) len len) len (K.flat I)∧ ∀ x∈I,N.cO W' w.heap.size x) w':=fun W' hs _=>
 ⟨aL h.row fun g hg=>hs g (by have:=(cf h.row hg).1; omega) (cf h.row hg).2,fun x hx=>((h.mine x hx).low (by omega)).same fun g hk=>hs g (by have:=((h.mine x hx).lt hk).1; omega) ((h.mine x hx).lt hk).2⟩
theorem sE {w w':w_} {T n len lo:Nat} {xs:List v_} (h:w'.ownsRow w.heap.size T n (s_ (o_ ⟨w.heap.size,0,n_⟩) len len) len xs) (hl:lo≤w.heap.size):fV lo (fun W'=>W'.ownsRow w.heap.size T n (s_ (o_ ⟨w.heap.size,0,n_⟩) len len) len xs) w':=fun W' hs _=>
 aL h fun g hg=>hs g (by have:=(cf h hg).1; omega) (cf h hg).2
theorem uh {α:Type} {N:gd α} {K:Kind α} {w w':w_} {len:Nat} {l I:List α} (h:sd N K w w' len l I):nU w.heap.size w'.heap.size (blk (o_ ⟨w.heap.size,0,n_⟩) ++ I.filterMap N.bt):=by
 have h1:=(cf h.row (g:=w.heap.size) (by rw [fZ]; rfl)).2;have hk:nU (w.heap.size+1) w'.heap.size (I.filterMap N.bt):=⟨h.nodup,fun g hg=>by
  obtain ⟨x,hx,hk⟩:=dP.1 hg;exact (h.mine x hx).lt hk⟩
 have hb:nU w.heap.size (w.heap.size+1) (blk (o_ ⟨w.heap.size,0,n_⟩)):=⟨by simp [blk],fun g hg=>by rw [fZ] at hg; simp at hg; omega⟩
 exact hb.append hk (Ki _) (by omega) (by omega)
theorem zL {w w':w_} {T n len:Nat} {xs:List v_} (h:w'.ownsRow w.heap.size T n (s_ (o_ ⟨w.heap.size,0,n_⟩) len len) len xs):nU w.heap.size w'.heap.size (blk (o_ ⟨w.heap.size,0,n_⟩)):=
 ⟨by simp [blk],fun g hg=>cf h hg⟩
theorem ni {lo:Nat} {F:w_→Prop} {W:w_} {vs:List v_} (h:fV (lo+1+1) F W):F (bn W lo 0 vs):=(h.step (fun g h1 _=>de _ (by omega)) (by rw [fH]; exact Ki _)).here
theorem rX {α β:Type} {N:gd α} {f:α→β} (hf: ∀ x,f (N.set x n_ 0)=f x) {l I:List α} (h:I.map (fun x=>N.set x n_ 0)=l.map (fun x=>N.set x n_ 0)):I.map f=l.map f:=by
 have:=congrArg (List.map f) h
 simp only [Lv,Ls,hf] at this;exact this
theorem nf {α:Type} {N:gd α} {l I:List α} (h:I.map (fun x=>N.set x n_ 0)=l.map (fun x=>N.set x n_ 0)):I.length=l.length:=by
 have:=congrArg List.length h
 simpa using this
theorem Dy {p:af} {W:w_} {lo s1 e1 s2 e2 s3 e3 s4 e4 s5 e5 s6 e6:Nat} {o1:List ao} {o5:List au} {o6:List aM} (hs:lo≤s1∧e1≤s2∧e2≤s3∧e3≤s4∧e4≤s5∧e5≤s6) (hz:s1≤e1∧s2≤e2∧s3≤e3∧s4≤e4∧s5≤e5∧s6≤e6)
  (h1:(fun W'=>W'.ownsRow s1 100 12 (s_ (o_ ⟨s1,0,n_⟩) p.L8.length p.L8.length) p.L8.length (bg.flat o1)∧ ∀ x∈o1,aR.cO W' s1 x) W)
  (b1:nU s1 e1 (blk (o_ ⟨s1,0,n_⟩) ++ o1.filterMap aR.bt))
  (h2:(fun W'=>W'.ownsRow s2 105 3 (s_ (o_ ⟨s2,0,n_⟩) p.aj.length p.aj.length) p.aj.length (dm.flat p.aj)) W)
  (b2:nU s2 e2 (blk (o_ ⟨s2,0,n_⟩)))
  (h3:(fun W'=>W'.ownsRow s3 109 2 (s_ (o_ ⟨s3,0,n_⟩) p.L9.length p.L9.length) p.L9.length (bJ.flat p.L9)) W)
  (b3:nU s3 e3 (blk (o_ ⟨s3,0,n_⟩)))
  (h4:(fun W'=>W'.ownsRow s4 112 3 (s_ (o_ ⟨s4,0,n_⟩) p.ag.length p.ag.length) p.ag.length (bG.flat p.ag)) W)
  (b4:nU s4 e4 (blk (o_ ⟨s4,0,n_⟩)))
  (h5:(fun W'=>W'.ownsRow s5 114 3 (s_ (o_ ⟨s5,0,n_⟩) p.ae.length p.ae.length) p.ae.length (bm.flat o5)∧ ∀ x∈o5,aC.cO W' s5 x) W)
  (b5:nU s5 e5 (blk (o_ ⟨s5,0,n_⟩) ++ o5.filterMap aC.bt))
  (h6:(fun W'=>W'.ownsRow s6 116 5 (s_ (o_ ⟨s6,0,n_⟩) p.ai.length p.ai.length) p.ai.length (bX.flat o6)∧ ∀ x∈o6,aU.cO W' s6 x) W)
  (b6:nU s6 e6 (blk (o_ ⟨s6,0,n_⟩) ++ o6.filterMap aU.bt))
  (a1:o1.map (fun x=>aR.set x n_ 0)=p.L8.map (fun x=>aR.set x n_ 0)) (a5:o5.map (fun x=>aC.set x n_ 0)=p.ae.map (fun x=>aC.set x n_ 0)) (a6:o6.map (fun x=>aU.set x n_ 0)=p.ai.map (fun x=>aU.set x n_ 0)):
  ap W lo (⟨p.id,p.next,o1,o_ ⟨s1,0,n_⟩,p.L8.length,p.aj,o_ ⟨s2,0,n_⟩,p.aj.length,p.L9,o_ ⟨s3,0,n_⟩,p.L9.length,p.ag,o_ ⟨s4,0,n_⟩,p.ag.length,o5,o_ ⟨s5,0,n_⟩,p.ae.length,o6,o_ ⟨s6,0,n_⟩,p.ai.length⟩:af)∧(⟨p.id,p.next,o1,o_ ⟨s1,0,n_⟩,p.L8.length,p.aj,o_ ⟨s2,0,n_⟩,p.aj.length,p.L9,o_ ⟨s3,0,n_⟩,p.L9.length,p.ag,o_ ⟨s4,0,n_⟩,p.ag.length,o5,o_ ⟨s5,0,n_⟩,p.ae.length,o6,o_ ⟨s6,0,n_⟩,p.ai.length⟩:af).pure=p.pure:=by
 have l1:=nf a1;have l5:=nf a5;have l6:=nf a6;refine ⟨⟨?_,cq h2 (by omega),cq h3 (by omega),cq h4 (by omega),?_,?_,fun x hx=>(h1.2 x hx).low (by omega),fun x hx=>(h5.2 x hx).low (by omega),fun x hx=>(h6.2 x hx).low (by omega),?_⟩,?_⟩
 ·have:=cq (base':=lo) h1.1 (by omega)
  simp only [l1];exact this
 ·have:=cq (base':=lo) h5.1 (by omega)
  simp only [l5];exact this
 ·have:=cq (base':=lo) h6.1 (by omega)
  simp only [l6];exact this
 ·simp only [af.Mc]
  have:=b1.append (b2.append (b3.append (b4.append (b5.append b6 (by omega) (by omega) (by omega)) (by omega) (by omega) (by omega)) (by omega) (by omega) (by omega)) (by omega) (by omega) (by omega)) (by omega) (by omega) (by omega)
  simp only [Lm] at this;exact this.1
 ·show aE.mk _ _ _ _ _ _ _ _=aE.mk _ _ _ _ _ _ _ _
  have e1:o1.map (·.toaD)=p.L8.map (·.toaD):=rX (fun _=>rfl) a1;have e5:o5.map (·.toci)=p.ae.map (·.toci):=rX (fun _=>rfl) a5;have e6:o6.map (·.todS)=p.ai.map (·.todS):=rX (fun _=>rfl) a6;rw [e1,e5,e6]
structure CM (w W:w_) (p:af) (cur:Array v_):Prop where
 src:W.heap[w.heap.size]? =o_ (c_ p.cells 29)
 res:W.heap[w.heap.size+1]? =o_ (c_ ar 38)
 var:W.heap[w.heap.size+1+1]? =o_ (c_ cur 38)
 cd:B_ w.heap.size w W
theorem CM.lt {w W:w_} {p:af} {cur:Array v_} (h:CM w W p cur):w.heap.size+1+1 < W.heap.size:=(J2.1 h.var).1
theorem CM.below {w W W':w_} {p:af} {cur:Array v_} (h:CM w W p cur) (hb:B_ W.heap.size W W'):CM w W' p cur:=by
 have:=h.lt
 exact ⟨(hb.block _ (by omega)).trans h.src,(hb.block _ (by omega)).trans h.res,(hb.block _ (by omega)).trans h.var,h.cd.trans (hb.mono h.cd.size)⟩
theorem CM.set {w W:w_} {p:af} {cur:Array v_} (h:CM w W p cur) (i:Nat) (v:v_):CM w (W.setCell ⟨w.heap.size+1+1,i,n_⟩ v) p (cur.setIfInBounds i v):=
 ⟨(K6 W _ v _ (by show ¬ w.heap.size=w.heap.size+1+1; omega)).trans h.src,(K6 W _ v _ (by show ¬ w.heap.size+1=w.heap.size+1+1; omega)).trans h.res,heap_setCell_same W _ i cur _ v h.var,h.cd.setCell (by show w.heap.size≤w.heap.size+1+1; omega) v⟩
abbrev slz (S n:Nat):v_:=s_ (o_ ⟨S,0,n_⟩) n n
abbrev tvz (v w:w_) (i:Nat) (x:v_):w_:=v.setCell ⟨w.heap.size+1+1,i,n_⟩ x
theorem Ve (p:af) (w:w_) (hs:p.yq) (hc:p.ep w):
  k_ J3 7 #[a_ p.cells] w fun e w'=> ∃ p',e=r_ (a_ p'.cells)∧ap w' w.heap.size p'∧p'.pure=p.pure∧B_ w.heap.size w w':=by
 have HS:Hid p.yq:=hs;have HC:Hid (p.ep w):=hc;have Hz:Hid (CM w (((w.alloc (c_ p.row 29)).alloc (c_ ar 38)).alloc (c_ #[i_ j_ p.id,i_ j_ p.next,s_ n_ 0 0,s_ n_ 0 0,s_ n_ 0 0,s_ n_ 0 0,s_ n_ 0 0,s_ n_ 0 0] 38)) p #[i_ j_ p.id,i_ j_ p.next,s_ n_ 0 0,s_ n_ 0 0,s_ n_ 0 0,s_ n_ 0 0,s_ n_ 0 0,s_ n_ 0 0]):=⟨(dR w _ _ _).1,(dR w _ _ _).2.1,(dR w _ _ _).2.2.1,fg w _ _ _⟩
 have HLO:Hid (w.heap.size+1+1 < (((w.alloc (c_ p.row 29)).alloc (c_ ar 38)).alloc (c_ #[i_ j_ p.id,i_ j_ p.next,s_ n_ 0 0,s_ n_ 0 0,s_ n_ 0 0,s_ n_ 0 0,s_ n_ 0 0,s_ n_ 0 0] 38)).heap.size):=Hz.I.lt;clear hs hc;unfold af.cells
 go_enter func7,ntmps7
 go_wp2_with fail;generalize ((w.alloc (c_ p.row 29)).alloc (c_ ar 38)).alloc (c_ #[i_ j_ p.id,i_ j_ p.next,s_ n_ 0 0,s_ n_ 0 0,s_ n_ 0 0,s_ n_ 0 0,s_ n_ 0 0,s_ n_ 0 0] 38)=W0 at *;refine (ET p.aN p.L8 p.aW W0 HS.I.dl (fun x hx=>(HS.I.L8 x hx).prog) (HC.I.L8.below Hz.I.cd)).mono ?_;rintro e v1 ⟨rfl,o1,Dz⟩;have wm:Hid (CM w (tvz v1 w 2 (slz W0.heap.size p.L8.length)) p #[i_ j_ p.id,i_ j_ p.next,slz W0.heap.size p.L8.length,s_ n_ 0 0,s_ n_ 0 0,s_ n_ 0 0,s_ n_ 0 0,s_ n_ 0 0]):=(Hz.I.below Dz.cd).set 2 _;have wh:Hid (fV (w.heap.size+1+1+1) (fun W'=>W'.ownsRow W0.heap.size 100 12 (slz W0.heap.size p.L8.length) p.L8.length (bg.flat o1)∧ ∀ x∈o1,aR.cO W' W0.heap.size x) (tvz v1 w 2 (slz W0.heap.size p.L8.length))):=dK (p8 Dz (lo:=w.heap.size+1+1+1) Hz.I.lt) (Kp _ _);have fQ:Hid (nU W0.heap.size v1.heap.size (blk (o_ ⟨W0.heap.size,0,n_⟩) ++ o1.filterMap aR.bt)∧W0.heap.size≤v1.heap.size∧o1.map (fun x=>aR.set x n_ 0)=p.L8.map (fun x=>aR.set x n_ 0)):=⟨uh Dz,Dz.cd.size,Dz.alike⟩
 have HV1:Hid (v1.heap.size=(tvz v1 w 2 (slz W0.heap.size p.L8.length)).heap.size):=by show _=_; simp [World.setCell]
 have hvar:=(Hz.I.below Dz.cd).var;have d1:v1.cell? ⟨w.heap.size+1+1,2,n_⟩=o_ (s_ n_ 0 0):=by simp [World.cell?,hvar]
 have f1:v1.frozen? ⟨w.heap.size+1+1,2,n_⟩=false:=by simp [World.frozen?,hvar]
 clear hvar Dz;have m1:(tvz v1 w 2 (slz W0.heap.size p.L8.length)).cell? ⟨w.heap.size,3,n_⟩=o_ (s_ p.bc p.aj.length p.bF):=by have:=wm.I.src; simp [World.cell?,this,af.cells]
 unfold tvz slz at *;go_wp2_with fail;generalize v1.setCell ⟨w.heap.size+1+1,2,n_⟩ (s_ (o_ ⟨W0.heap.size,0,n_⟩) p.L8.length p.L8.length)=W1 at *;clear m1 d1 f1 Hz;generalize cm:W0.heap.size=S1 at *;have HG1:Hid (W0.heap.size=S1∧v1.heap.size=W1.heap.size):=⟨cm,HV1.I⟩
 clear cm HV1;refine (Hf p.bc p.aj p.bF W1 HS.I.fx (HC.I.aj.below wm.I.cd)).mono ?_;rintro e v2 ⟨rfl,hcp2,hb2⟩;have xD:Hid (CM w (tvz v2 w 3 (slz W1.heap.size p.aj.length)) p #[i_ j_ p.id,i_ j_ p.next,slz S1 p.L8.length,slz W1.heap.size p.aj.length,s_ n_ 0 0,s_ n_ 0 0,s_ n_ 0 0,s_ n_ 0 0]):=(wm.I.below hb2).set 3 _;have zz:Hid (fV (w.heap.size+1+1+1) (fun W'=>W'.ownsRow W1.heap.size 105 3 (slz W1.heap.size p.aj.length) p.aj.length (dm.flat p.aj)) (tvz v2 w 3 (slz W1.heap.size p.aj.length))):=dK (sE hcp2 (lo:=w.heap.size+1+1+1) wm.I.lt) (Kp _ _);have rc:Hid (fV (w.heap.size+1+1+1) (fun W'=>W'.ownsRow S1 100 12 (slz S1 p.L8.length) p.L8.length (bg.flat o1)∧ ∀ x∈o1,aR.cO W' S1 x) (tvz v2 w 3 (slz W1.heap.size p.aj.length))):=dK wh.I hb2;clear wh;have wh:=rc;clear rc;have cy:Hid (nU W1.heap.size v2.heap.size (blk (o_ ⟨W1.heap.size,0,n_⟩))∧W1.heap.size≤v2.heap.size):=⟨zL hcp2,hb2.size⟩
 have FD:Hid (v2.heap.size=(tvz v2 w 3 (slz W1.heap.size p.aj.length)).heap.size):=by show _=_; simp [World.setCell]
 have hvar:=(wm.I.below hb2).var;have d2:v2.cell? ⟨w.heap.size+1+1,3,n_⟩=o_ (s_ n_ 0 0):=by simp [World.cell?,hvar]
 have f2:v2.frozen? ⟨w.heap.size+1+1,3,n_⟩=false:=by simp [World.frozen?,hvar]
 clear hvar hcp2 hb2;have m2:(tvz v2 w 3 (slz W1.heap.size p.aj.length)).cell? ⟨w.heap.size,4,n_⟩=o_ (s_ p.ay p.L9.length p.aO):=by have:=xD.I.src; simp [World.cell?,this,af.cells]
 unfold tvz slz at *;go_wp2_with fail;generalize v2.setCell ⟨w.heap.size+1+1,3,n_⟩ (s_ (o_ ⟨W1.heap.size,0,n_⟩) p.aj.length p.aj.length)=W2 at *;clear m2 d2 f2 wm;generalize hS2:W1.heap.size=S2 at *;have HG2:Hid (W1.heap.size=S2∧v2.heap.size=W2.heap.size):=⟨hS2,FD.I⟩
 clear hS2 FD;refine (Df p.ay p.L9 p.aO W2 HS.I.cD (HC.I.L9.below xD.I.cd)).mono ?_;rintro e v3 ⟨rfl,hcp3,hb3⟩;have Fz:Hid (CM w (tvz v3 w 4 (slz W2.heap.size p.L9.length)) p #[i_ j_ p.id,i_ j_ p.next,slz S1 p.L8.length,slz S2 p.aj.length,slz W2.heap.size p.L9.length,s_ n_ 0 0,s_ n_ 0 0,s_ n_ 0 0]):=(xD.I.below hb3).set 4 _;have Ci:Hid (fV (w.heap.size+1+1+1) (fun W'=>W'.ownsRow W2.heap.size 109 2 (slz W2.heap.size p.L9.length) p.L9.length (bJ.flat p.L9)) (tvz v3 w 4 (slz W2.heap.size p.L9.length))):=dK (sE hcp3 (lo:=w.heap.size+1+1+1) xD.I.lt) (Kp _ _);have rc:Hid (fV (w.heap.size+1+1+1) (fun W'=>W'.ownsRow S1 100 12 (slz S1 p.L8.length) p.L8.length (bg.flat o1)∧ ∀ x∈o1,aR.cO W' S1 x) (tvz v3 w 4 (slz W2.heap.size p.L9.length))):=dK wh.I hb3;clear wh;have wh:=rc;clear rc;have iP:Hid (fV (w.heap.size+1+1+1) (fun W'=>W'.ownsRow S2 105 3 (slz S2 p.aj.length) p.aj.length (dm.flat p.aj)) (tvz v3 w 4 (slz W2.heap.size p.L9.length))):=dK zz.I hb3;clear zz;have zz:=iP;clear iP;have oh:Hid (nU W2.heap.size v3.heap.size (blk (o_ ⟨W2.heap.size,0,n_⟩))∧W2.heap.size≤v3.heap.size):=⟨zL hcp3,hb3.size⟩
 have Fx:Hid (v3.heap.size=(tvz v3 w 4 (slz W2.heap.size p.L9.length)).heap.size):=by show _=_; simp [World.setCell]
 have hvar:=(xD.I.below hb3).var;have d3:v3.cell? ⟨w.heap.size+1+1,4,n_⟩=o_ (s_ n_ 0 0):=by simp [World.cell?,hvar]
 have f3:v3.frozen? ⟨w.heap.size+1+1,4,n_⟩=false:=by simp [World.frozen?,hvar]
 clear hvar hcp3 hb3;have m3:(tvz v3 w 4 (slz W2.heap.size p.L9.length)).cell? ⟨w.heap.size,5,n_⟩=o_ (s_ p.ax p.ag.length p.aP):=by have:=Fz.I.src; simp [World.cell?,this,af.cells]
 unfold tvz slz at *;go_wp2_with fail;generalize v3.setCell ⟨w.heap.size+1+1,4,n_⟩ (s_ (o_ ⟨W2.heap.size,0,n_⟩) p.L9.length p.L9.length)=W3 at *;clear m3 d3 f3 xD;generalize NO:W2.heap.size=S3 at *;have HG3:Hid (W2.heap.size=S3∧v3.heap.size=W3.heap.size):=⟨NO,Fx.I⟩
 clear NO Fx;refine (CQ p.ax p.ag p.aP W3 HS.I.cC (HC.I.ag.below Fz.I.cd)).mono ?_;rintro e v4 ⟨rfl,hcp4,hb4⟩;have FA:Hid (CM w (tvz v4 w 5 (slz W3.heap.size p.ag.length)) p #[i_ j_ p.id,i_ j_ p.next,slz S1 p.L8.length,slz S2 p.aj.length,slz S3 p.L9.length,slz W3.heap.size p.ag.length,s_ n_ 0 0,s_ n_ 0 0]):=(Fz.I.below hb4).set 5 _;have EF:Hid (fV (w.heap.size+1+1+1) (fun W'=>W'.ownsRow W3.heap.size 112 3 (slz W3.heap.size p.ag.length) p.ag.length (bG.flat p.ag)) (tvz v4 w 5 (slz W3.heap.size p.ag.length))):=dK (sE hcp4 (lo:=w.heap.size+1+1+1) Fz.I.lt) (Kp _ _);have rc:Hid (fV (w.heap.size+1+1+1) (fun W'=>W'.ownsRow S1 100 12 (slz S1 p.L8.length) p.L8.length (bg.flat o1)∧ ∀ x∈o1,aR.cO W' S1 x) (tvz v4 w 5 (slz W3.heap.size p.ag.length))):=dK wh.I hb4;clear wh;have wh:=rc;clear rc;have iP:Hid (fV (w.heap.size+1+1+1) (fun W'=>W'.ownsRow S2 105 3 (slz S2 p.aj.length) p.aj.length (dm.flat p.aj)) (tvz v4 w 5 (slz W3.heap.size p.ag.length))):=dK zz.I hb4;clear zz;have zz:=iP;clear iP;have Ar:Hid (fV (w.heap.size+1+1+1) (fun W'=>W'.ownsRow S3 109 2 (slz S3 p.L9.length) p.L9.length (bJ.flat p.L9)) (tvz v4 w 5 (slz W3.heap.size p.ag.length))):=dK Ci.I hb4;clear Ci;have Ci:=Ar;clear Ar;have HB4:Hid (nU W3.heap.size v4.heap.size (blk (o_ ⟨W3.heap.size,0,n_⟩))∧W3.heap.size≤v4.heap.size):=⟨zL hcp4,hb4.size⟩
 have HV4:Hid (v4.heap.size=(tvz v4 w 5 (slz W3.heap.size p.ag.length)).heap.size):=by show _=_; simp [World.setCell]
 have hvar:=(Fz.I.below hb4).var;have d4:v4.cell? ⟨w.heap.size+1+1,5,n_⟩=o_ (s_ n_ 0 0):=by simp [World.cell?,hvar]
 have f4:v4.frozen? ⟨w.heap.size+1+1,5,n_⟩=false:=by simp [World.frozen?,hvar]
 clear hvar hcp4 hb4;have m4:(tvz v4 w 5 (slz W3.heap.size p.ag.length)).cell? ⟨w.heap.size,6,n_⟩=o_ (s_ p.am p.ae.length p.aG):=by have:=FA.I.src; simp [World.cell?,this,af.cells]
 unfold tvz slz at *;go_wp2_with fail;generalize v4.setCell ⟨w.heap.size+1+1,5,n_⟩ (s_ (o_ ⟨W3.heap.size,0,n_⟩) p.ag.length p.ag.length)=W4 at *;clear m4 d4 f4 Fz;generalize hS4:W3.heap.size=S4 at *;have HG4:Hid (W3.heap.size=S4∧v4.heap.size=W4.heap.size):=⟨hS4,HV4.I⟩
 clear hS4 HV4;refine (Br p.am p.ae p.aG W4 HS.I.cb (fun x hx=>(HS.I.ae x hx).1) (HC.I.ae.below FA.I.cd)).mono ?_;rintro e v5 ⟨rfl,o5,uP⟩;have Ik:Hid (CM w (tvz v5 w 6 (slz W4.heap.size p.ae.length)) p #[i_ j_ p.id,i_ j_ p.next,slz S1 p.L8.length,slz S2 p.aj.length,slz S3 p.L9.length,slz S4 p.ag.length,slz W4.heap.size p.ae.length,s_ n_ 0 0]):=(FA.I.below uP.cd).set 6 _;have Hy:Hid (fV (w.heap.size+1+1+1) (fun W'=>W'.ownsRow W4.heap.size 114 3 (slz W4.heap.size p.ae.length) p.ae.length (bm.flat o5)∧ ∀ x∈o5,aC.cO W' W4.heap.size x) (tvz v5 w 6 (slz W4.heap.size p.ae.length))):=dK (p8 uP (lo:=w.heap.size+1+1+1) FA.I.lt) (Kp _ _);have rc:Hid (fV (w.heap.size+1+1+1) (fun W'=>W'.ownsRow S1 100 12 (slz S1 p.L8.length) p.L8.length (bg.flat o1)∧ ∀ x∈o1,aR.cO W' S1 x) (tvz v5 w 6 (slz W4.heap.size p.ae.length))):=dK wh.I uP.cd;clear wh;have wh:=rc;clear rc;have iP:Hid (fV (w.heap.size+1+1+1) (fun W'=>W'.ownsRow S2 105 3 (slz S2 p.aj.length) p.aj.length (dm.flat p.aj)) (tvz v5 w 6 (slz W4.heap.size p.ae.length))):=dK zz.I uP.cd;clear zz;have zz:=iP;clear iP;have Ar:Hid (fV (w.heap.size+1+1+1) (fun W'=>W'.ownsRow S3 109 2 (slz S3 p.L9.length) p.L9.length (bJ.flat p.L9)) (tvz v5 w 6 (slz W4.heap.size p.ae.length))):=dK Ci.I uP.cd;clear Ci;have Ci:=Ar;clear Ar;have GS:Hid (fV (w.heap.size+1+1+1) (fun W'=>W'.ownsRow S4 112 3 (slz S4 p.ag.length) p.ag.length (bG.flat p.ag)) (tvz v5 w 6 (slz W4.heap.size p.ae.length))):=dK EF.I uP.cd;clear EF;have EF:=GS;clear GS;have Dk:Hid (nU W4.heap.size v5.heap.size (blk (o_ ⟨W4.heap.size,0,n_⟩) ++ o5.filterMap aC.bt)∧W4.heap.size≤v5.heap.size∧o5.map (fun x=>aC.set x n_ 0)=p.ae.map (fun x=>aC.set x n_ 0)):=⟨uh uP,uP.cd.size,uP.alike⟩
 have HV5:Hid (v5.heap.size=(tvz v5 w 6 (slz W4.heap.size p.ae.length)).heap.size):=by show _=_; simp [World.setCell]
 have hvar:=(FA.I.below uP.cd).var;have d5:v5.cell? ⟨w.heap.size+1+1,6,n_⟩=o_ (s_ n_ 0 0):=by simp [World.cell?,hvar]
 have f5:v5.frozen? ⟨w.heap.size+1+1,6,n_⟩=false:=by simp [World.frozen?,hvar]
 clear hvar uP;have m5:(tvz v5 w 6 (slz W4.heap.size p.ae.length)).cell? ⟨w.heap.size,7,n_⟩=o_ (s_ p.aK p.ai.length p.aV):=by have:=Ik.I.src; simp [World.cell?,this,af.cells]
 unfold tvz slz at *;go_wp2_with fail;generalize v5.setCell ⟨w.heap.size+1+1,6,n_⟩ (s_ (o_ ⟨W4.heap.size,0,n_⟩) p.ae.length p.ae.length)=W5 at *;clear m5 d5 f5 FA;generalize hS5:W4.heap.size=S5 at *;have HG5:Hid (W4.heap.size=S5∧v5.heap.size=W5.heap.size):=⟨hS5,HV5.I⟩
 clear hS5 HV5;refine (Fh p.aK p.ai p.aV W5 HS.I.dH (fun x hx=>(HS.I.ai x hx).1) (HC.I.ai.below Ik.I.cd)).mono ?_;rintro e v6 ⟨rfl,o6,tL⟩;have Jw:Hid (CM w (tvz v6 w 7 (slz W5.heap.size p.ai.length)) p #[i_ j_ p.id,i_ j_ p.next,slz S1 p.L8.length,slz S2 p.aj.length,slz S3 p.L9.length,slz S4 p.ag.length,slz S5 p.ae.length,slz W5.heap.size p.ai.length]):=(Ik.I.below tL.cd).set 7 _;have pE:Hid (fV (w.heap.size+1+1+1) (fun W'=>W'.ownsRow W5.heap.size 116 5 (slz W5.heap.size p.ai.length) p.ai.length (bX.flat o6)∧ ∀ x∈o6,aU.cO W' W5.heap.size x) (tvz v6 w 7 (slz W5.heap.size p.ai.length))):=dK (p8 tL (lo:=w.heap.size+1+1+1) Ik.I.lt) (Kp _ _);have rc:Hid (fV (w.heap.size+1+1+1) (fun W'=>W'.ownsRow S1 100 12 (slz S1 p.L8.length) p.L8.length (bg.flat o1)∧ ∀ x∈o1,aR.cO W' S1 x) (tvz v6 w 7 (slz W5.heap.size p.ai.length))):=dK wh.I tL.cd;clear wh;have wh:=rc;clear rc;have iP:Hid (fV (w.heap.size+1+1+1) (fun W'=>W'.ownsRow S2 105 3 (slz S2 p.aj.length) p.aj.length (dm.flat p.aj)) (tvz v6 w 7 (slz W5.heap.size p.ai.length))):=dK zz.I tL.cd;clear zz;have zz:=iP;clear iP;have Ar:Hid (fV (w.heap.size+1+1+1) (fun W'=>W'.ownsRow S3 109 2 (slz S3 p.L9.length) p.L9.length (bJ.flat p.L9)) (tvz v6 w 7 (slz W5.heap.size p.ai.length))):=dK Ci.I tL.cd;clear Ci;have Ci:=Ar;clear Ar;have GS:Hid (fV (w.heap.size+1+1+1) (fun W'=>W'.ownsRow S4 112 3 (slz S4 p.ag.length) p.ag.length (bG.flat p.ag)) (tvz v6 w 7 (slz W5.heap.size p.ai.length))):=dK EF.I tL.cd;clear EF;have EF:=GS;clear GS;have HZ5:Hid (fV (w.heap.size+1+1+1) (fun W'=>W'.ownsRow S5 114 3 (slz S5 p.ae.length) p.ae.length (bm.flat o5)∧ ∀ x∈o5,aC.cO W' S5 x) (tvz v6 w 7 (slz W5.heap.size p.ai.length))):=dK Hy.I tL.cd;clear Hy;have Hy:=HZ5;clear HZ5;have HB6:Hid (nU W5.heap.size v6.heap.size (blk (o_ ⟨W5.heap.size,0,n_⟩) ++ o6.filterMap aU.bt)∧W5.heap.size≤v6.heap.size∧o6.map (fun x=>aU.set x n_ 0)=p.ai.map (fun x=>aU.set x n_ 0)):=⟨uh tL,tL.cd.size,tL.alike⟩
 have HV6:Hid (v6.heap.size=(tvz v6 w 7 (slz W5.heap.size p.ai.length)).heap.size):=by show _=_; simp [World.setCell]
 have hvar:=(Ik.I.below tL.cd).var;have d6:v6.cell? ⟨w.heap.size+1+1,7,n_⟩=o_ (s_ n_ 0 0):=by simp [World.cell?,hvar]
 have f6:v6.frozen? ⟨w.heap.size+1+1,7,n_⟩=false:=by simp [World.frozen?,hvar]
 clear hvar tL;have hvar:=Jw.I.var;have hres:=Jw.I.res;have x0:(tvz v6 w 7 (slz W5.heap.size p.ai.length)).cell? ⟨w.heap.size+1+1,0,n_⟩=o_ (i_ j_ p.id):=by simp [World.cell?,hvar]
 have y0:(tvz v6 w 7 (slz W5.heap.size p.ai.length)).cell? ⟨w.heap.size+1,0,n_⟩=o_ (i_ j_ 0):=by simp [World.cell?,hres]
 have z0:(tvz v6 w 7 (slz W5.heap.size p.ai.length)).frozen? ⟨w.heap.size+1,0,n_⟩=false:=by simp [World.frozen?,hres]
 have x1:(tvz v6 w 7 (slz W5.heap.size p.ai.length)).cell? ⟨w.heap.size+1+1,1,n_⟩=o_ (i_ j_ p.next):=by simp [World.cell?,hvar]
 have y1:(tvz v6 w 7 (slz W5.heap.size p.ai.length)).cell? ⟨w.heap.size+1,1,n_⟩=o_ (i_ j_ 0):=by simp [World.cell?,hres]
 have z1:(tvz v6 w 7 (slz W5.heap.size p.ai.length)).frozen? ⟨w.heap.size+1,1,n_⟩=false:=by simp [World.frozen?,hres]
 have x2:(tvz v6 w 7 (slz W5.heap.size p.ai.length)).cell? ⟨w.heap.size+1+1,2,n_⟩=o_ (slz S1 p.L8.length):=by simp [World.cell?,hvar]
 have y2:(tvz v6 w 7 (slz W5.heap.size p.ai.length)).cell? ⟨w.heap.size+1,2,n_⟩=o_ (s_ n_ 0 0):=by simp [World.cell?,hres]
 have z2:(tvz v6 w 7 (slz W5.heap.size p.ai.length)).frozen? ⟨w.heap.size+1,2,n_⟩=false:=by simp [World.frozen?,hres]
 have x3:(tvz v6 w 7 (slz W5.heap.size p.ai.length)).cell? ⟨w.heap.size+1+1,3,n_⟩=o_ (slz S2 p.aj.length):=by simp [World.cell?,hvar]
 have y3:(tvz v6 w 7 (slz W5.heap.size p.ai.length)).cell? ⟨w.heap.size+1,3,n_⟩=o_ (s_ n_ 0 0):=by simp [World.cell?,hres]
 have z3:(tvz v6 w 7 (slz W5.heap.size p.ai.length)).frozen? ⟨w.heap.size+1,3,n_⟩=false:=by simp [World.frozen?,hres]
 have x4:(tvz v6 w 7 (slz W5.heap.size p.ai.length)).cell? ⟨w.heap.size+1+1,4,n_⟩=o_ (slz S3 p.L9.length):=by simp [World.cell?,hvar]
 have y4:(tvz v6 w 7 (slz W5.heap.size p.ai.length)).cell? ⟨w.heap.size+1,4,n_⟩=o_ (s_ n_ 0 0):=by simp [World.cell?,hres]
 have z4:(tvz v6 w 7 (slz W5.heap.size p.ai.length)).frozen? ⟨w.heap.size+1,4,n_⟩=false:=by simp [World.frozen?,hres]
 have x5:(tvz v6 w 7 (slz W5.heap.size p.ai.length)).cell? ⟨w.heap.size+1+1,5,n_⟩=o_ (slz S4 p.ag.length):=by simp [World.cell?,hvar]
 have y5:(tvz v6 w 7 (slz W5.heap.size p.ai.length)).cell? ⟨w.heap.size+1,5,n_⟩=o_ (s_ n_ 0 0):=by simp [World.cell?,hres]
 have z5:(tvz v6 w 7 (slz W5.heap.size p.ai.length)).frozen? ⟨w.heap.size+1,5,n_⟩=false:=by simp [World.frozen?,hres]
 have x6:(tvz v6 w 7 (slz W5.heap.size p.ai.length)).cell? ⟨w.heap.size+1+1,6,n_⟩=o_ (slz S5 p.ae.length):=by simp [World.cell?,hvar]
 have y6:(tvz v6 w 7 (slz W5.heap.size p.ai.length)).cell? ⟨w.heap.size+1,6,n_⟩=o_ (s_ n_ 0 0):=by simp [World.cell?,hres]
 have z6:(tvz v6 w 7 (slz W5.heap.size p.ai.length)).frozen? ⟨w.heap.size+1,6,n_⟩=false:=by simp [World.frozen?,hres]
 have x7:(tvz v6 w 7 (slz W5.heap.size p.ai.length)).cell? ⟨w.heap.size+1+1,7,n_⟩=o_ (slz W5.heap.size p.ai.length):=by simp [World.cell?,hvar]
 have y7:(tvz v6 w 7 (slz W5.heap.size p.ai.length)).cell? ⟨w.heap.size+1,7,n_⟩=o_ (s_ n_ 0 0):=by simp [World.cell?,hres]
 have z7:(tvz v6 w 7 (slz W5.heap.size p.ai.length)).frozen? ⟨w.heap.size+1,7,n_⟩=false:=by simp [World.frozen?,hres]
 clear hvar hres;unfold tvz slz at *;go_wp2_with fail;have h9:=ri (vs:= [i_ j_ p.id,i_ j_ p.next,slz S1 p.L8.length,slz S2 p.aj.length,slz S3 p.L9.length,slz S4 p.ag.length,slz S5 p.ae.length,slz W5.heap.size p.ai.length]) Jw.I.res rfl;have h10:B_ w.heap.size w (bn (tvz v6 w 7 (slz W5.heap.size p.ai.length)) (w.heap.size+1) 0 [i_ j_ p.id,i_ j_ p.next,slz S1 p.L8.length,slz S2 p.aj.length,slz S3 p.L9.length,slz S4 p.ag.length,slz S5 p.ae.length,slz W5.heap.size p.ai.length]):=eU _ (by omega) Jw.I.cd;have h11:ap (bn (tvz v6 w 7 (slz W5.heap.size p.ai.length)) (w.heap.size+1) 0 [i_ j_ p.id,i_ j_ p.next,slz S1 p.L8.length,slz S2 p.aj.length,slz S3 p.L9.length,slz S4 p.ag.length,slz S5 p.ae.length,slz W5.heap.size p.ai.length]) (w.heap.size+1+1+1) (⟨p.id,p.next,o1,o_ ⟨S1,0,n_⟩,p.L8.length,p.aj,o_ ⟨S2,0,n_⟩,p.aj.length,p.L9,o_ ⟨S3,0,n_⟩,p.L9.length,p.ag,o_ ⟨S4,0,n_⟩,p.ag.length,o5,o_ ⟨S5,0,n_⟩,p.ae.length,o6,o_ ⟨W5.heap.size,0,n_⟩,p.ai.length⟩:af)∧(⟨p.id,p.next,o1,o_ ⟨S1,0,n_⟩,p.L8.length,p.aj,o_ ⟨S2,0,n_⟩,p.aj.length,p.L9,o_ ⟨S3,0,n_⟩,p.L9.length,p.ag,o_ ⟨S4,0,n_⟩,p.ag.length,o5,o_ ⟨S5,0,n_⟩,p.ae.length,o6,o_ ⟨W5.heap.size,0,n_⟩,p.ai.length⟩:af).pure=p.pure:=
  Dy ⟨HLO.I,by have:=HG1.I.2; have:=HG2.I.1; omega,by have:=HG2.I.2; have:=HG3.I.1; omega,by have:=HG3.I.2; have:=HG4.I.1; omega,by have:=HG4.I.2; have:=HG5.I.1; omega,by have:=HG5.I.2; omega⟩
   ⟨fQ.I.2.1,cy.I.2,oh.I.2,HB4.I.2,Dk.I.2.1,HB6.I.2.1⟩
   (ni wh.I) fQ.I.1 (ni zz.I) cy.I.1 (ni Ci.I) oh.I.1 (ni EF.I) HB4.I.1 (ni Hy.I) Dk.I.1 (ni pE.I) HB6.I.1 fQ.I.2.2 Dk.I.2.2 HB6.I.2.2
 have l1:=nf fQ.I.2.2;have l5:=nf Dk.I.2.2;have l6:=nf HB6.I.2.2;simp only [bn,Nat.reduceAdd,Nat.zero_add] at h9 h10 h11;refine KT (v:=a_ #[i_ j_ p.id,i_ j_ p.next,s_ (o_ ⟨S1,0,n_⟩) p.L8.length p.L8.length,s_ (o_ ⟨S2,0,n_⟩) p.aj.length p.aj.length,s_ (o_ ⟨S3,0,n_⟩) p.L9.length p.L9.length,s_ (o_ ⟨S4,0,n_⟩) p.ag.length p.ag.length,s_ (o_ ⟨S5,0,n_⟩) p.ae.length p.ae.length,s_ (o_ ⟨W5.heap.size,0,n_⟩) p.ai.length p.ai.length]) (K9 results7 _ _ (w.heap.size+1) _ _ (0,0) _ rfl h9 underlying38 rfl ZcR) rfl ?_;exact ⟨(⟨p.id,p.next,o1,o_ ⟨S1,0,n_⟩,p.L8.length,p.aj,o_ ⟨S2,0,n_⟩,p.aj.length,p.L9,o_ ⟨S3,0,n_⟩,p.L9.length,p.ag,o_ ⟨S4,0,n_⟩,p.ag.length,o5,o_ ⟨S5,0,n_⟩,p.ae.length,o6,o_ ⟨W5.heap.size,0,n_⟩,p.ai.length⟩:af),by simp only [l1,l5,l6],h11.1.lower (by omega),h11.2,h10⟩
theorem Vb (p q:af) (w:w_) (hs:p.pure.Small) (hp:q.pure=p.pure) (h:af.At w p) (h':af.At w q):
  k_ J3 9 #[a_ p.cells,a_ q.cells] w fun e w'=>e=r_ (b_ true)∧B_ w.heap.size w w':=by
 have e0:q.id=p.id:=congrArg aE.id hp;have e1:q.next=p.next:=congrArg aE.next hp;have g1:q.L8.map (·.toaD)=p.L8.map (·.toaD):=congrArg aE.L8 hp;have g2:q.aj=p.aj:=congrArg aE.aj hp;have g3:q.L9=p.L9:=congrArg aE.L9 hp;have g4:q.ag=p.ag:=congrArg aE.ag hp;have g5:q.ae.map (·.toci)=p.ae.map (·.toci):=congrArg aE.ae hp;have g6:q.ai.map (·.todS)=p.ai.map (·.todS):=congrArg aE.ai hp;have l1:q.L8.length=p.L8.length:=by have:=congrArg List.length g1; simpa using this
 have l5:q.ae.length=p.ae.length:=by have:=congrArg List.length g5; simpa using this
 have l6:q.ai.length=p.ai.length:=by have:=congrArg List.length g6; simpa using this
 have hq:q.cells= #[i_ j_ p.id,i_ j_ p.next,s_ q.aN p.L8.length q.aW,s_ q.bc p.aj.length q.bF,s_ q.ay p.L9.length q.aO,s_ q.ax p.ag.length q.aP,s_ q.am p.ae.length q.aG,s_ q.aK p.ai.length q.aV] :=by unfold af.cells; rw [e0,e1,l1,g2,g3,g4,l5,l6]
 have HX:Hid (((w.alloc (c_ p.row 38)).alloc (c_ #[i_ j_ p.id,i_ j_ p.next,s_ q.aN p.L8.length q.aW,s_ q.bc p.aj.length q.bF,s_ q.ay p.L9.length q.aO,s_ q.ax p.ag.length q.aP,s_ q.am p.ae.length q.aG,s_ q.aK p.ai.length q.aV] 38)).heap[w.heap.size]? =o_ (c_ p.row 38)∧((w.alloc (c_ p.row 38)).alloc (c_ #[i_ j_ p.id,i_ j_ p.next,s_ q.aN p.L8.length q.aW,s_ q.bc p.aj.length q.bF,s_ q.ay p.L9.length q.aO,s_ q.ax p.ag.length q.aP,s_ q.am p.ae.length q.aG,s_ q.aK p.ai.length q.aV] 38)).heap[w.heap.size+1]? =o_ (c_ #[i_ j_ p.id,i_ j_ p.next,s_ q.aN p.L8.length q.aW,s_ q.bc p.aj.length q.bF,s_ q.ay p.L9.length q.aO,s_ q.ax p.ag.length q.aP,s_ q.am p.ae.length q.aG,s_ q.aK p.ai.length q.aV] 38)∧B_ w.heap.size w ((w.alloc (c_ p.row 38)).alloc (c_ #[i_ j_ p.id,i_ j_ p.next,s_ q.aN p.L8.length q.aW,s_ q.bc p.aj.length q.bF,s_ q.ay p.L9.length q.aO,s_ q.ax p.ag.length q.aP,s_ q.am p.ae.length q.aG,s_ q.aK p.ai.length q.aV] 38))):=⟨(cZ _ _ _).1,(cZ _ _ _).2,dT _ _ _⟩
 have HL:Hid (af.At w p∧af.At w q∧p.pure.Small):=⟨h,h',hs⟩
 have HG:Hid (q.L8.map (·.toaD)=p.L8.map (·.toaD)∧q.ae.map (·.toci)=p.ae.map (·.toci)∧q.ai.map (·.todS)=p.ai.map (·.todS)∧q.aj=p.aj∧q.L9=p.L9∧q.ag=p.ag):=⟨g1,g5,g6,g2,g3,g4⟩
 rw [hq];clear h h' hs hp hq g1 g2 g3 g4 g5 g6 l1 l5 l6 e0 e1;unfold af.cells
 go_enter func9,ntmps9
 go_wp2_with fail;generalize (w.alloc (c_ p.row 38)).alloc (c_ #[i_ j_ p.id,i_ j_ p.next,s_ q.aN p.L8.length q.aW,s_ q.bc p.aj.length q.bF,s_ q.ay p.L9.length q.aO,s_ q.ax p.ag.length q.aP,s_ q.am p.ae.length q.aG,s_ q.aK p.ai.length q.aV] 38)=W0 at *;refine (Ff p.aN q.aN p.L8 q.L8 p.aW q.aW W0 (gv HL.I.2.2).L8 (fun x hx=>(cY HL.I.2.2 hx).1.prog) HG.I.1 (HL.I.1.1.below HX.I.2.2) (HL.I.2.1.1.below HX.I.2.2)).mono ?_;rintro e W1 ⟨rfl,hb1⟩;have HY:Hid (W1.heap[w.heap.size]? =o_ (c_ p.row 38)∧W1.heap[w.heap.size+1]? =o_ (c_ #[i_ j_ p.id,i_ j_ p.next,s_ q.aN p.L8.length q.aW,s_ q.bc p.aj.length q.bF,s_ q.ay p.L9.length q.aO,s_ q.ax p.ag.length q.aP,s_ q.am p.ae.length q.aG,s_ q.aK p.ai.length q.aV] 38)∧B_ w.heap.size w W1):=⟨(hb1.block _ (J2.1 HX.I.1).1).trans HX.I.1,(hb1.block _ (J2.1 HX.I.2.1).1).trans HX.I.2.1,HX.I.2.2.trans (hb1.mono HX.I.2.2.size)⟩
 clear hb1 HX;have HX:=HY;clear HY;have m1:W1.cell? ⟨w.heap.size,3,n_⟩=o_ (s_ p.bc p.aj.length p.bF):=by have:=HX.I.1; simp [World.cell?,this]
 have n1:W1.cell? ⟨w.heap.size+1,3,n_⟩=o_ (s_ q.bc p.aj.length q.bF):=by have:=HX.I.2.1; simp [World.cell?,this]
 go_wp2_with fail;clear m1 n1;refine (Hr p.bc q.bc p.aj p.bF q.bF W1 (gv HL.I.2.2).aj (HL.I.1.2.1.below HX.I.2.2) (by have h5:=HL.I.2.1.2.1.below HX.I.2.2; rw [HG.I.2.2.2.1] at h5; exact h5)).mono ?_;rintro e W2 ⟨rfl,hb2⟩;have HY:Hid (W2.heap[w.heap.size]? =o_ (c_ p.row 38)∧W2.heap[w.heap.size+1]? =o_ (c_ #[i_ j_ p.id,i_ j_ p.next,s_ q.aN p.L8.length q.aW,s_ q.bc p.aj.length q.bF,s_ q.ay p.L9.length q.aO,s_ q.ax p.ag.length q.aP,s_ q.am p.ae.length q.aG,s_ q.aK p.ai.length q.aV] 38)∧B_ w.heap.size w W2):=⟨(hb2.block _ (J2.1 HX.I.1).1).trans HX.I.1,(hb2.block _ (J2.1 HX.I.2.1).1).trans HX.I.2.1,HX.I.2.2.trans (hb2.mono HX.I.2.2.size)⟩
 clear hb2 HX;have HX:=HY;clear HY;have m2:W2.cell? ⟨w.heap.size,4,n_⟩=o_ (s_ p.ay p.L9.length p.aO):=by have:=HX.I.1; simp [World.cell?,this]
 have n2:W2.cell? ⟨w.heap.size+1,4,n_⟩=o_ (s_ q.ay p.L9.length q.aO):=by have:=HX.I.2.1; simp [World.cell?,this]
 go_wp2_with fail;clear m2 n2;refine (CI p.ay q.ay p.L9 p.aO q.aO W2 (gv HL.I.2.2).L9 (HL.I.1.2.2.1.below HX.I.2.2) (by have h5:=HL.I.2.1.2.2.1.below HX.I.2.2; rw [HG.I.2.2.2.2.1] at h5; exact h5)).mono ?_;rintro e W3 ⟨rfl,hb3⟩;have HY:Hid (W3.heap[w.heap.size]? =o_ (c_ p.row 38)∧W3.heap[w.heap.size+1]? =o_ (c_ #[i_ j_ p.id,i_ j_ p.next,s_ q.aN p.L8.length q.aW,s_ q.bc p.aj.length q.bF,s_ q.ay p.L9.length q.aO,s_ q.ax p.ag.length q.aP,s_ q.am p.ae.length q.aG,s_ q.aK p.ai.length q.aV] 38)∧B_ w.heap.size w W3):=⟨(hb3.block _ (J2.1 HX.I.1).1).trans HX.I.1,(hb3.block _ (J2.1 HX.I.2.1).1).trans HX.I.2.1,HX.I.2.2.trans (hb3.mono HX.I.2.2.size)⟩
 clear hb3 HX;have HX:=HY;clear HY;have m3:W3.cell? ⟨w.heap.size,5,n_⟩=o_ (s_ p.ax p.ag.length p.aP):=by have:=HX.I.1; simp [World.cell?,this]
 have n3:W3.cell? ⟨w.heap.size+1,5,n_⟩=o_ (s_ q.ax p.ag.length q.aP):=by have:=HX.I.2.1; simp [World.cell?,this]
 go_wp2_with fail;clear m3 n3;refine (Cs p.ax q.ax p.ag p.aP q.aP W3 (gv HL.I.2.2).ag (HL.I.1.2.2.2.1.below HX.I.2.2) (by have h5:=HL.I.2.1.2.2.2.1.below HX.I.2.2; rw [HG.I.2.2.2.2.2] at h5; exact h5)).mono ?_;rintro e W4 ⟨rfl,hb4⟩;have HY:Hid (W4.heap[w.heap.size]? =o_ (c_ p.row 38)∧W4.heap[w.heap.size+1]? =o_ (c_ #[i_ j_ p.id,i_ j_ p.next,s_ q.aN p.L8.length q.aW,s_ q.bc p.aj.length q.bF,s_ q.ay p.L9.length q.aO,s_ q.ax p.ag.length q.aP,s_ q.am p.ae.length q.aG,s_ q.aK p.ai.length q.aV] 38)∧B_ w.heap.size w W4):=⟨(hb4.block _ (J2.1 HX.I.1).1).trans HX.I.1,(hb4.block _ (J2.1 HX.I.2.1).1).trans HX.I.2.1,HX.I.2.2.trans (hb4.mono HX.I.2.2.size)⟩
 clear hb4 HX;have HX:=HY;clear HY;have m4:W4.cell? ⟨w.heap.size,6,n_⟩=o_ (s_ p.am p.ae.length p.aG):=by have:=HX.I.1; simp [World.cell?,this]
 have n4:W4.cell? ⟨w.heap.size+1,6,n_⟩=o_ (s_ q.am p.ae.length q.aG):=by have:=HX.I.2.1; simp [World.cell?,this]
 go_wp2_with fail;clear m4 n4;refine (AK p.am q.am p.ae q.ae p.aG q.aG W4 (gv HL.I.2.2).ae (fun x hx=>(nO HL.I.2.2 hx).2.1) HG.I.2.1 (HL.I.1.2.2.2.2.1.below HX.I.2.2) (HL.I.2.1.2.2.2.2.1.below HX.I.2.2)).mono ?_;rintro e W5 ⟨rfl,iJ⟩;have HY:Hid (W5.heap[w.heap.size]? =o_ (c_ p.row 38)∧W5.heap[w.heap.size+1]? =o_ (c_ #[i_ j_ p.id,i_ j_ p.next,s_ q.aN p.L8.length q.aW,s_ q.bc p.aj.length q.bF,s_ q.ay p.L9.length q.aO,s_ q.ax p.ag.length q.aP,s_ q.am p.ae.length q.aG,s_ q.aK p.ai.length q.aV] 38)∧B_ w.heap.size w W5):=⟨(iJ.block _ (J2.1 HX.I.1).1).trans HX.I.1,(iJ.block _ (J2.1 HX.I.2.1).1).trans HX.I.2.1,HX.I.2.2.trans (iJ.mono HX.I.2.2.size)⟩
 clear iJ HX;have HX:=HY;clear HY;have m5:W5.cell? ⟨w.heap.size,7,n_⟩=o_ (s_ p.aK p.ai.length p.aV):=by have:=HX.I.1; simp [World.cell?,this]
 have n5:W5.cell? ⟨w.heap.size+1,7,n_⟩=o_ (s_ q.aK p.ai.length q.aV):=by have:=HX.I.2.1; simp [World.cell?,this]
 go_wp2_with fail;clear m5 n5;refine (Ef p.aK q.aK p.ai q.ai p.aV q.aV W5 (gv HL.I.2.2).ai (fun x hx=>(qf HL.I.2.2 hx).2.1) HG.I.2.2.1 (HL.I.1.2.2.2.2.2.below HX.I.2.2) (HL.I.2.1.2.2.2.2.2.below HX.I.2.2)).mono ?_;rintro e W6 ⟨rfl,jQ⟩;have HY:Hid (W6.heap[w.heap.size]? =o_ (c_ p.row 38)∧W6.heap[w.heap.size+1]? =o_ (c_ #[i_ j_ p.id,i_ j_ p.next,s_ q.aN p.L8.length q.aW,s_ q.bc p.aj.length q.bF,s_ q.ay p.L9.length q.aO,s_ q.ax p.ag.length q.aP,s_ q.am p.ae.length q.aG,s_ q.aK p.ai.length q.aV] 38)∧B_ w.heap.size w W6):=⟨(jQ.block _ (J2.1 HX.I.1).1).trans HX.I.1,(jQ.block _ (J2.1 HX.I.2.1).1).trans HX.I.2.1,HX.I.2.2.trans (jQ.mono HX.I.2.2.size)⟩
 clear jQ HX;have HX:=HY;clear HY;go_wp2;go_ret;exact ⟨rfl,HX.I.2.2⟩
end
section
open Go.RowKit
def mY {α:Type} (K:Kind α) (T:T_) (w:w_) (l:List α) (e:Ending) (w':w_):Prop:= ∃ a cap,e=r_ (s_ a l.length cap)∧w'.ownsRow w.heap.size T K.n (s_ a l.length cap) l.length (K.flat l)∧B_ w.heap.size w w'
section
variable {ops:Array Oper} {rest:List Oper} {o:Oper} {a:Act} {w:w_} {Q:Exit→Act→w_→Prop} {fn:Func} {R:Ending→w_→Prop} {p u:Tmp} {old:Array v_}
theorem eT (n:Nat) {g:Nat} {cs:Array v_} (hg:w.heap[g]? =o_ (c_ cs 38)) (h:wpList J3 ops Q rest (a.put o.dst (a_ cs)) w) (hgd:o.guard=n_:=by exact rfl) (ho:o.op= .load 38 (.tmp n):=by exact rfl)
  (hx:a.eval (.tmp n)=p_ (o_ ⟨g,0,n_⟩):=by rfl) (hi:(Tryz.prog.info? 38).map (·.size)=o_ cs.size:=by kernel_rfl):wpList J3 ops Q (o :: rest) a w:=
 wpList_load_row hgd 38 (.tmp n) ho g hx 38 cs (0,0) _ hg underlying38 rfl hi h
theorem ec (n m:Nat) {g:Nat} (cs:Array v_) (hg:w.heap[g]? =o_ (c_ old 38)) (h:wpList J3 ops Q rest (a.put o.dst undef) (w.setRow g cs)) (hgd:o.guard=n_:=by exact rfl) (ho:o.op= .store 38 (.tmp n) (.tmp m):=by exact rfl)
  (hx:a.eval (.tmp n)=p_ (o_ ⟨g,0,n_⟩):=by exact rfl) (hy:a.eval (.tmp m)=a_ cs:=by exact rfl) (hi:(Tryz.prog.info? 38).map (·.size)=o_ cs.size:=by kernel_rfl) (hs:old.size=cs.size:=by exact rfl) (h1:cs.all (·.oneCell')=true:=by kernel_rfl):wpList J3 ops Q (o :: rest) a w:=
 wpList_store_row hgd 38 (.tmp n) (.tmp m) ho g _ old cs hx hy hg hi hs h1 h
theorem gZ (hr:fn.results= #[.cell p 38]) {g:Nat} {cs:Array v_} (hg:w.heap[g]? =o_ (c_ old 38)) (h:R (r_ (a_ cs)) (w.setRow g cs)) (hp:a.tmps.getD p undef=p_ (o_ ⟨g,0,n_⟩):=by exact rfl) (hd:a.defers= [] :=by exact rfl)
  (hi:(Tryz.prog.info? 38).map (·.size)=o_ cs.size:=by kernel_rfl):bodyPost J3 fn R .ret a (w.setRow g cs):=
 KT (v:=a_ cs) (K9 hr _ _ g _ _ (0,0) _ hp (KU _ _ _ _ _ _ hg) underlying38 rfl hi) hd h
theorem mG (hr:fn.results= #[.cell p 38,.tmp u]) {g:Nat} {cs:Array v_} (v:v_) (hg:w.heap[g]? =o_ (c_ old 38)) (h:R (r_ (u_ #[a_ cs,v])) (w.setRow g cs)) (hp:a.tmps.getD p undef=p_ (o_ ⟨g,0,n_⟩):=by rfl) (hv:a.tmps.getD u undef=v:=by exact rfl) (hd:a.defers= [] :=by exact rfl)
  (hi:(Tryz.prog.info? 38).map (·.size)=o_ cs.size:=by kernel_rfl):bodyPost J3 fn R .ret a (w.setRow g cs):=
 KT (v:=u_ #[a_ cs,v]) (by rw [← hv]; exact bL hr _ _ g _ _ _ _ hp (KU _ _ _ _ _ _ hg) underlying38 rfl hi) hd h
end
end
section
open Go.RowKit
attribute [local go_sem ↓] Kc Kd
def bj (x:ao):Nat:=2+aF (fun _:dN=>4) x.prog+9
def rI (k k2:Int) (x:ao):ao:= { x with id:=k,RX:=k+1,prog:=aJ fj (fun _=>4) (k+1+1) x.prog,Md:=k2,pc:=k2+1,left:=k2+1+1,Mg:=k2+1+1+1,on:=k2+1+1+1+1,held:=cu (k2+1+1+1+1+1),got:=cu (k2+1+1+1+1+1+1),code:=k2+1+1+1+1+1+1+1,RU:=k2+1+1+1+1+1+1+1+1 }
def cw (k:Int) (x:ao):ao:=rI k (k+1+1+(aF (fun _:dN=>4) x.prog:Nat)) x
abbrev ado (x:ao) (m m':Int):ao:= { x with id:=m,RX:=m+1,prog:=aJ fj (fun _=>4) (m+1+1) x.prog,Md:=m',pc:=m'+1,left:=m'+1+1,Mg:=m'+1+1+1,on:=m'+1+1+1+1 }
abbrev afj (v2:w_) (g j:Nat) (m':Int):w_:=((v2.setCell ⟨g,j * 12+9,n_⟩ (t_ (cu (m'+1+1+1+1+1+1)))).setCell ⟨g,j * 12+10,n_⟩ (i_ j_ (m'+1+1+1+1+1+1+1))).setCell ⟨g,j * 12+11,n_⟩ (i_ j_ (m'+1+1+1+1+1+1+1+1))
abbrev adi (x:ao) (m m':Int):ao:= { x with id:=m,RX:=m+1,prog:=aJ fj (fun _=>4) (m+1+1) x.prog,Md:=m',pc:=m'+1,left:=m'+1+1,Mg:=m'+1+1+1,on:=m'+1+1+1+1,held:=cu (m'+1+1+1+1+1) }
theorem BB (a:Option d_) (l:List ao) (cap:Nat) (k:Int) (w:w_) (base:Nat) (hl:l.length≤1048576) (hk: ∀ x∈l,x.prog.length≤1048576) (h0:1≤k) (h1:k+(aF bj l:Nat)≤90000000) (ho:w.ownsRow base 100 12 (s_ a l.length cap) l.length (bg.flat l)) (hm: ∀ x∈l,aR.cO w base x) (hn:(blk a ++ l.filterMap aR.bt).Nodup):
  k_ J3 36 #[s_ a l.length cap,i_ j_ k] w fun e w'=>e=r_ (i_ j_ (k+(aF bj l:Nat)))∧w'.ownsRow base 100 12 (s_ a l.length cap) l.length (bg.flat (aJ cw bj k l))∧(∀ y∈aJ cw bj k l,aR.cO w' base y)∧aI w w' (blk a ++ l.filterMap aR.bt):=by
 by_cases hz:l.length=0
 ·have hl0:l= [] :=adU hz
  subst hl0;have HO:Hid (w.ownsRow base 100 12 (s_ a 0 cap) 0 (bg.flat [])):=ho;clear ho
  go_enter func36,ntmps36
  exact C_
 obtain ⟨g,rfl,hrow⟩:=bl.fX (K:=bg) ho hz;have HR:Hid (bl bg 100 w base g cap l∧fp aR w base g l):=⟨hrow,hm,hn⟩
 have HB:Hid (k+(aF bj l:Nat)≤90000000∧ ∀ x∈l,x.prog.length≤1048576):=⟨h1,hk⟩
 clear ho hrow h1 hz hm hn hk
 go_enter func36,ntmps36
 go_wp2_with fail
 go_loopw [1,5] (fun q i wr=> ∃ (j:Nat) (m:Int),j≤l.length∧i=i_ j_ j∧q=i_ j_ m∧1≤m∧m≤90000000∧Hid (m=k+(aF bj (l.take j):Nat)∧bl bg 100 wr base g cap (aJ cw bj k (l.take j) ++ l.drop j)∧fp aR wr base g (aJ cw bj k (l.take j) ++ l.drop j)∧aI w wr (g :: l.filterMap aR.bt))) (fun _ i _=>l.length - (intOf i).toNat)
 case atStart=>exact ⟨0,k,Ky _,rfl,rfl,h0,by have:=HB.I.1; omega,⟨by simp [aF],HR.I.1,HR.I.2,aI.refl _ _⟩⟩
 case round=>
  clear HR;obtain ⟨j,m,hj,rfl,rfl,m0,m1,HA⟩:=hrel;by_cases hlt:j < l.length
  ·have i0:(0:Int)≤(j:Int):=by omega
   have i1:(j:Int) < (l.length:Int):=by omega
   obtain ⟨x,hx⟩: ∃ x,l[j]? =o_ x:=⟨_,Kz hlt⟩
   have pI:l.drop j=x :: l.drop (j+1):=mz hx;have qw:=du (c:=bj) hx;have hup:=gK (c:=bj) hx;have hcx:bj x=2+aF (fun _:dN=>4) x.prog+9:=rfl;have HX:Hid (l[j]? =o_ x∧x.prog.length≤1048576∧m+1+1+(aF (fun _:dN=>4) x.prog:Nat)+9≤90000000∧m+1+1+(aF (fun _:dN=>4) x.prog:Nat)+9=k+(aF bj (l.take (j+1)):Nat)):=⟨hx,HB.I.2 x (KA hx),by have:=HB.I.1; have:=HA.I.1; omega,by have:=HA.I.1; omega⟩
   have HW:Hid (bl bg 100 wr base g cap (aJ cw bj k (l.take j) ++ x :: l.drop (j+1))∧(aJ cw bj k (l.take j)).length=j):=⟨by have:=HA.I.2.1; rwa [pI] at this,by rw [bE,Lk]; omega⟩
   have HM:Hid (fp aR wr base g (aJ cw bj k (l.take j) ++ x :: l.drop (j+1))):=by have:=HA.I.2.2.1; rwa [pI] at this
   have m2:m+1+1≤90000000:=by have:=HX.I.2.2.1; omega
   have hgl:g < wr.heap.size:=HW.I.1.lt;clear hx pI qw hup hcx;obtain ⟨⟨u0,c0⟩,f0⟩:(∃ u,wr.cell? ⟨g,j * 12,n_⟩=o_ u)∧wr.frozen? ⟨g,j * 12,n_⟩=false:=bl.eO HW.I.1 HW.I.2 (r:=0) (by decide:0 < bg.n);obtain ⟨⟨u1,c1⟩,f1⟩:(∃ u,wr.cell? ⟨g,j * 12+1,n_⟩=o_ u)∧wr.frozen? ⟨g,j * 12+1,n_⟩=false:=bl.eO HW.I.1 HW.I.2 (r:=1) (by decide:1 < bg.n);have c2:wr.cell? ⟨g,j * 12+2,n_⟩=o_ (s_ x.aY x.prog.length x.bH):=(bl.uD HW.I.1 HW.I.2 (r:=2) (by decide:2 < bg.n))
   have h5:=bl.part (K:=bg) (x:=x) (y:=({ x with id:=m,RX:=m+1 } :ao)) (j:=0) (vs:= [i_ j_ m,i_ j_ (m+1)]) HW.I.1 (by show 0+2≤12; omega) (fun r hr=>by match r,hr with | 0,_=>rfl | 1,_=>rfl) (fun r hr hn=>by match r,hr,hn with | 0,_,hn=>exact absurd ⟨by omega,by show 0 < 0+2; omega⟩ hn | 1,_,hn=>exact absurd ⟨by omega,by show 1 < 0+2; omega⟩ hn | 2,_,_=>rfl | 3,_,_=>rfl | 4,_,_=>rfl | 5,_,_=>rfl | 6,_,_=>rfl | 7,_,_=>rfl | 8,_,_=>rfl | 9,_,_=>rfl | 10,_,_=>rfl | 11,_,_=>rfl);rw [HW.I.2,show bg.n=12 from rfl] at h5;have h6:aI wr (bn wr g (j * 12) [i_ j_ m,i_ j_ (m+1)]) [g] :=aI.set _ (by simp);simp only [bn,PT] at h5 h6;have HS:Hid (bl bg 100 ((wr.setCell ⟨g,j * 12,n_⟩ (i_ j_ m)).setCell ⟨g,j * 12+1,n_⟩ (i_ j_ (m+1))) base g cap (aJ cw bj k (l.take j) ++ ({ x with id:=m,RX:=m+1 } :ao) :: l.drop (j+1))∧fp aR ((wr.setCell ⟨g,j * 12,n_⟩ (i_ j_ m)).setCell ⟨g,j * 12+1,n_⟩ (i_ j_ (m+1))) base g (aJ cw bj k (l.take j) ++ ({ x with id:=m,RX:=m+1 } :ao) :: l.drop (j+1))∧aI w ((wr.setCell ⟨g,j * 12,n_⟩ (i_ j_ m)).setCell ⟨g,j * 12+1,n_⟩ (i_ j_ (m+1))) (g :: l.filterMap aR.bt)):=⟨h5,(HM.I.keep h6).ju rfl ((HM.I.keep h6).mine x (by simp)),HA.I.2.2.2.trans (h6.mono (by simp))⟩
   clear h5 h6;go_wp2_with fail;generalize (wr.setCell ⟨g,j * 12,n_⟩ (i_ j_ m)).setCell ⟨g,j * 12+1,n_⟩ (i_ j_ (m+1))=W1 at *;clear c2;refine (xP x.aY x.prog x.bH (m+1+1) W1 base HX.I.2.1 (by omega) (by have:=HX.I.2.2.1; omega) (HS.I.2.1.mine ({ x with id:=m,RX:=m+1 } :ao) (by simp))).mono ?_;rintro e v ⟨rfl,hown,hkb⟩;have HV:Hid (bl bg 100 v base g cap (aJ cw bj k (l.take j) ++ ({ x with id:=m,RX:=m+1,prog:=aJ fj (fun _=>4) (m+1+1) x.prog } :ao) :: l.drop (j+1))∧fp aR v base g (aJ cw bj k (l.take j) ++ ({ x with id:=m,RX:=m+1,prog:=aJ fj (fun _=>4) (m+1+1) x.prog } :ao) :: l.drop (j+1))∧aI w v (g :: l.filterMap aR.bt)):=by
    have hap:=HS.I.2.1.apart (z:=({ x with id:=m,RX:=m+1 } :ao)) (by simp);have h7:=HS.I.1.same (hkb.same g HS.I.1.lt hap);have hm7:aR.cO v base ({ x with id:=m,RX:=m+1,prog:=aJ fj (fun _=>4) (m+1+1) x.prog } :ao):=by
     show v.ownsRow base _ 4 (s_ x.aY (aJ fj (fun _=>4) (m+1+1) x.prog).length x.bH) (aJ fj (fun _=>4) (m+1+1) x.prog).length (fk.flat (aJ fj (fun _=>4) (m+1+1) x.prog))
     rw [bE];exact hown
    refine ⟨?_,HS.I.2.1.inner hkb rfl hm7,HS.I.2.2.trans (hkb.mono fun b hb=> ?_)⟩
    ·exact bl.part (K:=bg) (x:=({ x with id:=m,RX:=m+1 } :ao)) (y:=({ x with id:=m,RX:=m+1,prog:=aJ fj (fun _=>4) (m+1+1) x.prog } :ao)) (j:=0) (vs:= []) h7 (by show 0+0≤12; omega) (fun r hr=>absurd hr (by simp)) (fun r hr _=>by match r,hr with | 0,_=>rfl | 1,_=>rfl | 2,_=>(show o_ (Value.slice x.aY (aJ fj (fun _=>4) (m+1+1) x.prog).length x.bH)=o_ (s_ x.aY x.prog.length x.bH); rw [bE]) | 3,_=>rfl | 4,_=>rfl | 5,_=>rfl | 6,_=>rfl | 7,_=>rfl | 8,_=>rfl | 9,_=>rfl | 10,_=>rfl | 11,_=>rfl)
    ·exact Zb4
   obtain ⟨m',hm'⟩: ∃ q:Int,q=m+1+1+(aF (fun _:dN=>4) x.prog:Nat):=⟨_,rfl⟩
   rw [← hm'];have HQ:Hid (m'=m+1+1+(aF (fun _:dN=>4) x.prog:Nat)):=hm';have p0:1≤m':=by omega
   have p1:m'+9≤90000000:=by have:=HX.I.2.2.1; omega
   clear hown hkb HS hm';obtain ⟨⟨u3,c3⟩,f3⟩:(∃ u,v.cell? ⟨g,j * 12+3,n_⟩=o_ u)∧v.frozen? ⟨g,j * 12+3,n_⟩=false:=bl.eO HV.I.1 HW.I.2 (r:=3) (by decide:3 < bg.n);obtain ⟨⟨u4,c4⟩,f4⟩:(∃ u,v.cell? ⟨g,j * 12+4,n_⟩=o_ u)∧v.frozen? ⟨g,j * 12+4,n_⟩=false:=bl.eO HV.I.1 HW.I.2 (r:=4) (by decide:4 < bg.n);obtain ⟨⟨u5,c5⟩,f5⟩:(∃ u,v.cell? ⟨g,j * 12+5,n_⟩=o_ u)∧v.frozen? ⟨g,j * 12+5,n_⟩=false:=bl.eO HV.I.1 HW.I.2 (r:=5) (by decide:5 < bg.n);obtain ⟨⟨u6,c6⟩,f6⟩:(∃ u,v.cell? ⟨g,j * 12+6,n_⟩=o_ u)∧v.frozen? ⟨g,j * 12+6,n_⟩=false:=bl.eO HV.I.1 HW.I.2 (r:=6) (by decide:6 < bg.n);obtain ⟨⟨u7,c7⟩,f7⟩:(∃ u,v.cell? ⟨g,j * 12+7,n_⟩=o_ u)∧v.frozen? ⟨g,j * 12+7,n_⟩=false:=bl.eO HV.I.1 HW.I.2 (r:=7) (by decide:7 < bg.n);have h5:=bl.part (K:=bg) (x:=({ x with id:=m,RX:=m+1,prog:=aJ fj (fun _=>4) (m+1+1) x.prog } :ao)) (y:=(ado x m m')) (j:=3) (vs:= [i_ j_ (m'),i_ j_ (m'+1),i_ j_ (m'+1+1),i_ j_ (m'+1+1+1),i_ j_ (m'+1+1+1+1)]) HV.I.1 (by show 3+5≤12; omega) (fun r hr=>by match r,hr with | 0,_=>rfl | 1,_=>rfl | 2,_=>rfl | 3,_=>rfl | 4,_=>rfl) (fun r hr hn=>by match r,hr,hn with | 0,_,_=>rfl | 1,_,_=>rfl | 2,_,_=>rfl | 3,_,hn=>exact absurd ⟨by omega,by show 3 < 3+5; omega⟩ hn | 4,_,hn=>exact absurd ⟨by omega,by show 4 < 3+5; omega⟩ hn | 5,_,hn=>exact absurd ⟨by omega,by show 5 < 3+5; omega⟩ hn | 6,_,hn=>exact absurd ⟨by omega,by show 6 < 3+5; omega⟩ hn | 7,_,hn=>exact absurd ⟨by omega,by show 7 < 3+5; omega⟩ hn | 8,_,_=>rfl | 9,_,_=>rfl | 10,_,_=>rfl | 11,_,_=>rfl);rw [HW.I.2,show bg.n=12 from rfl] at h5;have h6:aI v (bn v g (j * 12+3) [i_ j_ (m'),i_ j_ (m'+1),i_ j_ (m'+1+1),i_ j_ (m'+1+1+1),i_ j_ (m'+1+1+1+1)]) [g] :=aI.set _ (by simp);simp only [bn,adV,Nat.reduceAdd] at h5 h6;have mH:Hid (bl bg 100 (((((v.setCell ⟨g,j * 12+3,n_⟩ (i_ j_ (m'))).setCell ⟨g,j * 12+4,n_⟩ (i_ j_ (m'+1))).setCell ⟨g,j * 12+5,n_⟩ (i_ j_ (m'+1+1))).setCell ⟨g,j * 12+6,n_⟩ (i_ j_ (m'+1+1+1))).setCell ⟨g,j * 12+7,n_⟩ (i_ j_ (m'+1+1+1+1))) base g cap (aJ cw bj k (l.take j) ++ (ado x m m') :: l.drop (j+1))∧fp aR (((((v.setCell ⟨g,j * 12+3,n_⟩ (i_ j_ (m'))).setCell ⟨g,j * 12+4,n_⟩ (i_ j_ (m'+1))).setCell ⟨g,j * 12+5,n_⟩ (i_ j_ (m'+1+1))).setCell ⟨g,j * 12+6,n_⟩ (i_ j_ (m'+1+1+1))).setCell ⟨g,j * 12+7,n_⟩ (i_ j_ (m'+1+1+1+1))) base g (aJ cw bj k (l.take j) ++ (ado x m m') :: l.drop (j+1))∧aI w (((((v.setCell ⟨g,j * 12+3,n_⟩ (i_ j_ (m'))).setCell ⟨g,j * 12+4,n_⟩ (i_ j_ (m'+1))).setCell ⟨g,j * 12+5,n_⟩ (i_ j_ (m'+1+1))).setCell ⟨g,j * 12+6,n_⟩ (i_ j_ (m'+1+1+1))).setCell ⟨g,j * 12+7,n_⟩ (i_ j_ (m'+1+1+1+1))) (g :: l.filterMap aR.bt)):=⟨h5,(HV.I.2.1.keep h6).ju rfl ((HV.I.2.1.keep h6).mine ({ x with id:=m,RX:=m+1,prog:=aJ fj (fun _=>4) (m+1+1) x.prog } :ao) (by simp)),HV.I.2.2.trans (h6.mono (by simp))⟩
   clear h5 h6;go_wp2_with fail;refine (fh (m'+1+1+1+1+1) (by omega) (by omega) _).mono ?_;rintro e v1 ⟨rfl,hb⟩;have wm:Hid (bl bg 100 v1 base g cap (aJ cw bj k (l.take j) ++ (ado x m m') :: l.drop (j+1))∧fp aR v1 base g (aJ cw bj k (l.take j) ++ (ado x m m') :: l.drop (j+1))∧aI w v1 (g :: l.filterMap aR.bt)):=⟨mH.I.1.same (hb.block g mH.I.1.lt),mH.I.2.1.keep (aI.dI hb),mH.I.2.2.trans (aI.dI hb)⟩
   clear hb;obtain ⟨⟨u8,c8⟩,f8⟩:(∃ u,v1.cell? ⟨g,j * 12+8,n_⟩=o_ u)∧v1.frozen? ⟨g,j * 12+8,n_⟩=false:=bl.eO wm.I.1 HW.I.2 (r:=8) (by decide:8 < bg.n);have h5:=bl.part (K:=bg) (x:=(ado x m m')) (y:=(adi x m m')) (j:=8) (vs:= [t_ (cu (m'+1+1+1+1+1))]) wm.I.1 (by show 8+1≤12; omega) (fun r hr=>by match r,hr with | 0,_=>rfl) (fun r hr hn=>by match r,hr,hn with | 0,_,_=>rfl | 1,_,_=>rfl | 2,_,_=>rfl | 3,_,_=>rfl | 4,_,_=>rfl | 5,_,_=>rfl | 6,_,_=>rfl | 7,_,_=>rfl | 8,_,hn=>exact absurd ⟨by omega,by show 8 < 8+1; omega⟩ hn | 9,_,_=>rfl | 10,_,_=>rfl | 11,_,_=>rfl);rw [HW.I.2,show bg.n=12 from rfl] at h5;have h6:aI v1 (bn v1 g (j * 12+8) [t_ (cu (m'+1+1+1+1+1))]) [g] :=aI.set _ (by simp);simp only [bn] at h5 h6;have mO:Hid (bl bg 100 (v1.setCell ⟨g,j * 12+8,n_⟩ (t_ (cu (m'+1+1+1+1+1)))) base g cap (aJ cw bj k (l.take j) ++ (adi x m m') :: l.drop (j+1))∧fp aR (v1.setCell ⟨g,j * 12+8,n_⟩ (t_ (cu (m'+1+1+1+1+1)))) base g (aJ cw bj k (l.take j) ++ (adi x m m') :: l.drop (j+1))∧aI w (v1.setCell ⟨g,j * 12+8,n_⟩ (t_ (cu (m'+1+1+1+1+1)))) (g :: l.filterMap aR.bt)):=⟨h5,(wm.I.2.1.keep h6).ju rfl ((wm.I.2.1.keep h6).mine (ado x m m') (by simp)),wm.I.2.2.trans (h6.mono (by simp))⟩
   clear h5 h6;go_wp2_with fail;refine (fh (m'+1+1+1+1+1+1) (by omega) (by omega) _).mono ?_;rintro e v2 ⟨rfl,hb⟩;have xD:Hid (bl bg 100 v2 base g cap (aJ cw bj k (l.take j) ++ (adi x m m') :: l.drop (j+1))∧fp aR v2 base g (aJ cw bj k (l.take j) ++ (adi x m m') :: l.drop (j+1))∧aI w v2 (g :: l.filterMap aR.bt)):=⟨mO.I.1.same (hb.block g mO.I.1.lt),mO.I.2.1.keep (aI.dI hb),mO.I.2.2.trans (aI.dI hb)⟩
   clear hb;obtain ⟨⟨u9,c9⟩,f9⟩:(∃ u,v2.cell? ⟨g,j * 12+9,n_⟩=o_ u)∧v2.frozen? ⟨g,j * 12+9,n_⟩=false:=bl.eO xD.I.1 HW.I.2 (r:=9) (by decide:9 < bg.n);obtain ⟨⟨u10,qF⟩,f10⟩:(∃ u,v2.cell? ⟨g,j * 12+10,n_⟩=o_ u)∧v2.frozen? ⟨g,j * 12+10,n_⟩=false:=bl.eO xD.I.1 HW.I.2 (r:=10) (by decide:10 < bg.n);obtain ⟨⟨u11,pe⟩,f11⟩:(∃ u,v2.cell? ⟨g,j * 12+11,n_⟩=o_ u)∧v2.frozen? ⟨g,j * 12+11,n_⟩=false:=bl.eO xD.I.1 HW.I.2 (r:=11) (by decide:11 < bg.n);have h5:=bl.part (K:=bg) (x:=(adi x m m')) (y:=({ x with id:=m,RX:=m+1,prog:=aJ fj (fun _=>4) (m+1+1) x.prog,Md:=m',pc:=m'+1,left:=m'+1+1,Mg:=m'+1+1+1,on:=m'+1+1+1+1,held:=cu (m'+1+1+1+1+1),got:=cu (m'+1+1+1+1+1+1),code:=m'+1+1+1+1+1+1+1,RU:=m'+1+1+1+1+1+1+1+1 } :ao)) (j:=9) (vs:= [t_ (cu (m'+1+1+1+1+1+1)),i_ j_ (m'+1+1+1+1+1+1+1),i_ j_ (m'+1+1+1+1+1+1+1+1)]) xD.I.1 (by show 9+3≤12; omega) (fun r hr=>by match r,hr with | 0,_=>rfl | 1,_=>rfl | 2,_=>rfl) (fun r hr hn=>by match r,hr,hn with | 0,_,_=>rfl | 1,_,_=>rfl | 2,_,_=>rfl | 3,_,_=>rfl | 4,_,_=>rfl | 5,_,_=>rfl | 6,_,_=>rfl | 7,_,_=>rfl | 8,_,_=>rfl | 9,_,hn=>exact absurd ⟨by omega,by show 9 < 9+3; omega⟩ hn | 10,_,hn=>exact absurd ⟨by omega,by show 10 < 9+3; omega⟩ hn | 11,_,hn=>exact absurd ⟨by omega,by show 11 < 9+3; omega⟩ hn);rw [HW.I.2,show bg.n=12 from rfl] at h5;have h6:aI v2 (bn v2 g (j * 12+9) [t_ (cu (m'+1+1+1+1+1+1)),i_ j_ (m'+1+1+1+1+1+1+1),i_ j_ (m'+1+1+1+1+1+1+1+1)]) [g] :=aI.set _ (by simp);simp only [bn,adV,Nat.reduceAdd] at h5 h6;have EU:Hid (bl bg 100 (afj v2 g j m') base g cap (aJ cw bj k (l.take j) ++ ({ x with id:=m,RX:=m+1,prog:=aJ fj (fun _=>4) (m+1+1) x.prog,Md:=m',pc:=m'+1,left:=m'+1+1,Mg:=m'+1+1+1,on:=m'+1+1+1+1,held:=cu (m'+1+1+1+1+1),got:=cu (m'+1+1+1+1+1+1),code:=m'+1+1+1+1+1+1+1,RU:=m'+1+1+1+1+1+1+1+1 } :ao) :: l.drop (j+1))∧fp aR (afj v2 g j m') base g (aJ cw bj k (l.take j) ++ ({ x with id:=m,RX:=m+1,prog:=aJ fj (fun _=>4) (m+1+1) x.prog,Md:=m',pc:=m'+1,left:=m'+1+1,Mg:=m'+1+1+1,on:=m'+1+1+1+1,held:=cu (m'+1+1+1+1+1),got:=cu (m'+1+1+1+1+1+1),code:=m'+1+1+1+1+1+1+1,RU:=m'+1+1+1+1+1+1+1+1 } :ao) :: l.drop (j+1))∧aI w (afj v2 g j m') (g :: l.filterMap aR.bt)):=⟨h5,(xD.I.2.1.keep h6).ju rfl ((xD.I.2.1.keep h6).mine (adi x m m') (by simp)),xD.I.2.2.trans (h6.mono (by simp))⟩
   clear h5 h6;have HN:Hid (bl bg 100 (afj v2 g j m') base g cap (aJ cw bj k (l.take (j+1)) ++ l.drop (j+1))∧fp aR (afj v2 g j m') base g (aJ cw bj k (l.take (j+1)) ++ l.drop (j+1))∧aI w (afj v2 g j m') (g :: l.filterMap aR.bt)):=by
    rw [kE HX.I.1,Lm,← HA.I.1,show cw m x=rI m m' x by rw [HQ.I]; rfl];exact EU.I
   go_wp2;go_roundw
   case rel=>exact ⟨j+1,m'+9,by omega,by go_num,by go_num,by omega,by omega,⟨by have:=HX.I.2.2.2; have:=HQ.I; omega,HN.I.1,HN.I.2.1,HN.I.2.2⟩⟩
   case measure=>simp [intOf]; omega
  ·have i1: ¬ (j:Int) < (l.length:Int):=by omega
   have ej:j=l.length:=by omega
   subst ej;have HE:Hid (bl bg 100 wr base g cap (aJ cw bj k l)∧fp aR wr base g (aJ cw bj k l)∧m=k+(aF bj l:Nat)):=by have h5:=HA.I.2.1; have h6:=HA.I.1; have h7:=HA.I.2.2.1; rw [LQ,adW,QO] at h5 h7; rw [LQ] at h6; exact ⟨h5,h7,h6⟩
   exact ZcA
def bN (x:au):Nat:=2+aF (fun _:ByteArray=>1) x.Ma
def dy (k:Int) (x:au):au:= { x with id:=k,max:=k+1,Ma:=aJ mkStr (fun _=>1) (k+1+1) x.Ma }
abbrev adB (x:au) (m:Int):au:= { x with id:=m,max:=m+1 }
theorem wX (a:Option d_) (l:List au) (cap:Nat) (k:Int) (w:w_) (base:Nat) (hl:l.length≤1048576) (hk: ∀ x∈l,x.Ma.length≤1048576) (h0:1≤k) (h1:k+(aF bN l:Nat)≤90000000) (ho:w.ownsRow base 114 3 (s_ a l.length cap) l.length (bm.flat l)) (hm: ∀ x∈l,aC.cO w base x) (hn:(blk a ++ l.filterMap aC.bt).Nodup):
  k_ J3 40 #[s_ a l.length cap,i_ j_ k] w fun e w'=>e=r_ (i_ j_ (k+(aF bN l:Nat)))∧w'.ownsRow base 114 3 (s_ a l.length cap) l.length (bm.flat (aJ dy bN k l))∧(∀ y∈aJ dy bN k l,aC.cO w' base y)∧aI w w' (blk a ++ l.filterMap aC.bt):=by
 by_cases hz:l.length=0
 ·have hl0:l= [] :=adU hz
  subst hl0;have HO:Hid (w.ownsRow base 114 3 (s_ a 0 cap) 0 (bm.flat [])):=ho;clear ho
  go_enter func40,ntmps40
  exact C_
 obtain ⟨g,rfl,hrow⟩:=bl.fX (K:=bm) ho hz;have HR:Hid (bl bm 114 w base g cap l∧fp aC w base g l):=⟨hrow,hm,hn⟩
 have HB:Hid (k+(aF bN l:Nat)≤90000000∧ ∀ x∈l,x.Ma.length≤1048576):=⟨h1,hk⟩
 clear ho hrow h1 hz hm hn hk
 go_enter func40,ntmps40
 go_wp2_with fail
 go_loopw [1,5] (fun q i wr=> ∃ (j:Nat) (m:Int),j≤l.length∧i=i_ j_ j∧q=i_ j_ m∧1≤m∧m≤90000000∧Hid (m=k+(aF bN (l.take j):Nat)∧bl bm 114 wr base g cap (aJ dy bN k (l.take j) ++ l.drop j)∧fp aC wr base g (aJ dy bN k (l.take j) ++ l.drop j)∧aI w wr (g :: l.filterMap aC.bt))) (fun _ i _=>l.length - (intOf i).toNat)
 case atStart=>exact ⟨0,k,Ky _,rfl,rfl,h0,by have:=HB.I.1; omega,⟨by simp [aF],HR.I.1,HR.I.2,aI.refl _ _⟩⟩
 case round=>
  clear HR;obtain ⟨j,m,hj,rfl,rfl,m0,m1,HA⟩:=hrel;by_cases hlt:j < l.length
  ·have i0:(0:Int)≤(j:Int):=by omega
   have i1:(j:Int) < (l.length:Int):=by omega
   obtain ⟨x,hx⟩: ∃ x,l[j]? =o_ x:=⟨_,Kz hlt⟩
   have pI:l.drop j=x :: l.drop (j+1):=mz hx;have qw:=du (c:=bN) hx;have hup:=gK (c:=bN) hx;have hcx:bN x=2+aF (fun _:ByteArray=>1) x.Ma:=rfl;have HX:Hid (l[j]? =o_ x∧x.Ma.length≤1048576∧m+1+1+(aF (fun _:ByteArray=>1) x.Ma:Nat)≤90000000∧m+1+1+(aF (fun _:ByteArray=>1) x.Ma:Nat)=k+(aF bN (l.take (j+1)):Nat)):=⟨hx,HB.I.2 x (KA hx),by have:=HB.I.1; have:=HA.I.1; omega,by have:=HA.I.1; omega⟩
   have HW:Hid (bl bm 114 wr base g cap (aJ dy bN k (l.take j) ++ x :: l.drop (j+1))∧(aJ dy bN k (l.take j)).length=j):=⟨by have:=HA.I.2.1; rwa [pI] at this,by rw [bE,Lk]; omega⟩
   have HM:Hid (fp aC wr base g (aJ dy bN k (l.take j) ++ x :: l.drop (j+1))):=by have:=HA.I.2.2.1; rwa [pI] at this
   have m2:m+1+1≤90000000:=by have:=HX.I.2.2.1; omega
   have hgl:g < wr.heap.size:=HW.I.1.lt;clear hx pI qw hup hcx;have q0:=bl.eO HW.I.1 HW.I.2 (r:=0) (by decide:0 < bm.n);obtain ⟨⟨u0,c0⟩,f0⟩:(∃ u,wr.cell? ⟨g,j * 3,n_⟩=o_ u)∧wr.frozen? ⟨g,j * 3,n_⟩=false:=q0;have q1:=bl.eO HW.I.1 HW.I.2 (r:=1) (by decide:1 < bm.n);obtain ⟨⟨u1,c1⟩,f1⟩:(∃ u,wr.cell? ⟨g,j * 3+1,n_⟩=o_ u)∧wr.frozen? ⟨g,j * 3+1,n_⟩=false:=q1;have c2:wr.cell? ⟨g,j * 3+2,n_⟩=o_ (s_ x.ak x.Ma.length x.aq):=(bl.uD HW.I.1 HW.I.2 (r:=2) (by decide:2 < bm.n))
   have h5:=bl.part (K:=bm) (x:=x) (y:=(adB x m)) (j:=0) (vs:= [i_ j_ (m),i_ j_ (m+1)]) HW.I.1 (by show 0+2≤3; omega) (fun r hr=>by match r,hr with | 0,_=>rfl | 1,_=>rfl) (fun r hr hn=>by match r,hr,hn with | 0,_,hn=>exact absurd ⟨by omega,by show 0 < 0+2; omega⟩ hn | 1,_,hn=>exact absurd ⟨by omega,by show 1 < 0+2; omega⟩ hn | 2,_,_=>rfl);rw [HW.I.2,show bm.n=3 from rfl] at h5;have h6:aI wr (bn wr g (j * 3) [i_ j_ (m),i_ j_ (m+1)]) [g] :=aI.set _ (by simp);simp only [bn,PT] at h5 h6;have HS:Hid (bl bm 114 ((wr.setCell ⟨g,j * 3,n_⟩ (i_ j_ (m))).setCell ⟨g,j * 3+1,n_⟩ (i_ j_ (m+1))) base g cap (aJ dy bN k (l.take j) ++ (adB x m) :: l.drop (j+1))∧fp aC ((wr.setCell ⟨g,j * 3,n_⟩ (i_ j_ (m))).setCell ⟨g,j * 3+1,n_⟩ (i_ j_ (m+1))) base g (aJ dy bN k (l.take j) ++ (adB x m) :: l.drop (j+1))∧aI w ((wr.setCell ⟨g,j * 3,n_⟩ (i_ j_ (m))).setCell ⟨g,j * 3+1,n_⟩ (i_ j_ (m+1))) (g :: l.filterMap aC.bt)):=⟨h5,(HM.I.keep h6).ju rfl ((HM.I.keep h6).mine x (by simp)),HA.I.2.2.2.trans (h6.mono (by simp))⟩
   clear h5 h6;go_wp2_with fail;generalize (wr.setCell ⟨g,j * 3,n_⟩ (i_ j_ (m))).setCell ⟨g,j * 3+1,n_⟩ (i_ j_ (m+1))=W1 at *;refine (uu x.ak x.Ma x.aq (m+1+1) W1 base HX.I.2.1 (by omega) HX.I.2.2.1 (HS.I.2.1.mine (adB x m) (by simp))).mono ?_;rintro e v ⟨rfl,hown,hkb⟩;have HV:Hid (bl bm 114 v base g cap (aJ dy bN k (l.take (j+1)) ++ l.drop (j+1))∧fp aC v base g (aJ dy bN k (l.take (j+1)) ++ l.drop (j+1))∧aI w v (g :: l.filterMap aC.bt)):=by
    have hap:=HS.I.2.1.apart (z:=(adB x m)) (by simp);rw [kE HX.I.1,Lm,← HA.I.1];have h7:=HS.I.1.same (hkb.same g HS.I.1.lt hap);have hm7:aC.cO v base (dy m x):=by
     show v.ownsRow base _ 1 (s_ x.ak (aJ mkStr (fun _=>1) (m+1+1) x.Ma).length x.aq) (aJ mkStr (fun _=>1) (m+1+1) x.Ma).length (bT.flat (aJ mkStr (fun _=>1) (m+1+1) x.Ma))
     rw [bE];exact hown
    refine ⟨?_,HS.I.2.1.inner hkb rfl hm7,HS.I.2.2.trans (hkb.mono fun b hb=> ?_)⟩
    ·exact bl.part (K:=bm) (x:=(adB x m)) (y:=dy m x) (j:=0) (vs:= []) h7 (by show 0+0≤3; omega) (fun r hr=>absurd hr (by simp)) (fun r hr _=>by match r,hr with | 0,_=>rfl | 1,_=>rfl | 2,_=>(show o_ (Value.slice x.ak (aJ mkStr (fun _=>1) (m+1+1) x.Ma).length x.aq)=o_ (s_ x.ak x.Ma.length x.aq); rw [bE]))
    ·exact Zb4
   clear hown hkb HS;have m3:m+1+1+(aF (fun _:ByteArray=>1) x.Ma:Nat)≤90000000:=HX.I.2.2.1;go_wp2;go_roundw
   case rel=>exact ⟨j+1,m+1+1+(aF (fun _:ByteArray=>1) x.Ma:Nat),by omega,by go_num,rfl,by omega,by omega,⟨HX.I.2.2.2,HV.I.1,HV.I.2.1,HV.I.2.2⟩⟩
   case measure=>simp [intOf]; omega
  ·have i1: ¬ (j:Int) < (l.length:Int):=by omega
   have ej:j=l.length:=by omega
   subst ej;have HE:Hid (bl bm 114 wr base g cap (aJ dy bN k l)∧fp aC wr base g (aJ dy bN k l)∧m=k+(aF bN l:Nat)):=by have h5:=HA.I.2.1; have h6:=HA.I.1; have h7:=HA.I.2.2.1; rw [LQ,adW,QO] at h5 h7; rw [LQ] at h6; exact ⟨h5,h7,h6⟩
   exact ZcA
theorem wy (a:Option d_) (l:List au) (cap:Nat) (k:Int) (w:w_) (hl:l.length≤1048576) (hk: ∀ x∈l,x.Ma.length≤1048576) (h0:1≤k) (h1:k+(aF bN l:Nat)≤90000000) (hr:bm.bU w a (aJ dy bN k l)):
  k_ J3 46 #[s_ a l.length cap,i_ j_ k] w fun e w'=>e=r_ (i_ j_ (k+(aF bN l:Nat)))∧B_ w.heap.size w w':=by
 have HR:Hid (bm.bU w a (aJ dy bN k l)∧k+(aF bN l:Nat)≤90000000∧ ∀ x∈l,x.Ma.length≤1048576):=⟨hr,h1,hk⟩
 clear hr h1 hk
 go_enter func46,ntmps46
 go_wp2_with fail
 go_loopw [1,5] (fun q i wr=> ∃ (j:Nat) (m:Int),j≤l.length∧i=i_ j_ j∧q=i_ j_ m∧1≤m∧m≤90000000∧Hid (m=k+(aF bN (l.take j):Nat)∧B_ w.heap.size w wr)) (fun _ i _=>l.length - (intOf i).toNat)
 case atStart=>exact ⟨0,k,Ky _,rfl,rfl,h0,by have:=HR.I.2.1; omega,⟨by simp [aF],Kp _ _⟩⟩
 case round=>
  obtain ⟨j,m,hj,rfl,rfl,m0,m1,HA⟩:=hrel;by_cases hlt:j < l.length
  ·have i0:(0:Int)≤(j:Int):=by omega
   have i1:(j:Int) < (l.length:Int):=by omega
   obtain ⟨x,hx⟩: ∃ x,l[j]? =o_ x:=⟨_,Kz hlt⟩
   have qw:=du (c:=bN) hx;have hup:=gK (c:=bN) hx;have hcx:bN x=2+aF (fun _:ByteArray=>1) x.Ma:=rfl;have hg:=jK (f:=dy) (c:=bN) (k:=k) hx;rw [← HA.I.1] at hg;have hls:bm.bU wr a (aJ dy bN k l):=HR.I.1.below HA.I.2;obtain ⟨g,ha,hat⟩:=hls.at hg;have c0:wr.cell? ⟨g,j * 3,n_⟩=o_ (i_ j_ (m)):=hat 0 _ rfl;have c1:wr.cell? ⟨g,j * 3+1,n_⟩=o_ (i_ j_ (m+1)):=hat 1 _ rfl;have cp:wr.cell? ⟨g,j * 3+2,n_⟩=o_ (s_ x.ak x.Ma.length x.aq):=(hat 2 _ rfl).trans (show o_ (Value.slice x.ak (aJ mkStr (fun _=>1) (m+1+1) x.Ma).length x.aq)=_ by rw [bE]);have HX:Hid (x.Ma.length≤1048576∧m+1+1+(aF (fun _:ByteArray=>1) x.Ma:Nat)≤90000000∧m+1+1+(aF (fun _:ByteArray=>1) x.Ma:Nat)=k+(aF bN (l.take (j+1)):Nat)∧bT.bU wr x.ak (aJ mkStr (fun _=>1) (m+1+1) x.Ma)):=⟨HR.I.2.2 x (KA hx),by have:=HR.I.2.1; have:=HA.I.1; omega,by have:=HA.I.1; omega,hls.2 _ (KA hg) (x.ak,bT.flat (aJ mkStr (fun _=>1) (m+1+1) x.Ma)) (KB.2 rfl),fun _ _ r hr=>by cases hr⟩
   have m2:m+1+1+(aF (fun _:ByteArray=>1) x.Ma:Nat)≤90000000:=HX.I.2.1;subst ha;clear hx qw hup hcx hg hat hls;go_wp2_with fail;refine (uo x.ak x.Ma x.aq (m+1+1) wr HX.I.1 (by omega) HX.I.2.1 HX.I.2.2.2).mono ?_;rintro e v ⟨rfl,hb⟩;have HV:Hid (B_ w.heap.size w v):=HA.I.2.trans (hb.mono HA.I.2.size);clear hb;go_wp2;go_roundw
   case rel=>exact ⟨j+1,m+1+1+(aF (fun _:ByteArray=>1) x.Ma:Nat),by omega,by go_num,rfl,by omega,by omega,⟨HX.I.2.2.1,HV.I⟩⟩
   case measure=>simp [intOf]; omega
  ·have i1: ¬ (j:Int) < (l.length:Int):=by omega
   have HE:Hid (m=k+(aF bN l:Nat)):=by have h6:=HA.I.1; rw [KF (by omega)] at h6; exact h6
   exact Zax
def eo (x:aM):Nat:=4+aF (fun _:ByteArray=>1) x.Ma
def fU (k:Int) (x:aM):aM:= { x with id:=k,I:=(k+1) % 3 == 0,Mf:=(k+1+1) % 3 == 0,max:=k+1+1+1,Ma:=aJ mkStr (fun _=>1) (k+1+1+1+1) x.Ma }
abbrev adC (x:aM) (m:Int):aM:= { x with id:=m,I:=(m+1) % 3 == 0,Mf:=(m+1+1) % 3 == 0,max:=m+1+1+1 }
theorem AU (a:Option d_) (l:List aM) (cap:Nat) (k:Int) (w:w_) (base:Nat) (hl:l.length≤1048576) (hk: ∀ x∈l,x.Ma.length≤1048576) (h0:1≤k) (h1:k+(aF eo l:Nat)≤90000000) (ho:w.ownsRow base 116 5 (s_ a l.length cap) l.length (bX.flat l)) (hm: ∀ x∈l,aU.cO w base x) (hn:(blk a ++ l.filterMap aU.bt).Nodup):
  k_ J3 41 #[s_ a l.length cap,i_ j_ k] w fun e w'=>e=r_ (i_ j_ (k+(aF eo l:Nat)))∧w'.ownsRow base 116 5 (s_ a l.length cap) l.length (bX.flat (aJ fU eo k l))∧(∀ y∈aJ fU eo k l,aU.cO w' base y)∧aI w w' (blk a ++ l.filterMap aU.bt):=by
 by_cases hz:l.length=0
 ·have hl0:l= [] :=adU hz
  subst hl0;have HO:Hid (w.ownsRow base 116 5 (s_ a 0 cap) 0 (bX.flat [])):=ho;clear ho
  go_enter func41,ntmps41
  exact C_
 obtain ⟨g,rfl,hrow⟩:=bl.fX (K:=bX) ho hz;have HR:Hid (bl bX 116 w base g cap l∧fp aU w base g l):=⟨hrow,hm,hn⟩
 have HB:Hid (k+(aF eo l:Nat)≤90000000∧ ∀ x∈l,x.Ma.length≤1048576):=⟨h1,hk⟩
 clear ho hrow h1 hz hm hn hk
 go_enter func41,ntmps41
 go_wp2_with fail
 go_loopw [1,5] (fun q i wr=> ∃ (j:Nat) (m:Int),j≤l.length∧i=i_ j_ j∧q=i_ j_ m∧1≤m∧m≤90000000∧Hid (m=k+(aF eo (l.take j):Nat)∧bl bX 116 wr base g cap (aJ fU eo k (l.take j) ++ l.drop j)∧fp aU wr base g (aJ fU eo k (l.take j) ++ l.drop j)∧aI w wr (g :: l.filterMap aU.bt))) (fun _ i _=>l.length - (intOf i).toNat)
 case atStart=>exact ⟨0,k,Ky _,rfl,rfl,h0,by have:=HB.I.1; omega,⟨by simp [aF],HR.I.1,HR.I.2,aI.refl _ _⟩⟩
 case round=>
  clear HR;obtain ⟨j,m,hj,rfl,rfl,m0,m1,HA⟩:=hrel;by_cases hlt:j < l.length
  ·have i0:(0:Int)≤(j:Int):=by omega
   have i1:(j:Int) < (l.length:Int):=by omega
   obtain ⟨x,hx⟩: ∃ x,l[j]? =o_ x:=⟨_,Kz hlt⟩
   have pI:l.drop j=x :: l.drop (j+1):=mz hx;have qw:=du (c:=eo) hx;have hup:=gK (c:=eo) hx;have hcx:eo x=4+aF (fun _:ByteArray=>1) x.Ma:=rfl;have HX:Hid (l[j]? =o_ x∧x.Ma.length≤1048576∧m+1+1+1+1+(aF (fun _:ByteArray=>1) x.Ma:Nat)≤90000000∧m+1+1+1+1+(aF (fun _:ByteArray=>1) x.Ma:Nat)=k+(aF eo (l.take (j+1)):Nat)):=⟨hx,HB.I.2 x (KA hx),by have:=HB.I.1; have:=HA.I.1; omega,by have:=HA.I.1; omega⟩
   have HW:Hid (bl bX 116 wr base g cap (aJ fU eo k (l.take j) ++ x :: l.drop (j+1))∧(aJ fU eo k (l.take j)).length=j):=⟨by have:=HA.I.2.1; rwa [pI] at this,by rw [bE,Lk]; omega⟩
   have HM:Hid (fp aU wr base g (aJ fU eo k (l.take j) ++ x :: l.drop (j+1))):=by have:=HA.I.2.2.1; rwa [pI] at this
   have m2:m+1+1+1+1≤90000000:=by have:=HX.I.2.2.1; omega
   have hgl:g < wr.heap.size:=HW.I.1.lt;clear hx pI qw hup hcx;have q0:=bl.eO HW.I.1 HW.I.2 (r:=0) (by decide:0 < bX.n);obtain ⟨⟨u0,c0⟩,f0⟩:(∃ u,wr.cell? ⟨g,j * 5,n_⟩=o_ u)∧wr.frozen? ⟨g,j * 5,n_⟩=false:=q0;have q1:=bl.eO HW.I.1 HW.I.2 (r:=1) (by decide:1 < bX.n);obtain ⟨⟨u1,c1⟩,f1⟩:(∃ u,wr.cell? ⟨g,j * 5+1,n_⟩=o_ u)∧wr.frozen? ⟨g,j * 5+1,n_⟩=false:=q1;have q2:=bl.eO HW.I.1 HW.I.2 (r:=2) (by decide:2 < bX.n);obtain ⟨⟨u2,c2⟩,f2⟩:(∃ u,wr.cell? ⟨g,j * 5+2,n_⟩=o_ u)∧wr.frozen? ⟨g,j * 5+2,n_⟩=false:=q2;have q3:=bl.eO HW.I.1 HW.I.2 (r:=3) (by decide:3 < bX.n);obtain ⟨⟨u3,c3⟩,f3⟩:(∃ u,wr.cell? ⟨g,j * 5+3,n_⟩=o_ u)∧wr.frozen? ⟨g,j * 5+3,n_⟩=false:=q3;have c2:wr.cell? ⟨g,j * 5+4,n_⟩=o_ (s_ x.ak x.Ma.length x.aq):=(bl.uD HW.I.1 HW.I.2 (r:=4) (by decide:4 < bX.n))
   have h5:=bl.part (K:=bX) (x:=x) (y:=(adC x m)) (j:=0) (vs:= [i_ j_ (m),b_ ((m+1) % 3 == 0),b_ ((m+1+1) % 3 == 0),i_ j_ (m+1+1+1)]) HW.I.1 (by show 0+4≤5; omega) (fun r hr=>by match r,hr with | 0,_=>rfl | 1,_=>rfl | 2,_=>rfl | 3,_=>rfl) (fun r hr hn=>by match r,hr,hn with | 0,_,hn=>exact absurd ⟨by omega,by show 0 < 0+4; omega⟩ hn | 1,_,hn=>exact absurd ⟨by omega,by show 1 < 0+4; omega⟩ hn | 2,_,hn=>exact absurd ⟨by omega,by show 2 < 0+4; omega⟩ hn | 3,_,hn=>exact absurd ⟨by omega,by show 3 < 0+4; omega⟩ hn | 4,_,_=>rfl);rw [HW.I.2,show bX.n=5 from rfl] at h5;have h6:aI wr (bn wr g (j * 5) [i_ j_ (m),b_ ((m+1) % 3 == 0),b_ ((m+1+1) % 3 == 0),i_ j_ (m+1+1+1)]) [g] :=aI.set _ (by simp);simp only [bn,PT,adV,Nat.reduceAdd] at h5 h6;have HS:Hid (bl bX 116 ((((wr.setCell ⟨g,j * 5,n_⟩ (i_ j_ (m))).setCell ⟨g,j * 5+1,n_⟩ (b_ ((m+1) % 3 == 0))).setCell ⟨g,j * 5+2,n_⟩ (b_ ((m+1+1) % 3 == 0))).setCell ⟨g,j * 5+3,n_⟩ (i_ j_ (m+1+1+1))) base g cap (aJ fU eo k (l.take j) ++ (adC x m) :: l.drop (j+1))∧fp aU ((((wr.setCell ⟨g,j * 5,n_⟩ (i_ j_ (m))).setCell ⟨g,j * 5+1,n_⟩ (b_ ((m+1) % 3 == 0))).setCell ⟨g,j * 5+2,n_⟩ (b_ ((m+1+1) % 3 == 0))).setCell ⟨g,j * 5+3,n_⟩ (i_ j_ (m+1+1+1))) base g (aJ fU eo k (l.take j) ++ (adC x m) :: l.drop (j+1))∧aI w ((((wr.setCell ⟨g,j * 5,n_⟩ (i_ j_ (m))).setCell ⟨g,j * 5+1,n_⟩ (b_ ((m+1) % 3 == 0))).setCell ⟨g,j * 5+2,n_⟩ (b_ ((m+1+1) % 3 == 0))).setCell ⟨g,j * 5+3,n_⟩ (i_ j_ (m+1+1+1))) (g :: l.filterMap aU.bt)):=⟨h5,(HM.I.keep h6).ju rfl ((HM.I.keep h6).mine x (by simp)),HA.I.2.2.2.trans (h6.mono (by simp))⟩
   clear h5 h6;go_wp2_with fail;generalize (((wr.setCell ⟨g,j * 5,n_⟩ (i_ j_ (m))).setCell ⟨g,j * 5+1,n_⟩ (b_ ((m+1) % 3 == 0))).setCell ⟨g,j * 5+2,n_⟩ (b_ ((m+1+1) % 3 == 0))).setCell ⟨g,j * 5+3,n_⟩ (i_ j_ (m+1+1+1))=W1 at *;refine (uu x.ak x.Ma x.aq (m+1+1+1+1) W1 base HX.I.2.1 (by omega) HX.I.2.2.1 (HS.I.2.1.mine (adC x m) (by simp))).mono ?_;rintro e v ⟨rfl,hown,hkb⟩;have HV:Hid (bl bX 116 v base g cap (aJ fU eo k (l.take (j+1)) ++ l.drop (j+1))∧fp aU v base g (aJ fU eo k (l.take (j+1)) ++ l.drop (j+1))∧aI w v (g :: l.filterMap aU.bt)):=by
    have hap:=HS.I.2.1.apart (z:=(adC x m)) (by simp);rw [kE HX.I.1,Lm,← HA.I.1];have h7:=HS.I.1.same (hkb.same g HS.I.1.lt hap);have hm7:aU.cO v base (fU m x):=by
     show v.ownsRow base _ 1 (s_ x.ak (aJ mkStr (fun _=>1) (m+1+1+1+1) x.Ma).length x.aq) (aJ mkStr (fun _=>1) (m+1+1+1+1) x.Ma).length (bT.flat (aJ mkStr (fun _=>1) (m+1+1+1+1) x.Ma))
     rw [bE];exact hown
    refine ⟨?_,HS.I.2.1.inner hkb rfl hm7,HS.I.2.2.trans (hkb.mono fun b hb=> ?_)⟩
    ·exact bl.part (K:=bX) (x:=(adC x m)) (y:=fU m x) (j:=0) (vs:= []) h7 (by show 0+0≤5; omega) (fun r hr=>absurd hr (by simp)) (fun r hr _=>by match r,hr with | 0,_=>rfl | 1,_=>rfl | 2,_=>rfl | 3,_=>rfl | 4,_=>(show o_ (Value.slice x.ak (aJ mkStr (fun _=>1) (m+1+1+1+1) x.Ma).length x.aq)=o_ (s_ x.ak x.Ma.length x.aq); rw [bE]))
    ·exact Zb4
   clear hown hkb HS;have m3:m+1+1+1+1+(aF (fun _:ByteArray=>1) x.Ma:Nat)≤90000000:=HX.I.2.2.1;go_wp2;go_roundw
   case rel=>exact ⟨j+1,m+1+1+1+1+(aF (fun _:ByteArray=>1) x.Ma:Nat),by omega,by go_num,rfl,by omega,by omega,⟨HX.I.2.2.2,HV.I.1,HV.I.2.1,HV.I.2.2⟩⟩
   case measure=>simp [intOf]; omega
  ·have i1: ¬ (j:Int) < (l.length:Int):=by omega
   have ej:j=l.length:=by omega
   subst ej;have HE:Hid (bl bX 116 wr base g cap (aJ fU eo k l)∧fp aU wr base g (aJ fU eo k l)∧m=k+(aF eo l:Nat)):=by have h5:=HA.I.2.1; have h6:=HA.I.1; have h7:=HA.I.2.2.1; rw [LQ,adW,QO] at h5 h7; rw [LQ] at h6; exact ⟨h5,h7,h6⟩
   exact ZcA
theorem Ah (a:Option d_) (l:List aM) (cap:Nat) (k:Int) (w:w_) (hl:l.length≤1048576) (hk: ∀ x∈l,x.Ma.length≤1048576) (h0:1≤k) (h1:k+(aF eo l:Nat)≤90000000) (hr:bX.bU w a (aJ fU eo k l)):
  k_ J3 47 #[s_ a l.length cap,i_ j_ k] w fun e w'=>e=r_ (i_ j_ (k+(aF eo l:Nat)))∧B_ w.heap.size w w':=by
 have HR:Hid (bX.bU w a (aJ fU eo k l)∧k+(aF eo l:Nat)≤90000000∧ ∀ x∈l,x.Ma.length≤1048576):=⟨hr,h1,hk⟩
 clear hr h1 hk
 go_enter func47,ntmps47
 go_wp2_with fail
 go_loopw [1,5] (fun q i wr=> ∃ (j:Nat) (m:Int),j≤l.length∧i=i_ j_ j∧q=i_ j_ m∧1≤m∧m≤90000000∧Hid (m=k+(aF eo (l.take j):Nat)∧B_ w.heap.size w wr)) (fun _ i _=>l.length - (intOf i).toNat)
 case atStart=>exact ⟨0,k,Ky _,rfl,rfl,h0,by have:=HR.I.2.1; omega,⟨by simp [aF],Kp _ _⟩⟩
 case round=>
  obtain ⟨j,m,hj,rfl,rfl,m0,m1,HA⟩:=hrel;by_cases hlt:j < l.length
  ·have i0:(0:Int)≤(j:Int):=by omega
   have i1:(j:Int) < (l.length:Int):=by omega
   obtain ⟨x,hx⟩: ∃ x,l[j]? =o_ x:=⟨_,Kz hlt⟩
   have qw:=du (c:=eo) hx;have hup:=gK (c:=eo) hx;have hcx:eo x=4+aF (fun _:ByteArray=>1) x.Ma:=rfl;have hg:=jK (f:=fU) (c:=eo) (k:=k) hx;rw [← HA.I.1] at hg;have hls:bX.bU wr a (aJ fU eo k l):=HR.I.1.below HA.I.2;obtain ⟨g,ha,hat⟩:=hls.at hg;have c0:wr.cell? ⟨g,j * 5,n_⟩=o_ (i_ j_ (m)):=hat 0 _ rfl;have c1:wr.cell? ⟨g,j * 5+1,n_⟩=o_ (b_ ((m+1) % 3 == 0)):=hat 1 _ rfl;have c2:wr.cell? ⟨g,j * 5+2,n_⟩=o_ (b_ ((m+1+1) % 3 == 0)):=hat 2 _ rfl;have c3:wr.cell? ⟨g,j * 5+3,n_⟩=o_ (i_ j_ (m+1+1+1)):=hat 3 _ rfl;have cp:wr.cell? ⟨g,j * 5+4,n_⟩=o_ (s_ x.ak x.Ma.length x.aq):=(hat 4 _ rfl).trans (show o_ (Value.slice x.ak (aJ mkStr (fun _=>1) (m+1+1+1+1) x.Ma).length x.aq)=_ by rw [bE]);have HX:Hid (x.Ma.length≤1048576∧m+1+1+1+1+(aF (fun _:ByteArray=>1) x.Ma:Nat)≤90000000∧m+1+1+1+1+(aF (fun _:ByteArray=>1) x.Ma:Nat)=k+(aF eo (l.take (j+1)):Nat)∧bT.bU wr x.ak (aJ mkStr (fun _=>1) (m+1+1+1+1) x.Ma)):=⟨HR.I.2.2 x (KA hx),by have:=HR.I.2.1; have:=HA.I.1; omega,by have:=HA.I.1; omega,hls.2 _ (KA hg) (x.ak,bT.flat (aJ mkStr (fun _=>1) (m+1+1+1+1) x.Ma)) (KB.2 rfl),fun _ _ r hr=>by cases hr⟩
   have m2:m+1+1+1+1+(aF (fun _:ByteArray=>1) x.Ma:Nat)≤90000000:=HX.I.2.1;subst ha;clear hx qw hup hcx hg hat hls;go_wp2_with fail;refine (uo x.ak x.Ma x.aq (m+1+1+1+1) wr HX.I.1 (by omega) HX.I.2.1 HX.I.2.2.2).mono ?_;rintro e v ⟨rfl,hb⟩;have HV:Hid (B_ w.heap.size w v):=HA.I.2.trans (hb.mono HA.I.2.size);clear hb;go_wp2;go_roundw
   case rel=>exact ⟨j+1,m+1+1+1+1+(aF (fun _:ByteArray=>1) x.Ma:Nat),by omega,by go_num,rfl,by omega,by omega,⟨HX.I.2.2.1,HV.I⟩⟩
   case measure=>simp [intOf]; omega
  ·have i1: ¬ (j:Int) < (l.length:Int):=by omega
   have HE:Hid (m=k+(aF eo l:Nat)):=by have h6:=HA.I.1; rw [KF (by omega)] at h6; exact h6
   exact Zax
end
section
open Go.RowKit
theorem Ib {P:Program} {ops:Array Oper} {S:World→Prop} {o:Oper} {a:Act} (hw:Region.wanted o (yielded ops a.tmps)=true) (ty:TypeId) (x:Operand) (ho:o.op= .load ty x)
  (g:Nat) (hx:a.eval x= .pointer (some ⟨g,0,none⟩)) (t:TypeId) (cs:Array Value) (d:TypeDesc) (hS: ∀ w,S w→w.heap[g]? =some (.cells cs t (0,0)))
  (hu:P.underlying ty=some d) (hd:(match d with | .struct _ | .array _ _=>true | _=>false)=true) (hi:(P.info? ty).map (·.size)=some cs.size):YieldsIf P ops S o (.agg cs) a:=
 .inl ⟨hw,fun w hw'=>by
  unfold execOp;simp only [ho,hx,Instr.loadAt,Instr.sureAddr,Sem.run_bind,Sem.run_pure,Result.andThen_ok,run_loadVar_row w g t ty cs (0,0) d (hS w hw') hu hd hi]⟩
structure af.Ints (p:af):Prop where
 L8: ∀ x∈p.L8,x.Wf
 aj: ∀ x∈p.aj,(Lit.int .i64 x.id).wf=true
 L9: ∀ x∈p.L9,(Lit.int .i64 x.id).wf=true
 ag: ∀ x∈p.ag,(Lit.int .i64 x.id).wf=true
 ae: ∀ x∈p.ae,(Lit.int .i64 x.id).wf=true
 ai: ∀ x∈p.ai,(Lit.int .i64 x.id).wf=true
theorem UT {p:af} (h:p.yq) (hi:p.Ints):p.pure.Small:=by
 refine ⟨by simpa [af.pure] using h.dl,h.fx,h.cD,h.cC,by simpa [af.pure] using h.cb,by simpa [af.pure] using h.dH,fun x hx=> ?_,hi.aj,hi.L9,fun x hx=>⟨hi.ag x hx,h.ag x hx⟩,fun x hx=> ?_,fun x hx=> ?_⟩
 ·obtain ⟨y,hy,rfl⟩:=Lr.1 hx
  have h1:=h.L8 y hy;have h2:=hi.L8 y hy;exact ⟨⟨h1.prog,h1.ops,h1.held,h1.got⟩,h2.id,h2.on,h2.RU⟩
 ·obtain ⟨y,hy,rfl⟩:=Lr.1 hx
  exact ⟨hi.ae y hy,h.ae y hy⟩
 ·obtain ⟨y,hy,rfl⟩:=Lr.1 hx
  exact ⟨hi.ai y hy,h.ai y hy⟩
end
section
open Go.RowKit Go.Maps
theorem zj (Me:Int) (base b:Nat) (l:List (ao × Nat)) (w:w_) (h:Shelf aX (fun x:ao=>x.id) 100 w base b l) (hl:l.length≤1048576) (hwf: ∀ p∈(RW (fun x:ao=>x.id) l),(Lit.int j_ p.1).wf=true):
  k_ J3 90 #[a_ #[i_ j_ Me,.map (o_ b)]] w fun e w'=>mY bg 100 w (l.map (·.1)) e w':=by
 obtain ⟨i0,hi,e0⟩:=Kw.1 nb;simp only [Kx] at e0;have HI:Hid (Tryz.prog.info? 100=o_ i0∧i0.zero=o_ _∧i0.size=12∧i0.bytes=128):=⟨hi,e0⟩
 have H:Hid (Shelf aX (fun x:ao=>x.id) 100 (w.alloc (c_ #[i_ j_ Me,.map (o_ b)] 129)) base b l∧(∀ p∈(RW (fun x:ao=>x.id) l),(Lit.int j_ p.1).wf=true)∧B_ w.heap.size w (w.alloc (c_ #[i_ j_ Me,.map (o_ b)] 129))):=⟨h.below ((Kp _ _).alloc (Ki _) _),hwf,(Kp _ _).alloc (Ki _) _⟩
 have HK:Hid ((RW (fun x:ao=>x.id) l).length=l.length):=bZ l;clear h hwf hi e0
 go_enter func90,ntmps90
 go_wp2_with fail;generalize w.alloc (c_ #[i_ j_ Me,.map (o_ b)] 129)=W at *;refine (mq Me b (RW (fun x:ao=>x.id) l) W H.I.1.map Zc4 H.I.2.1).mono ?_;rintro e w2 ⟨a,cap,rfl,hown,hb2⟩;obtain ⟨a',cap',hv,hrow⟩:=cr hown;cases hv;have HR:Hid (Row w2 a ((RW (fun x:ao=>x.id) l).map fun p=>dt p.2)):=hrow;have HO:Hid (Shelf aX (fun x:ao=>x.id) 100 w2 base b l∧B_ w.heap.size w w2):=⟨H.I.1.below hb2,H.I.2.2.trans (hb2.mono H.I.2.2.size)⟩
 rw [HK.I];clear hown hrow hb2;go_wp2_with fail
 go_loopw [3,9] (fun t i wr=> ∃ k:Nat,k≤l.length∧i=i_ j_ k∧ ∃ a' cap',t=s_ a' k cap'∧Hid (wr.ownsRow w2.heap.size 100 12 (s_ a' k cap') k (bg.flat ((l.take k).map (·.1)))∧B_ w2.heap.size w2 wr)) (fun _ i _=>l.length - (intOf i).toNat)
 case atStart=>exact ⟨0,Ky _,rfl,n_,0,rfl,⟨Ke _ _ _ _,Kp _ _⟩⟩
 case round=>
  obtain ⟨k,hk,rfl,a',cap',rfl,HA⟩:=hrel;by_cases hlt:k < l.length
  ·have qE:(0:Int)≤(k:Int):=by omega
   have i1:(k:Int) < (l.length:Int):=by omega
   obtain ⟨p,hp⟩: ∃ p,l[k]? =o_ p:=⟨_,Kz hlt⟩
   obtain ⟨g,ha,hc⟩:=(HR.I.below HA.I.2) k (dt p.2) Zc9;subst ha;unfold dt at hc;have HP:Hid (l[k]? =o_ p):=hp;obtain ⟨s0,s1,s2,s3,s4,s5,s6,s7,s8,s9,s10,s11⟩:=bo ((HO.I.1.below HA.I.2).box p (KA hp));have kT:=HA.I.2.size;clear hp;go_wp2_with (at_builtin; refine KD _ rfl _ _ 31 rfl w2.heap.size 100 i0 _ 12 128 underlying31 HI.I.1 HI.I.2.1 HI.I.2.2.1 HI.I.2.2.2 rfl (by decide) (s_ a' k cap') k (bg.flat ((l.take k).map (·.1))) rfl (HA.I.1.alloc _) ⟨wr.heap.size,0,n_⟩ 1 1 (bg.vals p.1) (by rfl) rfl (KE (cs:= #[i_ j_ p.1.id,i_ j_ p.1.RX,s_ p.1.aY p.1.prog.length p.1.bH,i_ j_ p.1.Md,i_ j_ p.1.pc,i_ j_ p.1.left,i_ j_ p.1.Mg,i_ j_ p.1.on,t_ p.1.held,t_ p.1.got,i_ j_ p.1.code,i_ j_ p.1.RU]) (t:=100) (fr:=(0,0)) (Kj wr _)) (by simp [bg,qN,Value.oneCell']) ZcV (by omega) ZcS ?_; intro v' w5 hown' hgrow hnil jV; obtain ⟨a5,im,rfl,-⟩:=cr hown'; have HN:Hid (w5.ownsRow w2.heap.size 100 12 (s_ a5 (k+1) im) (k+1) (bg.flat ((l.take (k+1)).map (·.1)))∧B_ w2.heap.size w2 w5):=⟨by rw [cj HP.I,Kl,bg.dc]; exact hown',(HA.I.2.alloc kT _).grown hgrow ZcS (fun q hq=>(HA.I.1.lt q hq).1)⟩; clear hown' hgrow hnil jV);exact m_
  ·exact l_
theorem AN (Me:Int) (base b:Nat) (l:List (bD × Nat)) (w:w_) (h:Shelf eH (fun x:bD=>x.id) 105 w base b l) (hl:l.length≤1048576) (hwf: ∀ p∈(RW (fun x:bD=>x.id) l),(Lit.int j_ p.1).wf=true):
  k_ J3 91 #[a_ #[i_ j_ Me,.map (o_ b)]] w fun e w'=>mY dm 105 w (l.map (·.1)) e w':=by
 obtain ⟨i0,hi,e0⟩:=Kw.1 yS;simp only [Kx] at e0;have HI:Hid (Tryz.prog.info? 105=o_ i0∧i0.zero=o_ _∧i0.size=3∧i0.bytes=24):=⟨hi,e0⟩
 have H:Hid (Shelf eH (fun x:bD=>x.id) 105 (w.alloc (c_ #[i_ j_ Me,.map (o_ b)] 134)) base b l∧(∀ p∈(RW (fun x:bD=>x.id) l),(Lit.int j_ p.1).wf=true)∧B_ w.heap.size w (w.alloc (c_ #[i_ j_ Me,.map (o_ b)] 134))):=⟨h.below ((Kp _ _).alloc (Ki _) _),hwf,(Kp _ _).alloc (Ki _) _⟩
 have HK:Hid ((RW (fun x:bD=>x.id) l).length=l.length):=bZ l;clear h hwf hi e0
 go_enter func91,ntmps91
 go_wp2_with fail;generalize w.alloc (c_ #[i_ j_ Me,.map (o_ b)] 134)=W at *;refine (CS Me b (RW (fun x:bD=>x.id) l) W H.I.1.map Zc4 H.I.2.1).mono ?_;rintro e w2 ⟨a,cap,rfl,hown,hb2⟩;obtain ⟨a',cap',hv,hrow⟩:=cr hown;cases hv;have HR:Hid (Row w2 a ((RW (fun x:bD=>x.id) l).map fun p=>dt p.2)):=hrow;have HO:Hid (Shelf eH (fun x:bD=>x.id) 105 w2 base b l∧B_ w.heap.size w w2):=⟨H.I.1.below hb2,H.I.2.2.trans (hb2.mono H.I.2.2.size)⟩
 rw [HK.I];clear hown hrow hb2;go_wp2_with fail
 go_loopw [3,9] (fun t i wr=> ∃ k:Nat,k≤l.length∧i=i_ j_ k∧ ∃ a' cap',t=s_ a' k cap'∧Hid (wr.ownsRow w2.heap.size 105 3 (s_ a' k cap') k (dm.flat ((l.take k).map (·.1)))∧B_ w2.heap.size w2 wr)) (fun _ i _=>l.length - (intOf i).toNat)
 case atStart=>exact ⟨0,Ky _,rfl,n_,0,rfl,⟨Ke _ _ _ _,Kp _ _⟩⟩
 case round=>
  obtain ⟨k,hk,rfl,a',cap',rfl,HA⟩:=hrel;by_cases hlt:k < l.length
  ·have qE:(0:Int)≤(k:Int):=by omega
   have i1:(k:Int) < (l.length:Int):=by omega
   obtain ⟨p,hp⟩: ∃ p,l[k]? =o_ p:=⟨_,Kz hlt⟩
   obtain ⟨g,ha,hc⟩:=(HR.I.below HA.I.2) k (dt p.2) Zc9;subst ha;unfold dt at hc;have HP:Hid (l[k]? =o_ p):=hp;obtain ⟨s0,s1,s2⟩:=gm ((HO.I.1.below HA.I.2).box p (KA hp));have kT:=HA.I.2.size;clear hp;go_wp2_with (at_builtin; refine KD _ rfl _ _ 32 rfl w2.heap.size 105 i0 _ 3 24 underlying32 HI.I.1 HI.I.2.1 HI.I.2.2.1 HI.I.2.2.2 rfl (by decide) (s_ a' k cap') k (dm.flat ((l.take k).map (·.1))) rfl (HA.I.1.alloc _) ⟨wr.heap.size,0,n_⟩ 1 1 (dm.vals p.1) (by rfl) rfl (KE (cs:= #[i_ j_ p.1.id,i_ j_ p.1.n,i_ j_ p.1.max]) (t:=105) (fr:=(0,0)) (Kj wr _)) (by simp [dm,yz,Value.oneCell']) ZcV (by omega) ZcS ?_; intro v' w5 hown' hgrow hnil jV; obtain ⟨a5,im,rfl,-⟩:=cr hown'; have HN:Hid (w5.ownsRow w2.heap.size 105 3 (s_ a5 (k+1) im) (k+1) (dm.flat ((l.take (k+1)).map (·.1)))∧B_ w2.heap.size w2 w5):=⟨by rw [cj HP.I,Kl,dm.dc]; exact hown',(HA.I.2.alloc kT _).grown hgrow ZcS (fun q hq=>(HA.I.1.lt q hq).1)⟩; clear hown' hgrow hnil jV);exact m_
  ·exact l_
theorem wN (Me:Int) (base b:Nat) (l:List (aB × Nat)) (w:w_) (h:Shelf cG (fun x:aB=>x.id) 109 w base b l) (hl:l.length≤1048576) (hwf: ∀ p∈(RW (fun x:aB=>x.id) l),(Lit.int j_ p.1).wf=true):
  k_ J3 92 #[a_ #[i_ j_ Me,.map (o_ b)]] w fun e w'=>mY bJ 109 w (l.map (·.1)) e w':=by
 obtain ⟨i0,hi,e0⟩:=Kw.1 so;simp only [Kx] at e0;have HI:Hid (Tryz.prog.info? 109=o_ i0∧i0.zero=o_ _∧i0.size=2∧i0.bytes=16):=⟨hi,e0⟩
 have H:Hid (Shelf cG (fun x:aB=>x.id) 109 (w.alloc (c_ #[i_ j_ Me,.map (o_ b)] 139)) base b l∧(∀ p∈(RW (fun x:aB=>x.id) l),(Lit.int j_ p.1).wf=true)∧B_ w.heap.size w (w.alloc (c_ #[i_ j_ Me,.map (o_ b)] 139))):=⟨h.below ((Kp _ _).alloc (Ki _) _),hwf,(Kp _ _).alloc (Ki _) _⟩
 have HK:Hid ((RW (fun x:aB=>x.id) l).length=l.length):=bZ l;clear h hwf hi e0
 go_enter func92,ntmps92
 go_wp2_with fail;generalize w.alloc (c_ #[i_ j_ Me,.map (o_ b)] 139)=W at *;refine (yh Me b (RW (fun x:aB=>x.id) l) W H.I.1.map Zc4 H.I.2.1).mono ?_;rintro e w2 ⟨a,cap,rfl,hown,hb2⟩;obtain ⟨a',cap',hv,hrow⟩:=cr hown;cases hv;have HR:Hid (Row w2 a ((RW (fun x:aB=>x.id) l).map fun p=>dt p.2)):=hrow;have HO:Hid (Shelf cG (fun x:aB=>x.id) 109 w2 base b l∧B_ w.heap.size w w2):=⟨H.I.1.below hb2,H.I.2.2.trans (hb2.mono H.I.2.2.size)⟩
 rw [HK.I];clear hown hrow hb2;go_wp2_with fail
 go_loopw [3,9] (fun t i wr=> ∃ k:Nat,k≤l.length∧i=i_ j_ k∧ ∃ a' cap',t=s_ a' k cap'∧Hid (wr.ownsRow w2.heap.size 109 2 (s_ a' k cap') k (bJ.flat ((l.take k).map (·.1)))∧B_ w2.heap.size w2 wr)) (fun _ i _=>l.length - (intOf i).toNat)
 case atStart=>exact ⟨0,Ky _,rfl,n_,0,rfl,⟨Ke _ _ _ _,Kp _ _⟩⟩
 case round=>
  obtain ⟨k,hk,rfl,a',cap',rfl,HA⟩:=hrel;by_cases hlt:k < l.length
  ·have qE:(0:Int)≤(k:Int):=by omega
   have i1:(k:Int) < (l.length:Int):=by omega
   obtain ⟨p,hp⟩: ∃ p,l[k]? =o_ p:=⟨_,Kz hlt⟩
   obtain ⟨g,ha,hc⟩:=(HR.I.below HA.I.2) k (dt p.2) Zc9;subst ha;unfold dt at hc;have HP:Hid (l[k]? =o_ p):=hp;obtain ⟨s0,s1⟩:=kF ((HO.I.1.below HA.I.2).box p (KA hp));have kT:=HA.I.2.size;clear hp;go_wp2_with (at_builtin; refine KD _ rfl _ _ 33 rfl w2.heap.size 109 i0 _ 2 16 underlying33 HI.I.1 HI.I.2.1 HI.I.2.2.1 HI.I.2.2.2 rfl (by decide) (s_ a' k cap') k (bJ.flat ((l.take k).map (·.1))) rfl (HA.I.1.alloc _) ⟨wr.heap.size,0,n_⟩ 1 1 (bJ.vals p.1) (by rfl) rfl (KE (cs:= #[i_ j_ p.1.id,b_ p.1.up]) (t:=109) (fr:=(0,0)) (Kj wr _)) (by simp [bJ,rY,Value.oneCell']) ZcV (by omega) ZcS ?_; intro v' w5 hown' hgrow hnil jV; obtain ⟨a5,im,rfl,-⟩:=cr hown'; have HN:Hid (w5.ownsRow w2.heap.size 109 2 (s_ a5 (k+1) im) (k+1) (bJ.flat ((l.take (k+1)).map (·.1)))∧B_ w2.heap.size w2 w5):=⟨by rw [cj HP.I,Kl,bJ.dc]; exact hown',(HA.I.2.alloc kT _).grown hgrow ZcS (fun q hq=>(HA.I.1.lt q hq).1)⟩; clear hown' hgrow hnil jV);exact m_
  ·exact l_
theorem wC (Me:Int) (base b:Nat) (l:List (az × Nat)) (w:w_) (h:Shelf cI (fun x:az=>x.id) 112 w base b l) (hl:l.length≤1048576) (hwf: ∀ p∈(RW (fun x:az=>x.id) l),(Lit.int j_ p.1).wf=true):
  k_ J3 93 #[a_ #[i_ j_ Me,.map (o_ b)]] w fun e w'=>mY bG 112 w (l.map (·.1)) e w':=by
 obtain ⟨i0,hi,e0⟩:=Kw.1 sj;simp only [Kx] at e0;have HI:Hid (Tryz.prog.info? 112=o_ i0∧i0.zero=o_ _∧i0.size=3∧i0.bytes=32):=⟨hi,e0⟩
 have H:Hid (Shelf cI (fun x:az=>x.id) 112 (w.alloc (c_ #[i_ j_ Me,.map (o_ b)] 144)) base b l∧(∀ p∈(RW (fun x:az=>x.id) l),(Lit.int j_ p.1).wf=true)∧B_ w.heap.size w (w.alloc (c_ #[i_ j_ Me,.map (o_ b)] 144))):=⟨h.below ((Kp _ _).alloc (Ki _) _),hwf,(Kp _ _).alloc (Ki _) _⟩
 have HK:Hid ((RW (fun x:az=>x.id) l).length=l.length):=bZ l;clear h hwf hi e0
 go_enter func93,ntmps93
 go_wp2_with fail;generalize w.alloc (c_ #[i_ j_ Me,.map (o_ b)] 144)=W at *;refine (yB Me b (RW (fun x:az=>x.id) l) W H.I.1.map Zc4 H.I.2.1).mono ?_;rintro e w2 ⟨a,cap,rfl,hown,hb2⟩;obtain ⟨a',cap',hv,hrow⟩:=cr hown;cases hv;have HR:Hid (Row w2 a ((RW (fun x:az=>x.id) l).map fun p=>dt p.2)):=hrow;have HO:Hid (Shelf cI (fun x:az=>x.id) 112 w2 base b l∧B_ w.heap.size w w2):=⟨H.I.1.below hb2,H.I.2.2.trans (hb2.mono H.I.2.2.size)⟩
 rw [HK.I];clear hown hrow hb2;go_wp2_with fail
 go_loopw [3,9] (fun t i wr=> ∃ k:Nat,k≤l.length∧i=i_ j_ k∧ ∃ a' cap',t=s_ a' k cap'∧Hid (wr.ownsRow w2.heap.size 112 3 (s_ a' k cap') k (bG.flat ((l.take k).map (·.1)))∧B_ w2.heap.size w2 wr)) (fun _ i _=>l.length - (intOf i).toNat)
 case atStart=>exact ⟨0,Ky _,rfl,n_,0,rfl,⟨Ke _ _ _ _,Kp _ _⟩⟩
 case round=>
  obtain ⟨k,hk,rfl,a',cap',rfl,HA⟩:=hrel;by_cases hlt:k < l.length
  ·have qE:(0:Int)≤(k:Int):=by omega
   have i1:(k:Int) < (l.length:Int):=by omega
   obtain ⟨p,hp⟩: ∃ p,l[k]? =o_ p:=⟨_,Kz hlt⟩
   obtain ⟨g,ha,hc⟩:=(HR.I.below HA.I.2) k (dt p.2) Zc9;subst ha;unfold dt at hc;have HP:Hid (l[k]? =o_ p):=hp;obtain ⟨s0,s1,s2⟩:=kJ ((HO.I.1.below HA.I.2).box p (KA hp));have kT:=HA.I.2.size;clear hp;go_wp2_with (at_builtin; refine KD _ rfl _ _ 34 rfl w2.heap.size 112 i0 _ 3 32 underlying34 HI.I.1 HI.I.2.1 HI.I.2.2.1 HI.I.2.2.2 rfl (by decide) (s_ a' k cap') k (bG.flat ((l.take k).map (·.1))) rfl (HA.I.1.alloc _) ⟨wr.heap.size,0,n_⟩ 1 1 (bG.vals p.1) (by rfl) rfl (KE (cs:= #[i_ j_ p.1.id,b_ p.1.shown,t_ p.1.text]) (t:=112) (fr:=(0,0)) (Kj wr _)) (by simp [bG,sn,Value.oneCell']) ZcV (by omega) ZcS ?_; intro v' w5 hown' hgrow hnil jV; obtain ⟨a5,im,rfl,-⟩:=cr hown'; have HN:Hid (w5.ownsRow w2.heap.size 112 3 (s_ a5 (k+1) im) (k+1) (bG.flat ((l.take (k+1)).map (·.1)))∧B_ w2.heap.size w2 w5):=⟨by rw [cj HP.I,Kl,bG.dc]; exact hown',(HA.I.2.alloc kT _).grown hgrow ZcS (fun q hq=>(HA.I.1.lt q hq).1)⟩; clear hown' hgrow hnil jV);exact m_
  ·exact l_
theorem uk (Me:Int) (base b:Nat) (l:List (au × Nat)) (w:w_) (h:Shelf bQ (fun x:au=>x.id) 114 w base b l) (hl:l.length≤1048576) (hwf: ∀ p∈(RW (fun x:au=>x.id) l),(Lit.int j_ p.1).wf=true):
  k_ J3 94 #[a_ #[i_ j_ Me,.map (o_ b)]] w fun e w'=>mY bm 114 w (l.map (·.1)) e w':=by
 obtain ⟨i0,hi,e0⟩:=Kw.1 kh;simp only [Kx] at e0;have HI:Hid (Tryz.prog.info? 114=o_ i0∧i0.zero=o_ _∧i0.size=3∧i0.bytes=40):=⟨hi,e0⟩
 have H:Hid (Shelf bQ (fun x:au=>x.id) 114 (w.alloc (c_ #[i_ j_ Me,.map (o_ b)] 149)) base b l∧(∀ p∈(RW (fun x:au=>x.id) l),(Lit.int j_ p.1).wf=true)∧B_ w.heap.size w (w.alloc (c_ #[i_ j_ Me,.map (o_ b)] 149))):=⟨h.below ((Kp _ _).alloc (Ki _) _),hwf,(Kp _ _).alloc (Ki _) _⟩
 have HK:Hid ((RW (fun x:au=>x.id) l).length=l.length):=bZ l;clear h hwf hi e0
 go_enter func94,ntmps94
 go_wp2_with fail;generalize w.alloc (c_ #[i_ j_ Me,.map (o_ b)] 149)=W at *;refine (wF Me b (RW (fun x:au=>x.id) l) W H.I.1.map Zc4 H.I.2.1).mono ?_;rintro e w2 ⟨a,cap,rfl,hown,hb2⟩;obtain ⟨a',cap',hv,hrow⟩:=cr hown;cases hv;have HR:Hid (Row w2 a ((RW (fun x:au=>x.id) l).map fun p=>dt p.2)):=hrow;have HO:Hid (Shelf bQ (fun x:au=>x.id) 114 w2 base b l∧B_ w.heap.size w w2):=⟨H.I.1.below hb2,H.I.2.2.trans (hb2.mono H.I.2.2.size)⟩
 rw [HK.I];clear hown hrow hb2;go_wp2_with fail
 go_loopw [3,9] (fun t i wr=> ∃ k:Nat,k≤l.length∧i=i_ j_ k∧ ∃ a' cap',t=s_ a' k cap'∧Hid (wr.ownsRow w2.heap.size 114 3 (s_ a' k cap') k (bm.flat ((l.take k).map (·.1)))∧B_ w2.heap.size w2 wr)) (fun _ i _=>l.length - (intOf i).toNat)
 case atStart=>exact ⟨0,Ky _,rfl,n_,0,rfl,⟨Ke _ _ _ _,Kp _ _⟩⟩
 case round=>
  obtain ⟨k,hk,rfl,a',cap',rfl,HA⟩:=hrel;by_cases hlt:k < l.length
  ·have qE:(0:Int)≤(k:Int):=by omega
   have i1:(k:Int) < (l.length:Int):=by omega
   obtain ⟨p,hp⟩: ∃ p,l[k]? =o_ p:=⟨_,Kz hlt⟩
   obtain ⟨g,ha,hc⟩:=(HR.I.below HA.I.2) k (dt p.2) Zc9;subst ha;unfold dt at hc;have HP:Hid (l[k]? =o_ p):=hp;obtain ⟨s0,s1,s2⟩:=ia ((HO.I.1.below HA.I.2).box p (KA hp));have kT:=HA.I.2.size;clear hp;go_wp2_with (at_builtin; refine KD _ rfl _ _ 35 rfl w2.heap.size 114 i0 _ 3 40 underlying35 HI.I.1 HI.I.2.1 HI.I.2.2.1 HI.I.2.2.2 rfl (by decide) (s_ a' k cap') k (bm.flat ((l.take k).map (·.1))) rfl (HA.I.1.alloc _) ⟨wr.heap.size,0,n_⟩ 1 1 (bm.vals p.1) (by rfl) rfl (KE (cs:= #[i_ j_ p.1.id,i_ j_ p.1.max,s_ p.1.ak p.1.Ma.length p.1.aq]) (t:=114) (fr:=(0,0)) (Kj wr _)) (by simp [bm,nD,Value.oneCell']) ZcV (by omega) ZcS ?_; intro v' w5 hown' hgrow hnil jV; obtain ⟨a5,im,rfl,-⟩:=cr hown'; have HN:Hid (w5.ownsRow w2.heap.size 114 3 (s_ a5 (k+1) im) (k+1) (bm.flat ((l.take (k+1)).map (·.1)))∧B_ w2.heap.size w2 w5):=⟨by rw [cj HP.I,Kl,bm.dc]; exact hown',(HA.I.2.alloc kT _).grown hgrow ZcS (fun q hq=>(HA.I.1.lt q hq).1)⟩; clear hown' hgrow hnil jV);exact m_
  ·exact l_
theorem zf (Me:Int) (base b:Nat) (l:List (aM × Nat)) (w:w_) (h:Shelf cW (fun x:aM=>x.id) 116 w base b l) (hl:l.length≤1048576) (hwf: ∀ p∈(RW (fun x:aM=>x.id) l),(Lit.int j_ p.1).wf=true):
  k_ J3 95 #[a_ #[i_ j_ Me,.map (o_ b)]] w fun e w'=>mY bX 116 w (l.map (·.1)) e w':=by
 obtain ⟨i0,hi,e0⟩:=Kw.1 na;simp only [Kx] at e0;have HI:Hid (Tryz.prog.info? 116=o_ i0∧i0.zero=o_ _∧i0.size=5∧i0.bytes=48):=⟨hi,e0⟩
 have H:Hid (Shelf cW (fun x:aM=>x.id) 116 (w.alloc (c_ #[i_ j_ Me,.map (o_ b)] 154)) base b l∧(∀ p∈(RW (fun x:aM=>x.id) l),(Lit.int j_ p.1).wf=true)∧B_ w.heap.size w (w.alloc (c_ #[i_ j_ Me,.map (o_ b)] 154))):=⟨h.below ((Kp _ _).alloc (Ki _) _),hwf,(Kp _ _).alloc (Ki _) _⟩
 have HK:Hid ((RW (fun x:aM=>x.id) l).length=l.length):=bZ l;clear h hwf hi e0
 go_enter func95,ntmps95
 go_wp2_with fail;generalize w.alloc (c_ #[i_ j_ Me,.map (o_ b)] 154)=W at *;refine (Bx Me b (RW (fun x:aM=>x.id) l) W H.I.1.map Zc4 H.I.2.1).mono ?_;rintro e w2 ⟨a,cap,rfl,hown,hb2⟩;obtain ⟨a',cap',hv,hrow⟩:=cr hown;cases hv;have HR:Hid (Row w2 a ((RW (fun x:aM=>x.id) l).map fun p=>dt p.2)):=hrow;have HO:Hid (Shelf cW (fun x:aM=>x.id) 116 w2 base b l∧B_ w.heap.size w w2):=⟨H.I.1.below hb2,H.I.2.2.trans (hb2.mono H.I.2.2.size)⟩
 rw [HK.I];clear hown hrow hb2;go_wp2_with fail
 go_loopw [3,9] (fun t i wr=> ∃ k:Nat,k≤l.length∧i=i_ j_ k∧ ∃ a' cap',t=s_ a' k cap'∧Hid (wr.ownsRow w2.heap.size 116 5 (s_ a' k cap') k (bX.flat ((l.take k).map (·.1)))∧B_ w2.heap.size w2 wr)) (fun _ i _=>l.length - (intOf i).toNat)
 case atStart=>exact ⟨0,Ky _,rfl,n_,0,rfl,⟨Ke _ _ _ _,Kp _ _⟩⟩
 case round=>
  obtain ⟨k,hk,rfl,a',cap',rfl,HA⟩:=hrel;by_cases hlt:k < l.length
  ·have qE:(0:Int)≤(k:Int):=by omega
   have i1:(k:Int) < (l.length:Int):=by omega
   obtain ⟨p,hp⟩: ∃ p,l[k]? =o_ p:=⟨_,Kz hlt⟩
   obtain ⟨g,ha,hc⟩:=(HR.I.below HA.I.2) k (dt p.2) Zc9;subst ha;unfold dt at hc;have HP:Hid (l[k]? =o_ p):=hp;obtain ⟨s0,s1,s2,s3,s4⟩:=gE ((HO.I.1.below HA.I.2).box p (KA hp));have kT:=HA.I.2.size;clear hp;go_wp2_with (at_builtin; refine KD _ rfl _ _ 36 rfl w2.heap.size 116 i0 _ 5 48 underlying36 HI.I.1 HI.I.2.1 HI.I.2.2.1 HI.I.2.2.2 rfl (by decide) (s_ a' k cap') k (bX.flat ((l.take k).map (·.1))) rfl (HA.I.1.alloc _) ⟨wr.heap.size,0,n_⟩ 1 1 (bX.vals p.1) (by rfl) rfl (KE (cs:= #[i_ j_ p.1.id,b_ p.1.I,b_ p.1.Mf,i_ j_ p.1.max,s_ p.1.ak p.1.Ma.length p.1.aq]) (t:=116) (fr:=(0,0)) (Kj wr _)) (by simp [bX,qT,Value.oneCell']) ZcV (by omega) ZcS ?_; intro v' w5 hown' hgrow hnil jV; obtain ⟨a5,im,rfl,-⟩:=cr hown'; have HN:Hid (w5.ownsRow w2.heap.size 116 5 (s_ a5 (k+1) im) (k+1) (bX.flat ((l.take (k+1)).map (·.1)))∧B_ w2.heap.size w2 w5):=⟨by rw [cj HP.I,Kl,bX.dc]; exact hown',(HA.I.2.alloc kT _).grown hgrow ZcS (fun q hq=>(HA.I.1.lt q hq).1)⟩; clear hown' hgrow hnil jV);exact m_
  ·exact l_
end
end Go.Proofs.YtnlbiglljiopmaaGreatDoor
