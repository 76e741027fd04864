/- What the proof leans on, part 8. -/
import Derived.Test.YtnlbiglljiopmaaGreatDoorOwnT7
import Derived.Laws.CopyOwn
import Derived.Lib.SmallJoins
set_option linter.unusedVariables false
set_option maxRecDepth 100000
set_option maxHeartbeats 8000000
open Go.Proofs.Tryz
open Go renaming World->w_,Value->v_,Calls->k_,Addr->d_,TypeId->T_,below_setRow->q_
open Go.Ending renaming returned->r_
open Go.IntKind renaming i64->j_
open Go.Obj renaming cells->c_
open Go.RowKit renaming Below->B_
open Go.Value renaming int->i_,slice->s_,bool->b_,string->t_,agg->a_,pointer->p_,tuple->u_
open Option renaming some->o_,none->n_
open Array renaming getElem?_eq_some_iff->J2
open Function renaming comp_def->Ls
open Go renaming block_lt_of_cell->Le,frozen_of_row->Ko,heap_alloc2_new->Kq,heap_alloc_new->Kj,setRow_other->KH,wpList_append_own_at->KD,wp_at_succ->Kd,wp_at_zero->Kc,wp_region_held_drew->Kr
open Go.DataW renaming trod_bool->adS,trod_int->adQ,trod_string->adO
open Go.Proofs.Tryz renaming prog->J3,underlying2->KN,underlying29->Qt,underlying4->Q6,underlying9->adP
open Go.RowKit.Below renaming refl->Kp
open Go.World renaming cell?_of_block->J1,news_of_block->KE,ownsRow_nil->Ke
open List renaming append_assoc->Lm,filterMap_cons->LH,getElem?_cons_zero->QI,getElem?_eq_getElem->Kz,getElem?_eq_some_iff->Lj,getElem?_map->Kk,getElem_cons_succ->K1,getElem_cons_zero->K0,getElem_toArray->KZ,length_cons->Lg,length_map->KG,map_append->Kl,map_cons->Lt,mem_append->Kg,mem_append_left->Lz,mem_append_right->Ly,mem_cons->Kt,mem_filterMap->Lq,mem_map->Lr,mem_of_getElem?->KA,mem_singleton->KB,nodup_append->Kf,not_mem_nil->Ku,setIfInBounds_toArray->Qr,set_cons_succ->Lo,set_cons_zero->Ln,sum_cons->aeA,take_of_length_le->KF
open List.cons renaming injEq->adK
open Nat renaming le_refl->Ki,lt_of_lt_of_le->Kn,mul_comm->adM,zero_le->Ky
open Option renaming map_eq_some_iff->Kw
open Option.some renaming inj->KC,injEq->LF
open Prod.mk renaming injEq->Kx

namespace Go.Proofs.YtnlbiglljiopmaaGreatDoor
section
open Go.RowKit
attribute [local go_sem ↓] Kc Kd
def DF (w:w_) (a:Option d_) (l:List ao) (g j:Nat) (VX:Int) (w':w_):Prop:=(w'.cell? ⟨g,j * 12+8,n_⟩=o_ (t_ (cu (VX+1+1+1+1+1)))∧w'.cell? ⟨g,j * 12+9,n_⟩=o_ (t_ (cu (VX+1+1+1+1+1+1))))∧Hid (bg.bU w' a l∧B_ w.heap.size w w')
theorem AZ (a:Option d_) (l:List ao) (cap:Nat) (k:Int) (w:w_) (hl:l.length≤1048576) (hk: ∀ x∈l,x.prog.length≤1048576) (h0:1≤k) (h1:k+(aF bj l:Nat)≤90000000) (hr:bg.bU w a (aJ cw bj k l)):
  k_ J3 42 #[s_ a l.length cap,i_ j_ k] w fun e w'=>e=r_ (i_ j_ (k+(aF bj l:Nat)))∧B_ w.heap.size w w':=by
 have HR:Hid (bg.bU w a (aJ cw bj k l)∧k+(aF bj l:Nat)≤90000000∧ ∀ x∈l,x.prog.length≤1048576):=⟨hr,h1,hk⟩
 clear hr h1 hk
 go_enter func42,ntmps42
 go_wp2_with fail
 go_loopw [1,5] (fun q i wr=> ∃ (j:Nat) (m:Int),j≤l.length∧i=i_ j_ j∧q=i_ j_ m∧1≤m∧m≤90000000∧Hid (m=k+(aF bj (l.take j):Nat)∧B_ w.heap.size w wr)) (fun _ i _=>l.length - (intOf i).toNat)
 case atStart=>exact ⟨0,k,Ky _,rfl,rfl,h0,by have:=HR.I.2.1; omega,⟨by simp [aF],Kp _ _⟩⟩
 case round=>
  obtain ⟨j,m,hj,rfl,rfl,m0,m1,HA⟩:=hrel;by_cases hlt:j < l.length
  ·have i0:(0:Int)≤(j:Int):=by omega
   have i1:(j:Int) < (l.length:Int):=by omega
   obtain ⟨x,hx⟩: ∃ x,l[j]? =o_ x:=⟨_,Kz hlt⟩
   have qw:=du (c:=bj) hx;have hup:=gK (c:=bj) hx;have hcx:bj x=2+aF (fun _:dN=>4) x.prog+9:=rfl;have hg:=jK (f:=cw) (c:=bj) (k:=k) hx;rw [← HA.I.1] at hg;have hls:bg.bU wr a (aJ cw bj k l):=HR.I.1.below HA.I.2;obtain ⟨g,ha,hat⟩:=hls.at hg;obtain ⟨m',hm'⟩: ∃ q:Int,q=m+1+1+(aF (fun _:dN=>4) x.prog:Nat):=⟨_,rfl⟩
   have hg2:(aJ cw bj k l)[j]? =o_ (rI m m' x):=by rw [hg,hm']; rfl
   have c0:wr.cell? ⟨g,j * 12,n_⟩=o_ (i_ j_ (m)):=hat 0 _ rfl;have c1:wr.cell? ⟨g,j * 12+1,n_⟩=o_ (i_ j_ (m+1)):=hat 1 _ rfl;have c2:wr.cell? ⟨g,j * 12+2,n_⟩=o_ (s_ x.aY x.prog.length x.bH):=(hat 2 _ rfl).trans (show o_ (Value.slice x.aY (aJ fj (fun _=>4) (m+1+1) x.prog).length x.bH)=_ by rw [bE]);have HX:Hid (x.prog.length≤1048576∧m'+9≤90000000∧m'+9=k+(aF bj (l.take (j+1)):Nat)∧fk.bU wr x.aY (aJ fj (fun _=>4) (m+1+1) x.prog)∧(aJ cw bj k l)[j]? =o_ (rI m m' x)∧m'=m+1+1+(aF (fun _:dN=>4) x.prog:Nat)∧bg.bU wr (o_ ⟨g,0,n_⟩) (aJ cw bj k l)):=⟨HR.I.2.2 x (KA hx),by have:=HR.I.2.1; have:=HA.I.1; omega,by have:=HA.I.1; omega,⟨hls.2 _ (KA hg) (x.aY,fk.flat (aJ fj (fun _=>4) (m+1+1) x.prog)) (KB.2 rfl),fun _ _ r hr=>by cases hr⟩,hg2,hm',ha ▸ hls⟩
   have p1:m'+9≤90000000:=HX.I.2.1;have p0:1≤m':=by omega
   have m2:m+1+1≤90000000:=by omega
   subst ha;clear hx qw hup hcx hg hat hls hg2 hm';go_wp2_with fail;refine (xg x.aY x.prog x.bH (m+1+1) wr HX.I.1 (by omega) (by have:=HX.I.2.1; have:=HX.I.2.2.2.2.2.1; omega) HX.I.2.2.2.1).mono ?_;rintro e v ⟨rfl,hb⟩;rw [← HX.I.2.2.2.2.2.1];have HV:Hid (bg.bU v (o_ ⟨g,0,n_⟩) (aJ cw bj k l)∧B_ w.heap.size w v):=⟨HX.I.2.2.2.2.2.2.below hb,HA.I.2.trans (hb.mono HA.I.2.size)⟩
   clear hb c0 c1 c2;obtain ⟨g2,hg2,hat⟩:=HV.I.1.at HX.I.2.2.2.2.1;cases hg2;have c3:v.cell? ⟨g,j * 12+3,n_⟩=o_ (i_ j_ (m')):=hat 3 _ rfl;have c4:v.cell? ⟨g,j * 12+4,n_⟩=o_ (i_ j_ (m'+1)):=hat 4 _ rfl;have c5:v.cell? ⟨g,j * 12+5,n_⟩=o_ (i_ j_ (m'+1+1)):=hat 5 _ rfl;have c6:v.cell? ⟨g,j * 12+6,n_⟩=o_ (i_ j_ (m'+1+1+1)):=hat 6 _ rfl;have c7:v.cell? ⟨g,j * 12+7,n_⟩=o_ (i_ j_ (m'+1+1+1+1)):=hat 7 _ rfl;have c8:v.cell? ⟨g,j * 12+8,n_⟩=o_ (t_ (cu (m'+1+1+1+1+1))):=hat 8 _ rfl;have c9:v.cell? ⟨g,j * 12+9,n_⟩=o_ (t_ (cu (m'+1+1+1+1+1+1))):=hat 9 _ rfl;have qF:v.cell? ⟨g,j * 12+10,n_⟩=o_ (i_ j_ (m'+1+1+1+1+1+1+1)):=hat 10 _ rfl;have pe:v.cell? ⟨g,j * 12+11,n_⟩=o_ (i_ j_ (m'+1+1+1+1+1+1+1+1)):=hat 11 _ rfl;clear hat;go_wp2_with fail;have HT:Hid (DF w (o_ ⟨g,0,n_⟩) (aJ cw bj k l) g j m' v.drew):=⟨⟨c8,c9⟩,HV.I.1.below (Kp _ _).drew,HV.I.2.drew⟩
   clear c3 c4 c5 c6 c7 c8 c9 qF pe;refine aT (DF w (o_ ⟨g,0,n_⟩) (aJ cw bj k l) g j m') ZcR HT.I ?_
   iterate 6 (refine PI ?_ (hy:=fun w0 hS0=>by obtain ⟨⟨q8,q9⟩,hH⟩:=hS0; go_simp; try with_reducible rfl))
   refine cl (t_ (cu (m'+1+1+1+1+1))) 74 #[i_ j_ (m'+1+1+1+1+1)] ?_ ?_ ?_
   ·intro w0 hS0
    obtain ⟨⟨q8,q9⟩,hH⟩:=hS0
    exact wl
   ·intro w0 hS0
    refine (fh (m'+1+1+1+1+1) (by omega) (by omega) w0).mono ?_;exact ZaC
   simp only [pt,sb,s0,s1]
   (refine PI ?_ (hy:=fun w0 hS0=>by obtain ⟨⟨q8,q9⟩,hH⟩:=hS0; go_simp; try with_reducible rfl))
   refine bk ZcR ?_ _;intro w1 cm;have wm:Hid (DF w (o_ ⟨g,0,n_⟩) (aJ cw bj k l) g j m' w1.drew):=⟨cm.1,cm.2.I.1.below (Kp _ _).drew,cm.2.I.2.drew⟩
   clear cm HT;have HT:=wm;clear wm;go_wp2_with fail;refine aT (DF w (o_ ⟨g,0,n_⟩) (aJ cw bj k l) g j m') ZcR HT.I ?_
   iterate 6 (refine PI ?_ (hy:=fun w0 hS0=>by obtain ⟨⟨q8,q9⟩,hH⟩:=hS0; go_simp; try with_reducible rfl))
   refine cl (t_ (cu (m'+1+1+1+1+1+1))) 74 #[i_ j_ (m'+1+1+1+1+1+1)] ?_ ?_ ?_
   ·intro w0 hS0
    obtain ⟨⟨q8,q9⟩,hH⟩:=hS0
    exact wl
   ·intro w0 hS0
    refine (fh (m'+1+1+1+1+1+1) (by omega) (by omega) w0).mono ?_;exact ZaC
   simp only [pt,sb,s0,s1]
   (refine PI ?_ (hy:=fun w0 hS0=>by obtain ⟨⟨q8,q9⟩,hH⟩:=hS0; go_simp; try with_reducible rfl))
   refine bk ZcR ?_ _;intro w1 cm;obtain ⟨g2,hg2,hat⟩:=cm.2.I.1.at HX.I.2.2.2.2.1;cases hg2;have qF:w1.cell? ⟨g,j * 12+10,n_⟩=o_ (i_ j_ (m'+1+1+1+1+1+1+1)):=hat 10 _ rfl;have pe:w1.cell? ⟨g,j * 12+11,n_⟩=o_ (i_ j_ (m'+1+1+1+1+1+1+1+1)):=hat 11 _ rfl;have HZ:Hid (B_ w.heap.size w w1):=cm.2.I.2;clear cm hat HT;go_wp2;go_roundw
   case rel=>exact ⟨j+1,m'+9,by omega,by go_num,by go_num,by omega,by omega,⟨HX.I.2.2.1,HZ.I⟩⟩
   case measure=>simp [intOf]; omega
  ·have i1: ¬ (j:Int) < (l.length:Int):=by omega
   have HE:Hid (m=k+(aF bj l:Nat)):=by have h6:=HA.I.1; rw [KF (by omega)] at h6; exact h6
   exact Zax
end
section
open Go.RowKit Go.Maps
attribute [local go_sem ↓] Kc Kd
theorem Dv {VO VS VV r1 r2 r3 r4 r5 r6:List Nat} {N n1 n2 n3 n4 n5 n6:Nat} (hk:(VO ++ (VS ++ VV)).Nodup) (hkl: ∀ g∈VO ++ (VS ++ VV),g < N) (h1:nU N n1 r1) (h2:nU n1 n2 r2) (h3:nU n2 n3 r3) (h4:nU n3 n4 r4) (h5:nU n4 n5 r5) (h6:nU n5 n6 r6)
  (e:N≤n1∧n1≤n2∧n2≤n3∧n3≤n4∧n4≤n5∧n5≤n6):(r1 ++ (VO ++ (r2 ++ (r3 ++ (r4 ++ (r5 ++ (VS ++ (r6 ++ VV)))))))).Nodup:=by
 have hp:(r1 ++ (VO ++ (r2 ++ (r3 ++ (r4 ++ (r5 ++ (VS ++ (r6 ++ VV)))))))).Perm ((VO ++ (VS ++ VV)) ++ (r1 ++ (r2 ++ (r3 ++ (r4 ++ (r5 ++ r6)))))):=by
  rw [List.perm_iff_count];intro x;simp only [List.count_append];omega
 rw [hp.nodup_iff,Kf];have hr:nU N n6 (r1 ++ (r2 ++ (r3 ++ (r4 ++ (r5 ++ r6))))):=h1.append (h2.append (h3.append (h4.append (h5.append h6 (by omega) (by omega) (by omega)) (by omega) (by omega) (by omega)) (by omega) (by omega) (by omega)) (by omega) (by omega) (by omega)) (by omega) (by omega) (by omega);refine ⟨hk,hr.1,fun a ha b hb e=> ?_⟩
 have:=hkl a ha
 have:=(hr.2 b hb).1
 omega
theorem px {w:w_} {base n size cap:Nat} {e:T_} {a:Option d_} {xs:List v_} (h:w.ownsRow base e size (s_ a n cap) n xs):nU base w.heap.size (blk a):=⟨fN a,fun _ hg=>cf h hg⟩
structure aZ.Fits (S:aZ):Prop where
 dl:S.lp.length≤1048576
 Jl: ∀ p∈RW (fun x:ao=>x.id) S.lp,(Lit.int j_ p.1).wf=true
 fx:S.ls.length≤1048576
 adG: ∀ p∈RW (fun x:bD=>x.id) S.ls,(Lit.int j_ p.1).wf=true
 cD:S.le.length≤1048576
 G4: ∀ p∈RW (fun x:aB=>x.id) S.le,(Lit.int j_ p.1).wf=true
 cC:S.lb.length≤1048576
 FP: ∀ p∈RW (fun x:az=>x.id) S.lb,(Lit.int j_ p.1).wf=true
 cb:S.lf.length≤1048576
 DW: ∀ p∈RW (fun x:au=>x.id) S.lf,(Lit.int j_ p.1).wf=true
 dH:S.lq.length≤1048576
 Jz: ∀ p∈RW (fun x:aM=>x.id) S.lq,(Lit.int j_ p.1).wf=true
abbrev GR (o:Nat) (S:aZ) (w':w_):Prop:=w'.cell? ⟨o,0,n_⟩=o_ (i_ j_ S.q.id)∧w'.cell? ⟨o,1,n_⟩=o_ (i_ j_ S.q.next)∧w'.cell? ⟨o,2,n_⟩=o_ (i_ j_ 6)∧w'.cell? ⟨o,3,n_⟩=o_ (.map (o_ S.q.bp))∧w'.cell? ⟨o,4,n_⟩=o_ (i_ j_ 5)∧w'.cell? ⟨o,5,n_⟩=o_ (.map (o_ S.q.bs))∧w'.cell? ⟨o,6,n_⟩=o_ (i_ j_ 5)∧w'.cell? ⟨o,7,n_⟩=o_ (.map (o_ S.q.be))∧w'.cell? ⟨o,8,n_⟩=o_ (i_ j_ 5)∧w'.cell? ⟨o,9,n_⟩=o_ (.map (o_ S.q.bb))∧w'.cell? ⟨o,10,n_⟩=o_ (i_ j_ 5)∧w'.cell? ⟨o,11,n_⟩=o_ (.map (o_ S.q.bf))∧w'.cell? ⟨o,12,n_⟩=o_ (i_ j_ 5)∧w'.cell? ⟨o,13,n_⟩=o_ (.map (o_ S.q.bq))
theorem kP {o:Nat} {S:aZ} {w:w_} (h:fa w o S.q):GR o S w:=⟨h.cell 0,h.cell 1,h.cell 2,h.cell 3,h.cell 4,h.cell 5,h.cell 6,h.cell 7,h.cell 8,h.cell 9,h.cell 10,h.cell 11,h.cell 12,h.cell 13⟩
def Hc (w:w_) (base:Nat) (v:aE) (e:Ending) (w':w_):Prop:= ∃ r:af,e=r_ (a_ r.cells)∧ap w' base r∧r.pure=v∧B_ w.heap.size w w'
def aaM (w:w_) (base:Nat) (S:aZ) (e:Ending) (w':w_):Prop:= ∃ r:af,e=r_ (a_ r.cells)∧ap w' base r∧r.pure=S.pure∧B_ w.heap.size w w'∧ ∀ g∈r.Mc,g∈S.kids∨w.heap.size≤g
theorem ZZ (o base:Nat) (S:aZ) (w:w_) (h:cJ w base o S) (hf:S.Fits):k_ J3 51 #[p_ (o_ ⟨o,0,n_⟩)] w fun e w'=>aaM w base S e w':=by
 have hb0:B_ w.heap.size w (w.alloc (c_ ar 38)):=(Kp _ _).alloc (Ki _) _;have HZ:Hid (cJ w base o S∧S.Fits∧B_ w.heap.size w (w.alloc (c_ ar 38)).drew∧(w.alloc (c_ ar 38)).drew.heap[w.heap.size]? =o_ (c_ ar 38)∧w.heap.size < (w.alloc (c_ ar 38)).drew.heap.size):=⟨h,hf,hb0.drew,Kj _ _,by simp⟩
 have HS:Hid (GR o S (w.alloc (c_ ar 38)).drew):=kP (h.opn.below hb0.drew);clear h hf hb0
 go_enter func51,ntmps51
 go_wp2_with fail;generalize w.alloc (c_ ar 38)=W at *;refine Kr (S:=GR o S) ZcR HS.I (fun hHeld=> ?_);refine tt 0 hHeld ?_;refine tt 1 hHeld ?_;refine tt 2 hHeld ?_;refine tt 3 hHeld ?_;refine tt 4 hHeld ?_;refine tt 5 hHeld ?_;refine tt 6 hHeld ?_;refine tt 7 hHeld ?_;refine tt 8 hHeld ?_;refine tt 9 hHeld ?_;refine tt 10 hHeld ?_;refine tt 11 hHeld ?_;refine tt 13 hHeld ?_;refine tt 14 hHeld ?_;refine tt 15 hHeld ?_;refine tt 16 hHeld ?_;refine tt 18 hHeld ?_;refine tt 19 hHeld ?_;refine tt 20 hHeld ?_;refine tt 21 hHeld ?_;refine tt 23 hHeld ?_;refine tt 24 hHeld ?_;refine tt 25 hHeld ?_;refine tt 26 hHeld ?_;refine tt 28 hHeld ?_;refine tt 29 hHeld ?_;refine tt 30 hHeld ?_;refine tt 31 hHeld ?_;refine tt 33 hHeld ?_;refine tt 34 hHeld ?_;refine tt 35 hHeld ?_;refine tt 36 hHeld ?_;clear HS;generalize hWd:W.drew=W0 at *;clear hWd;refine L7 12 (fun K hK=> ?_);go_wp2_with fail;refine (zj 6 base S.q.bp S.lp W0 (HZ.I.1.L8.below HZ.I.2.2.1) HZ.I.2.1.dl HZ.I.2.1.Jl).mono ?_;rintro e W1 ⟨a1,c1,rfl,hown,hb⟩;have wm:Hid (nU W0.heap.size W1.heap.size (blk a1)∧W0.heap.size≤W1.heap.size):=⟨px hown,hb.size⟩
 have HY:Hid (W1.ownsRow W0.heap.size 100 12 (s_ a1 (S.lp.map (·.1)).length c1) (S.lp.map (·.1)).length (bg.flat (S.lp.map (·.1)))∧W0.heap.size≤W1.heap.size):=⟨hown,hb.size⟩
 have HR:=HY;clear HY;have iP:Hid (cJ w base o S∧S.Fits∧B_ w.heap.size w W1∧W1.heap[w.heap.size]? =o_ (c_ ar 38)∧w.heap.size < W0.heap.size):=⟨HZ.I.1,HZ.I.2.1,HZ.I.2.2.1.trans (hb.mono HZ.I.2.2.1.size),(hb.block _ (J2.1 HZ.I.2.2.2.1).1).trans HZ.I.2.2.2.1,HZ.I.2.2.2.2⟩
 clear HZ hown hb;have HZ:=iP;clear iP hHeld;refine hK.out _ _ (kP (HZ.I.1.opn.below HZ.I.2.2.1)) (fun hHeld=> ?_);clear hK K
 try simp only [KZ,K0,K1,Act.put,Qr,Ln,Lo]
 refine L7 17 (fun K hK=> ?_);go_wp2_with fail;refine (AN 5 base S.q.bs S.ls W1 (HZ.I.1.aj.below HZ.I.2.2.1) HZ.I.2.1.fx HZ.I.2.1.adG).mono ?_;rintro e W2 ⟨a2,c2,rfl,hown,hb⟩;have xD:Hid (nU W1.heap.size W2.heap.size (blk a2)∧W1.heap.size≤W2.heap.size):=⟨px hown,hb.size⟩
 have HY:Hid (W2.ownsRow W0.heap.size 100 12 (s_ a1 (S.lp.map (·.1)).length c1) (S.lp.map (·.1)).length (bg.flat (S.lp.map (·.1)))∧W2.ownsRow W1.heap.size 105 3 (s_ a2 (S.ls.map (·.1)).length c2) (S.ls.map (·.1)).length (dm.flat (S.ls.map (·.1)))∧W0.heap.size≤W1.heap.size∧W1.heap.size≤W2.heap.size):=⟨cR HR.I.1 hb,hown,HR.I.2,hb.size⟩
 clear HR;have HR:=HY;clear HY;have iP:Hid (cJ w base o S∧S.Fits∧B_ w.heap.size w W2∧W2.heap[w.heap.size]? =o_ (c_ ar 38)∧w.heap.size < W0.heap.size):=⟨HZ.I.1,HZ.I.2.1,HZ.I.2.2.1.trans (hb.mono HZ.I.2.2.1.size),(hb.block _ (J2.1 HZ.I.2.2.2.1).1).trans HZ.I.2.2.2.1,HZ.I.2.2.2.2⟩
 clear HZ hown hb;have HZ:=iP;clear iP hHeld;refine hK.out _ _ (kP (HZ.I.1.opn.below HZ.I.2.2.1)) (fun hHeld=> ?_);clear hK K
 try simp only [KZ,K0,K1,Act.put,Qr,Ln,Lo]
 refine L7 22 (fun K hK=> ?_);go_wp2_with fail;refine (wN 5 base S.q.be S.le W2 (HZ.I.1.L9.below HZ.I.2.2.1) HZ.I.2.1.cD HZ.I.2.1.G4).mono ?_;rintro e W3 ⟨a3,c3,rfl,hown,hb⟩;have Fz:Hid (nU W2.heap.size W3.heap.size (blk a3)∧W2.heap.size≤W3.heap.size):=⟨px hown,hb.size⟩
 have HY:Hid (W3.ownsRow W0.heap.size 100 12 (s_ a1 (S.lp.map (·.1)).length c1) (S.lp.map (·.1)).length (bg.flat (S.lp.map (·.1)))∧W3.ownsRow W1.heap.size 105 3 (s_ a2 (S.ls.map (·.1)).length c2) (S.ls.map (·.1)).length (dm.flat (S.ls.map (·.1)))∧W3.ownsRow W2.heap.size 109 2 (s_ a3 (S.le.map (·.1)).length c3) (S.le.map (·.1)).length (bJ.flat (S.le.map (·.1)))∧W0.heap.size≤W1.heap.size∧W1.heap.size≤W2.heap.size∧W2.heap.size≤W3.heap.size):=⟨cR HR.I.1 hb,cR HR.I.2.1 hb,hown,HR.I.2.2.1,HR.I.2.2.2,hb.size⟩
 clear HR;have HR:=HY;clear HY;have iP:Hid (cJ w base o S∧S.Fits∧B_ w.heap.size w W3∧W3.heap[w.heap.size]? =o_ (c_ ar 38)∧w.heap.size < W0.heap.size):=⟨HZ.I.1,HZ.I.2.1,HZ.I.2.2.1.trans (hb.mono HZ.I.2.2.1.size),(hb.block _ (J2.1 HZ.I.2.2.2.1).1).trans HZ.I.2.2.2.1,HZ.I.2.2.2.2⟩
 clear HZ hown hb;have HZ:=iP;clear iP hHeld;refine hK.out _ _ (kP (HZ.I.1.opn.below HZ.I.2.2.1)) (fun hHeld=> ?_);clear hK K
 try simp only [KZ,K0,K1,Act.put,Qr,Ln,Lo]
 refine L7 27 (fun K hK=> ?_);go_wp2_with fail;refine (wC 5 base S.q.bb S.lb W3 (HZ.I.1.ag.below HZ.I.2.2.1) HZ.I.2.1.cC HZ.I.2.1.FP).mono ?_;rintro e W4 ⟨a4,c4,rfl,hown,hb⟩;have FA:Hid (nU W3.heap.size W4.heap.size (blk a4)∧W3.heap.size≤W4.heap.size):=⟨px hown,hb.size⟩
 have HY:Hid (W4.ownsRow W0.heap.size 100 12 (s_ a1 (S.lp.map (·.1)).length c1) (S.lp.map (·.1)).length (bg.flat (S.lp.map (·.1)))∧W4.ownsRow W1.heap.size 105 3 (s_ a2 (S.ls.map (·.1)).length c2) (S.ls.map (·.1)).length (dm.flat (S.ls.map (·.1)))∧W4.ownsRow W2.heap.size 109 2 (s_ a3 (S.le.map (·.1)).length c3) (S.le.map (·.1)).length (bJ.flat (S.le.map (·.1)))∧W4.ownsRow W3.heap.size 112 3 (s_ a4 (S.lb.map (·.1)).length c4) (S.lb.map (·.1)).length (bG.flat (S.lb.map (·.1)))∧W0.heap.size≤W1.heap.size∧W1.heap.size≤W2.heap.size∧W2.heap.size≤W3.heap.size∧W3.heap.size≤W4.heap.size):=⟨cR HR.I.1 hb,cR HR.I.2.1 hb,cR HR.I.2.2.1 hb,hown,HR.I.2.2.2.1,HR.I.2.2.2.2.1,HR.I.2.2.2.2.2,hb.size⟩
 clear HR;have HR:=HY;clear HY;have iP:Hid (cJ w base o S∧S.Fits∧B_ w.heap.size w W4∧W4.heap[w.heap.size]? =o_ (c_ ar 38)∧w.heap.size < W0.heap.size):=⟨HZ.I.1,HZ.I.2.1,HZ.I.2.2.1.trans (hb.mono HZ.I.2.2.1.size),(hb.block _ (J2.1 HZ.I.2.2.2.1).1).trans HZ.I.2.2.2.1,HZ.I.2.2.2.2⟩
 clear HZ hown hb;have HZ:=iP;clear iP hHeld;refine hK.out _ _ (kP (HZ.I.1.opn.below HZ.I.2.2.1)) (fun hHeld=> ?_);clear hK K
 try simp only [KZ,K0,K1,Act.put,Qr,Ln,Lo]
 refine L7 32 (fun K hK=> ?_);go_wp2_with fail;refine (uk 5 base S.q.bf S.lf W4 (HZ.I.1.ae.below HZ.I.2.2.1) HZ.I.2.1.cb HZ.I.2.1.DW).mono ?_;rintro e W5 ⟨a5,c5,rfl,hown,hb⟩;have Ik:Hid (nU W4.heap.size W5.heap.size (blk a5)∧W4.heap.size≤W5.heap.size):=⟨px hown,hb.size⟩
 have HY:Hid (W5.ownsRow W0.heap.size 100 12 (s_ a1 (S.lp.map (·.1)).length c1) (S.lp.map (·.1)).length (bg.flat (S.lp.map (·.1)))∧W5.ownsRow W1.heap.size 105 3 (s_ a2 (S.ls.map (·.1)).length c2) (S.ls.map (·.1)).length (dm.flat (S.ls.map (·.1)))∧W5.ownsRow W2.heap.size 109 2 (s_ a3 (S.le.map (·.1)).length c3) (S.le.map (·.1)).length (bJ.flat (S.le.map (·.1)))∧W5.ownsRow W3.heap.size 112 3 (s_ a4 (S.lb.map (·.1)).length c4) (S.lb.map (·.1)).length (bG.flat (S.lb.map (·.1)))∧W5.ownsRow W4.heap.size 114 3 (s_ a5 (S.lf.map (·.1)).length c5) (S.lf.map (·.1)).length (bm.flat (S.lf.map (·.1)))∧W0.heap.size≤W1.heap.size∧W1.heap.size≤W2.heap.size∧W2.heap.size≤W3.heap.size∧W3.heap.size≤W4.heap.size∧W4.heap.size≤W5.heap.size):=⟨cR HR.I.1 hb,cR HR.I.2.1 hb,cR HR.I.2.2.1 hb,cR HR.I.2.2.2.1 hb,hown,HR.I.2.2.2.2.1,HR.I.2.2.2.2.2.1,HR.I.2.2.2.2.2.2.1,HR.I.2.2.2.2.2.2.2,hb.size⟩
 clear HR;have HR:=HY;clear HY;have iP:Hid (cJ w base o S∧S.Fits∧B_ w.heap.size w W5∧W5.heap[w.heap.size]? =o_ (c_ ar 38)∧w.heap.size < W0.heap.size):=⟨HZ.I.1,HZ.I.2.1,HZ.I.2.2.1.trans (hb.mono HZ.I.2.2.1.size),(hb.block _ (J2.1 HZ.I.2.2.2.1).1).trans HZ.I.2.2.2.1,HZ.I.2.2.2.2⟩
 clear HZ hown hb;have HZ:=iP;clear iP hHeld;refine hK.out _ _ (kP (HZ.I.1.opn.below HZ.I.2.2.1)) (fun hHeld=> ?_);clear hK K
 try simp only [KZ,K0,K1,Act.put,Qr,Ln,Lo]
 refine L7 37 (fun K hK=> ?_);go_wp2_with fail;refine (zf 5 base S.q.bq S.lq W5 (HZ.I.1.ai.below HZ.I.2.2.1) HZ.I.2.1.dH HZ.I.2.1.Jz).mono ?_;rintro e W6 ⟨a6,c6,rfl,hown,hb⟩;have Jw:Hid (nU W5.heap.size W6.heap.size (blk a6)∧W5.heap.size≤W6.heap.size):=⟨px hown,hb.size⟩
 have HY:Hid (W6.ownsRow W0.heap.size 100 12 (s_ a1 (S.lp.map (·.1)).length c1) (S.lp.map (·.1)).length (bg.flat (S.lp.map (·.1)))∧W6.ownsRow W1.heap.size 105 3 (s_ a2 (S.ls.map (·.1)).length c2) (S.ls.map (·.1)).length (dm.flat (S.ls.map (·.1)))∧W6.ownsRow W2.heap.size 109 2 (s_ a3 (S.le.map (·.1)).length c3) (S.le.map (·.1)).length (bJ.flat (S.le.map (·.1)))∧W6.ownsRow W3.heap.size 112 3 (s_ a4 (S.lb.map (·.1)).length c4) (S.lb.map (·.1)).length (bG.flat (S.lb.map (·.1)))∧W6.ownsRow W4.heap.size 114 3 (s_ a5 (S.lf.map (·.1)).length c5) (S.lf.map (·.1)).length (bm.flat (S.lf.map (·.1)))∧W6.ownsRow W5.heap.size 116 5 (s_ a6 (S.lq.map (·.1)).length c6) (S.lq.map (·.1)).length (bX.flat (S.lq.map (·.1)))∧W0.heap.size≤W1.heap.size∧W1.heap.size≤W2.heap.size∧W2.heap.size≤W3.heap.size∧W3.heap.size≤W4.heap.size∧W4.heap.size≤W5.heap.size∧W5.heap.size≤W6.heap.size):=⟨cR HR.I.1 hb,cR HR.I.2.1 hb,cR HR.I.2.2.1 hb,cR HR.I.2.2.2.1 hb,cR HR.I.2.2.2.2.1 hb,hown,HR.I.2.2.2.2.2.1,HR.I.2.2.2.2.2.2.1,HR.I.2.2.2.2.2.2.2.1,HR.I.2.2.2.2.2.2.2.2.1,HR.I.2.2.2.2.2.2.2.2.2,hb.size⟩
 clear HR;have HR:=HY;clear HY;have iP:Hid (cJ w base o S∧S.Fits∧B_ w.heap.size w W6∧W6.heap[w.heap.size]? =o_ (c_ ar 38)∧w.heap.size < W0.heap.size):=⟨HZ.I.1,HZ.I.2.1,HZ.I.2.2.1.trans (hb.mono HZ.I.2.2.1.size),(hb.block _ (J2.1 HZ.I.2.2.2.1).1).trans HZ.I.2.2.2.1,HZ.I.2.2.2.2⟩
 clear HZ hown hb;have HZ:=iP;clear iP hHeld;refine hK.out _ _ (kP (HZ.I.1.opn.below HZ.I.2.2.1)) (fun hHeld=> ?_);clear hK K
 try simp only [KZ,K0,K1,Act.put,Qr,Ln,Lo]
 refine wpAnyH_take (i:=38) (v:=a_ #[i_ j_ S.q.id,i_ j_ S.q.next,s_ a1 S.lp.length c1,s_ a2 S.ls.length c2,s_ a3 S.le.length c3,s_ a4 S.lb.length c4,s_ a5 S.lf.length c5,s_ a6 S.lq.length c6]) rfl ZcR ZcR ZcR (fun _ _ _ h=>h) (Or.inl ⟨by kernel_rfl,?_⟩) hHeld ?_
 ·intro w0 hS0
  exact wl
 simp only [KZ,K0,K1,Act.put,Qr,Ln,Lo];refine L7 39 (fun K hK=> ?_);refine qd _ _ _ rfl w.heap.size _ _ #[i_ j_ S.q.id,i_ j_ S.q.next,s_ a1 S.lp.length c1,s_ a2 S.ls.length c2,s_ a3 S.le.length c3,s_ a4 S.lb.length c4,s_ a5 S.lf.length c5,s_ a6 S.lq.length c6] rfl rfl HZ.I.2.2.2.1 ZcR rfl Zc5 ?_;have p7:o < w.heap.size:=(J2.1 HZ.I.1.opn).1;have hbs:B_ w.heap.size w (W6.setRow w.heap.size #[i_ j_ S.q.id,i_ j_ S.q.next,s_ a1 S.lp.length c1,s_ a2 S.ls.length c2,s_ a3 S.le.length c3,s_ a4 S.lb.length c4,s_ a5 S.lf.length c5,s_ a6 S.lq.length c6]):=q_ HZ.I.2.2.1 (Ki _) _;refine hK.out _ _ (kP (HZ.I.1.opn.below hbs)) (fun hHeld=> ?_);clear hK K hHeld;refine wpAnyH_done ZcR ?_ _
 repeat (first | go_values | go_skip | go_guarded | go_step | go_upon)
 refine gZ results51 HZ.I.2.2.2.1 ?_;have hA:=HZ.I.1;have kj:=HZ.I.2.2.1;have hlo:=hA.low;have hw0:=HZ.I.2.2.2.2;have t1:=wm.I.2;have t2:=xD.I.2;have t3:=Fz.I.2;have t4:=FA.I.2;have t5:=Ik.I.2;have t6:=Jw.I.2;have hmP: ∀ q∈S.lp,aR.cO W6 base q.1:=fun q hq=>(hA.eI q hq).same fun g hk=>kj.block g ((hA.eI q hq).lt hk).2
 have hmF: ∀ q∈S.lf,aC.cO W6 base q.1:=fun q hq=>(hA.eE q hq).same fun g hk=>kj.block g ((hA.eE q hq).lt hk).2
 have hmQ: ∀ q∈S.lq,aU.cO W6 base q.1:=fun q hq=>(hA.eR q hq).same fun g hk=>kj.block g ((hA.eR q hq).lt hk).2
 have hkn:S.kids.Nodup:=(Kf.1 (List.nodup_cons.1 hA.nodup).2).2.1;have hkl: ∀ g∈S.kids,g < w.heap.size:=fun g hg=>by
  simp only [aZ.kids,Kg,kids,Lq] at hg;rcases hg with ⟨q,hq,hk⟩ | ⟨q,hq,hk⟩ | ⟨q,hq,hk⟩
  ·exact ((hA.eI q hq).lt hk).2
  ·exact ((hA.eE q hq).lt hk).2
  ·exact ((hA.eR q hq).lt hk).2
 have VU:(S.lp.map (·.1)).filterMap aR.bt=kids aR S.lp:=by rw [List.filterMap_map]; rfl
 have eF:(S.lf.map (·.1)).filterMap aC.bt=kids aC S.lf:=by rw [List.filterMap_map]; rfl
 have eQ:(S.lq.map (·.1)).filterMap aU.bt=kids aU S.lq:=by rw [List.filterMap_map]; rfl
 have hown:ap W6 base (⟨S.q.id,S.q.next,S.lp.map (·.1),a1,c1,S.ls.map (·.1),a2,c2,S.le.map (·.1),a3,c3,S.lb.map (·.1),a4,c4,S.lf.map (·.1),a5,c5,S.lq.map (·.1),a6,c6⟩:af):=by
  refine ⟨cq HR.I.1 (by omega),cq HR.I.2.1 (by omega),cq HR.I.2.2.1 (by omega),cq HR.I.2.2.2.1 (by omega),cq HR.I.2.2.2.2.1 (by omega),cq HR.I.2.2.2.2.2.1 (by omega),?_,?_,?_,?_⟩
  ·intro x hx
   obtain ⟨q,hq,rfl⟩:=Lr.1 hx;exact hmP q hq
  ·intro x hx
   obtain ⟨q,hq,rfl⟩:=Lr.1 hx;exact hmF q hq
  ·intro x hx
   obtain ⟨q,hq,rfl⟩:=Lr.1 hx;exact hmQ q hq
  ·simp only [af.Mc,VU,eF,eQ]
   exact Dv (N:=W0.heap.size) hkn (fun g hg=>by have:=hkl g hg; omega) wm.I.1 xD.I.1 Fz.I.1 FA.I.1 Ik.I.1 Jw.I.1 ⟨t1,t2,t3,t4,t5,t6⟩
 have hnk: ∀ g∈(⟨S.q.id,S.q.next,S.lp.map (·.1),a1,c1,S.ls.map (·.1),a2,c2,S.le.map (·.1),a3,c3,S.lb.map (·.1),a4,c4,S.lf.map (·.1),a5,c5,S.lq.map (·.1),a6,c6⟩:af).Mc,g∈S.kids∨w.heap.size < g:=fun g hg=>by
  simp only [af.Mc,VU,eF,eQ,Kg] at hg;have hk: ∀ g,(g∈kids aR S.lp∨g∈kids aC S.lf∨g∈kids aU S.lq)→g∈S.kids:=fun g h5=>by simp only [aZ.kids,Kg]; exact h5
  rcases hg with hg | hg | hg | hg | hg | hg | hg | hg | hg
  ·exact .inr (by have:=(wm.I.1.2 g hg).1; omega)
  ·exact .inl (hk g (.inl hg))
  ·exact .inr (by have:=(xD.I.1.2 g hg).1; omega)
  ·exact .inr (by have:=(Fz.I.1.2 g hg).1; omega)
  ·exact .inr (by have:=(FA.I.1.2 g hg).1; omega)
  ·exact .inr (by have:=(Ik.I.1.2 g hg).1; omega)
  ·exact .inl (hk g (.inr (.inl hg)))
  ·exact .inr (by have:=(Jw.I.1.2 g hg).1; omega)
  ·exact .inl (hk g (.inr (.inr hg)))
 have hne: ∀ g∈(⟨S.q.id,S.q.next,S.lp.map (·.1),a1,c1,S.ls.map (·.1),a2,c2,S.le.map (·.1),a3,c3,S.lb.map (·.1),a4,c4,S.lf.map (·.1),a5,c5,S.lq.map (·.1),a6,c6⟩:af).Mc,g≠w.heap.size:=fun g hg e=>by
  rcases hnk g hg with h5 | h5
  ·have:=hkl g h5; omega
  ·omega
 exact ⟨(⟨S.q.id,S.q.next,S.lp.map (·.1),a1,c1,S.ls.map (·.1),a2,c2,S.le.map (·.1),a3,c3,S.lb.map (·.1),a4,c4,S.lf.map (·.1),a5,c5,S.lq.map (·.1),a6,c6⟩:af),by simp [af.cells],hown.same fun g hg=>KH _ _ _ _ (hne g hg),by simp [af.pure,aZ.pure,Ls],hbs,fun g hg=>(hnk g hg).imp_right Nat.le_of_lt⟩
theorem jR (o base:Nat) (S:aZ) (w:w_) (h:cJ w base o S) (hf:S.Fits):k_ J3 51 #[p_ (o_ ⟨o,0,n_⟩)] w fun e w'=>Hc w base S.pure e w':=
 (ZZ o base S w h hf).mono fun _ _ ⟨r,h1,h2,h3,h4,_⟩=>⟨r,h1,h2,h3,h4⟩
end
section
open Go.RowKit
def four (a b c d:List Nat):Nat→List Nat
 | 0=>a
 | 1=>b
 | 2=>c
 | 3=>d
 | _=> []
structure mJ (n0 n:Nat) (X:Nat→List Nat):Prop where
 apart: ∀ i j,i≠j→ ∀ q∈X i,q∉X j
 xy: ∀ i,∀ q∈X i,n0≤q∧q < n
theorem mJ.up {n0 n n':Nat} {X X':Nat→List Nat} (h:mJ n0 n X) (k:Nat) (hk: ∀ j,j≠k→X' j=X j) (hx: ∀ q∈X' k,q∈X k∨q=n) (hn:n < n') (h0:n0≤n):mJ n0 n' X':=by
 refine ⟨fun i j hij q hi hj=> ?_,fun i q hi=> ?_⟩
 ·by_cases ei:i=k
  ·subst ei
   rw [hk j (Ne.symm hij)] at hj;rcases hx q hi with h1 | rfl
   ·exact h.apart i j hij q h1 hj
   ·have:=(h.xy j q hj).2; omega
  ·rw [hk i ei] at hi
   by_cases ej:j=k
   ·subst ej
    rcases hx q hj with h1 | rfl
    ·exact h.apart i j hij q hi h1
    ·have:=(h.xy i q hi).2; omega
   ·rw [hk j ej] at hj
    exact h.apart i j hij q hi hj
 ·by_cases ei:i=k
  ·subst ei
   rcases hx q hi with h1 | rfl
   ·have:=h.xy i q h1; omega
   ·omega
  ·rw [hk i ei] at hi
   have:=h.xy i q hi
   omega
theorem mJ.mono {n0 n n':Nat} {X:Nat→List Nat} (h:mJ n0 n X) (hn:n≤n'):mJ n0 n' X:=⟨h.apart,fun i q hq=>by have:=h.xy i q hq; omega⟩
structure fI (p:af) (We w:w_) (b0 d0 b1 d1 b2 d2 b3 d3 e:Bool) (g0 g1 g2 o:Nat) (a0 a1 a2:Option d_) (c0 c1 c2:Nat):Prop where
 cd:B_ We.heap.size We w
 part:av w We.heap.size p
 ret:w.heap[We.heap.size+1]? =o_ (c_ ar 38)
 s0:su w (We.heap.size+2) 105 3 p.aj.length (dm.flat p.aj) b0 d0 g0 a0 c0
 s1:su w (We.heap.size+2) 109 2 p.L9.length (bJ.flat p.L9) b1 d1 g1 a1 c1
 s2:su w (We.heap.size+2) 112 3 p.ag.length (bG.flat p.ag) b2 d2 g2 a2 c2
 I:b3=true→w.heap[o]? =o_ (c_ (bif d3 then #[i_ j_ p.id,i_ j_ p.next,s_ n_ 0 0,s_ a0 p.aj.length c0,s_ a1 p.L9.length c1,s_ a2 p.ag.length c2,s_ n_ 0 0,s_ n_ 0 0] else ar) 38)
 cl:(e=true→d0=true∧d1=true∧d2=true)∧(d3=true→e=true∧b3=true)
 size:We.heap.size+2≤w.heap.size
 pR:mJ (We.heap.size+2) w.heap.size (four (bM b0 d0 g0 a0) (bM b1 d1 g1 a1) (bM b2 d2 g2 a2) (bif b3 then [o] else []))
section
variable {p:af} {We w:w_} {b0 d0 b1 d1 b2 d2 b3 d3 e:Bool} {g0 g1 g2 o:Nat} {a0 a1 a2:Option d_} {c0 c1 c2:Nat}
theorem fI.aaZ (h:fI p We w false d0 b1 d1 b2 d2 b3 d3 e g0 g1 g2 o a0 a1 a2 c0 c1 c2):fI p We (w.alloc (c_ #[] 105)) true d0 b1 d1 b2 d2 b3 d3 e w.heap.size g1 g2 o a0 a1 a2 c0 c1 c2:=by
 have hb:B_ w.heap.size w (w.alloc (c_ #[] 105)):=(Kp _ _).alloc (Ki _) _;have hlt: ∀ i,∀ q∈four (bM false d0 g0 a0) (bM b1 d1 g1 a1) (bM b2 d2 g2 a2) (bif b3 then [o] else []) i,q < w.heap.size:=fun i q hq=>(h.pR.xy i q hq).2
 exact ⟨h.cd.trans (hb.mono h.cd.size),h.part.below hb,(hb.block _ Zdf).trans h.ret,⟨fun _ hd=>⟨Kj _ _,h.size⟩,fun hd=>aL (h.s0.done hd) fun q hq=>hb.block q (hlt 0 q Zdt)⟩,h.s1.same fun q hq=>hb.block q (hlt 1 q hq),h.s2.same fun q hq=>hb.block q (hlt 2 q hq),fun e=>(hb.block _ (hlt 3 o Zds)).trans (h.I e),h.cl,by have:=h.size; simp; omega,h.pR.up 0 (fun j hj=>by rcases j with _ | _ | _ | _ | _ <;> first | rfl | exact absurd rfl hj) (fun q hq=>by cases d0 with | true=>exact .inl Zdc | false=>exact .inr Zdc) (by simp) h.size⟩
theorem fI.abg (h:fI p We w b0 d0 false d1 b2 d2 b3 d3 e g0 g1 g2 o a0 a1 a2 c0 c1 c2):fI p We (w.alloc (c_ #[] 109)) b0 d0 true d1 b2 d2 b3 d3 e g0 w.heap.size g2 o a0 a1 a2 c0 c1 c2:=by
 have hb:B_ w.heap.size w (w.alloc (c_ #[] 109)):=(Kp _ _).alloc (Ki _) _;have hlt: ∀ i,∀ q∈four (bM b0 d0 g0 a0) (bM false d1 g1 a1) (bM b2 d2 g2 a2) (bif b3 then [o] else []) i,q < w.heap.size:=fun i q hq=>(h.pR.xy i q hq).2
 exact ⟨h.cd.trans (hb.mono h.cd.size),h.part.below hb,(hb.block _ Zdf).trans h.ret,h.s0.same fun q hq=>hb.block q (hlt 0 q hq),⟨fun _ hd=>⟨Kj _ _,h.size⟩,fun hd=>aL (h.s1.done hd) fun q hq=>hb.block q (hlt 1 q Zdt)⟩,h.s2.same fun q hq=>hb.block q (hlt 2 q hq),fun e=>(hb.block _ (hlt 3 o Zds)).trans (h.I e),h.cl,by have:=h.size; simp; omega,h.pR.up 1 (fun j hj=>by rcases j with _ | _ | _ | _ | _ <;> first | rfl | exact absurd rfl hj) (fun q hq=>by cases d1 with | true=>exact .inl Zdc | false=>exact .inr Zdc) (by simp) h.size⟩
theorem fI.make2 (h:fI p We w b0 d0 b1 d1 false d2 b3 d3 e g0 g1 g2 o a0 a1 a2 c0 c1 c2):fI p We (w.alloc (c_ #[] 112)) b0 d0 b1 d1 true d2 b3 d3 e g0 g1 w.heap.size o a0 a1 a2 c0 c1 c2:=by
 have hb:B_ w.heap.size w (w.alloc (c_ #[] 112)):=(Kp _ _).alloc (Ki _) _;have hlt: ∀ i,∀ q∈four (bM b0 d0 g0 a0) (bM b1 d1 g1 a1) (bM false d2 g2 a2) (bif b3 then [o] else []) i,q < w.heap.size:=fun i q hq=>(h.pR.xy i q hq).2
 exact ⟨h.cd.trans (hb.mono h.cd.size),h.part.below hb,(hb.block _ Zdf).trans h.ret,h.s0.same fun q hq=>hb.block q (hlt 0 q hq),h.s1.same fun q hq=>hb.block q (hlt 1 q hq),⟨fun _ hd=>⟨Kj _ _,h.size⟩,fun hd=>aL (h.s2.done hd) fun q hq=>hb.block q (hlt 2 q Zdt)⟩,fun e=>(hb.block _ (hlt 3 o Zds)).trans (h.I e),h.cl,by have:=h.size; simp; omega,h.pR.up 2 (fun j hj=>by rcases j with _ | _ | _ | _ | _ <;> first | rfl | exact absurd rfl hj) (fun q hq=>by cases d2 with | true=>exact .inl Zdc | false=>exact .inr Zdc) (by simp) h.size⟩
theorem fI.aa1 {w2:w_} {a:Option d_} {c:Nat} (h:fI p We w true false b1 d1 b2 d2 b3 d3 e g0 g1 g2 o a0 a1 a2 c0 c1 c2) (ho:w2.ownsRow (We.heap.size+2) 105 3 (s_ a p.aj.length c) p.aj.length (dm.flat p.aj)) (hg:w.grownBy w2 (o_ g0)) (hq: ∀ q∈blk a,q=g0∨q=w.heap.size):fI p We w2 true true b1 d1 b2 d2 b3 d3 e g0 g1 g2 o a a1 a2 c c1 c2:=by
 have hlt: ∀ i,∀ q∈four (bM true false g0 a0) (bM b1 d1 g1 a1) (bM b2 d2 g2 a2) (bif b3 then [o] else []) i,q < w.heap.size:=fun i q hq=>(h.pR.xy i q hq).2
 have hgl:We.heap.size+2≤g0∧g0 < w.heap.size:=h.pR.xy 0 g0 (by simp [four,bM]);have hne: ∀ i,i≠0→ ∀ q∈four (bM true false g0 a0) (bM b1 d1 g1 a1) (bM b2 d2 g2 a2) (bif b3 then [o] else []) i,w2.heap[q]? =w.heap[q]? :=fun i hi q hq=>hg.block q (hlt i q hq) fun e=>h.pR.apart i 0 hi q hq ZdS
 have hbe:B_ We.heap.size We w2:=h.cd.grown hg Zdf (fun k hk=>by cases hk; omega);have he:e=false:=by cases e with | false=>rfl | true=>have:=h.cl.1 rfl; simp at this
 have hd:d3=false:=by cases hx:d3 with | false=>rfl | true=>rw [(h.cl.2 hx).1] at he; cases he
 subst he hd;have hz:=hg.size;have hsz:=h.size;refine ⟨hbe,(hg.block _ (by omega) (fun e=>by have:=KC e; omega)).trans h.part,(hg.block _ (by omega) (fun e=>by have:=KC e; omega)).trans h.ret,⟨(fun _ hd=>by cases hd),fun _=>ho⟩,h.s1.same fun q hq=>hne 1 (by decide) q hq,h.s2.same fun q hq=>hne 2 (by decide) q hq,fun e=>(hne 3 (by decide) o Zds).trans (h.I e),⟨(fun e=>by cases e),fun e=>by cases e⟩,by omega,?_⟩;by_cases hnew: ∃ q∈blk a,q=w.heap.size
 ·obtain ⟨q0,nu,hqe⟩:=hnew
  have hw2:=(cf ho nu).2;refine h.pR.up 0 (fun j hj=>by rcases j with _ | _ | _ | _ | _ <;> first | rfl | exact absurd rfl hj) (fun q hq'=> ?_) (by omega) hsz;exact Zam
 ·have hall: ∀ q∈blk a,q=g0:=fun q hq'=>(hq q hq').resolve_right fun e=>hnew ⟨q,hq',e⟩
  refine mJ.mono (n:=w.heap.size) ⟨fun i i2 hij q hi hi2=> ?_,fun i q hi=> ?_⟩ hz
  ·have e1: ∀ i,∀ q∈four (bM true true g0 a) (bM b1 d1 g1 a1) (bM b2 d2 g2 a2) (bif b3 then [o] else []) i,q∈four (bM true false g0 a0) (bM b1 d1 g1 a1) (bM b2 d2 g2 a2) (bif b3 then [o] else []) i:=fun i q hq'=>by
    by_cases ei:i=0
    ·exact ZaV
    ·exact Zbe
   exact ZbI
  ·by_cases ei:i=0
   ·exact Za7
   ·exact ZaJ
theorem fI.aa2 {w2:w_} {a:Option d_} {c:Nat} (h:fI p We w b0 d0 true false b2 d2 b3 d3 e g0 g1 g2 o a0 a1 a2 c0 c1 c2) (ho:w2.ownsRow (We.heap.size+2) 109 2 (s_ a p.L9.length c) p.L9.length (bJ.flat p.L9)) (hg:w.grownBy w2 (o_ g1)) (hq: ∀ q∈blk a,q=g1∨q=w.heap.size):fI p We w2 b0 d0 true true b2 d2 b3 d3 e g0 g1 g2 o a0 a a2 c0 c c2:=by
 have hlt: ∀ i,∀ q∈four (bM b0 d0 g0 a0) (bM true false g1 a1) (bM b2 d2 g2 a2) (bif b3 then [o] else []) i,q < w.heap.size:=fun i q hq=>(h.pR.xy i q hq).2
 have hgl:We.heap.size+2≤g1∧g1 < w.heap.size:=h.pR.xy 1 g1 (by simp [four,bM]);have hne: ∀ i,i≠1→ ∀ q∈four (bM b0 d0 g0 a0) (bM true false g1 a1) (bM b2 d2 g2 a2) (bif b3 then [o] else []) i,w2.heap[q]? =w.heap[q]? :=fun i hi q hq=>hg.block q (hlt i q hq) fun e=>h.pR.apart i 1 hi q hq ZdS
 have hbe:B_ We.heap.size We w2:=h.cd.grown hg Zdf (fun k hk=>by cases hk; omega);have he:e=false:=by cases e with | false=>rfl | true=>have:=h.cl.1 rfl; simp at this
 have hd:d3=false:=by cases hx:d3 with | false=>rfl | true=>rw [(h.cl.2 hx).1] at he; cases he
 subst he hd;have hz:=hg.size;have hsz:=h.size;refine ⟨hbe,(hg.block _ (by omega) (fun e=>by have:=KC e; omega)).trans h.part,(hg.block _ (by omega) (fun e=>by have:=KC e; omega)).trans h.ret,h.s0.same fun q hq=>hne 0 (by decide) q hq,⟨(fun _ hd=>by cases hd),fun _=>ho⟩,h.s2.same fun q hq=>hne 2 (by decide) q hq,fun e=>(hne 3 (by decide) o Zds).trans (h.I e),⟨(fun e=>by cases e),fun e=>by cases e⟩,by omega,?_⟩;by_cases hnew: ∃ q∈blk a,q=w.heap.size
 ·obtain ⟨q0,nu,hqe⟩:=hnew
  have hw2:=(cf ho nu).2;refine h.pR.up 1 (fun j hj=>by rcases j with _ | _ | _ | _ | _ <;> first | rfl | exact absurd rfl hj) (fun q hq'=> ?_) (by omega) hsz;exact Zam
 ·have hall: ∀ q∈blk a,q=g1:=fun q hq'=>(hq q hq').resolve_right fun e=>hnew ⟨q,hq',e⟩
  refine mJ.mono (n:=w.heap.size) ⟨fun i i2 hij q hi hi2=> ?_,fun i q hi=> ?_⟩ hz
  ·have e1: ∀ i,∀ q∈four (bM b0 d0 g0 a0) (bM true true g1 a) (bM b2 d2 g2 a2) (bif b3 then [o] else []) i,q∈four (bM b0 d0 g0 a0) (bM true false g1 a1) (bM b2 d2 g2 a2) (bif b3 then [o] else []) i:=fun i q hq'=>by
    by_cases ei:i=1
    ·exact ZaV
    ·exact Zbe
   exact ZbI
  ·by_cases ei:i=1
   ·exact Za7
   ·exact ZaJ
theorem fI.copy2 {w2:w_} {a:Option d_} {c:Nat} (h:fI p We w b0 d0 b1 d1 true false b3 d3 e g0 g1 g2 o a0 a1 a2 c0 c1 c2) (ho:w2.ownsRow (We.heap.size+2) 112 3 (s_ a p.ag.length c) p.ag.length (bG.flat p.ag)) (hg:w.grownBy w2 (o_ g2)) (hq: ∀ q∈blk a,q=g2∨q=w.heap.size):fI p We w2 b0 d0 b1 d1 true true b3 d3 e g0 g1 g2 o a0 a1 a c0 c1 c:=by
 have hlt: ∀ i,∀ q∈four (bM b0 d0 g0 a0) (bM b1 d1 g1 a1) (bM true false g2 a2) (bif b3 then [o] else []) i,q < w.heap.size:=fun i q hq=>(h.pR.xy i q hq).2
 have hgl:We.heap.size+2≤g2∧g2 < w.heap.size:=h.pR.xy 2 g2 (by simp [four,bM]);have hne: ∀ i,i≠2→ ∀ q∈four (bM b0 d0 g0 a0) (bM b1 d1 g1 a1) (bM true false g2 a2) (bif b3 then [o] else []) i,w2.heap[q]? =w.heap[q]? :=fun i hi q hq=>hg.block q (hlt i q hq) fun e=>h.pR.apart i 2 hi q hq ZdS
 have hbe:B_ We.heap.size We w2:=h.cd.grown hg Zdf (fun k hk=>by cases hk; omega);have he:e=false:=by cases e with | false=>rfl | true=>have:=h.cl.1 rfl; simp at this
 have hd:d3=false:=by cases hx:d3 with | false=>rfl | true=>rw [(h.cl.2 hx).1] at he; cases he
 subst he hd;have hz:=hg.size;have hsz:=h.size;refine ⟨hbe,(hg.block _ (by omega) (fun e=>by have:=KC e; omega)).trans h.part,(hg.block _ (by omega) (fun e=>by have:=KC e; omega)).trans h.ret,h.s0.same fun q hq=>hne 0 (by decide) q hq,h.s1.same fun q hq=>hne 1 (by decide) q hq,⟨(fun _ hd=>by cases hd),fun _=>ho⟩,fun e=>(hne 3 (by decide) o Zds).trans (h.I e),⟨(fun e=>by cases e),fun e=>by cases e⟩,by omega,?_⟩;by_cases hnew: ∃ q∈blk a,q=w.heap.size
 ·obtain ⟨q0,nu,hqe⟩:=hnew
  have hw2:=(cf ho nu).2;refine h.pR.up 2 (fun j hj=>by rcases j with _ | _ | _ | _ | _ <;> first | rfl | exact absurd rfl hj) (fun q hq'=> ?_) (by omega) hsz;exact Zam
 ·have hall: ∀ q∈blk a,q=g2:=fun q hq'=>(hq q hq').resolve_right fun e=>hnew ⟨q,hq',e⟩
  refine mJ.mono (n:=w.heap.size) ⟨fun i i2 hij q hi hi2=> ?_,fun i q hi=> ?_⟩ hz
  ·have e1: ∀ i,∀ q∈four (bM b0 d0 g0 a0) (bM b1 d1 g1 a1) (bM true true g2 a) (bif b3 then [o] else []) i,q∈four (bM b0 d0 g0 a0) (bM b1 d1 g1 a1) (bM true false g2 a2) (bif b3 then [o] else []) i:=fun i q hq'=>by
    by_cases ei:i=2
    ·exact ZaV
    ·exact Zbe
   exact ZbI
  ·by_cases ei:i=2
   ·exact Za7
   ·exact ZaJ
theorem fI.aa9 (h:fI p We w b0 d0 b1 d1 b2 d2 false false e g0 g1 g2 o a0 a1 a2 c0 c1 c2):fI p We (w.alloc (c_ ar 38)) b0 d0 b1 d1 b2 d2 true false e g0 g1 g2 w.heap.size a0 a1 a2 c0 c1 c2:=by
 have hb:B_ w.heap.size w (w.alloc (c_ ar 38)):=(Kp _ _).alloc (Ki _) _;have hlt: ∀ i,∀ q∈four (bM b0 d0 g0 a0) (bM b1 d1 g1 a1) (bM b2 d2 g2 a2) (bif false then [o] else []) i,q < w.heap.size:=fun i q hq=>(h.pR.xy i q hq).2
 exact ⟨h.cd.trans (hb.mono h.cd.size),h.part.below hb,(hb.block _ Zdf).trans h.ret,h.s0.same fun q hq=>hb.block q (hlt 0 q hq),h.s1.same fun q hq=>hb.block q (hlt 1 q hq),h.s2.same fun q hq=>hb.block q (hlt 2 q hq),fun _=>Kj _ _,⟨h.cl.1,fun e=>by cases e⟩,by have:=h.size; simp; omega,h.pR.up 3 (fun j hj=>by rcases j with _ | _ | _ | _ | _ <;> first | rfl | exact absurd rfl hj) (fun q hq=> .inr (by simpa [four] using hq)) (by simp) h.size⟩
theorem fI.build (h:fI p We w b0 d0 b1 d1 b2 d2 b3 d3 false g0 g1 g2 o a0 a1 a2 c0 c1 c2) (h0:d0=true) (h1:d1=true) (h2:d2=true):fI p We w b0 d0 b1 d1 b2 d2 b3 d3 true g0 g1 g2 o a0 a1 a2 c0 c1 c2:=⟨h.cd,h.part,h.ret,h.s0,h.s1,h.s2,h.I,⟨fun _=>⟨h0,h1,h2⟩,fun hd=>⟨rfl,(h.cl.2 hd).2⟩⟩,h.size,h.pR⟩
theorem fI.store (h:fI p We w b0 d0 b1 d1 b2 d2 true false true g0 g1 g2 o a0 a1 a2 c0 c1 c2):fI p We (w.setRow o #[i_ j_ p.id,i_ j_ p.next,s_ n_ 0 0,s_ a0 p.aj.length c0,s_ a1 p.L9.length c1,s_ a2 p.ag.length c2,s_ n_ 0 0,s_ n_ 0 0]) b0 d0 b1 d1 b2 d2 true true true g0 g1 g2 o a0 a1 a2 c0 c1 c2:=by
 have ho:=h.pR.xy 3 o ZdW;have hne: ∀ q,q≠o→(w.setRow o #[i_ j_ p.id,i_ j_ p.next,s_ n_ 0 0,s_ a0 p.aj.length c0,s_ a1 p.L9.length c1,s_ a2 p.ag.length c2,s_ n_ 0 0,s_ n_ 0 0]).heap[q]? =w.heap[q]? :=fun q hq=>KH _ _ _ _ hq
 have hap: ∀ i,i≠3→ ∀ q∈four (bM b0 d0 g0 a0) (bM b1 d1 g1 a1) (bM b2 d2 g2 a2) [o] i,q≠o:=fun i hi q hq e=>h.pR.apart i 3 hi q hq (by subst e; simp [four])
 have hsz:=h.size;exact ⟨q_ h.cd (by omega) _,(hne _ (by omega)).trans h.part,(hne _ (by omega)).trans h.ret,h.s0.same fun q hq=>hne q (hap 0 (by decide) q hq),h.s1.same fun q hq=>hne q (hap 1 (by decide) q hq),h.s2.same fun q hq=>hne q (hap 2 (by decide) q hq),fun _=>setRow_heap _ _ _ _ _ _ (h.I rfl),⟨h.cl.1,fun _=>⟨rfl,rfl⟩⟩,by rw [size_setRow]; exact h.size,by rw [size_setRow]; exact h.pR⟩
end
end
section
open Go.RowKit Go.ChangeShapes Go.WideShapes Go.Joins Go.Deep
theorem Uw {α:Type} {p:Nat→α→Prop} : ∀ n,(∀ i,i < n→ ∃ y,p i y)→ ∃ l:List α,l.length=n∧ ∀ i y,l[i]? =some y→p i y
 | 0,_=>⟨[],rfl,fun i y h=>by simp at h⟩
 | n+1,h=>by
  obtain ⟨l,hl,hp⟩:=Uw n fun i hi=>h i (by omega)
  obtain ⟨y,hy⟩:=h n (by omega);refine ⟨l ++ [y],by simp [hl],fun i z hz=> ?_⟩;by_cases hi:i < l.length
  ·rw [List.getElem?_append_left hi] at hz
   exact hp i z hz
  ·rw [List.getElem?_append_right (by omega)] at hz
   have e:i - l.length=0:=by
    have:=(Lj.1 hz).1
    simp at this;omega
   rw [e] at hz;simp only [QI,LF] at hz;subst hz
   have:i=n:=by omega
   subst this;exact hy
section
variable {H:Type} {enc:TypeId × Value→H} {W:World}
theorem mo {t:TypeId} {fs:Array Field} {fuel:Nat} {cs:List Value} {x:DataW H × List MemPlace} (ht:Tryz.prog.underlying t=some (.struct fs)) (hone:oneCellFields J3 fs=true) (h:DataW.trod enc J3 W 0 (fun _=>true) true fuel t cs=some x):
  cs.length=Tryz.prog.cellsOf t∧ ∃ n,∀ (i:Nat) (f:Field) (v:Value),fs[i]? =some f→cs[i]? =some v→ ∃ y,DataW.trod enc J3 W 0 (fun _=>true) true n f.type [v] =some y:=by
 obtain ⟨xs,n,_,_,hl,hlen,hf⟩:=DataW.trod_struct ht h;refine ⟨hl,n,fun i f v hfi hv=> ?_⟩;obtain ⟨o1,o2⟩:=hone_of hone i f hfi;have h1:=hf i f hfi;have hi:i < xs.length:=by rw [hlen]; exact (J2.1 hfi).1
 rw [o1,o2,Kz hi] at h1;have h2:(cs.drop i).take 1= [v] :=by
  obtain ⟨hlt,rfl⟩:=Lj.1 hv;rw [List.drop_eq_getElem_cons hlt];rfl
 rw [h2] at h1;exact ⟨_,h1⟩
theorem gk {α:Type} (K:Kind α) (G:α→Prop) {t e:TypeId} (ht:Tryz.prog.underlying t=some (.slice e)) (hn:Tryz.prog.cellsOf e=K.n) (hel: ∀ n cs x,DataW.trod enc J3 W 0 (fun _=>true) true n e cs=some x→ ∃ y,cs=K.vals y∧G y)
  {fuel:Nat} {v:Value} {x:DataW H × List MemPlace} (h:DataW.trod enc J3 W 0 (fun _=>true) true fuel t [v] =some x):
  ∃ (a:Option Addr) (l:List α) (cap:Nat),v= .slice a l.length cap∧l.length≤maxLen∧Src W a (K.flat l)∧ ∀ y∈l,G y:=by
 rcases open_slice ht h with ⟨e1,_⟩ | ⟨a,len,cap,q,n,dz,Pl,e1,_,hl,hm,hq,_,hx⟩
 ·simp only [adK,and_true] at e1
  exact ⟨none,[],0,e1,Ky _,(fun j u hu=>by simp [Kind.flat] at hu),fun y hy=>by cases hy⟩
 ·simp only [adK,and_true] at e1
  simp only [if_true] at hq;have key: ∀ i,i < len→ ∃ y,(∀ r,r < K.n→W.cell? (a.add (i * K.n+r))=(K.vals y)[r]?)∧G y:=fun i hi=>by
   obtain ⟨cs',k1,k2⟩:=hx i (by omega);rw [hn] at k1;obtain ⟨_,_,kc⟩:=World.cells?_some k1;obtain ⟨y,rfl,hy⟩:=hel _ _ _ k2;refine ⟨y,fun r hr=> ?_,hy⟩
   have:=kc r hr
   rw [add_add] at this;exact this
  obtain ⟨l,hlen,hp⟩:=Uw len key;refine ⟨some a,l,cap,by rw [hlen]; exact e1,by rw [hlen]; omega,fun j u hu=> ?_,fun y hy=> ?_⟩
  ·have hj:j < l.length * K.n:=by
    rw [← K.dM];exact (Lj.1 hu).1
   have hi:j / K.n < l.length:=Nat.div_lt_of_lt_mul (by rw [adM]; exact hj);have hr:j % K.n < K.n:=Nat.mod_lt _ K.pos;have ej:j / K.n * K.n+j % K.n=j:=by rw [adM]; exact Nat.div_add_mod j K.n
   obtain ⟨y,hy⟩: ∃ y,l[j / K.n]? =some y:=⟨_,Kz hi⟩
   have h1:=(hp _ _ hy).1 (j % K.n) hr;rw [← K.jw hy hr,ej,hu] at h1;obtain ⟨b,off,spot⟩:=a;have hspot:spot=none:=by
    obtain ⟨y0,hy0⟩: ∃ y,l[0]? =some y:=⟨_,Kz (Nat.lt_of_le_of_lt (Ky _) hi)⟩
    have h2:=(hp _ _ hy0).1 0 K.pos;rw [Kz ZdZ] at h2
    have:=World.cell?_spot h2
    simpa [Addr.add] using this
   subst hspot;rw [add_plain] at h1;exact ⟨b,off,rfl,h1⟩
  ·obtain ⟨i,hi⟩:=List.mem_iff_getElem?.1 hy
   exact (hp _ _ hi).2
theorem TU:Tryz.prog.cellsOf 9=bT.n:=by kernel_rfl
theorem Ti {fuel:Nat} {cs:List Value} {x:DataW H × List MemPlace} (h:DataW.trod enc J3 W 0 (fun _=>true) true fuel 9 cs=some x): ∃ s:ByteArray,cs=bT.vals s∧s.size≤maxLen:=by
 obtain ⟨s,e,-,hs⟩:=adO adP h;exact ⟨s,e,hs⟩
theorem Ut:Tryz.prog.cellsOf 231=4:=by kernel_rfl
theorem UN {fuel:Nat} {cs:List Value} {x:DataW H × List MemPlace} (h:DataW.trod enc J3 W 0 (fun _=>true) true fuel 231 cs=some x): ∃ y,cs=fk.vals y∧(fun o:dN=>o.2.2.2.size≤maxLen) y:=by
 obtain ⟨hlen,n,hf⟩:=mo Tryz.underlying231 ZcR h;rw [Ut] at hlen
 match cs,hlen with
 | [v0,v1,v2,v3],_=>
  obtain ⟨y0,h0⟩:=hf 0 _ v0 rfl rfl;obtain ⟨a0,e0,-,w0⟩:=adQ KN h0;obtain ⟨y1,h1⟩:=hf 1 _ v1 rfl rfl;obtain ⟨a1,e1,-,w1⟩:=adQ KN h1;obtain ⟨y2,h2⟩:=hf 2 _ v2 rfl rfl;obtain ⟨a2,e2,-,w2⟩:=adQ KN h2;obtain ⟨y3,h3⟩:=hf 3 _ v3 rfl rfl;obtain ⟨a3,e3,-,s3⟩:=adO adP h3;simp only [adK,and_true] at e0 e1 e2 e3;subst e0 e1 e2 e3;exact ⟨(a0,a1,a2,a3),rfl,s3⟩
theorem Vl:Tryz.prog.cellsOf 107=3:=by kernel_rfl
theorem Uo {fuel:Nat} {cs:List Value} {x:DataW H × List MemPlace} (h:DataW.trod enc J3 W 0 (fun _=>true) true fuel 107 cs=some x): ∃ y,cs=dm.vals y∧(fun y:bD=>(Lit.int .i64 y.id).wf=true) y:=by
 obtain ⟨hlen,n,hf⟩:=mo Tryz.underlying107 ZcR h;rw [Vl] at hlen
 match cs,hlen with
 | [v0,v1,v2],_=>
  obtain ⟨y0,h0⟩:=hf 0 _ v0 rfl rfl;obtain ⟨a0,e0,-,w0⟩:=adQ KN h0;obtain ⟨y1,h1⟩:=hf 1 _ v1 rfl rfl;obtain ⟨a1,e1,-,w1⟩:=adQ KN h1;obtain ⟨y2,h2⟩:=hf 2 _ v2 rfl rfl;obtain ⟨a2,e2,-,w2⟩:=adQ KN h2;simp only [adK,and_true] at e0 e1 e2;subst e0 e1 e2;exact ⟨⟨a0,a1,a2⟩,rfl,w0⟩
theorem Uh:Tryz.prog.cellsOf 111=2:=by kernel_rfl
theorem TM {fuel:Nat} {cs:List Value} {x:DataW H × List MemPlace} (h:DataW.trod enc J3 W 0 (fun _=>true) true fuel 111 cs=some x): ∃ y,cs=bJ.vals y∧(fun y:aB=>(Lit.int .i64 y.id).wf=true) y:=by
 obtain ⟨hlen,n,hf⟩:=mo Tryz.underlying111 ZcR h;rw [Uh] at hlen
 match cs,hlen with
 | [v0,v1],_=>
  obtain ⟨y0,h0⟩:=hf 0 _ v0 rfl rfl;obtain ⟨a0,e0,-,w0⟩:=adQ KN h0;obtain ⟨y1,h1⟩:=hf 1 _ v1 rfl rfl;obtain ⟨a1,e1,-⟩:=adS Q6 h1;simp only [adK,and_true] at e0 e1;subst e0 e1;exact ⟨⟨a0,a1⟩,rfl,w0⟩
theorem Ue:Tryz.prog.cellsOf 89=3:=by kernel_rfl
theorem TL {fuel:Nat} {cs:List Value} {x:DataW H × List MemPlace} (h:DataW.trod enc J3 W 0 (fun _=>true) true fuel 89 cs=some x): ∃ y,cs=bG.vals y∧(fun y:az=>(Lit.int .i64 y.id).wf=true∧y.text.size≤maxLen) y:=by
 obtain ⟨hlen,n,hf⟩:=mo Tryz.underlying89 ZcR h;rw [Ue] at hlen
 match cs,hlen with
 | [v0,v1,v2],_=>
  obtain ⟨y0,h0⟩:=hf 0 _ v0 rfl rfl;obtain ⟨a0,e0,-,w0⟩:=adQ KN h0;obtain ⟨y1,h1⟩:=hf 1 _ v1 rfl rfl;obtain ⟨a1,e1,-⟩:=adS Q6 h1;obtain ⟨y2,h2⟩:=hf 2 _ v2 rfl rfl;obtain ⟨a2,e2,-,s2⟩:=adO adP h2;simp only [adK,and_true] at e0 e1 e2;subst e0 e1 e2;exact ⟨⟨a0,a1,a2⟩,rfl,w0,s2⟩
theorem T6:Tryz.prog.cellsOf 93=3:=by kernel_rfl
theorem Tt {fuel:Nat} {cs:List Value} {x:DataW H × List MemPlace} (h:DataW.trod enc J3 W 0 (fun _=>true) true fuel 93 cs=some x): ∃ y,cs=bm.vals y∧(fun y:au=>(Lit.int .i64 y.id).wf=true∧(y.Ma.length≤maxLen∧ ∀ s∈y.Ma,s.size≤maxLen)∧Src W y.ak (bT.flat y.Ma)) y:=by
 obtain ⟨hlen,n,hf⟩:=mo Tryz.underlying93 ZcR h;rw [T6] at hlen
 match cs,hlen with
 | [v0,v1,v2],_=>
  obtain ⟨y0,h0⟩:=hf 0 _ v0 rfl rfl;obtain ⟨a0,e0,-,w0⟩:=adQ KN h0;obtain ⟨y1,h1⟩:=hf 1 _ v1 rfl rfl;obtain ⟨a1,e1,-,w1⟩:=adQ KN h1;obtain ⟨y2,h2⟩:=hf 2 _ v2 rfl rfl;obtain ⟨b2,l2,c2,e2,z2,r2,g2⟩:=gk bT (fun s=>s.size≤maxLen) Tryz.underlying91 TU (fun _ _ _ h=>Ti h) h2;simp only [adK,and_true] at e0 e1;subst e0 e1 e2;exact ⟨⟨⟨a0,a1,l2⟩,b2,c2⟩,rfl,w0,⟨z2,g2⟩,r2⟩
theorem UK:Tryz.prog.cellsOf 96=5:=by kernel_rfl
theorem TT {fuel:Nat} {cs:List Value} {x:DataW H × List MemPlace} (h:DataW.trod enc J3 W 0 (fun _=>true) true fuel 96 cs=some x): ∃ y,cs=bX.vals y∧(fun y:aM=>(Lit.int .i64 y.id).wf=true∧(y.Ma.length≤maxLen∧ ∀ s∈y.Ma,s.size≤maxLen)∧Src W y.ak (bT.flat y.Ma)) y:=by
 obtain ⟨hlen,n,hf⟩:=mo Tryz.underlying96 ZcR h;rw [UK] at hlen
 match cs,hlen with
 | [v0,v1,v2,v3,v4],_=>
  obtain ⟨y0,h0⟩:=hf 0 _ v0 rfl rfl;obtain ⟨a0,e0,-,w0⟩:=adQ KN h0;obtain ⟨y1,h1⟩:=hf 1 _ v1 rfl rfl;obtain ⟨a1,e1,-⟩:=adS Q6 h1;obtain ⟨y2,h2⟩:=hf 2 _ v2 rfl rfl;obtain ⟨a2,e2,-⟩:=adS Q6 h2;obtain ⟨y3,h3⟩:=hf 3 _ v3 rfl rfl;obtain ⟨a3,e3,-,w3⟩:=adQ KN h3;obtain ⟨y4,h4⟩:=hf 4 _ v4 rfl rfl;obtain ⟨b4,l4,c4,e4,z4,r4,g4⟩:=gk bT (fun s=>s.size≤maxLen) Tryz.underlying91 TU (fun _ _ _ h=>Ti h) h4;simp only [adK,and_true] at e0 e1 e2 e3;subst e0 e1 e2 e3 e4;exact ⟨⟨⟨a0,a1,a2,a3,l4⟩,b4,c4⟩,rfl,w0,⟨z4,g4⟩,r4⟩
theorem UO:Tryz.prog.cellsOf 86=12:=by kernel_rfl
theorem T8 {fuel:Nat} {cs:List Value} {x:DataW H × List MemPlace} (h:DataW.trod enc J3 W 0 (fun _=>true) true fuel 86 cs=some x): ∃ y,cs=bg.vals y∧(fun y:ao=>y.Wf∧((y.prog.length≤maxLen∧ ∀ o∈y.prog,o.2.2.2.size≤maxLen)∧y.held.size≤maxLen∧y.got.size≤maxLen)∧Src W y.aY (fk.flat y.prog)) y:=by
 obtain ⟨hlen,n,hf⟩:=mo Tryz.underlying86 ZcR h;rw [UO] at hlen
 match cs,hlen with
 | [v0,v1,v2,v3,v4,v5,v6,v7,v8,v9,v10,v11],_=>
  obtain ⟨y0,h0⟩:=hf 0 _ v0 rfl rfl;obtain ⟨a0,e0,-,w0⟩:=adQ KN h0;obtain ⟨y1,h1⟩:=hf 1 _ v1 rfl rfl;obtain ⟨a1,e1,-,w1⟩:=adQ KN h1;obtain ⟨y2,h2⟩:=hf 2 _ v2 rfl rfl;obtain ⟨b2,l2,c2,e2,z2,r2,g2⟩:=gk fk (fun o=>o.2.2.2.size≤maxLen) Tryz.underlying84 Ut (fun _ _ _ h=>UN h) h2;obtain ⟨y3,h3⟩:=hf 3 _ v3 rfl rfl;obtain ⟨a3,e3,-,w3⟩:=adQ KN h3;obtain ⟨y4,h4⟩:=hf 4 _ v4 rfl rfl;obtain ⟨a4,e4,-,w4⟩:=adQ KN h4;obtain ⟨y5,h5⟩:=hf 5 _ v5 rfl rfl;obtain ⟨a5,e5,-,w5⟩:=adQ KN h5;obtain ⟨y6,h6⟩:=hf 6 _ v6 rfl rfl;obtain ⟨a6,e6,-,w6⟩:=adQ KN h6;obtain ⟨y7,h7⟩:=hf 7 _ v7 rfl rfl;obtain ⟨a7,e7,-,w7⟩:=adQ KN h7;obtain ⟨ea,h8⟩:=hf 8 _ v8 rfl rfl;obtain ⟨a8,e8,-,s8⟩:=adO adP h8;obtain ⟨ah,h9⟩:=hf 9 _ v9 rfl rfl;obtain ⟨a9,e9,-,s9⟩:=adO adP h9;obtain ⟨y10,h10⟩:=hf 10 _ v10 rfl rfl;obtain ⟨a10,Pn,-,pH⟩:=adQ KN h10;obtain ⟨y11,h11⟩:=hf 11 _ v11 rfl rfl;obtain ⟨a11,e11,-,ow⟩:=adQ KN h11;simp only [adK,and_true] at e0 e1 e3 e4 e5 e6 e7 e8 e9 Pn e11;subst e0 e1 e3 e4 e5 e6 e7 e8 e9 Pn e11 e2;exact ⟨⟨⟨a0,a1,l2,a3,a4,a5,a6,a7,a8,a9,a10,a11⟩,b2,c2⟩,rfl,⟨w0,w7,ow⟩,⟨⟨z2,g2⟩,s8,s9⟩,r2⟩
theorem sA {fuel:Nat} {cs:List Value} {x:DataW H × List MemPlace} (h:DataW.trod enc J3 W 0 (fun _=>true) true fuel 29 cs=some x): ∃ p:af,cs=p.cells.toList∧p.Ud∧p.ep W∧p.Ints:=by
 obtain ⟨hlen,n,hf⟩:=mo Qt ZcR h;rw [show Tryz.prog.cellsOf 29=8 by kernel_rfl] at hlen
 match cs,hlen with
 | [v0,v1,v2,v3,v4,v5,v6,v7],_=>
  obtain ⟨y0,h0⟩:=hf 0 _ v0 rfl rfl;obtain ⟨y1,h1⟩:=hf 1 _ v1 rfl rfl;obtain ⟨a0,e0,-,-⟩:=adQ KN h0;obtain ⟨a1,e1,-,-⟩:=adQ KN h1;obtain ⟨y2,h2⟩:=hf 2 _ v2 rfl rfl;obtain ⟨b2,l2,c2,e2,z2,r2,g2⟩:=gk bg (fun y:ao=>y.Wf∧((y.prog.length≤maxLen∧ ∀ o∈y.prog,o.2.2.2.size≤maxLen)∧y.held.size≤maxLen∧y.got.size≤maxLen)∧Src W y.aY (fk.flat y.prog)) Tryz.underlying22 ZcR (fun _ _ _ h=>T8 h) h2;obtain ⟨y3,h3⟩:=hf 3 _ v3 rfl rfl;obtain ⟨b3,l3,c3,e3,z3,r3,g3⟩:=gk dm (fun y:bD=>(Lit.int .i64 y.id).wf=true) Tryz.underlying23 ZcR (fun _ _ _ h=>Uo h) h3;obtain ⟨y4,h4⟩:=hf 4 _ v4 rfl rfl;obtain ⟨b4,l4,c4,e4,z4,r4,g4⟩:=gk bJ (fun y:aB=>(Lit.int .i64 y.id).wf=true) Tryz.underlying24 ZcR (fun _ _ _ h=>TM h) h4;obtain ⟨y5,h5⟩:=hf 5 _ v5 rfl rfl;obtain ⟨b5,l5,c5,e5,z5,r5,g5⟩:=gk bG (fun y:az=>(Lit.int .i64 y.id).wf=true∧y.text.size≤maxLen) Tryz.underlying25 ZcR (fun _ _ _ h=>TL h) h5;obtain ⟨y6,h6⟩:=hf 6 _ v6 rfl rfl;obtain ⟨b6,l6,c6,e6,z6,r6,g6⟩:=gk bm (fun y:au=>(Lit.int .i64 y.id).wf=true∧(y.Ma.length≤maxLen∧ ∀ s∈y.Ma,s.size≤maxLen)∧Src W y.ak (bT.flat y.Ma)) Tryz.underlying26 ZcR (fun _ _ _ h=>Tt h) h6;obtain ⟨y7,h7⟩:=hf 7 _ v7 rfl rfl;obtain ⟨b7,dw,c7,e7,z7,r7,g7⟩:=gk bX (fun y:aM=>(Lit.int .i64 y.id).wf=true∧(y.Ma.length≤maxLen∧ ∀ s∈y.Ma,s.size≤maxLen)∧Src W y.ak (bT.flat y.Ma)) Tryz.underlying27 ZcR (fun _ _ _ h=>TT h) h7;simp only [adK,and_true] at e0 e1;subst e0 e1 e2 e3 e4 e5 e6 e7;refine ⟨⟨a0,a1,l2,b2,c2,l3,b3,c3,l4,b4,c4,l5,b5,c5,l6,b6,c6,dw,b7,c7⟩,rfl,⟨z2,z3,z4,z5,z6,z7,fun x hx=>(g2 x hx).2.1,fun x hx=>(g5 x hx).2,fun x hx=>(g6 x hx).2.1,fun x hx=>(g7 x hx).2.1⟩,⟨⟨r2,fun x hx r hr=> ?_⟩,⟨r3,fun x hx r hr=> ?_⟩,⟨r4,fun x hx r hr=> ?_⟩,⟨r5,fun x hx r hr=> ?_⟩,⟨r6,fun x hx r hr=> ?_⟩,⟨r7,fun x hx r hr=> ?_⟩⟩,⟨fun x hx=>(g2 x hx).1,g3,g4,fun x hx=>(g5 x hx).1,fun x hx=>(g6 x hx).1,fun x hx=>(g7 x hx).1⟩⟩
  ·simp only [bg,Kt,Ku,or_false] at hr
   subst hr;exact (g2 x hx).2.2
  ·simp [dm] at hr
  ·simp [bJ] at hr
  ·simp [bG] at hr
  ·simp only [bm,Kt,Ku,or_false] at hr
   subst hr;exact (g6 x hx).2.2
  ·simp only [bX,Kt,Ku,or_false] at hr
   subst hr;exact (g7 x hx).2.2
theorem aaQ {r:Reach} {b0:Nat} {v:Value} {d:DataW H} {pl:List MemPlace} (hv:Value.okWide J3 W r b0 29 v) (h:DataW.Trod enc J3 W 0 (fun _=>true) true 29 v d pl): ∃ p:af,v= .agg p.cells∧p.Ud∧p.ep W∧p.Ints:=by
 obtain ⟨cs,rfl,hsz⟩:=okWide_struct Qt hv;obtain ⟨fuel,hf⟩:=h;obtain ⟨p,hp,h1,h2,h3⟩:=sA hf;refine ⟨p,?_,h1,h2,h3⟩;have e:cs.toList=p.cells.toList:=by simpa [Value.cells] using hp
 rw [Array.toList_inj.1 e]
end
end
section
open Go.RowKit
attribute [local go_sem ↓] Kc Kd
abbrev afB (q:af):List Nat:=blk q.am ++ (q.ae.filterMap aC.bt ++ (blk q.aK ++ (q.ai.filterMap aU.bt)))
abbrev afC (q:af):List Nat:=blk q.ax ++ (blk q.am ++ (q.ae.filterMap aC.bt ++ (blk q.aK ++ (q.ai.filterMap aU.bt))))
abbrev afw (q:af):List Nat:=blk q.ay ++ (blk q.ax ++ (blk q.am ++ (q.ae.filterMap aC.bt ++ (blk q.aK ++ (q.ai.filterMap aU.bt)))))
abbrev afo (q:af):List Nat:=blk q.bc ++ (blk q.ay ++ (blk q.ax ++ (blk q.am ++ (q.ae.filterMap aC.bt ++ (blk q.aK ++ (q.ai.filterMap aU.bt))))))
theorem pr {α:Type} {N:gd α} {f:Int→α→α} {c:α→Nat} (h: ∀ k x,N.bt (f k x)=N.bt x): ∀ (k:Int) (l:List α),(aJ f c k l).filterMap N.bt=l.filterMap N.bt
 | _,[] =>rfl
 | k,x :: r=>by simp only [aJ,LH,h,pr h (k+c x) r]
theorem ap.As {w w':w_} {base:Nat} {q:af} {l:List ao} (h:ap w base q) (ho:w'.ownsRow base 100 12 (s_ q.aN q.L8.length q.aW) q.L8.length (bg.flat l)) (hl:l.length=q.L8.length) (hm: ∀ y∈l,aR.cO w' base y) (hki:l.filterMap aR.bt=q.L8.filterMap aR.bt) (hk:aI w w' (blk q.aN ++ q.L8.filterMap aR.bt)):
  ap w' base ({ q with L8:=l } :af)∧({ q with L8:=l } :af).Mc=q.Mc:=by
 have hbs:q.Mc= [] ++ ((blk q.aN ++ q.L8.filterMap aR.bt) ++ (afo q)):=by simp [af.Mc,Lm]
 have rN:({ q with L8:=l } :af).Mc=q.Mc:=by simp only [af.Mc,hki]
 have hnd:=h.nodup;rw [hbs] at hnd;have nc: ∀ g,(g∈ [] ∨g∈(afo q))→g∉(blk q.aN ++ q.L8.filterMap aR.bt):=fun g bR hA=>by
  exact xz
 have hs: ∀ g,(g∈ [] ∨g∈(afo q))→w'.heap[g]? =w.heap[g]? :=fun g bR=>hk.same g (h.lt g (by
  rw [hbs];rcases bR with bR | bR
  ·exact Lz _ bR
  ·exact Ly _ (Ly _ bR))).2 (nc g bR)
 refine ⟨⟨Zdm,aL h.aj fun g bR=>hs g (.inr ZcU),aL h.L9 fun g bR=>hs g (.inr ZcU),aL h.ag fun g bR=>hs g (.inr ZcU),aL h.ae fun g bR=>hs g (.inr ZcU),aL h.ai fun g bR=>hs g (.inr ZcU),hm,fun y hy=>(h.eE y hy).same fun g hk=>hs g (.inr ZcT),fun y hy=>(h.eR y hy).same fun g hk=>hs g (.inr ZcT),?_⟩,rN⟩;rw [rN];exact h.nodup
theorem ap.DT {w w':w_} {base:Nat} {q:af} {l:List bD} (h:ap w base q) (ho:w'.ownsRow base 105 3 (s_ q.bc q.aj.length q.bF) q.aj.length (dm.flat l)) (hl:l.length=q.aj.length) (hk:aI w w' (blk q.bc)):
  ap w' base ({ q with aj:=l } :af)∧({ q with aj:=l } :af).Mc=q.Mc:=by
 have hbs:q.Mc=(blk q.aN ++ q.L8.filterMap aR.bt) ++ ((blk q.bc) ++ (afw q)):=by simp [af.Mc,Lm]
 have rN:({ q with aj:=l } :af).Mc=q.Mc:=by rfl
 have hnd:=h.nodup;rw [hbs] at hnd;have nc: ∀ g,(g∈(blk q.aN ++ q.L8.filterMap aR.bt)∨g∈(afw q))→g∉(blk q.bc):=fun g bR hA=>by
  exact xz
 have hs: ∀ g,(g∈(blk q.aN ++ q.L8.filterMap aR.bt)∨g∈(afw q))→w'.heap[g]? =w.heap[g]? :=fun g bR=>hk.same g (h.lt g (by
  rw [hbs];rcases bR with bR | bR
  ·exact Lz _ bR
  ·exact Ly _ (Ly _ bR))).2 (nc g bR)
 refine ⟨⟨aL h.L8 fun g bR=>hs g (.inl ZcU),Zdm,aL h.L9 fun g bR=>hs g (.inr ZcU),aL h.ag fun g bR=>hs g (.inr ZcU),aL h.ae fun g bR=>hs g (.inr ZcU),aL h.ai fun g bR=>hs g (.inr ZcU),fun y hy=>(h.eI y hy).same fun g hk=>hs g (.inl ZcT),fun y hy=>(h.eE y hy).same fun g hk=>hs g (.inr ZcT),fun y hy=>(h.eR y hy).same fun g hk=>hs g (.inr ZcT),?_⟩,rN⟩;rw [rN];exact h.nodup
theorem ap.xA {w w':w_} {base:Nat} {q:af} {l:List aB} (h:ap w base q) (ho:w'.ownsRow base 109 2 (s_ q.ay q.L9.length q.aO) q.L9.length (bJ.flat l)) (hl:l.length=q.L9.length) (hk:aI w w' (blk q.ay)):
  ap w' base ({ q with L9:=l } :af)∧({ q with L9:=l } :af).Mc=q.Mc:=by
 have hbs:q.Mc=(blk q.aN ++ q.L8.filterMap aR.bt ++ blk q.bc) ++ ((blk q.ay) ++ (afC q)):=by simp [af.Mc,Lm]
 have rN:({ q with L9:=l } :af).Mc=q.Mc:=by rfl
 have hnd:=h.nodup;rw [hbs] at hnd;have nc: ∀ g,(g∈(blk q.aN ++ q.L8.filterMap aR.bt ++ blk q.bc)∨g∈(afC q))→g∉(blk q.ay):=fun g bR hA=>by
  exact xz
 have hs: ∀ g,(g∈(blk q.aN ++ q.L8.filterMap aR.bt ++ blk q.bc)∨g∈(afC q))→w'.heap[g]? =w.heap[g]? :=fun g bR=>hk.same g (h.lt g (by
  rw [hbs];rcases bR with bR | bR
  ·exact Lz _ bR
  ·exact Ly _ (Ly _ bR))).2 (nc g bR)
 refine ⟨⟨aL h.L8 fun g bR=>hs g (.inl ZcU),aL h.aj fun g bR=>hs g (.inl ZcU),Zdm,aL h.ag fun g bR=>hs g (.inr ZcU),aL h.ae fun g bR=>hs g (.inr ZcU),aL h.ai fun g bR=>hs g (.inr ZcU),fun y hy=>(h.eI y hy).same fun g hk=>hs g (.inl ZcT),fun y hy=>(h.eE y hy).same fun g hk=>hs g (.inr ZcT),fun y hy=>(h.eR y hy).same fun g hk=>hs g (.inr ZcT),?_⟩,rN⟩;rw [rN];exact h.nodup
theorem ap.xM {w w':w_} {base:Nat} {q:af} {l:List az} (h:ap w base q) (ho:w'.ownsRow base 112 3 (s_ q.ax q.ag.length q.aP) q.ag.length (bG.flat l)) (hl:l.length=q.ag.length) (hk:aI w w' (blk q.ax)):
  ap w' base ({ q with ag:=l } :af)∧({ q with ag:=l } :af).Mc=q.Mc:=by
 have hbs:q.Mc=(blk q.aN ++ q.L8.filterMap aR.bt ++ blk q.bc ++ blk q.ay) ++ ((blk q.ax) ++ (afB q)):=by simp [af.Mc,Lm]
 have rN:({ q with ag:=l } :af).Mc=q.Mc:=by rfl
 have hnd:=h.nodup;rw [hbs] at hnd;have nc: ∀ g,(g∈(blk q.aN ++ q.L8.filterMap aR.bt ++ blk q.bc ++ blk q.ay)∨g∈(afB q))→g∉(blk q.ax):=fun g bR hA=>by
  exact xz
 have hs: ∀ g,(g∈(blk q.aN ++ q.L8.filterMap aR.bt ++ blk q.bc ++ blk q.ay)∨g∈(afB q))→w'.heap[g]? =w.heap[g]? :=fun g bR=>hk.same g (h.lt g (by
  rw [hbs];rcases bR with bR | bR
  ·exact Lz _ bR
  ·exact Ly _ (Ly _ bR))).2 (nc g bR)
 refine ⟨⟨aL h.L8 fun g bR=>hs g (.inl ZcU),aL h.aj fun g bR=>hs g (.inl ZcU),aL h.L9 fun g bR=>hs g (.inl ZcU),Zdm,aL h.ae fun g bR=>hs g (.inr ZcU),aL h.ai fun g bR=>hs g (.inr ZcU),fun y hy=>(h.eI y hy).same fun g hk=>hs g (.inl ZcT),fun y hy=>(h.eE y hy).same fun g hk=>hs g (.inr ZcT),fun y hy=>(h.eR y hy).same fun g hk=>hs g (.inr ZcT),?_⟩,rN⟩;rw [rN];exact h.nodup
theorem ap.CJ {w w':w_} {base:Nat} {q:af} {l:List au} (h:ap w base q) (ho:w'.ownsRow base 114 3 (s_ q.am q.ae.length q.aG) q.ae.length (bm.flat l)) (hl:l.length=q.ae.length) (hm: ∀ y∈l,aC.cO w' base y) (hki:l.filterMap aC.bt=q.ae.filterMap aC.bt) (hk:aI w w' (blk q.am ++ q.ae.filterMap aC.bt)):
  ap w' base ({ q with ae:=l } :af)∧({ q with ae:=l } :af).Mc=q.Mc:=by
 have hbs:q.Mc=(blk q.aN ++ q.L8.filterMap aR.bt ++ blk q.bc ++ blk q.ay ++ blk q.ax) ++ ((blk q.am ++ q.ae.filterMap aC.bt) ++ (blk q.aK ++ (q.ai.filterMap aU.bt))):=by simp [af.Mc,Lm]
 have rN:({ q with ae:=l } :af).Mc=q.Mc:=by simp only [af.Mc,hki]
 have hnd:=h.nodup;rw [hbs] at hnd;have nc: ∀ g,(g∈(blk q.aN ++ q.L8.filterMap aR.bt ++ blk q.bc ++ blk q.ay ++ blk q.ax)∨g∈(blk q.aK ++ (q.ai.filterMap aU.bt)))→g∉(blk q.am ++ q.ae.filterMap aC.bt):=fun g bR hA=>by
  exact xz
 have hs: ∀ g,(g∈(blk q.aN ++ q.L8.filterMap aR.bt ++ blk q.bc ++ blk q.ay ++ blk q.ax)∨g∈(blk q.aK ++ (q.ai.filterMap aU.bt)))→w'.heap[g]? =w.heap[g]? :=fun g bR=>hk.same g (h.lt g (by
  rw [hbs];rcases bR with bR | bR
  ·exact Lz _ bR
  ·exact Ly _ (Ly _ bR))).2 (nc g bR)
 refine ⟨⟨aL h.L8 fun g bR=>hs g (.inl ZcU),aL h.aj fun g bR=>hs g (.inl ZcU),aL h.L9 fun g bR=>hs g (.inl ZcU),aL h.ag fun g bR=>hs g (.inl ZcU),Zdm,aL h.ai fun g bR=>hs g (.inr ZcU),fun y hy=>(h.eI y hy).same fun g hk=>hs g (.inl ZcT),hm,fun y hy=>(h.eR y hy).same fun g hk=>hs g (.inr ZcT),?_⟩,rN⟩;rw [rN];exact h.nodup
theorem ap.Gu {w w':w_} {base:Nat} {q:af} {l:List aM} (h:ap w base q) (ho:w'.ownsRow base 116 5 (s_ q.aK q.ai.length q.aV) q.ai.length (bX.flat l)) (hl:l.length=q.ai.length) (hm: ∀ y∈l,aU.cO w' base y) (hki:l.filterMap aU.bt=q.ai.filterMap aU.bt) (hk:aI w w' (blk q.aK ++ q.ai.filterMap aU.bt)):
  ap w' base ({ q with ai:=l } :af)∧({ q with ai:=l } :af).Mc=q.Mc:=by
 have hbs:q.Mc=(blk q.aN ++ q.L8.filterMap aR.bt ++ blk q.bc ++ blk q.ay ++ blk q.ax ++ blk q.am ++ q.ae.filterMap aC.bt) ++ ((blk q.aK ++ q.ai.filterMap aU.bt) ++ []):=by simp [af.Mc,Lm]
 have rN:({ q with ai:=l } :af).Mc=q.Mc:=by simp only [af.Mc,hki]
 have hnd:=h.nodup;rw [hbs] at hnd;have nc: ∀ g,(g∈(blk q.aN ++ q.L8.filterMap aR.bt ++ blk q.bc ++ blk q.ay ++ blk q.ax ++ blk q.am ++ q.ae.filterMap aC.bt)∨g∈ [])→g∉(blk q.aK ++ q.ai.filterMap aU.bt):=fun g bR hA=>by
  exact xz
 have hs: ∀ g,(g∈(blk q.aN ++ q.L8.filterMap aR.bt ++ blk q.bc ++ blk q.ay ++ blk q.ax ++ blk q.am ++ q.ae.filterMap aC.bt)∨g∈ [])→w'.heap[g]? =w.heap[g]? :=fun g bR=>hk.same g (h.lt g (by
  rw [hbs];rcases bR with bR | bR
  ·exact Lz _ bR
  ·exact Ly _ (Ly _ bR))).2 (nc g bR)
 refine ⟨⟨aL h.L8 fun g bR=>hs g (.inl ZcU),aL h.aj fun g bR=>hs g (.inl ZcU),aL h.L9 fun g bR=>hs g (.inl ZcU),aL h.ag fun g bR=>hs g (.inl ZcU),aL h.ae fun g bR=>hs g (.inl ZcU),Zdm,fun y hy=>(h.eI y hy).same fun g hk=>hs g (.inl ZcT),fun y hy=>(h.eE y hy).same fun g hk=>hs g (.inl ZcT),hm,?_⟩,rN⟩;rw [rN];exact h.nodup
def fb (p:af):Nat:=aF bj p.L8+aF (fun _=>3) p.aj+aF (fun _=>2) p.L9+aF (fun _=>3) p.ag+aF bN p.ae+aF eo p.ai
def nF (k:Int) (p:af):af:= { p with L8:=aJ cw bj (k) p.L8,aj:=aJ hJ (fun _=>3) (k+(aF bj p.L8:Nat)) p.aj,L9:=aJ eM (fun _=>2) (k+(aF bj p.L8:Nat)+(aF (fun _=>3) p.aj:Nat)) p.L9,ag:=aJ dZ (fun _=>3) (k+(aF bj p.L8:Nat)+(aF (fun _=>3) p.aj:Nat)+(aF (fun _=>2) p.L9:Nat)) p.ag,ae:=aJ dy bN (k+(aF bj p.L8:Nat)+(aF (fun _=>3) p.aj:Nat)+(aF (fun _=>2) p.L9:Nat)+(aF (fun _=>3) p.ag:Nat)) p.ae,ai:=aJ fU eo (k+(aF bj p.L8:Nat)+(aF (fun _=>3) p.aj:Nat)+(aF (fun _=>2) p.L9:Nat)+(aF (fun _=>3) p.ag:Nat)+(aF bN p.ae:Nat)) p.ai }
structure af.WN (p:af):Prop where
 dl:p.L8.length≤1048576
 fx:p.aj.length≤1048576
 cD:p.L9.length≤1048576
 cC:p.ag.length≤1048576
 cb:p.ae.length≤1048576
 dH:p.ai.length≤1048576
 L8: ∀ x∈p.L8,x.prog.length≤1048576
 ae: ∀ x∈p.ae,x.Ma.length≤1048576
 ai: ∀ x∈p.ai,x.Ma.length≤1048576
abbrev mkT0 (p:af) (k:Int):af:= { p with L8:=aJ cw bj (k) p.L8,aj:=aJ hJ (fun _=>3) (k+(aF bj p.L8:Nat)) p.aj,L9:=aJ eM (fun _=>2) (k+(aF bj p.L8:Nat)+(aF (fun _=>3) p.aj:Nat)) p.L9,ag:=aJ dZ (fun _=>3) (k+(aF bj p.L8:Nat)+(aF (fun _=>3) p.aj:Nat)+(aF (fun _=>2) p.L9:Nat)) p.ag,ae:=aJ dy bN (k+(aF bj p.L8:Nat)+(aF (fun _=>3) p.aj:Nat)+(aF (fun _=>2) p.L9:Nat)+(aF (fun _=>3) p.ag:Nat)) p.ae }
abbrev mkT1 (p:af) (k:Int):af:= { p with L8:=aJ cw bj (k) p.L8,aj:=aJ hJ (fun _=>3) (k+(aF bj p.L8:Nat)) p.aj,L9:=aJ eM (fun _=>2) (k+(aF bj p.L8:Nat)+(aF (fun _=>3) p.aj:Nat)) p.L9,ag:=aJ dZ (fun _=>3) (k+(aF bj p.L8:Nat)+(aF (fun _=>3) p.aj:Nat)+(aF (fun _=>2) p.L9:Nat)) p.ag }
theorem WG (p:af) (k:Int) (w:w_) (base:Nat) (hc:p.WN) (h0:1≤k) (h1:k+(fb p:Nat)≤90000000) (ho:ap w base p):
  k_ J3 10 #[a_ p.cells,i_ j_ k] w fun e w'=>e=r_ (i_ j_ (k+(fb p:Nat)))∧ap w' base (nF k p)∧aI w w' p.Mc:=by
 have HC:Hid (p.WN∧k+(fb p:Nat)≤90000000):=⟨hc,h1⟩
 have HX:Hid (av (w.alloc (c_ p.row 38)) w.heap.size p∧ap (w.alloc (c_ p.row 38)) base p∧aI w (w.alloc (c_ p.row 38)) p.Mc):=⟨Kj _ _,ho.below ((Kp _ _).alloc (Ki _) _),aI.dI ((Kp _ _).alloc (Ki _) _)⟩
 have HB:Hid (∀ g∈p.Mc,g < w.heap.size):=fun g hg=>(ho.lt g hg).2
 have q0:1≤k∧k+(aF bj p.L8:Nat)≤90000000:=by have:=h1; unfold fb at this; omega
 have q1:1≤k+(aF bj p.L8:Nat)∧k+(aF bj p.L8:Nat)+(aF (fun _=>3) p.aj:Nat)≤90000000:=by have:=h1; unfold fb at this; omega
 have q2:1≤k+(aF bj p.L8:Nat)+(aF (fun _=>3) p.aj:Nat)∧k+(aF bj p.L8:Nat)+(aF (fun _=>3) p.aj:Nat)+(aF (fun _=>2) p.L9:Nat)≤90000000:=by have:=h1; unfold fb at this; omega
 have q3:1≤k+(aF bj p.L8:Nat)+(aF (fun _=>3) p.aj:Nat)+(aF (fun _=>2) p.L9:Nat)∧k+(aF bj p.L8:Nat)+(aF (fun _=>3) p.aj:Nat)+(aF (fun _=>2) p.L9:Nat)+(aF (fun _=>3) p.ag:Nat)≤90000000:=by have:=h1; unfold fb at this; omega
 have q4:1≤k+(aF bj p.L8:Nat)+(aF (fun _=>3) p.aj:Nat)+(aF (fun _=>2) p.L9:Nat)+(aF (fun _=>3) p.ag:Nat)∧k+(aF bj p.L8:Nat)+(aF (fun _=>3) p.aj:Nat)+(aF (fun _=>2) p.L9:Nat)+(aF (fun _=>3) p.ag:Nat)+(aF bN p.ae:Nat)≤90000000:=by have:=h1; unfold fb at this; omega
 have q5:1≤k+(aF bj p.L8:Nat)+(aF (fun _=>3) p.aj:Nat)+(aF (fun _=>2) p.L9:Nat)+(aF (fun _=>3) p.ag:Nat)+(aF bN p.ae:Nat)∧k+(aF bj p.L8:Nat)+(aF (fun _=>3) p.aj:Nat)+(aF (fun _=>2) p.L9:Nat)+(aF (fun _=>3) p.ag:Nat)+(aF bN p.ae:Nat)+(aF eo p.ai:Nat)≤90000000:=by have:=h1; unfold fb at this; omega
 clear hc h1 ho;unfold af.cells
 go_enter func10,ntmps10
 go_wp2_with fail;generalize w.alloc (c_ p.row 38)=W0 at *;refine (BB p.aN p.L8 p.aW (k) W0 base HC.I.1.dl HC.I.1.L8 q0.1 q0.2 HX.I.2.1.L8 HX.I.2.1.eI (by
  have h5:=HX.I.2.1.nodup;have h6:af.Mc p=p.Mc:=rfl;rw [h6,show p.Mc= [] ++ ((blk p.aN ++ p.L8.filterMap aR.bt) ++ (blk p.bc ++ (blk p.ay ++ (blk p.ax ++ (blk p.am ++ (p.ae.filterMap aC.bt ++ (blk p.aK ++ (p.ai.filterMap aU.bt)))))))) by simp [af.Mc,Lm]] at h5;exact (Kf.1 (Kf.1 h5).2.1).1)).mono ?_
 rintro e W1 ⟨rfl,how,Ji,hkb⟩;have ht:=HX.I.2.1.As how (bE _ _ _ _) Ji (pr (N:=aR) (f:=cw) (c:=bj) (fun _ _=>rfl) _ _) hkb;have HQ1:Hid (af.Mc ({ p with L8:=aJ cw bj (k) p.L8 } :af)=p.Mc):=ht.2.trans rfl;have hsub: ∀ g∈blk p.aN ++ p.L8.filterMap aR.bt,g∈p.Mc:=fun g hg=>by rw [show p.Mc= [] ++ ((blk p.aN ++ p.L8.filterMap aR.bt) ++ (blk p.bc ++ (blk p.ay ++ (blk p.ax ++ (blk p.am ++ (p.ae.filterMap aC.bt ++ (blk p.aK ++ (p.ai.filterMap aU.bt)))))))) by simp [af.Mc,Lm]]; exact Ly _ (Lz _ hg)
 have hpb:w.heap.size∉p.Mc:=fun hm=>by have:=HB.I _ hm; omega
 have HY:Hid (av W1 w.heap.size p∧ap W1 base ({ p with L8:=aJ cw bj (k) p.L8 } :af)∧aI w W1 p.Mc):=⟨(hkb.same _ (J2.1 HX.I.1).1 fun hm=>hpb (hsub _ hm)).trans HX.I.1,ht.1,HX.I.2.2.trans (hkb.mono hsub)⟩
 clear HX how hkb ht hsub hpb Ji;have HX:=HY;clear HY;have m0:W1.cell? ⟨w.heap.size,3,n_⟩=o_ (s_ p.bc p.aj.length p.bF):=by have:=HX.I.1; unfold av at this; simp [World.cell?,this]
 go_wp2_with fail;clear m0;refine (CF p.bc p.aj p.bF (k+(aF bj p.L8:Nat)) W1 base HC.I.1.fx q1.1 q1.2 HX.I.2.1.aj).mono ?_;rintro e W2 ⟨rfl,how,hkb⟩;have ht:=HX.I.2.1.DT how (bE _ _ _ _) hkb;have ky:Hid (af.Mc ({ p with L8:=aJ cw bj (k) p.L8,aj:=aJ hJ (fun _=>3) (k+(aF bj p.L8:Nat)) p.aj } :af)=p.Mc):=ht.2.trans HQ1.I;have hsub: ∀ g∈blk p.bc,g∈p.Mc:=fun g hg=>by rw [show p.Mc=(blk p.aN ++ p.L8.filterMap aR.bt) ++ ((blk p.bc) ++ (blk p.ay ++ (blk p.ax ++ (blk p.am ++ (p.ae.filterMap aC.bt ++ (blk p.aK ++ (p.ai.filterMap aU.bt))))))) by simp [af.Mc,Lm]]; exact Ly _ (Lz _ hg)
 have hpb:w.heap.size∉p.Mc:=fun hm=>by have:=HB.I _ hm; omega
 have HY:Hid (av W2 w.heap.size p∧ap W2 base ({ p with L8:=aJ cw bj (k) p.L8,aj:=aJ hJ (fun _=>3) (k+(aF bj p.L8:Nat)) p.aj } :af)∧aI w W2 p.Mc):=⟨(hkb.same _ (J2.1 HX.I.1).1 fun hm=>hpb (hsub _ hm)).trans HX.I.1,ht.1,HX.I.2.2.trans (hkb.mono hsub)⟩
 clear HX how hkb ht hsub hpb;have HX:=HY;clear HY;have m1:W2.cell? ⟨w.heap.size,4,n_⟩=o_ (s_ p.ay p.L9.length p.aO):=by have:=HX.I.1; unfold av at this; simp [World.cell?,this]
 go_wp2_with fail;clear m1;refine (zw p.ay p.L9 p.aO (k+(aF bj p.L8:Nat)+(aF (fun _=>3) p.aj:Nat)) W2 base HC.I.1.cD q2.1 q2.2 HX.I.2.1.L9).mono ?_;rintro e W3 ⟨rfl,how,hkb⟩;have ht:=HX.I.2.1.xA how (bE _ _ _ _) hkb;have Ck:Hid (af.Mc ({ p with L8:=aJ cw bj (k) p.L8,aj:=aJ hJ (fun _=>3) (k+(aF bj p.L8:Nat)) p.aj,L9:=aJ eM (fun _=>2) (k+(aF bj p.L8:Nat)+(aF (fun _=>3) p.aj:Nat)) p.L9 } :af)=p.Mc):=ht.2.trans ky.I;have hsub: ∀ g∈blk p.ay,g∈p.Mc:=fun g hg=>by rw [show p.Mc=(blk p.aN ++ p.L8.filterMap aR.bt ++ blk p.bc) ++ ((blk p.ay) ++ (blk p.ax ++ (blk p.am ++ (p.ae.filterMap aC.bt ++ (blk p.aK ++ (p.ai.filterMap aU.bt)))))) by simp [af.Mc,Lm]]; exact Ly _ (Lz _ hg)
 have hpb:w.heap.size∉p.Mc:=fun hm=>by have:=HB.I _ hm; omega
 have HY:Hid (av W3 w.heap.size p∧ap W3 base ({ p with L8:=aJ cw bj (k) p.L8,aj:=aJ hJ (fun _=>3) (k+(aF bj p.L8:Nat)) p.aj,L9:=aJ eM (fun _=>2) (k+(aF bj p.L8:Nat)+(aF (fun _=>3) p.aj:Nat)) p.L9 } :af)∧aI w W3 p.Mc):=⟨(hkb.same _ (J2.1 HX.I.1).1 fun hm=>hpb (hsub _ hm)).trans HX.I.1,ht.1,HX.I.2.2.trans (hkb.mono hsub)⟩
 clear HX how hkb ht hsub hpb;have HX:=HY;clear HY;have m2:W3.cell? ⟨w.heap.size,5,n_⟩=o_ (s_ p.ax p.ag.length p.aP):=by have:=HX.I.1; unfold av at this; simp [World.cell?,this]
 go_wp2_with fail;clear m2;refine (zB p.ax p.ag p.aP (k+(aF bj p.L8:Nat)+(aF (fun _=>3) p.aj:Nat)+(aF (fun _=>2) p.L9:Nat)) W3 base HC.I.1.cC q3.1 q3.2 HX.I.2.1.ag).mono ?_;rintro e W4 ⟨rfl,how,hkb⟩;have ht:=HX.I.2.1.xM how (bE _ _ _ _) hkb;have Xc:Hid (af.Mc (mkT1 p k)=p.Mc):=ht.2.trans Ck.I;have hsub: ∀ g∈blk p.ax,g∈p.Mc:=fun g hg=>by rw [show p.Mc=(blk p.aN ++ p.L8.filterMap aR.bt ++ blk p.bc ++ blk p.ay) ++ ((blk p.ax) ++ (blk p.am ++ (p.ae.filterMap aC.bt ++ (blk p.aK ++ (p.ai.filterMap aU.bt))))) by simp [af.Mc,Lm]]; exact Ly _ (Lz _ hg)
 have hpb:w.heap.size∉p.Mc:=fun hm=>by have:=HB.I _ hm; omega
 have HY:Hid (av W4 w.heap.size p∧ap W4 base (mkT1 p k)∧aI w W4 p.Mc):=⟨(hkb.same _ (J2.1 HX.I.1).1 fun hm=>hpb (hsub _ hm)).trans HX.I.1,ht.1,HX.I.2.2.trans (hkb.mono hsub)⟩
 clear HX how hkb ht hsub hpb;have HX:=HY;clear HY;have m3:W4.cell? ⟨w.heap.size,6,n_⟩=o_ (s_ p.am p.ae.length p.aG):=by have:=HX.I.1; unfold av at this; simp [World.cell?,this]
 go_wp2_with fail;clear m3;refine (wX p.am p.ae p.aG (k+(aF bj p.L8:Nat)+(aF (fun _=>3) p.aj:Nat)+(aF (fun _=>2) p.L9:Nat)+(aF (fun _=>3) p.ag:Nat)) W4 base HC.I.1.cb HC.I.1.ae q4.1 q4.2 HX.I.2.1.ae HX.I.2.1.eE (by
  have h5:=HX.I.2.1.nodup;have h6:af.Mc (mkT1 p k)=p.Mc:=Xc.I;rw [h6,show p.Mc=(blk p.aN ++ p.L8.filterMap aR.bt ++ blk p.bc ++ blk p.ay ++ blk p.ax) ++ ((blk p.am ++ p.ae.filterMap aC.bt) ++ (blk p.aK ++ (p.ai.filterMap aU.bt))) by simp [af.Mc,Lm]] at h5;exact (Kf.1 (Kf.1 h5).2.1).1)).mono ?_
 rintro e W5 ⟨rfl,how,Ji,hkb⟩;have ht:=HX.I.2.1.CJ how (bE _ _ _ _) Ji (pr (N:=aC) (f:=dy) (c:=bN) (fun _ _=>rfl) _ _) hkb;have Xb:Hid (af.Mc (mkT0 p k)=p.Mc):=ht.2.trans Xc.I;have hsub: ∀ g∈blk p.am ++ p.ae.filterMap aC.bt,g∈p.Mc:=fun g hg=>by rw [show p.Mc=(blk p.aN ++ p.L8.filterMap aR.bt ++ blk p.bc ++ blk p.ay ++ blk p.ax) ++ ((blk p.am ++ p.ae.filterMap aC.bt) ++ (blk p.aK ++ (p.ai.filterMap aU.bt))) by simp [af.Mc,Lm]]; exact Ly _ (Lz _ hg)
 have hpb:w.heap.size∉p.Mc:=fun hm=>by have:=HB.I _ hm; omega
 have HY:Hid (av W5 w.heap.size p∧ap W5 base (mkT0 p k)∧aI w W5 p.Mc):=⟨(hkb.same _ (J2.1 HX.I.1).1 fun hm=>hpb (hsub _ hm)).trans HX.I.1,ht.1,HX.I.2.2.trans (hkb.mono hsub)⟩
 clear HX how hkb ht hsub hpb Ji;have HX:=HY;clear HY;have m4:W5.cell? ⟨w.heap.size,7,n_⟩=o_ (s_ p.aK p.ai.length p.aV):=by have:=HX.I.1; unfold av at this; simp [World.cell?,this]
 go_wp2_with fail;clear m4;refine (AU p.aK p.ai p.aV (k+(aF bj p.L8:Nat)+(aF (fun _=>3) p.aj:Nat)+(aF (fun _=>2) p.L9:Nat)+(aF (fun _=>3) p.ag:Nat)+(aF bN p.ae:Nat)) W5 base HC.I.1.dH HC.I.1.ai q5.1 q5.2 HX.I.2.1.ai HX.I.2.1.eR (by
  have h5:=HX.I.2.1.nodup;have h6:af.Mc (mkT0 p k)=p.Mc:=Xb.I;rw [h6,show p.Mc=(blk p.aN ++ p.L8.filterMap aR.bt ++ blk p.bc ++ blk p.ay ++ blk p.ax ++ blk p.am ++ p.ae.filterMap aC.bt) ++ ((blk p.aK ++ p.ai.filterMap aU.bt) ++ []) by simp [af.Mc,Lm]] at h5;exact (Kf.1 (Kf.1 h5).2.1).1)).mono ?_
 rintro e W6 ⟨rfl,how,Ji,hkb⟩;have ht:=HX.I.2.1.Gu how (bE _ _ _ _) Ji (pr (N:=aU) (f:=fU) (c:=eo) (fun _ _=>rfl) _ _) hkb;have HQ6:Hid (af.Mc ({ p with L8:=aJ cw bj (k) p.L8,aj:=aJ hJ (fun _=>3) (k+(aF bj p.L8:Nat)) p.aj,L9:=aJ eM (fun _=>2) (k+(aF bj p.L8:Nat)+(aF (fun _=>3) p.aj:Nat)) p.L9,ag:=aJ dZ (fun _=>3) (k+(aF bj p.L8:Nat)+(aF (fun _=>3) p.aj:Nat)+(aF (fun _=>2) p.L9:Nat)) p.ag,ae:=aJ dy bN (k+(aF bj p.L8:Nat)+(aF (fun _=>3) p.aj:Nat)+(aF (fun _=>2) p.L9:Nat)+(aF (fun _=>3) p.ag:Nat)) p.ae,ai:=aJ fU eo (k+(aF bj p.L8:Nat)+(aF (fun _=>3) p.aj:Nat)+(aF (fun _=>2) p.L9:Nat)+(aF (fun _=>3) p.ag:Nat)+(aF bN p.ae:Nat)) p.ai } :af)=p.Mc):=ht.2.trans Xb.I;have hsub: ∀ g∈blk p.aK ++ p.ai.filterMap aU.bt,g∈p.Mc:=fun g hg=>by rw [show p.Mc=(blk p.aN ++ p.L8.filterMap aR.bt ++ blk p.bc ++ blk p.ay ++ blk p.ax ++ blk p.am ++ p.ae.filterMap aC.bt) ++ ((blk p.aK ++ p.ai.filterMap aU.bt) ++ []) by simp [af.Mc,Lm]]; exact Ly _ (Lz _ hg)
 have hpb:w.heap.size∉p.Mc:=fun hm=>by have:=HB.I _ hm; omega
 have HY:Hid (av W6 w.heap.size p∧ap W6 base ({ p with L8:=aJ cw bj (k) p.L8,aj:=aJ hJ (fun _=>3) (k+(aF bj p.L8:Nat)) p.aj,L9:=aJ eM (fun _=>2) (k+(aF bj p.L8:Nat)+(aF (fun _=>3) p.aj:Nat)) p.L9,ag:=aJ dZ (fun _=>3) (k+(aF bj p.L8:Nat)+(aF (fun _=>3) p.aj:Nat)+(aF (fun _=>2) p.L9:Nat)) p.ag,ae:=aJ dy bN (k+(aF bj p.L8:Nat)+(aF (fun _=>3) p.aj:Nat)+(aF (fun _=>2) p.L9:Nat)+(aF (fun _=>3) p.ag:Nat)) p.ae,ai:=aJ fU eo (k+(aF bj p.L8:Nat)+(aF (fun _=>3) p.aj:Nat)+(aF (fun _=>2) p.L9:Nat)+(aF (fun _=>3) p.ag:Nat)+(aF bN p.ae:Nat)) p.ai } :af)∧aI w W6 p.Mc):=⟨(hkb.same _ (J2.1 HX.I.1).1 fun hm=>hpb (hsub _ hm)).trans HX.I.1,ht.1,HX.I.2.2.trans (hkb.mono hsub)⟩
 clear HX how hkb ht hsub hpb Ji;have HX:=HY;clear HY;go_wp2;go_ret;exact ⟨ck (by unfold fb; omega),HX.I.2.1,HX.I.2.2⟩
theorem Wr (p:af) (k:Int) (w:w_) (hc:p.WN) (h0:1≤k) (h1:k+(fb p:Nat)≤90000000) (ho:af.At w (nF k p)):
  k_ J3 11 #[a_ p.cells,i_ j_ k] w fun e w'=>e=r_ (i_ j_ (k+(fb p:Nat)))∧B_ w.heap.size w w':=by
 have HC:Hid (p.WN∧k+(fb p:Nat)≤90000000):=⟨hc,h1⟩
 have HX:Hid (av (w.alloc (c_ p.row 38)) w.heap.size p∧af.At (w.alloc (c_ p.row 38)) (nF k p)∧B_ w.heap.size w (w.alloc (c_ p.row 38))):=⟨Kj _ _,ho.below ((Kp _ _).alloc (Ki _) _),(Kp _ _).alloc (Ki _) _⟩
 have q0:1≤k∧k+(aF bj p.L8:Nat)≤90000000:=by have:=h1; unfold fb at this; omega
 have q1:1≤k+(aF bj p.L8:Nat)∧k+(aF bj p.L8:Nat)+(aF (fun _=>3) p.aj:Nat)≤90000000:=by have:=h1; unfold fb at this; omega
 have q2:1≤k+(aF bj p.L8:Nat)+(aF (fun _=>3) p.aj:Nat)∧k+(aF bj p.L8:Nat)+(aF (fun _=>3) p.aj:Nat)+(aF (fun _=>2) p.L9:Nat)≤90000000:=by have:=h1; unfold fb at this; omega
 have q3:1≤k+(aF bj p.L8:Nat)+(aF (fun _=>3) p.aj:Nat)+(aF (fun _=>2) p.L9:Nat)∧k+(aF bj p.L8:Nat)+(aF (fun _=>3) p.aj:Nat)+(aF (fun _=>2) p.L9:Nat)+(aF (fun _=>3) p.ag:Nat)≤90000000:=by have:=h1; unfold fb at this; omega
 have q4:1≤k+(aF bj p.L8:Nat)+(aF (fun _=>3) p.aj:Nat)+(aF (fun _=>2) p.L9:Nat)+(aF (fun _=>3) p.ag:Nat)∧k+(aF bj p.L8:Nat)+(aF (fun _=>3) p.aj:Nat)+(aF (fun _=>2) p.L9:Nat)+(aF (fun _=>3) p.ag:Nat)+(aF bN p.ae:Nat)≤90000000:=by have:=h1; unfold fb at this; omega
 have q5:1≤k+(aF bj p.L8:Nat)+(aF (fun _=>3) p.aj:Nat)+(aF (fun _=>2) p.L9:Nat)+(aF (fun _=>3) p.ag:Nat)+(aF bN p.ae:Nat)∧k+(aF bj p.L8:Nat)+(aF (fun _=>3) p.aj:Nat)+(aF (fun _=>2) p.L9:Nat)+(aF (fun _=>3) p.ag:Nat)+(aF bN p.ae:Nat)+(aF eo p.ai:Nat)≤90000000:=by have:=h1; unfold fb at this; omega
 clear hc h1 ho;unfold af.cells
 go_enter func11,ntmps11
 go_wp2_with fail;generalize w.alloc (c_ p.row 38)=W0 at *;refine (AZ p.aN p.L8 p.aW (k) W0 HC.I.1.dl HC.I.1.L8 q0.1 q0.2 HX.I.2.1.1).mono ?_;rintro e W1 ⟨rfl,hb⟩;have HY:Hid (av W1 w.heap.size p∧af.At W1 (nF k p)∧B_ w.heap.size w W1):=⟨HX.I.1.below hb,HX.I.2.1.below hb,HX.I.2.2.trans (hb.mono HX.I.2.2.size)⟩
 clear HX hb;have HX:=HY;clear HY;have nn0: ¬ k+(aF bj p.L8:Nat) < 0:=by omega
 have m0:W1.cell? ⟨w.heap.size,3,n_⟩=o_ (s_ p.bc p.aj.length p.bF):=by have:=HX.I.1; unfold av at this; simp [World.cell?,this]
 go_wp2_with fail;clear m0;refine (Cn p.bc p.aj p.bF (k+(aF bj p.L8:Nat)) W1 HC.I.1.fx q1.1 q1.2 HX.I.2.1.2.1).mono ?_;rintro e W2 ⟨rfl,hb⟩;have HY:Hid (av W2 w.heap.size p∧af.At W2 (nF k p)∧B_ w.heap.size w W2):=⟨HX.I.1.below hb,HX.I.2.1.below hb,HX.I.2.2.trans (hb.mono HX.I.2.2.size)⟩
 clear HX hb;have HX:=HY;clear HY;have nn1: ¬ k+(aF bj p.L8:Nat)+(aF (fun _=>3) p.aj:Nat) < 0:=by omega
 have m1:W2.cell? ⟨w.heap.size,4,n_⟩=o_ (s_ p.ay p.L9.length p.aO):=by have:=HX.I.1; unfold av at this; simp [World.cell?,this]
 go_wp2_with fail;clear m1;refine (yb p.ay p.L9 p.aO (k+(aF bj p.L8:Nat)+(aF (fun _=>3) p.aj:Nat)) W2 HC.I.1.cD q2.1 q2.2 HX.I.2.1.2.2.1).mono ?_;rintro e W3 ⟨rfl,hb⟩;have HY:Hid (av W3 w.heap.size p∧af.At W3 (nF k p)∧B_ w.heap.size w W3):=⟨HX.I.1.below hb,HX.I.2.1.below hb,HX.I.2.2.trans (hb.mono HX.I.2.2.size)⟩
 clear HX hb;have HX:=HY;clear HY;have nn2: ¬ k+(aF bj p.L8:Nat)+(aF (fun _=>3) p.aj:Nat)+(aF (fun _=>2) p.L9:Nat) < 0:=by omega
 have m2:W3.cell? ⟨w.heap.size,5,n_⟩=o_ (s_ p.ax p.ag.length p.aP):=by have:=HX.I.1; unfold av at this; simp [World.cell?,this]
 go_wp2_with fail;clear m2;refine (yF p.ax p.ag p.aP (k+(aF bj p.L8:Nat)+(aF (fun _=>3) p.aj:Nat)+(aF (fun _=>2) p.L9:Nat)) W3 HC.I.1.cC q3.1 q3.2 HX.I.2.1.2.2.2.1).mono ?_;rintro e W4 ⟨rfl,hb⟩;have HY:Hid (av W4 w.heap.size p∧af.At W4 (nF k p)∧B_ w.heap.size w W4):=⟨HX.I.1.below hb,HX.I.2.1.below hb,HX.I.2.2.trans (hb.mono HX.I.2.2.size)⟩
 clear HX hb;have HX:=HY;clear HY;have nn3: ¬ k+(aF bj p.L8:Nat)+(aF (fun _=>3) p.aj:Nat)+(aF (fun _=>2) p.L9:Nat)+(aF (fun _=>3) p.ag:Nat) < 0:=by omega
 have m3:W4.cell? ⟨w.heap.size,6,n_⟩=o_ (s_ p.am p.ae.length p.aG):=by have:=HX.I.1; unfold av at this; simp [World.cell?,this]
 go_wp2_with fail;clear m3;refine (wy p.am p.ae p.aG (k+(aF bj p.L8:Nat)+(aF (fun _=>3) p.aj:Nat)+(aF (fun _=>2) p.L9:Nat)+(aF (fun _=>3) p.ag:Nat)) W4 HC.I.1.cb HC.I.1.ae q4.1 q4.2 HX.I.2.1.2.2.2.2.1).mono ?_;rintro e W5 ⟨rfl,hb⟩;have HY:Hid (av W5 w.heap.size p∧af.At W5 (nF k p)∧B_ w.heap.size w W5):=⟨HX.I.1.below hb,HX.I.2.1.below hb,HX.I.2.2.trans (hb.mono HX.I.2.2.size)⟩
 clear HX hb;have HX:=HY;clear HY;have nn4: ¬ k+(aF bj p.L8:Nat)+(aF (fun _=>3) p.aj:Nat)+(aF (fun _=>2) p.L9:Nat)+(aF (fun _=>3) p.ag:Nat)+(aF bN p.ae:Nat) < 0:=by omega
 have m4:W5.cell? ⟨w.heap.size,7,n_⟩=o_ (s_ p.aK p.ai.length p.aV):=by have:=HX.I.1; unfold av at this; simp [World.cell?,this]
 go_wp2_with fail;clear m4;refine (Ah p.aK p.ai p.aV (k+(aF bj p.L8:Nat)+(aF (fun _=>3) p.aj:Nat)+(aF (fun _=>2) p.L9:Nat)+(aF (fun _=>3) p.ag:Nat)+(aF bN p.ae:Nat)) W5 HC.I.1.dH HC.I.1.ai q5.1 q5.2 HX.I.2.1.2.2.2.2.2).mono ?_;rintro e W6 ⟨rfl,hb⟩;have HY:Hid (av W6 w.heap.size p∧af.At W6 (nF k p)∧B_ w.heap.size w W6):=⟨HX.I.1.below hb,HX.I.2.1.below hb,HX.I.2.2.trans (hb.mono HX.I.2.2.size)⟩
 clear HX hb;have HX:=HY;clear HY;have nn5: ¬ k+(aF bj p.L8:Nat)+(aF (fun _=>3) p.aj:Nat)+(aF (fun _=>2) p.L9:Nat)+(aF (fun _=>3) p.ag:Nat)+(aF bN p.ae:Nat)+(aF eo p.ai:Nat) < 0:=by omega
 go_wp2;go_ret;exact ⟨ck (by unfold fb; omega),HX.I.2.2⟩
def CY (p:af) (B:Nat) (b0 d0 b1 d1 b2 d2 b3 e:Bool) (g0 g1 g2 o:Nat) (a0 a1 a2:Option d_) (c0 c1 c2:Nat):Act:=⟨#[a_ #[i_ j_ p.id,i_ j_ p.next,s_ p.aN p.L8.length p.aW,s_ p.bc p.aj.length p.bF,s_ p.ay p.L9.length p.aO,s_ p.ax p.ag.length p.aP,s_ p.am p.ae.length p.aG,s_ p.aK p.ai.length p.aV],p_ (o_ ⟨B,0,n_⟩),p_ (o_ ⟨(B+1),0,n_⟩),bif b3 then p_ (o_ ⟨o,0,n_⟩) else undef,undef,undef,undef,undef,undef,undef,p_ (o_ ⟨B,0,n_⟩),i_ j_ p.id,p_ (o_ ⟨B,1,n_⟩),i_ j_ p.next,bif b0 then s_ (o_ ⟨g0,0,n_⟩) 0 0 else undef,p_ (o_ ⟨B,3,n_⟩),s_ p.bc p.aj.length p.bF,bif d0 then s_ a0 p.aj.length c0 else undef,bif b1 then s_ (o_ ⟨g1,0,n_⟩) 0 0 else undef,p_ (o_ ⟨B,4,n_⟩),s_ p.ay p.L9.length p.aO,bif d1 then s_ a1 p.L9.length c1 else undef,bif b2 then s_ (o_ ⟨g2,0,n_⟩) 0 0 else undef,p_ (o_ ⟨B,5,n_⟩),s_ p.ax p.ag.length p.aP,bif d2 then s_ a2 p.ag.length c2 else undef,bif e then a_ #[i_ j_ p.id,i_ j_ p.next,s_ n_ 0 0,s_ a0 p.aj.length c0,s_ a1 p.L9.length c1,s_ a2 p.ag.length c2,s_ n_ 0 0,s_ n_ 0 0] else undef,undef,undef,undef,undef,undef,undef,undef,undef,undef,undef,undef,undef,undef,undef,undef,undef,undef,undef,undef,undef,undef,undef,undef,undef,undef,undef,undef,undef,undef,undef,undef,undef,undef,undef,undef,undef,undef,undef,undef,undef,undef,undef,undef,undef,undef,undef,undef,undef,undef,undef,undef,undef,undef,undef,undef,undef,undef,undef,undef,undef,undef,undef,undef,undef,undef,undef,undef,undef,undef,undef],[]⟩
def IP (p:af) (We:w_) (l:Array Bool) (a:Act) (w:w_):Prop:= ∃ (b0 d0 b1 d1 b2 d2 b3 d3 e:Bool) (g0 g1 g2 o:Nat) (a0 a1 a2:Option d_) (c0 c1 c2:Nat),l= #[true,true,true,true,b0,true,true,d0,b1,true,true,d1,b2,true,true,d2,e,b3,d3] ∧a=CY p We.heap.size b0 d0 b1 d1 b2 d2 b3 e g0 g1 g2 o a0 a1 a2 c0 c1 c2∧fI p We w b0 d0 b1 d1 b2 d2 b3 d3 e g0 g1 g2 o a0 a1 a2 c0 c1 c2
abbrev pcA (x:ao) (a2:Option d_) (c2:Nat):Array v_:= #[i_ j_ x.id,i_ j_ x.RX,s_ a2 x.prog.length c2,i_ j_ x.Md,i_ j_ x.pc,i_ j_ x.left,i_ j_ x.Mg,i_ j_ x.on,t_ x.held,t_ x.got,i_ j_ x.code,i_ j_ x.RU]
abbrev pcB (x:aM) (a2:Option d_) (c2:Nat):Array v_:= #[i_ j_ x.id,b_ x.I,b_ x.Mf,i_ j_ x.max,s_ a2 x.Ma.length c2]
structure cL (p:af) (We w:w_) (o:Nat) (q:af):Prop where
 cd:B_ We.heap.size We w
 part:av w We.heap.size p
 ret:w.heap[We.heap.size+1]? =o_ (c_ ar 38)
 I:av w o q
 own:ap w (We.heap.size+2) q
 low:We.heap.size+2≤o
 free:o∉q.Mc
theorem cL.below {p:af} {We w w':w_} {o:Nat} {q:af} (h:cL p We w o q) (hb:B_ w.heap.size w w'):cL p We w' o q:=
 ⟨h.cd.trans (hb.mono h.cd.size),h.part.below hb,(hb.block _ (J2.1 h.ret).1).trans h.ret,h.I.below hb,h.own.below hb,h.low,h.free⟩
theorem cL.start {p:af} {We w:w_} {g0 g1 g2 o:Nat} {a0 a1 a2:Option d_} {c0 c1 c2:Nat} (h:fI p We w true true true true true true true true true g0 g1 g2 o a0 a1 a2 c0 c1 c2):
  cL p We w o ⟨p.id,p.next,[],n_,0,p.aj,a0,c0,p.L9,a1,c1,p.ag,a2,c2,[],n_,0,[],n_,0⟩:=by
 have hap:=h.pR.apart;refine ⟨h.cd,h.part,h.ret,h.I rfl,⟨Ke _ _ _ _,h.s0.done rfl,h.s1.done rfl,h.s2.done rfl,Ke _ _ _ _,Ke _ _ _ _,(fun x hx=>by cases hx),(fun x hx=>by cases hx),(fun x hx=>by cases hx),?_⟩,(h.pR.xy 3 o ZdW).1,?_⟩
 ·have e:af.Mc ⟨p.id,p.next,[],n_,0,p.aj,a0,c0,p.L9,a1,c1,p.ag,a2,c2,[],n_,0,[],n_,0⟩=blk a0 ++ (blk a1 ++ blk a2):=by simp [af.Mc,blk]
  rw [e];simp only [Kf,Kg];refine ⟨fN _,⟨fN _,fN _,fun a ha b hb e=> ?_⟩,fun a ha b hb e=> ?_⟩
  ·subst e
   exact hap 1 2 (by decide) a ZdU Zdd
  ·subst e
   rcases hb with hb | hb
   ·exact hap 0 1 (by decide) a ZdU Zdd
   ·exact hap 0 2 (by decide) a ZdU Zdd
 ·have e:af.Mc ⟨p.id,p.next,[],n_,0,p.aj,a0,c0,p.L9,a1,c1,p.ag,a2,c2,[],n_,0,[],n_,0⟩=blk a0 ++ (blk a1 ++ blk a2):=by simp [af.Mc,blk]
  rw [e];simp only [Kg];rintro (hb | hb | hb)
  ·exact hap 3 0 (by decide) o ZdW Zdd
  ·exact hap 3 1 (by decide) o ZdW Zdd
  ·exact hap 3 2 (by decide) o ZdW Zdd
theorem di {a:Option d_} {n c g:Nat} (h:(Value.slice a n c).ownBlock=o_ g):g∈blk a:=by
 cases a with
 | none=>simp [Value.ownBlock] at h
 | some ad=>simp [Value.ownBlock] at h; simp [blk,h]
theorem aH {w:w_} {o i g:Nat} {v:v_} (h:g≠o):(w.setCell ⟨o,i,n_⟩ v).heap[g]? =w.heap[g]? :=de [v] h
theorem cx {w:w_} {o i:Nat} {v:v_} {cs:Array v_} {t:T_} (h:w.heap[o]? =o_ (c_ cs t)):(w.setCell ⟨o,i,n_⟩ v).heap[o]? =o_ (c_ (cs.setIfInBounds i v) t):=jc [v] h
theorem bP {B o i:Nat} {w0 w:w_} {v:v_} (h:B_ B w0 w) (hb:B≤o):B_ B w0 (w.setCell ⟨o,i,n_⟩ v):=
 ⟨h.os,h.tape,h.output,by have:=h.size; rw [show (w.setCell ⟨o,i,n_⟩ v).heap.size=w.heap.size from fH [v]]; exact this,fun k hk=>(aH (by omega)).trans (h.block k hk)⟩
theorem IV {p q:af} {k:Nat} (h:q.pure= { p.pure with L8:=p.pure.L8.take k,ae:= [],ai:= [] }) (hk:k≤p.L8.length):q.L8.length=k:=by
 have h5:=congrArg (fun z=>(aE.L8 z).length) h;simp [af.pure] at h5;omega
theorem Fs {p q:af} {k:Nat} (h:q.pure= { p.pure with ae:=p.pure.ae.take k,ai:= [] }) (hk:k≤p.ae.length):q.ae.length=k:=by
 have h5:=congrArg (fun z=>(aE.ae z).length) h;simp [af.pure] at h5;omega
theorem I0 {p q:af} {k:Nat} (h:q.pure= { p.pure with ai:=p.pure.ai.take k }) (hk:k≤p.ai.length):q.ai.length=k:=by
 have h5:=congrArg (fun z=>(aE.ai z).length) h;simp [af.pure] at h5;omega
theorem cL.yg {p:af} {We w w':w_} {o:Nat} {q:af} {x:ao} {a:Option d_} {c:Nat} (h:cL p We w o q) (hm:aR.cO w (We.heap.size+2) x) (hx: ∀ g,aR.bt x=o_ g→g∉q.Mc∧g≠o)
  (ho:w'.ownsRow (We.heap.size+2) 100 12 (s_ a (q.L8.length+1) c) (q.L8.length+1) (bg.flat (q.L8 ++ [x]))) (hg:w.grownBy w' ((Value.slice q.aN q.L8.length q.aW).ownBlock)) (hb: ∀ g∈blk a,g∈blk q.aN∨g=w.heap.size):
  cL p We (w'.setCell ⟨o,2,n_⟩ (s_ a (q.L8.length+1) c)) o ({ q with L8:=q.L8 ++ [x],aN:=a,aW:=c } :af):=by
 have p7:o < w.heap.size:=(J2.1 h.I).1;have hrow: ∀ g,g < w.heap.size→g∉blk q.aN→w'.heap[g]? =w.heap[g]? :=fun g hgl hn=>hg.block g hgl fun e=>hn (di e.symm)
 obtain ⟨hown,hbl⟩:=h.own.yg hm (fun g hk=>(hx g hk).1) ho hrow hb;have hoA:o∉blk q.aN:=fun hm'=>h.free (by simp [af.Mc,hm'])
 have hlow: ∀ g,g∈blk q.aN→We.heap.size+2≤g:=fun g hg'=>(cf h.own.L8 hg').1
 have hfree:o∉({ q with L8:=q.L8 ++ [x],aN:=a,aW:=c } :af).Mc:=fun hm'=>by
  exact Za0
 have hsc: ∀ g,g≠o→(w'.setCell ⟨o,2,n_⟩ (s_ a (q.L8.length+1) c)).heap[g]? =w'.heap[g]? :=fun g hne=>aH hne
 have lY:B_ We.heap.size We w':=h.cd.grown hg (by have:=h.low; omega) (fun k hk=>by have:=hlow k (di hk); omega);have hout:w'.heap[o]? =w.heap[o]? :=hrow o p7 hoA;have hlo:=h.low;refine ⟨bP lY (by omega),(hsc _ (by omega)).trans ((hrow _ (by omega) fun hm'=>by have:=hlow _ hm'; omega).trans h.part),(hsc _ (by omega)).trans ((hrow _ (by omega) fun hm'=>by have:=hlow _ hm'; omega).trans h.ret),?_,hown.same fun g hg'=>hsc g fun e=>hfree (e ▸ hg'),h.low,hfree⟩;have h5:=cx (i:=2) (v:=s_ a (q.L8.length+1) c) (hout.trans h.I);have e:(q.L8 ++ [x]).length=q.L8.length+1:=by simp
 unfold av;simp only [e];exact h5
def vt (wr w7:w_) (x:ao) (a2:Option d_) (c2:Nat):Prop:=w7.heap[wr.heap.size]? =o_ (c_ #[i_ j_ x.id,i_ j_ x.RX,s_ x.aY x.prog.length x.bH,i_ j_ x.Md,i_ j_ x.pc,i_ j_ x.left,i_ j_ x.Mg,i_ j_ x.on,t_ x.held,t_ x.got,i_ j_ x.code,i_ j_ x.RU] 100)∧B_ wr.heap.size wr w7∧w7.ownsRow wr.heap.size 165 4 (s_ a2 x.prog.length c2) x.prog.length (fk.flat x.prog)∧ ∀ g∈blk a2,g=wr.heap.size+1∨g=wr.heap.size+2
section
variable {p q:af} {We wr w7 pH W8 W9:w_} {o c2 c k:Nat} {x:ao} {a2 a:Option d_}
theorem cL.ago (h:cL p We wr o q) (h7:vt wr w7 x a2 c2) (e8:W8=w7.setCell ⟨wr.heap.size,2,n_⟩ (s_ a2 x.prog.length c2)):W8.cell? ⟨o,2,n_⟩=o_ (s_ q.aN q.L8.length q.aW)∧W8.cell? ⟨wr.heap.size,0,n_⟩=o_ (i_ j_ x.id)∧W8.cell? ⟨wr.heap.size,1,n_⟩=o_ (i_ j_ x.RX)∧W8.cell? ⟨wr.heap.size,2,n_⟩=o_ (s_ a2 x.prog.length c2)∧W8.cell? ⟨wr.heap.size,3,n_⟩=o_ (i_ j_ x.Md)∧W8.cell? ⟨wr.heap.size,4,n_⟩=o_ (i_ j_ x.pc)∧W8.cell? ⟨wr.heap.size,5,n_⟩=o_ (i_ j_ x.left)∧W8.cell? ⟨wr.heap.size,6,n_⟩=o_ (i_ j_ x.Mg)∧W8.cell? ⟨wr.heap.size,7,n_⟩=o_ (i_ j_ x.on)∧W8.cell? ⟨wr.heap.size,8,n_⟩=o_ (t_ x.held)∧W8.cell? ⟨wr.heap.size,9,n_⟩=o_ (t_ x.got)∧W8.cell? ⟨wr.heap.size,10,n_⟩=o_ (i_ j_ x.code)∧W8.cell? ⟨wr.heap.size,11,n_⟩=o_ (i_ j_ x.RU):=by
 subst e8;have p7:o < wr.heap.size:=(J2.1 h.I).1;have h1:=(aH (i:=2) (v:=s_ a2 x.prog.length c2) (by omega:o≠wr.heap.size)).trans (h7.2.1.block o p7);have h2:=cx (i:=2) (v:=s_ a2 x.prog.length c2) h7.1;exact Za1
theorem cL.Hm (h7:vt wr w7 x a2 c2) (e8:W8=w7.setCell ⟨wr.heap.size,2,n_⟩ (s_ a2 x.prog.length c2)) (e9:W9=W8.alloc (c_ (pcA x a2 c2) 100)):B_ wr.heap.size wr W9∧W8.heap.size=w7.heap.size:=by
 exact Za6
theorem cL.IH (h:cL p We wr o q) (h7:vt wr w7 x a2 c2) (e8:W8=w7.setCell ⟨wr.heap.size,2,n_⟩ (s_ a2 x.prog.length c2)) (e9:W9=W8.alloc (c_ (pcA x a2 c2) 100)):W9.ownsRow (We.heap.size+2) 100 12 (s_ q.aN q.L8.length q.aW) q.L8.length (bg.flat q.L8)∧W9.heap[w7.heap.size]? =o_ (c_ (pcA x a2 c2) 100):=by
 have kN:=cL.Hm h7 e8 e9;refine ⟨(h.below kN.1).own.L8,?_⟩;subst e9;have h5:=Kj W8 (c_ (pcA x a2 c2) 100)
 rwa [kN.2] at h5
theorem cL.upProc (h:q.pure= { p.pure with L8:=p.pure.L8.take k,ae:= [],ai:= [] }) (hx:p.L8[k]? =o_ x):({ q with L8:=q.L8 ++ [({ x with aY:=a2,bH:=c2 } :ao)],aN:=a,aW:=c } :af).pure= { p.pure with L8:=p.pure.L8.take (k+1),ae:= [],ai:= [] } :=by
 have e:p.pure.L8.take (k+1)=p.pure.L8.take k ++ [x.toaD] :=by
  rw [cj (x:=x.toaD)]
  show (p.L8.map (·.toaD))[k]? =_
  rw [Kk,hx];rfl
 rw [e];have h5:=congrArg aE.L8 h;have h6:(q.L8 ++ [({ x with aY:=a2,bH:=c2 } :ao)]).map (·.toaD)=p.pure.L8.take k ++ [x.toaD] :=by
  rw [Kl];exact congrArg (· ++ [x.toaD]) h5
 show ({ q.pure with L8:=(q.L8 ++ [({ x with aY:=a2,bH:=c2 } :ao)]).map (·.toaD) } :aE)=_
 rw [h6,h]
theorem cL.G5 (h:cL p We wr o q) (h7:vt wr w7 x a2 c2) (e8:W8=w7.setCell ⟨wr.heap.size,2,n_⟩ (s_ a2 x.prog.length c2)) (e9:W9=W8.alloc (c_ (pcA x a2 c2) 100))
  (ho:pH.ownsRow (We.heap.size+2) 100 12 (s_ a (q.L8.length+1) c) (q.L8.length+1) (bg.flat q.L8 ++ bg.vals ({ x with aY:=a2,bH:=c2 } :ao))) (hg:W9.grownBy pH ((Value.slice q.aN q.L8.length q.aW).ownBlock))
  (hb:(Value.slice a (q.L8.length+1) c).ownBlock=(Value.slice q.aN q.L8.length q.aW).ownBlock∨(Value.slice a (q.L8.length+1) c).ownBlock=o_ W9.heap.size):
  cL p We (pH.setCell ⟨o,2,n_⟩ (s_ a (q.L8.length+1) c)) o ({ q with L8:=q.L8 ++ [({ x with aY:=a2,bH:=c2 } :ao)],aN:=a,aW:=c } :af)∧pH.cell? ⟨o,2,n_⟩=o_ (s_ q.aN q.L8.length q.aW)∧pH.frozen? ⟨o,2,n_⟩=false:=by
 have p7:o < wr.heap.size:=(J2.1 h.I).1;obtain ⟨kN,hs8⟩:=cL.Hm h7 e8 e9;have h9:=h.below kN;have hlow:=h.low;have hm:aR.cO W9 (We.heap.size+2) ({ x with aY:=a2,bH:=c2 } :ao):=by
  exact M_
 have hx: ∀ g,aR.bt ({ x with aY:=a2,bH:=c2 } :ao)=o_ g→g∉q.Mc∧g≠o:=fun g hk=>by
  exact ZaL
 have hn: ∀ g∈blk a,g∈blk q.aN∨g=W9.heap.size:=fun g hg'=>by
  exact Q_
 have hL:=h9.yg hm hx (by rw [bg.dc]; exact ho) hg hn;exact N_
end
theorem cL.sD {p:af} {We w w':w_} {o:Nat} {q:af} {x:au} {a:Option d_} {c:Nat} (h:cL p We w o q) (hm:aC.cO w (We.heap.size+2) x) (hx: ∀ g,aC.bt x=o_ g→g∉q.Mc∧g≠o)
  (ho:w'.ownsRow (We.heap.size+2) 114 3 (s_ a (q.ae.length+1) c) (q.ae.length+1) (bm.flat (q.ae ++ [x]))) (hg:w.grownBy w' ((Value.slice q.am q.ae.length q.aG).ownBlock)) (hb: ∀ g∈blk a,g∈blk q.am∨g=w.heap.size):
  cL p We (w'.setCell ⟨o,6,n_⟩ (s_ a (q.ae.length+1) c)) o ({ q with ae:=q.ae ++ [x],am:=a,aG:=c } :af):=by
 have p7:o < w.heap.size:=(J2.1 h.I).1;have hrow: ∀ g,g < w.heap.size→g∉blk q.am→w'.heap[g]? =w.heap[g]? :=fun g hgl hn=>hg.block g hgl fun e=>hn (di e.symm)
 obtain ⟨hown,hbl⟩:=h.own.sD hm (fun g hk=>(hx g hk).1) ho hrow hb;have hoA:o∉blk q.am:=fun hm'=>h.free (by simp [af.Mc,hm'])
 have hlow: ∀ g,g∈blk q.am→We.heap.size+2≤g:=fun g hg'=>(cf h.own.ae hg').1
 have hfree:o∉({ q with ae:=q.ae ++ [x],am:=a,aG:=c } :af).Mc:=fun hm'=>by
  exact Za0
 have hsc: ∀ g,g≠o→(w'.setCell ⟨o,6,n_⟩ (s_ a (q.ae.length+1) c)).heap[g]? =w'.heap[g]? :=fun g hne=>aH hne
 have lY:B_ We.heap.size We w':=h.cd.grown hg (by have:=h.low; omega) (fun k hk=>by have:=hlow k (di hk); omega);have hout:w'.heap[o]? =w.heap[o]? :=hrow o p7 hoA;have hlo:=h.low;refine ⟨bP lY (by omega),(hsc _ (by omega)).trans ((hrow _ (by omega) fun hm'=>by have:=hlow _ hm'; omega).trans h.part),(hsc _ (by omega)).trans ((hrow _ (by omega) fun hm'=>by have:=hlow _ hm'; omega).trans h.ret),?_,hown.same fun g hg'=>hsc g fun e=>hfree (e ▸ hg'),h.low,hfree⟩;have h5:=cx (i:=6) (v:=s_ a (q.ae.length+1) c) (hout.trans h.I);have e:(q.ae ++ [x]).length=q.ae.length+1:=by simp
 unfold av;simp only [e];exact h5
def o9 (wr w7:w_) (x:au) (a2:Option d_) (c2:Nat):Prop:=w7.heap[wr.heap.size]? =o_ (c_ #[i_ j_ x.id,i_ j_ x.max,s_ x.ak x.Ma.length x.aq] 114)∧B_ wr.heap.size wr w7∧w7.ownsRow wr.heap.size 9 1 (s_ a2 x.Ma.length c2) x.Ma.length (bT.flat x.Ma)∧ ∀ g∈blk a2,g=wr.heap.size+1∨g=wr.heap.size+2
section
variable {p q:af} {We wr w7 pH W8 W9:w_} {o c2 c k:Nat} {x:au} {a2 a:Option d_}
theorem cL.F9 (h:cL p We wr o q) (h7:o9 wr w7 x a2 c2) (e8:W8=w7.setCell ⟨wr.heap.size,2,n_⟩ (s_ a2 x.Ma.length c2)):W8.cell? ⟨o,6,n_⟩=o_ (s_ q.am q.ae.length q.aG)∧W8.cell? ⟨wr.heap.size,0,n_⟩=o_ (i_ j_ x.id)∧W8.cell? ⟨wr.heap.size,1,n_⟩=o_ (i_ j_ x.max)∧W8.cell? ⟨wr.heap.size,2,n_⟩=o_ (s_ a2 x.Ma.length c2):=by
 subst e8;have p7:o < wr.heap.size:=(J2.1 h.I).1;have h1:=(aH (i:=2) (v:=s_ a2 x.Ma.length c2) (by omega:o≠wr.heap.size)).trans (h7.2.1.block o p7);have h2:=cx (i:=2) (v:=s_ a2 x.Ma.length c2) h7.1;exact Za1
theorem cL.zQ (h7:o9 wr w7 x a2 c2) (e8:W8=w7.setCell ⟨wr.heap.size,2,n_⟩ (s_ a2 x.Ma.length c2)) (e9:W9=W8.alloc (c_ #[i_ j_ x.id,i_ j_ x.max,s_ a2 x.Ma.length c2] 114)):B_ wr.heap.size wr W9∧W8.heap.size=w7.heap.size:=by
 exact Za6
theorem cL.Fl (h:cL p We wr o q) (h7:o9 wr w7 x a2 c2) (e8:W8=w7.setCell ⟨wr.heap.size,2,n_⟩ (s_ a2 x.Ma.length c2)) (e9:W9=W8.alloc (c_ #[i_ j_ x.id,i_ j_ x.max,s_ a2 x.Ma.length c2] 114)):W9.ownsRow (We.heap.size+2) 114 3 (s_ q.am q.ae.length q.aG) q.ae.length (bm.flat q.ae)∧W9.heap[w7.heap.size]? =o_ (c_ #[i_ j_ x.id,i_ j_ x.max,s_ a2 x.Ma.length c2] 114):=by
 have kN:=cL.zQ h7 e8 e9;refine ⟨(h.below kN.1).own.ae,?_⟩;subst e9;have h5:=Kj W8 (c_ #[i_ j_ x.id,i_ j_ x.max,s_ a2 x.Ma.length c2] 114)
 rwa [kN.2] at h5
theorem cL.FY (h:q.pure= { p.pure with ae:=p.pure.ae.take k,ai:= [] }) (hx:p.ae[k]? =o_ x):({ q with ae:=q.ae ++ [({ x with ak:=a2,aq:=c2 } :au)],am:=a,aG:=c } :af).pure= { p.pure with ae:=p.pure.ae.take (k+1),ai:= [] } :=by
 have e:p.pure.ae.take (k+1)=p.pure.ae.take k ++ [x.toci] :=by
  rw [cj (x:=x.toci)]
  show (p.ae.map (·.toci))[k]? =_
  rw [Kk,hx];rfl
 rw [e];have h5:=congrArg aE.ae h;have h6:(q.ae ++ [({ x with ak:=a2,aq:=c2 } :au)]).map (·.toci)=p.pure.ae.take k ++ [x.toci] :=by
  rw [Kl];exact congrArg (· ++ [x.toci]) h5
 show ({ q.pure with ae:=(q.ae ++ [({ x with ak:=a2,aq:=c2 } :au)]).map (·.toci) } :aE)=_
 rw [h6,h]
theorem cL.Do (h:cL p We wr o q) (h7:o9 wr w7 x a2 c2) (e8:W8=w7.setCell ⟨wr.heap.size,2,n_⟩ (s_ a2 x.Ma.length c2)) (e9:W9=W8.alloc (c_ #[i_ j_ x.id,i_ j_ x.max,s_ a2 x.Ma.length c2] 114))
  (ho:pH.ownsRow (We.heap.size+2) 114 3 (s_ a (q.ae.length+1) c) (q.ae.length+1) (bm.flat q.ae ++ bm.vals ({ x with ak:=a2,aq:=c2 } :au))) (hg:W9.grownBy pH ((Value.slice q.am q.ae.length q.aG).ownBlock))
  (hb:(Value.slice a (q.ae.length+1) c).ownBlock=(Value.slice q.am q.ae.length q.aG).ownBlock∨(Value.slice a (q.ae.length+1) c).ownBlock=o_ W9.heap.size):
  cL p We (pH.setCell ⟨o,6,n_⟩ (s_ a (q.ae.length+1) c)) o ({ q with ae:=q.ae ++ [({ x with ak:=a2,aq:=c2 } :au)],am:=a,aG:=c } :af)∧pH.cell? ⟨o,6,n_⟩=o_ (s_ q.am q.ae.length q.aG)∧pH.frozen? ⟨o,6,n_⟩=false:=by
 have p7:o < wr.heap.size:=(J2.1 h.I).1;obtain ⟨kN,hs8⟩:=cL.zQ h7 e8 e9;have h9:=h.below kN;have hlow:=h.low;have hm:aC.cO W9 (We.heap.size+2) ({ x with ak:=a2,aq:=c2 } :au):=by
  exact M_
 have hx: ∀ g,aC.bt ({ x with ak:=a2,aq:=c2 } :au)=o_ g→g∉q.Mc∧g≠o:=fun g hk=>by
  exact ZaL
 have hn: ∀ g∈blk a,g∈blk q.am∨g=W9.heap.size:=fun g hg'=>by
  exact Q_
 have hL:=h9.sD hm hx (by rw [bm.dc]; exact ho) hg hn;exact N_
end
theorem cL.yf {p:af} {We w w':w_} {o:Nat} {q:af} {x:aM} {a:Option d_} {c:Nat} (h:cL p We w o q) (hm:aU.cO w (We.heap.size+2) x) (hx: ∀ g,aU.bt x=o_ g→g∉q.Mc∧g≠o)
  (ho:w'.ownsRow (We.heap.size+2) 116 5 (s_ a (q.ai.length+1) c) (q.ai.length+1) (bX.flat (q.ai ++ [x]))) (hg:w.grownBy w' ((Value.slice q.aK q.ai.length q.aV).ownBlock)) (hb: ∀ g∈blk a,g∈blk q.aK∨g=w.heap.size):
  cL p We (w'.setCell ⟨o,7,n_⟩ (s_ a (q.ai.length+1) c)) o ({ q with ai:=q.ai ++ [x],aK:=a,aV:=c } :af):=by
 have p7:o < w.heap.size:=(J2.1 h.I).1;have hrow: ∀ g,g < w.heap.size→g∉blk q.aK→w'.heap[g]? =w.heap[g]? :=fun g hgl hn=>hg.block g hgl fun e=>hn (di e.symm)
 obtain ⟨hown,hbl⟩:=h.own.yf hm (fun g hk=>(hx g hk).1) ho hrow hb;have hoA:o∉blk q.aK:=fun hm'=>h.free (by simp [af.Mc,hm'])
 have hlow: ∀ g,g∈blk q.aK→We.heap.size+2≤g:=fun g hg'=>(cf h.own.ai hg').1
 have hfree:o∉({ q with ai:=q.ai ++ [x],aK:=a,aV:=c } :af).Mc:=fun hm'=>by
  exact Za0
 have hsc: ∀ g,g≠o→(w'.setCell ⟨o,7,n_⟩ (s_ a (q.ai.length+1) c)).heap[g]? =w'.heap[g]? :=fun g hne=>aH hne
 have lY:B_ We.heap.size We w':=h.cd.grown hg (by have:=h.low; omega) (fun k hk=>by have:=hlow k (di hk); omega);have hout:w'.heap[o]? =w.heap[o]? :=hrow o p7 hoA;have hlo:=h.low;refine ⟨bP lY (by omega),(hsc _ (by omega)).trans ((hrow _ (by omega) fun hm'=>by have:=hlow _ hm'; omega).trans h.part),(hsc _ (by omega)).trans ((hrow _ (by omega) fun hm'=>by have:=hlow _ hm'; omega).trans h.ret),?_,hown.same fun g hg'=>hsc g fun e=>hfree (e ▸ hg'),h.low,hfree⟩;have h5:=cx (i:=7) (v:=s_ a (q.ai.length+1) c) (hout.trans h.I);have e:(q.ai ++ [x]).length=q.ai.length+1:=by simp
 unfold av;simp only [e];exact h5
def uT (wr w7:w_) (x:aM) (a2:Option d_) (c2:Nat):Prop:=w7.heap[wr.heap.size]? =o_ (c_ #[i_ j_ x.id,b_ x.I,b_ x.Mf,i_ j_ x.max,s_ x.ak x.Ma.length x.aq] 116)∧B_ wr.heap.size wr w7∧w7.ownsRow wr.heap.size 9 1 (s_ a2 x.Ma.length c2) x.Ma.length (bT.flat x.Ma)∧ ∀ g∈blk a2,g=wr.heap.size+1∨g=wr.heap.size+2
section
variable {p q:af} {We wr w7 pH W8 W9:w_} {o c2 c k:Nat} {x:aM} {a2 a:Option d_}
theorem cL.agV (h:cL p We wr o q) (h7:uT wr w7 x a2 c2) (e8:W8=w7.setCell ⟨wr.heap.size,4,n_⟩ (s_ a2 x.Ma.length c2)):W8.cell? ⟨o,7,n_⟩=o_ (s_ q.aK q.ai.length q.aV)∧W8.cell? ⟨wr.heap.size,0,n_⟩=o_ (i_ j_ x.id)∧W8.cell? ⟨wr.heap.size,1,n_⟩=o_ (b_ x.I)∧W8.cell? ⟨wr.heap.size,2,n_⟩=o_ (b_ x.Mf)∧W8.cell? ⟨wr.heap.size,3,n_⟩=o_ (i_ j_ x.max)∧W8.cell? ⟨wr.heap.size,4,n_⟩=o_ (s_ a2 x.Ma.length c2):=by
 subst e8;have p7:o < wr.heap.size:=(J2.1 h.I).1;have h1:=(aH (i:=4) (v:=s_ a2 x.Ma.length c2) (by omega:o≠wr.heap.size)).trans (h7.2.1.block o p7);have h2:=cx (i:=4) (v:=s_ a2 x.Ma.length c2) h7.1;exact Za1
theorem cL.F4 (h7:uT wr w7 x a2 c2) (e8:W8=w7.setCell ⟨wr.heap.size,4,n_⟩ (s_ a2 x.Ma.length c2)) (e9:W9=W8.alloc (c_ (pcB x a2 c2) 116)):B_ wr.heap.size wr W9∧W8.heap.size=w7.heap.size:=by
 exact Za6
theorem cL.I4 (h:cL p We wr o q) (h7:uT wr w7 x a2 c2) (e8:W8=w7.setCell ⟨wr.heap.size,4,n_⟩ (s_ a2 x.Ma.length c2)) (e9:W9=W8.alloc (c_ (pcB x a2 c2) 116)):W9.ownsRow (We.heap.size+2) 116 5 (s_ q.aK q.ai.length q.aV) q.ai.length (bX.flat q.ai)∧W9.heap[w7.heap.size]? =o_ (c_ (pcB x a2 c2) 116):=by
 have kN:=cL.F4 h7 e8 e9;refine ⟨(h.below kN.1).own.ai,?_⟩;subst e9;have h5:=Kj W8 (c_ (pcB x a2 c2) 116)
 rwa [kN.2] at h5
theorem cL.upPort (h:q.pure= { p.pure with ai:=p.pure.ai.take k }) (hx:p.ai[k]? =o_ x):({ q with ai:=q.ai ++ [({ x with ak:=a2,aq:=c2 } :aM)],aK:=a,aV:=c } :af).pure= { p.pure with ai:=p.pure.ai.take (k+1) } :=by
 have e:p.pure.ai.take (k+1)=p.pure.ai.take k ++ [x.todS] :=by
  rw [cj (x:=x.todS)]
  show (p.ai.map (·.todS))[k]? =_
  rw [Kk,hx];rfl
 rw [e];have h5:=congrArg aE.ai h;have h6:(q.ai ++ [({ x with ak:=a2,aq:=c2 } :aM)]).map (·.todS)=p.pure.ai.take k ++ [x.todS] :=by
  rw [Kl];exact congrArg (· ++ [x.todS]) h5
 show ({ q.pure with ai:=(q.ai ++ [({ x with ak:=a2,aq:=c2 } :aM)]).map (·.todS) } :aE)=_
 rw [h6,h]
theorem cL.Gi (h:cL p We wr o q) (h7:uT wr w7 x a2 c2) (e8:W8=w7.setCell ⟨wr.heap.size,4,n_⟩ (s_ a2 x.Ma.length c2)) (e9:W9=W8.alloc (c_ (pcB x a2 c2) 116))
  (ho:pH.ownsRow (We.heap.size+2) 116 5 (s_ a (q.ai.length+1) c) (q.ai.length+1) (bX.flat q.ai ++ bX.vals ({ x with ak:=a2,aq:=c2 } :aM))) (hg:W9.grownBy pH ((Value.slice q.aK q.ai.length q.aV).ownBlock))
  (hb:(Value.slice a (q.ai.length+1) c).ownBlock=(Value.slice q.aK q.ai.length q.aV).ownBlock∨(Value.slice a (q.ai.length+1) c).ownBlock=o_ W9.heap.size):
  cL p We (pH.setCell ⟨o,7,n_⟩ (s_ a (q.ai.length+1) c)) o ({ q with ai:=q.ai ++ [({ x with ak:=a2,aq:=c2 } :aM)],aK:=a,aV:=c } :af)∧pH.cell? ⟨o,7,n_⟩=o_ (s_ q.aK q.ai.length q.aV)∧pH.frozen? ⟨o,7,n_⟩=false:=by
 have p7:o < wr.heap.size:=(J2.1 h.I).1;obtain ⟨kN,hs8⟩:=cL.F4 h7 e8 e9;have h9:=h.below kN;have hlow:=h.low;have hm:aU.cO W9 (We.heap.size+2) ({ x with ak:=a2,aq:=c2 } :aM):=by
  exact M_
 have hx: ∀ g,aU.bt ({ x with ak:=a2,aq:=c2 } :aM)=o_ g→g∉q.Mc∧g≠o:=fun g hk=>by
  exact ZaL
 have hn: ∀ g∈blk a,g∈blk q.aK∨g=W9.heap.size:=fun g hg'=>by
  exact Q_
 have hL:=h9.yf hm hx (by rw [bX.dc]; exact ho) hg hn;exact N_
end
abbrev Jn (p:af) (w w':w_):Prop:=w'.cell? ⟨w.heap.size,0,n_⟩=o_ (i_ j_ p.id)∧w'.cell? ⟨w.heap.size,1,n_⟩=o_ (i_ j_ p.next)∧w'.cell? ⟨w.heap.size,3,n_⟩=o_ (s_ p.bc p.aj.length p.bF)∧w'.cell? ⟨w.heap.size,4,n_⟩=o_ (s_ p.ay p.L9.length p.aO)∧w'.cell? ⟨w.heap.size,5,n_⟩=o_ (s_ p.ax p.ag.length p.aP)
theorem fR (p:af) (w:w_) (hf:p.Fit) (hsh: ∀ x∈p.L8,x.dX) (h:af.At w p):
  k_ J3 48 #[a_ p.cells] w fun e w'=> ∃ p',e=r_ (a_ p'.cells)∧ap w' w.heap.size p'∧p'.pure=p.pure∧B_ w.heap.size w w':=by
 have HF:Hid (p.Fit∧af.At w p):=⟨hf,h⟩
 have HFS:Hid (∀ x∈p.L8,x.dX):=hsh;have HC:Hid (fI p w (((w.alloc (c_ p.row 38)).alloc (c_ ar 38))).drew false false false false false false false false false 0 0 0 0 n_ n_ n_ 0 0 0):=by
  have b1:B_ w.heap.size w ((w.alloc (c_ p.row 38)).alloc (c_ ar 38)):=((Kp _ _).alloc (Ki _) _).alloc (by simp) _;exact ⟨b1.drew,(PU (by simp)).trans (Kj _ _),Kq _ _ _,⟨(fun h=>by cases h),fun h=>by cases h⟩,⟨(fun h=>by cases h),fun h=>by cases h⟩,⟨(fun h=>by cases h),fun h=>by cases h⟩,(fun h=>by cases h),⟨(fun h=>by cases h),fun h=>by cases h⟩,(by simp),⟨fun i j _ q hq=>by rcases i with _ | _ | _ | _ | _ <;> simp [four,bM] at hq,fun i q hq=>by rcases i with _ | _ | _ | _ | _ <;> simp [four,bM] at hq⟩⟩
 have HS:Hid (Jn p w (((w.alloc (c_ p.row 38)).alloc (c_ ar 38))).drew):=by obtain ⟨m0,m1,m2,m3,m4,m5,m6,m7⟩:=HC.I.part.cells; exact ⟨m0,m1,m3,m4,m5⟩
 clear hf h hsh;unfold af.cells
 go_enter func48,ntmps48
 go_wp2_with fail;generalize (w.alloc (c_ p.row 38)).alloc (c_ ar 38)=W at *;refine Kr (S:=Jn p w) ZcR HS.I (fun hHeld=> ?_);refine tt 0 hHeld ?_;refine tt 1 hHeld ?_;refine tt 2 hHeld ?_;refine tt 3 hHeld ?_;refine tt 5 hHeld ?_;refine tt 6 hHeld ?_;refine tt 9 hHeld ?_;refine tt 10 hHeld ?_;refine tt 13 hHeld ?_;refine tt 14 hHeld ?_;refine wild (IP p w) (fun l a w1 hI=> ?_) (fun l a w1 hI i hi=> ?_) (fun l a w1 hI h0=> ?_) _ _ _ _ ⟨false,false,false,false,false,false,false,false,false,0,0,0,0,n_,n_,n_,0,0,0,by kernel_rfl,rfl,HC.I⟩ (of_decide_eq_true ZcR)
 ·obtain ⟨b0,d0,b1,d1,b2,d2,b3,d3,e,g0,g1,g2,o,a0,a1,a2,c0,c1,c2,-,-,hC⟩:=hI
  obtain ⟨m0,m1,m2,m3,m4,m5,m6,m7⟩:=hC.part.cells;exact ⟨m0,m1,m3,m4,m5⟩
 ·obtain ⟨b0,d0,b1,d1,b2,d2,b3,d3,e,g0,g1,g2,o,a0,a1,a2,c0,c1,c2,rfl,rfl,hC⟩:=hI
  have HI:Hid (fI p w w1 b0 d0 b1 d1 b2 d2 b3 d3 e g0 g1 g2 o a0 a1 a2 c0 c1 c2):=hC;clear hC;unfold CY
  match i,hi with
  | 0,hi=>exact absurd (cX hi) (by simp)
  | 1,hi=>exact absurd (cX hi) (by simp)
  | 2,hi=>exact absurd (cX hi) (by simp)
  | 3,hi=>exact absurd (cX hi) (by simp)
  | 4,hi=>
   have hb:b0=false:=by have h5:=cX hi; simpa using h5
   subst hb;refine ln (o:=_) rfl ZcR (fun K hK=> ?_);go_wp2_with fail;exact hK.out _ _ ⟨true,d0,b1,d1,b2,d2,b3,d3,e,w1.heap.size,g1,g2,o,a0,a1,a2,c0,c1,c2,by rfl,by rfl,HI.I.aaZ⟩
  | 5,hi=>exact absurd (cX hi) (by simp)
  | 6,hi=>exact absurd (cX hi) (by simp)
  | 7,hi=>
   have hb:d0=false:=by have h5:=cX hi; simpa using h5
   have hn4:b0=true:=by have h5:=hF [4,6] hi ZcR 4 (by decide); simpa using h5
   subst hb hn4;refine ln (o:=_) rfl ZcR (fun K hK=> ?_);obtain ⟨a',c',w2,hr,ho,hg,hq⟩:=Iq w1 (w.heap.size+2) g0 (HI.I.s0.made rfl rfl).1 (HI.I.s0.made rfl rfl).2 p.bc p.aj p.bF ((HF.I.2.below HI.I.cd).2.1.1) HF.I.1.short.aj HI.I.size;refine cM _ _ _ rfl _ _ _ w2 rfl rfl hr ?_;have he:e=false:=by cases e with | false=>rfl | true=>(have h5:=HI.I.cl.1 rfl; simp at h5)
   subst he;exact hK.out _ _ ⟨true,true,b1,d1,b2,d2,b3,d3,false,g0,g1,g2,o,a',a1,a2,c',c1,c2,by rfl,by rfl,HI.I.aa1 ho hg hq⟩
  | 8,hi=>
   have hb:b1=false:=by have h5:=cX hi; simpa using h5
   subst hb;refine ln (o:=_) rfl ZcR (fun K hK=> ?_);go_wp2_with fail;exact hK.out _ _ ⟨b0,d0,true,d1,b2,d2,b3,d3,e,g0,w1.heap.size,g2,o,a0,a1,a2,c0,c1,c2,by rfl,by rfl,HI.I.abg⟩
  | 9,hi=>exact absurd (cX hi) (by simp)
  | 10,hi=>exact absurd (cX hi) (by simp)
  | 11,hi=>
   have hb:d1=false:=by have h5:=cX hi; simpa using h5
   have hn8:b1=true:=by have h5:=hF [8,10,7] hi ZcR 8 (by decide); simpa using h5
   subst hb hn8;refine ln (o:=_) rfl ZcR (fun K hK=> ?_);obtain ⟨a',c',w2,hr,ho,hg,hq⟩:=Fp w1 (w.heap.size+2) g1 (HI.I.s1.made rfl rfl).1 (HI.I.s1.made rfl rfl).2 p.ay p.L9 p.aO ((HF.I.2.below HI.I.cd).2.2.1.1) HF.I.1.short.L9 HI.I.size;refine cM _ _ _ rfl _ _ _ w2 rfl rfl hr ?_;have he:e=false:=by cases e with | false=>rfl | true=>(have h5:=HI.I.cl.1 rfl; simp at h5)
   subst he;exact hK.out _ _ ⟨b0,d0,true,true,b2,d2,b3,d3,false,g0,g1,g2,o,a0,a',a2,c0,c',c2,by rfl,by rfl,HI.I.aa2 ho hg hq⟩
  | 12,hi=>
   have hb:b2=false:=by have h5:=cX hi; simpa using h5
   subst hb;refine ln (o:=_) rfl ZcR (fun K hK=> ?_);go_wp2_with fail;exact hK.out _ _ ⟨b0,d0,b1,d1,true,d2,b3,d3,e,g0,g1,w1.heap.size,o,a0,a1,a2,c0,c1,c2,by rfl,by rfl,HI.I.make2⟩
  | 13,hi=>exact absurd (cX hi) (by simp)
  | 14,hi=>exact absurd (cX hi) (by simp)
  | 15,hi=>
   have hb:d2=false:=by have h5:=cX hi; simpa using h5
   have adF:b2=true:=by have h5:=hF [12,14,11] hi ZcR 12 (by decide); simpa using h5
   subst hb adF;refine ln (o:=_) rfl ZcR (fun K hK=> ?_);obtain ⟨a',c',w2,hr,ho,hg,hq⟩:=ED w1 (w.heap.size+2) g2 (HI.I.s2.made rfl rfl).1 (HI.I.s2.made rfl rfl).2 p.ax p.ag p.aP ((HF.I.2.below HI.I.cd).2.2.2.1.1) HF.I.1.short.ag HI.I.size;refine cM _ _ _ rfl _ _ _ w2 rfl rfl hr ?_;have he:e=false:=by cases e with | false=>rfl | true=>(have h5:=HI.I.cl.1 rfl; simp at h5)
   subst he;exact hK.out _ _ ⟨b0,d0,b1,d1,true,true,b3,d3,false,g0,g1,g2,o,a0,a1,a',c0,c1,c',by rfl,by rfl,HI.I.copy2 ho hg hq⟩
  | 16,hi=>
   have hb:e=false:=by have h5:=cX hi; simpa using h5
   have hn7:d0=true:=by have h5:=hF [1,3,7,11,15] hi ZcR 7 (by decide); simpa using h5
   have hn11:d1=true:=by have h5:=hF [1,3,7,11,15] hi ZcR 11 (by decide); simpa using h5
   have hn15:d2=true:=by have h5:=hF [1,3,7,11,15] hi ZcR 15 (by decide); simpa using h5
   subst hb hn7 hn11 hn15;refine ln (o:=_) rfl ZcR (fun K hK=> ?_);go_wp2_with fail;exact hK.out _ _ ⟨b0,true,b1,true,b2,true,b3,d3,true,g0,g1,g2,o,a0,a1,a2,c0,c1,c2,by rfl,by rfl,HI.I.build rfl rfl rfl⟩
  | 17,hi=>
   have hb:b3=false:=by have h5:=cX hi; simpa using h5
   subst hb;refine ln (o:=_) rfl ZcR (fun K hK=> ?_);have hd3:d3=false:=by cases d3 with | false=>rfl | true=>(have h5:=HI.I.cl.2 rfl; simp at h5)
   subst hd3;go_wp2_with fail;exact hK.out _ _ ⟨b0,d0,b1,d1,b2,d2,true,false,e,g0,g1,g2,w1.heap.size,a0,a1,a2,c0,c1,c2,by rfl,by rfl,HI.I.aa9⟩
  | 18,hi=>
   have hb:d3=false:=by have h5:=cX hi; simpa using h5
   have hn17:b3=true:=by have h5:=hF [17,16,15,0,1,2,3,4,5,6,7,8,9,10,11,12,13,14,15,16,17] hi ZcR 17 (by decide); simpa using h5
   have hn16:e=true:=by have h5:=hF [17,16,15,0,1,2,3,4,5,6,7,8,9,10,11,12,13,14,15,16,17] hi ZcR 16 (by decide); simpa using h5
   subst hb hn17 hn16;refine ln (o:=_) rfl ZcR (fun K hK=> ?_);refine qd _ _ _ rfl o _ _ _ rfl rfl (HI.I.I rfl) ZcR rfl ZcR ?_;exact hK.out _ _ ⟨b0,d0,b1,d1,b2,d2,true,true,true,g0,g1,g2,o,a0,a1,a2,c0,c1,c2,by rfl,by rfl,HI.I.store⟩
  | n+19,hi=>exact absurd (cX hi) (by simp)
 ·obtain ⟨b0,d0,b1,d1,b2,d2,b3,d3,e,g0,g1,g2,o,a0,a1,a2,c0,c1,c2,rfl,rfl,hC⟩:=hI
  have hno: ∀ i,i∉Region.ready .any _ _:=fun i hi=>by rw [h0] at hi; cases hi
  have hb0:b0=true:=by cases hx:b0 with | true=>rfl | false=>exact absurd (jW [] ZcR ZcR Zdn (fun j hj=>by cases hj)) (hno 4)
  have hd0:d0=true:=by cases hx:d0 with | true=>rfl | false=>exact absurd (jW [4,6] ZcR ZcR Zdn (fun j hj=>by simp only [Kt,Ku,or_false] at hj; rcases hj with rfl | rfl <;> first | rfl | simp [hb0])) (hno 7)
  have hb1:b1=true:=by cases hx:b1 with | true=>rfl | false=>exact absurd (jW [] ZcR ZcR Zdn (fun j hj=>by cases hj)) (hno 8)
  have hd1:d1=true:=by cases hx:d1 with | true=>rfl | false=>exact absurd (jW [8,10,7] ZcR ZcR Zdn (fun j hj=>by simp only [Kt,Ku,or_false] at hj; rcases hj with rfl | rfl | rfl <;> first | rfl | simp [hb1,hd0])) (hno 11)
  have hb2:b2=true:=by cases hx:b2 with | true=>rfl | false=>exact absurd (jW [] ZcR ZcR Zdn (fun j hj=>by cases hj)) (hno 12)
  have hd2:d2=true:=by cases hx:d2 with | true=>rfl | false=>exact absurd (jW [12,14,11] ZcR ZcR Zdn (fun j hj=>by simp only [Kt,Ku,or_false] at hj; rcases hj with rfl | rfl | rfl <;> first | rfl | simp [hb2,hd1])) (hno 15)
  have he:e=true:=by cases hx:e with | true=>rfl | false=>exact absurd (jW [1,3,7,11,15] ZcR ZcR Zdn (fun j hj=>by simp only [Kt,Ku,or_false] at hj; rcases hj with rfl | rfl | rfl | rfl | rfl <;> first | rfl | simp [hd0,hd1,hd2])) (hno 16)
  have hb3:b3=true:=by cases hx:b3 with | true=>rfl | false=>exact absurd (jW [] ZcR ZcR Zdn (fun j hj=>by cases hj)) (hno 17)
  have hd3:d3=true:=by cases hx:d3 with | true=>rfl | false=>exact absurd (jW [17,16,15,0,1,2,3,4,5,6,7,8,9,10,11,12,13,14,15,16,17] ZcR ZcR Zdn (fun j hj=>by simp only [Kt,Ku,or_false] at hj; rcases hj with rfl | rfl | rfl | rfl | rfl | rfl | rfl | rfl | rfl | rfl | rfl | rfl | rfl | rfl | rfl | rfl | rfl | rfl | rfl | rfl | rfl <;> first | rfl | simp [hb0,hd0,hb1,hd1,hb2,hd2,he,hb3])) (hno 18)
  subst hb0 hd0 hb1 hd1 hb2 hd2 he hb3 hd3;have HI:Hid (fI p w w1 true true true true true true true true true g0 g1 g2 o a0 a1 a2 c0 c1 c2):=hC;clear hC hno h0;simp only [CY,cond_true];have HLS:Hid (cL p w w1 o ⟨p.id,p.next,[],n_,0,p.aj,a0,c0,p.L9,a1,c1,p.ag,a2,c2,[],n_,0,[],n_,0⟩):=cL.start HI.I;clear HI HC HS hHeld;obtain ⟨qE,hi',GQ⟩:=Kw.1 nb;simp only [Kx] at GQ;have HI:Hid (Tryz.prog.info? 100=o_ qE∧qE.zero=o_ _∧qE.size=12∧qE.bytes=128):=⟨hi',GQ⟩
  clear hi' GQ;have hpProc:p.L8.length≤1048576:=HF.I.1.short.L8;go_wp2_with fail
  go_loopw [4] (fun i wr=> ∃ k:Nat,k≤p.L8.length∧i=i_ j_ k∧Hid (∃ q,cL p w wr o q∧q.pure= { p.pure with L8:=p.pure.L8.take k,ae:= [],ai:= [] })) (fun i _=>p.L8.length - (Go.RowKit.intOf i).toNat)
  case atStart=>exact ⟨0,Ky _,rfl,⟨_,HLS.I,rfl⟩⟩
  case round=>
   obtain ⟨k,hk,rfl,HA⟩:=hrel;obtain ⟨q,hL,hq⟩:=HA.I;have HL:Hid (cL p w wr o q∧(q.pure= { p.pure with L8:=p.pure.L8.take k,ae:= [],ai:= [] })∧q.L8.length=k):=⟨hL,hq,IV hq hk⟩
   clear HA hL hq;have mp:wr.cell? ⟨w.heap.size,2,n_⟩=o_ (s_ p.aN p.L8.length p.aW):=by obtain ⟨m0,m1,m2,m3,m4,m5,m6,m7⟩:=HL.I.1.part.cells; exact m2
   by_cases hlt:k < p.L8.length
   ·have i0:(0:Int)≤(k:Int):=by omega
    have i1:(k:Int) < (p.L8.length:Int):=by omega
    obtain ⟨x,hx⟩: ∃ x,p.L8[k]? =o_ x:=⟨_,Kz hlt⟩
    have hAt:=HF.I.2.below HL.I.1.cd;obtain ⟨gs,ha,hat⟩:=cn hAt.1 hx;rw [ha] at mp;obtain ⟨d0,d1,d2,d3,d4,d5,d6,d7,d8,d9,tH,tS⟩:=hat;have HX:Hid (p.L8[k]? =o_ x∧Row wr x.aY (fk.flat x.prog)∧x.prog.length≤1048576):=⟨hx,hAt.1.2 x (KA hx) (x.aY,fk.flat x.prog) (KB.2 rfl),(HFS.I x (KA hx)).prog⟩
    clear hx ha hAt;have hb2:B_ wr.heap.size wr ((wr.alloc (c_ x.row 100)).alloc (c_ #[] 165)):=((Kp _ _).alloc (Ki _) _).alloc (by simp) _;obtain ⟨a2,c2,w7,hap,how,Fw,nW⟩:=Gg ((wr.alloc (c_ x.row 100)).alloc (c_ #[] 165)) wr.heap.size (wr.heap.size+1) (Kq _ _ _) (by omega) x.aY x.prog x.bH (HX.I.2.1.below hb2) HX.I.2.2 ZcS;have DO:=(Fw.block wr.heap.size ZcS (fun e=>by have:=KC e; omega)).trans ((PU (by simp)).trans (Kj wr _));have gh:B_ wr.heap.size wr w7:=hb2.grown Fw ZcS (fun k hk=>by cases hk; omega);have DR:Hid (vt wr w7 x a2 c2):=⟨DO,gh,how,fun g hg=>by have h5:=nW g hg; simp at h5; exact h5⟩
    have z0:w7.frozen? ⟨wr.heap.size,2,n_⟩=false:=Ko _ _ _ _ _ DO;have z1:w7.cell? ⟨wr.heap.size,2,n_⟩=o_ (s_ x.aY x.prog.length x.bH):=by simp [World.cell?,DO]
    clear hb2 how Fw nW DO gh;obtain ⟨co,e0,e1,e2,e3,e4,e5,e6,e7,e8,e9,Pn,e11⟩:=HL.I.1.ago DR.I rfl;have hkl:q.L8.length≤1048576:=by have:=HL.I.2.2; have:=HF.I.1.short.L8; omega
    have hsz:w.heap.size+2≤w7.heap.size:=by have h5:=DR.I.2.1.size; have h6:=HL.I.1.low; have h7:o < wr.heap.size:=(J2.1 HL.I.1.I).1; omega
    have Jr:Hid (_):=HL.I.1.IH DR.I rfl rfl;go_wp2_with (at_builtin; first | (refine br _ rfl _ _ 98 rfl _ _ _ _ rfl rfl hap ?_; clear hap) | (refine KD _ rfl _ _ 31 rfl (w.heap.size+2) 100 qE _ 12 128 underlying31 HI.I.1 HI.I.2.1 HI.I.2.2.1 HI.I.2.2.2 rfl (by decide) (s_ q.aN q.L8.length q.aW) q.L8.length (bg.flat q.L8) rfl Jr.I.1 ⟨w7.heap.size,0,n_⟩ 1 1 (bg.vals ({ x with aY:=a2,bH:=c2 } :ao)) (by rfl) rfl (KE (cs:= #[i_ j_ x.id,i_ j_ x.RX,s_ a2 x.prog.length c2,i_ j_ x.Md,i_ j_ x.pc,i_ j_ x.left,i_ j_ x.Mg,i_ j_ x.on,t_ x.held,t_ x.got,i_ j_ x.code,i_ j_ x.RU]) (t:=100) (fr:=(0,0)) Jr.I.2) (by simp [bg,qN,Value.oneCell']) ZcV (by omega) ZcS ?_; intro v5 pH oM oq zR sM; obtain ⟨a5,c5,rfl,-⟩:=cr oM; have HN:Hid (cL p w (pH.setCell ⟨o,2,n_⟩ (s_ a5 (q.L8.length+1) c5)) o ({ q with L8:=q.L8 ++ [({ x with aY:=a2,bH:=c2 } :ao)],aN:=a5,aW:=c5 } :af)∧pH.cell? ⟨o,2,n_⟩=o_ (s_ q.aN q.L8.length q.aW)∧pH.frozen? ⟨o,2,n_⟩=false):=HL.I.1.G5 DR.I rfl rfl oM oq sM; have VY:=HN.I.2.1; have VP:=HN.I.2.2; clear oM oq zR sM));go_roundw
    case rel=>exact ⟨k+1,by omega,by go_num,⟨_,HN.I.1,cL.upProc HL.I.2.1 HX.I.1⟩⟩
    case measure=>simp [Go.RowKit.intOf]; omega
   ·have i1: ¬ (k:Int) < (p.L8.length:Int):=by omega
    have HE:Hid (∃ q,cL p w wr o q∧q.pure= { p.pure with ae:= [],ai:= [] }):=by
     have h5:=HL.I.2.1;rw [KF (by show (p.L8.map _).length≤k; rw [KG]; omega)] at h5;exact ⟨q,HL.I.1,h5⟩
    clear HL
    rename w_=>W2
    obtain ⟨qE,hi',GQ⟩:=Kw.1 kh;simp only [Kx] at GQ;have HI:Hid (Tryz.prog.info? 114=o_ qE∧qE.zero=o_ _∧qE.size=3∧qE.bytes=40):=⟨hi',GQ⟩
    clear hi' GQ;have hpBuffer:p.ae.length≤1048576:=HF.I.1.short.ae;go_wp2_with fail;clear mp
    go_loopw [6] (fun i wr=> ∃ k:Nat,k≤p.ae.length∧i=i_ j_ k∧Hid (∃ q,cL p w wr o q∧q.pure= { p.pure with ae:=p.pure.ae.take k,ai:= [] })) (fun i _=>p.ae.length - (Go.RowKit.intOf i).toNat)
    case atStart=>exact ⟨0,Ky _,rfl,by obtain ⟨q,h1,h2⟩:=HE.I; exact ⟨q,h1,h2.trans (by simp)⟩⟩
    case round=>
     obtain ⟨k,hk,rfl,HA⟩:=hrel;obtain ⟨q,hL,hq⟩:=HA.I;have HL:Hid (cL p w wr o q∧(q.pure= { p.pure with ae:=p.pure.ae.take k,ai:= [] })∧q.ae.length=k):=⟨hL,hq,Fs hq hk⟩
     clear HA hL hq;have mp:wr.cell? ⟨w.heap.size,6,n_⟩=o_ (s_ p.am p.ae.length p.aG):=by obtain ⟨m0,m1,m2,m3,m4,m5,m6,m7⟩:=HL.I.1.part.cells; exact m6
     by_cases hlt:k < p.ae.length
     ·have i0:(0:Int)≤(k:Int):=by omega
      have i1:(k:Int) < (p.ae.length:Int):=by omega
      obtain ⟨x,hx⟩: ∃ x,p.ae[k]? =o_ x:=⟨_,Kz hlt⟩
      have hAt:=HF.I.2.below HL.I.1.cd;obtain ⟨gs,ha,hat⟩:=iA hAt.2.2.2.2.1 hx;rw [ha] at mp;obtain ⟨d0,d1,d2⟩:=hat;have HX:Hid (p.ae[k]? =o_ x∧Row wr x.ak (bT.flat x.Ma)∧x.Ma.length≤1048576):=⟨hx,hAt.2.2.2.2.1.2 x (KA hx) (x.ak,bT.flat x.Ma) (KB.2 rfl),(HF.I.1.ae x (KA hx)).1⟩
      clear hx ha hAt;have hb2:B_ wr.heap.size wr ((wr.alloc (c_ #[i_ j_ x.id,i_ j_ x.max,s_ x.ak x.Ma.length x.aq] 114)).alloc (c_ #[] 9)):=((Kp _ _).alloc (Ki _) _).alloc (by simp) _;obtain ⟨a2,c2,w7,hap,how,Fw,nW⟩:=tO ((wr.alloc (c_ #[i_ j_ x.id,i_ j_ x.max,s_ x.ak x.Ma.length x.aq] 114)).alloc (c_ #[] 9)) wr.heap.size (wr.heap.size+1) (Kq _ _ _) (by omega) x.ak x.Ma x.aq (HX.I.2.1.below hb2) HX.I.2.2 ZcS;have DO:=(Fw.block wr.heap.size ZcS (fun e=>by have:=KC e; omega)).trans ((PU (by simp)).trans (Kj wr _));have gh:B_ wr.heap.size wr w7:=hb2.grown Fw ZcS (fun k hk=>by cases hk; omega);have DR:Hid (o9 wr w7 x a2 c2):=⟨DO,gh,how,fun g hg=>by have h5:=nW g hg; simp at h5; exact h5⟩
      have z0:w7.frozen? ⟨wr.heap.size,2,n_⟩=false:=Ko _ _ _ _ _ DO;have z1:w7.cell? ⟨wr.heap.size,2,n_⟩=o_ (s_ x.ak x.Ma.length x.aq):=by simp [World.cell?,DO]
      clear hb2 how Fw nW DO gh;obtain ⟨co,e0,e1,e2⟩:=HL.I.1.F9 DR.I rfl;have hkl:q.ae.length≤1048576:=by have:=HL.I.2.2; have:=HF.I.1.short.ae; omega
      have hsz:w.heap.size+2≤w7.heap.size:=by have h5:=DR.I.2.1.size; have h6:=HL.I.1.low; have h7:o < wr.heap.size:=(J2.1 HL.I.1.I).1; omega
      have Jr:Hid (_):=HL.I.1.Fl DR.I rfl rfl;go_wp2_with (at_builtin; first | (refine br _ rfl _ _ 91 rfl _ _ _ _ rfl rfl hap ?_; clear hap) | (refine KD _ rfl _ _ 35 rfl (w.heap.size+2) 114 qE _ 3 40 underlying35 HI.I.1 HI.I.2.1 HI.I.2.2.1 HI.I.2.2.2 rfl (by decide) (s_ q.am q.ae.length q.aG) q.ae.length (bm.flat q.ae) rfl Jr.I.1 ⟨w7.heap.size,0,n_⟩ 1 1 (bm.vals ({ x with ak:=a2,aq:=c2 } :au)) (by rfl) rfl (KE (cs:= #[i_ j_ x.id,i_ j_ x.max,s_ a2 x.Ma.length c2]) (t:=114) (fr:=(0,0)) Jr.I.2) (by simp [bm,nD,Value.oneCell']) ZcV (by omega) ZcS ?_; intro v5 pH oM oq zR sM; obtain ⟨a5,c5,rfl,-⟩:=cr oM; have HN:Hid (cL p w (pH.setCell ⟨o,6,n_⟩ (s_ a5 (q.ae.length+1) c5)) o ({ q with ae:=q.ae ++ [({ x with ak:=a2,aq:=c2 } :au)],am:=a5,aG:=c5 } :af)∧pH.cell? ⟨o,6,n_⟩=o_ (s_ q.am q.ae.length q.aG)∧pH.frozen? ⟨o,6,n_⟩=false):=HL.I.1.Do DR.I rfl rfl oM oq sM; have VY:=HN.I.2.1; have VP:=HN.I.2.2; clear oM oq zR sM));go_roundw
      case rel=>exact ⟨k+1,by omega,by go_num,⟨_,HN.I.1,cL.FY HL.I.2.1 HX.I.1⟩⟩
      case measure=>simp [Go.RowKit.intOf]; omega
     ·have i1: ¬ (k:Int) < (p.ae.length:Int):=by omega
      have HE:Hid (∃ q,cL p w wr o q∧q.pure= { p.pure with ai:= [] }):=by
       have h5:=HL.I.2.1;rw [KF (by show (p.ae.map _).length≤k; rw [KG]; omega)] at h5;exact ⟨q,HL.I.1,h5⟩
      clear HL
      rename w_=>W3
      obtain ⟨qE,hi',GQ⟩:=Kw.1 na;simp only [Kx] at GQ;have HI:Hid (Tryz.prog.info? 116=o_ qE∧qE.zero=o_ _∧qE.size=5∧qE.bytes=48):=⟨hi',GQ⟩
      clear hi' GQ;have hpPort:p.ai.length≤1048576:=HF.I.1.short.ai;go_wp2_with fail;clear mp
      go_loopw [8] (fun i wr=> ∃ k:Nat,k≤p.ai.length∧i=i_ j_ k∧Hid (∃ q,cL p w wr o q∧q.pure= { p.pure with ai:=p.pure.ai.take k })) (fun i _=>p.ai.length - (Go.RowKit.intOf i).toNat)
      case atStart=>exact ⟨0,Ky _,rfl,by obtain ⟨q,h1,h2⟩:=HE.I; exact ⟨q,h1,h2.trans (by simp)⟩⟩
      case round=>
       obtain ⟨k,hk,rfl,HA⟩:=hrel;obtain ⟨q,hL,hq⟩:=HA.I;have HL:Hid (cL p w wr o q∧(q.pure= { p.pure with ai:=p.pure.ai.take k })∧q.ai.length=k):=⟨hL,hq,I0 hq hk⟩
       clear HA hL hq;have mp:wr.cell? ⟨w.heap.size,7,n_⟩=o_ (s_ p.aK p.ai.length p.aV):=by obtain ⟨m0,m1,m2,m3,m4,m5,m6,m7⟩:=HL.I.1.part.cells; exact m7
       by_cases hlt:k < p.ai.length
       ·have i0:(0:Int)≤(k:Int):=by omega
        have i1:(k:Int) < (p.ai.length:Int):=by omega
        obtain ⟨x,hx⟩: ∃ x,p.ai[k]? =o_ x:=⟨_,Kz hlt⟩
        have hAt:=HF.I.2.below HL.I.1.cd;obtain ⟨gs,ha,hat⟩:=lm hAt.2.2.2.2.2 hx;rw [ha] at mp;obtain ⟨d0,d1,d2,d3,d4⟩:=hat;have HX:Hid (p.ai[k]? =o_ x∧Row wr x.ak (bT.flat x.Ma)∧x.Ma.length≤1048576):=⟨hx,hAt.2.2.2.2.2.2 x (KA hx) (x.ak,bT.flat x.Ma) (KB.2 rfl),(HF.I.1.ai x (KA hx)).1⟩
        clear hx ha hAt;have hb2:B_ wr.heap.size wr ((wr.alloc (c_ #[i_ j_ x.id,b_ x.I,b_ x.Mf,i_ j_ x.max,s_ x.ak x.Ma.length x.aq] 116)).alloc (c_ #[] 9)):=((Kp _ _).alloc (Ki _) _).alloc (by simp) _;obtain ⟨a2,c2,w7,hap,how,Fw,nW⟩:=tO ((wr.alloc (c_ #[i_ j_ x.id,b_ x.I,b_ x.Mf,i_ j_ x.max,s_ x.ak x.Ma.length x.aq] 116)).alloc (c_ #[] 9)) wr.heap.size (wr.heap.size+1) (Kq _ _ _) (by omega) x.ak x.Ma x.aq (HX.I.2.1.below hb2) HX.I.2.2 ZcS;have DO:=(Fw.block wr.heap.size ZcS (fun e=>by have:=KC e; omega)).trans ((PU (by simp)).trans (Kj wr _));have gh:B_ wr.heap.size wr w7:=hb2.grown Fw ZcS (fun k hk=>by cases hk; omega);have DR:Hid (uT wr w7 x a2 c2):=⟨DO,gh,how,fun g hg=>by have h5:=nW g hg; simp at h5; exact h5⟩
        have z0:w7.frozen? ⟨wr.heap.size,4,n_⟩=false:=Ko _ _ _ _ _ DO;have z1:w7.cell? ⟨wr.heap.size,4,n_⟩=o_ (s_ x.ak x.Ma.length x.aq):=by simp [World.cell?,DO]
        clear hb2 how Fw nW DO gh;obtain ⟨co,e0,e1,e2,e3,e4⟩:=HL.I.1.agV DR.I rfl;have hkl:q.ai.length≤1048576:=by have:=HL.I.2.2; have:=HF.I.1.short.ai; omega
        have hsz:w.heap.size+2≤w7.heap.size:=by have h5:=DR.I.2.1.size; have h6:=HL.I.1.low; have h7:o < wr.heap.size:=(J2.1 HL.I.1.I).1; omega
        have Jr:Hid (_):=HL.I.1.I4 DR.I rfl rfl;go_wp2_with (at_builtin; first | (refine br _ rfl _ _ 91 rfl _ _ _ _ rfl rfl hap ?_; clear hap) | (refine KD _ rfl _ _ 36 rfl (w.heap.size+2) 116 qE _ 5 48 underlying36 HI.I.1 HI.I.2.1 HI.I.2.2.1 HI.I.2.2.2 rfl (by decide) (s_ q.aK q.ai.length q.aV) q.ai.length (bX.flat q.ai) rfl Jr.I.1 ⟨w7.heap.size,0,n_⟩ 1 1 (bX.vals ({ x with ak:=a2,aq:=c2 } :aM)) (by rfl) rfl (KE (cs:= #[i_ j_ x.id,b_ x.I,b_ x.Mf,i_ j_ x.max,s_ a2 x.Ma.length c2]) (t:=116) (fr:=(0,0)) Jr.I.2) (by simp [bX,qT,Value.oneCell']) ZcV (by omega) ZcS ?_; intro v5 pH oM oq zR sM; obtain ⟨a5,c5,rfl,-⟩:=cr oM; have HN:Hid (cL p w (pH.setCell ⟨o,7,n_⟩ (s_ a5 (q.ai.length+1) c5)) o ({ q with ai:=q.ai ++ [({ x with ak:=a2,aq:=c2 } :aM)],aK:=a5,aV:=c5 } :af)∧pH.cell? ⟨o,7,n_⟩=o_ (s_ q.aK q.ai.length q.aV)∧pH.frozen? ⟨o,7,n_⟩=false):=HL.I.1.Gi DR.I rfl rfl oM oq sM; have VY:=HN.I.2.1; have VP:=HN.I.2.2; clear oM oq zR sM));go_roundw
        case rel=>exact ⟨k+1,by omega,by go_num,⟨_,HN.I.1,cL.upPort HL.I.2.1 HX.I.1⟩⟩
        case measure=>simp [Go.RowKit.intOf]; omega
       ·have i1: ¬ (k:Int) < (p.ai.length:Int):=by omega
        have HE:Hid (∃ q,cL p w wr o q∧q.pure=p.pure):=by
         have h5:=HL.I.2.1;rw [KF (by show (p.ai.map _).length≤k; rw [KG]; omega)] at h5;exact ⟨q,HL.I.1,h5⟩
        clear HL;obtain ⟨q,hL,hq⟩:=HE.I;have HZ:Hid (cL p w wr o q∧q.pure=p.pure):=⟨hL,hq⟩
        obtain ⟨m0,m1,m2,m3,m4,m5,m6,m7⟩:=hL.I.cells;clear hL hq HE
        repeat (first | (go_big_may; refine ec 2 96 q.row HZ.I.1.ret ?_) | go_values | go_skip | go_guarded | go_step | go_upon | go_back)
        repeat (first | go_values | go_skip | go_guarded | go_step | go_upon)
        refine gZ results48 HZ.I.1.ret ?_;have hne: ∀ g∈q.Mc,g≠w.heap.size+1:=fun g hg e=>by have:=(HZ.I.1.own.lt g hg).1; omega
        exact ⟨q,rfl,(HZ.I.1.own.lower (by omega)).same fun g hg=>KH _ _ _ _ (hne g hg),HZ.I.2,q_ HZ.I.1.cd (by omega) _⟩
end
section
open Go.RowKit
theorem cnt_op (l:List dN):aF (fun _:dN=>4) l=l.length * 4:=kr (fun _=>rfl) l
theorem Ee (l:List ByteArray):aF (fun _:ByteArray=>1) l=l.length * 1:=kr (fun _=>rfl) l
theorem A8: ∀ l:List ao,aF bj l≤11 * (l.length+g9 (fun x:ao=>x.prog.length) l)
 | [] =>by simp [aF]
 | x :: r=>by
  have h1:=A8 r;have h2:bj x=2+aF (fun _:dN=>4) x.prog+9:=rfl;have h3:=cnt_op x.prog;exact Zb5
theorem vG: ∀ l:List au,aF bN l≤11 * (l.length+g9 (fun x:au=>x.Ma.length) l)
 | [] =>by simp [aF]
 | x :: r=>by
  have h1:=vG r;have h2:bN x=2+aF (fun _:ByteArray=>1) x.Ma:=rfl;have h3:=Ee x.Ma;exact Zb5
theorem BL: ∀ l:List aM,aF eo l≤11 * (l.length+g9 (fun x:aM=>x.Ma.length) l)
 | [] =>by simp [aF]
 | x :: r=>by
  have h1:=BL r;have h2:eo x=4+aF (fun _:ByteArray=>1) x.Ma:=rfl;have h3:=Ee x.Ma;exact Zb5
theorem Wy (p:af):fb p≤11 * p.pure.total:=by
 rw [af.Bf];unfold fb;have h1:=A8 p.L8;have h2:=vG p.ae;have h3:=BL p.ai;have h4:aF (fun _:bD=>3) p.aj=p.aj.length * 3:=kr (fun _=>rfl) _;have h5:aF (fun _:aB=>2) p.L9=p.L9.length * 2:=kr (fun _=>rfl) _;have h6:aF (fun _:az=>3) p.ag=p.ag.length * 3:=kr (fun _=>rfl) _;omega
theorem Wh {p:af} (h:p.pure.Small):p.WN:=by
 refine ⟨by simpa [af.pure] using h.dl,h.fx,h.cD,h.cC,by simpa [af.pure] using h.cb,by simpa [af.pure] using h.dH,fun x hx=> ?_,fun x hx=> ?_,fun x hx=> ?_⟩
 ·exact (h.L8 x.toaD (Lr.2 ⟨x,hx,rfl⟩)).1.1
 ·exact (h.ae x.toci (Lr.2 ⟨x,hx,rfl⟩)).2.1
 ·exact (h.ai x.todS (Lr.2 ⟨x,hx,rfl⟩)).2.1
theorem Di {α:Type} {N:gd α} {w w':w_} {base:Nat} {x:α} (h:N.cO w base x) (hb:B_ w.heap.size w w'):N.cO w' base x:=h.same fun g hk=>hb.block g (h.lt hk).2
def Az (p:af) (w W:w_):Prop:=W.heap[w.heap.size]? =o_ (c_ p.cells 29)∧B_ w.heap.size w W
def o8 (W:w_) (X b:Nat) (q:af):Prop:=av W X q∧ap W b q
def rT (W:w_) (X b:Nat) (x:ao):Prop:=jx W X x∧aR.cO W b x
section
variable {p q:af} {x:ao} {w W W':w_} {X b:Nat} {bs:List Nat}
theorem Az.below (h:Az p w W) (hb:B_ W.heap.size W W'):Az p w W':=⟨(hb.block _ (J2.1 h.1).1).trans h.1,h.2.trans (hb.mono h.2.size)⟩
theorem Az.kept (h:Az p w W) (hk:aI W W' bs) (hs: ∀ g∈bs,w.heap.size < g):Az p w W':=⟨(hk.same _ (J2.1 h.1).1 fun hm=>by have:=hs _ hm; omega).trans h.1,h.2.trans (hk.below h.2.size fun g hg=>by have:=hs g hg; omega)⟩
theorem o8.below (h:o8 W X b q) (hb:B_ W.heap.size W W'):o8 W' X b q:=⟨h.1.below hb,h.2.below hb⟩
theorem o8.kept (h:o8 W X b q) (hk:aI W W' bs) (hs:X∉bs) (ho: ∀ g∈q.Mc,g∉bs):o8 W' X b q:=⟨(hk.same _ (J2.1 h.1).1 hs).trans h.1,h.2.same fun g hg=>hk.same g (h.2.lt g hg).2 (ho g hg)⟩
theorem rT.below (h:rT W X b x) (hb:B_ W.heap.size W W'):rT W' X b x:=⟨h.1.below hb,Di h.2 hb⟩
theorem rT.kept (h:rT W X b x) (hk:aI W W' bs) (hs:X∉bs) (ho: ∀ g∈blk x.aY,g∉bs):rT W' X b x:=⟨(hk.same _ (J2.1 h.1).1 hs).trans h.1,h.2.same fun g hg=>hk.same g (h.2.lt hg).2 (ho g (fZ.2 hg))⟩
theorem av.lt {W:w_} {X:Nat} {q:af} (h:av W X q):X < W.heap.size:=(J2.1 h).1
theorem jx.lt {W:w_} {X:Nat} {x:ao} (h:jx W X x):X < W.heap.size:=(J2.1 h).1
end
def ce (id:Int) (f:aD→aD) (l:List aD):List aD:=l.map fun x=>if x.id=id then f x else x
def cN:aE:=⟨0,0,[],[],[],[],[],[]⟩
def gI (w:w_) (r:Option aE) (e:Ending) (w':w_):Prop:= ∃ q:af,e=r_ (u_ #[a_ q.cells,b_ r.isSome])∧ap w' w.heap.size q∧q.pure=r.getD cN∧B_ w.heap.size w w'
theorem Ai (w:w_) (base:Nat):ap w base ⟨0,0,[],n_,0,[],n_,0,[],n_,0,[],n_,0,[],n_,0,[],n_,0⟩:=
 ⟨Ke _ _ _ _,Ke _ _ _ _,Ke _ _ _ _,Ke _ _ _ _,Ke _ _ _ _,Ke _ _ _ _,(fun x hx=>by cases hx),(fun x hx=>by cases hx),(fun x hx=>by cases hx),by simp [af.Mc,blk]⟩
theorem ca {w w':w_} {r:Option aE} (h:r=n_) (hb:B_ w.heap.size w w'):gI w r (r_ (u_ #[a_ ar,b_ false])) w':=by
 subst h;exact ⟨_,rfl,Ai _ _,rfl,hb⟩
theorem db {α:Type} {num:α→Int} {ok:α→Bool} : ∀ {l:List α} {last:Int},aw num ok last l=true→(∀ x∈l,last < num x)∧l.Pairwise (fun x y=>num x < num y)
 | [],_,_=>⟨(fun x hx=>by cases hx),List.Pairwise.nil⟩
 | x :: r,last,h=>by
  simp only [aw,Bool.and_eq_true,decide_eq_true_eq] at h;obtain ⟨h1,h2⟩:=db h.2;refine ⟨fun y hy=> ?_,List.Pairwise.cons (fun y hy=>h1 y hy) h2⟩;rcases Kt.1 hy with rfl | hy
  ·exact h.1.1.2
  ·have:=h1 y hy; have:=h.1.1.2; omega
theorem rp {l:List aD} {f:aD→aD} {id:Int} {n:Nat} {y:aD} (hr:l.Pairwise (fun x y=>x.id < y.id)) (hn:l[n]? =o_ y) (hy:y.id=id):ce id f l=l.set n (f y):=by
 induction l generalizing n with
 | nil=>simp at hn
 | cons x r ih=>
  obtain ⟨h1,h2⟩:=List.pairwise_cons.1 hr;cases n with
  | zero=>
   simp only [QI,LF] at hn;subst hn;have e:ce id f r=r:=by
    unfold ce
    conv=>rhs; rw [← List.map_id r]
    refine List.map_congr_left fun z hz=> ?_
    rw [if_neg (by have:=h1 z hz; omega)];rfl
   simp only [Ln]
   show (if x.id=id then f x else x) :: ce id f r=_
   rw [if_pos hy,e]
  | succ n=>
   simp only [List.getElem?_cons_succ] at hn;have hlt:=h1 y (KA hn);simp only [Lo]
   show (if x.id=id then f x else x) :: ce id f r=_
   rw [if_neg (by omega),ih h2 hn]
theorem hY:cN.Small:=⟨Ky _,Ky _,Ky _,Ky _,Ky _,Ky _,(fun x hx=>by cases hx),(fun x hx=>by cases hx),(fun x hx=>by cases hx),(fun x hx=>by cases hx),(fun x hx=>by cases hx),(fun x hx=>by cases hx)⟩
theorem ap.kB {w:w_} {base n j gs:Nat} {q:af} {x y:ao} {vs:List v_} (h:ap w base q) (hx:q.L8[n]? =o_ x) (ha:q.aN=o_ ⟨gs,0,n_⟩) (hy:y.prog=x.prog∧y.aY=x.aY∧y.bH=x.bH)
  (hj:j+vs.length≤12) (h1: ∀ r,r < vs.length→(bg.vals y)[j+r]? =vs[r]?) (h2: ∀ r,r < 12→ ¬ (j≤r∧r < j+vs.length)→(bg.vals y)[r]? =(bg.vals x)[r]?):
  ap (bn w gs (n * 12+j) vs) base ({ q with L8:=q.L8.set n y } :af)∧aI w (bn w gs (n * 12+j) vs) [gs] ∧({ q with L8:=q.L8.set n y } :af).Mc=q.Mc:=by
 have hn:n < q.L8.length:=(Lj.1 hx).1;have hsp:=kL hx;have hset:q.L8.set n y=q.L8.take n ++ y :: q.L8.drop (n+1):=by rw [List.set_eq_take_append_cons_drop,if_pos hn]
 have hl:(q.L8.take n).length=n:=by rw [List.length_take]; omega
 have hkb:aI w (bn w gs (n * 12+j) vs) [gs] :=aI.set _ (by simp);have ho:=h.L8;rw [ha] at ho;obtain ⟨g,hg,hrow⟩:=bl.fX (K:=bg) ho (by omega);cases hg;rw [hsp] at hrow;have h5:=bl.part (K:=bg) (x:=x) (y:=y) (j:=j) (vs:=vs) hrow hj h1 h2;rw [hl,show bg.n=12 from rfl,← hset] at h5;have h6:=h5.owns;have hki:(q.L8.set n y).filterMap aR.bt=q.L8.filterMap aR.bt:=by
  rw [hset]
  conv=>rhs; rw [hsp]
  have e:aR.bt y=aR.bt x:=by show y.aY.map (·.block)=x.aY.map (·.block); rw [hy.2.1]
  simp only [List.filterMap_append,LH,e]
 have Pp:aR.cO w base y:=by
  have h7:=h.eI x (KA hx)
  show w.ownsRow base _ 4 (s_ y.aY y.prog.length y.bH) y.prog.length (fk.flat y.prog)
  rw [hy.1,hy.2.1,hy.2.2];exact h7
 have EI: ∀ z∈q.L8,∀ b,aR.bt z=o_ b→b≠gs:=fun z hz b hb e=>by
  have h8:=h.nodup;rw [af.Mc,ha] at h8;have h9:=(Kf.1 h8).2.2 gs (by simp [blk]) b (Lz _ (Lq.2 ⟨z,hz,hb⟩));exact h9 e.symm
 have hsame: ∀ b,b≠gs→(bn w gs (n * 12+j) vs).heap[b]? =w.heap[b]? :=fun b hb=>de _ hb
 have hm: ∀ z∈q.L8.set n y,aR.cO (bn w gs (n * 12+j) vs) base z:=fun z hz=>by
  rcases List.mem_or_eq_of_mem_set hz with hz | rfl
  ·exact (h.eI z hz).same fun b hb=>hsame b (EI z hz b hb)
  ·refine Pp.same fun b hb=>hsame b (EI x (KA hx) b ?_)
   rw [← hb]
   show x.aY.map (·.block)=z.aY.map (·.block)
   rw [hy.2.1]
 have ht:=h.As (w':=bn w gs (n * 12+j) vs) (l:=q.L8.set n y) (by rw [ha]; rw [List.length_set] at h6; exact h6) (by simp) hm hki (hkb.mono (by simp [ha,blk]));exact ⟨ht.1,hkb,ht.2⟩
end
section
open Go.RowKit Go.Maps
attribute [local go_sem ↓] Kc Kd

end
end Go.Proofs.YtnlbiglljiopmaaGreatDoor
