/- What the proof leans on, part 9. -/
import Derived.Test.YtfncpmaefninjaaGreatDoorOwnS8
set_option linter.defProp false
set_option linter.unusedVariables false
set_option maxRecDepth 100000
set_option maxHeartbeats 8000000
open Go.Proofs.Tryz
open Go renaming World->w_,Value->v_,Calls->k_,Addr->d_,TypeId->T_,below_setRow->q_
open Go.Ending renaming returned->r_
open Go.IntKind renaming i64->j_
open Go.Obj renaming cells->c_
open Go.RowKit renaming Below->B_
open Go.Value renaming int->i_,slice->s_,bool->b_,string->t_,agg->a_,pointer->p_,tuple->u_
open Option renaming some->o_,none->n_
open Array renaming getElem?_eq_some_iff->J2
open Bool renaming and_eq_true->J7,and_false->PP,or_eq_true->Kb
open Function renaming comp_def->Ls
open Go renaming frozen_of_row->Ko,heap_alloc_new->Kj,setRow_heap->KU,setRow_other->KH,wp_at_succ->Kd,wp_at_zero->Kc
open Go.Proofs.Tryz renaming prog->J3
open Go.RowKit.Below renaming refl->Kp
open Go.World renaming ownsRow_nil->Ke
open Int renaming le_refl->LJ
open List renaming getElem?_eq_getElem->Kz,getElem?_eq_some_iff->Lj,getElem?_map->Kk,getElem?_set_self->LU,length_append->Lf,length_cons->Lg,length_map->KG,length_nil->K4,length_set->LI,map_congr_left->Lw,map_map->Lv,map_set->PN,mem_append->Kg,mem_append_left->Lz,mem_append_right->Ly,mem_cons->Kt,mem_cons_of_mem->LB,mem_filterMap->Lq,mem_iff_getElem->LK,mem_map->Lr,mem_of_getElem?->KA,nodup_append->Kf,nodup_cons->Lp,not_mem_nil->Ku,pairwise_iff_getElem->P8,set_set->PV
open Nat renaming le_refl->Ki,le_trans->LG,lt_trichotomy->P9,zero_add->Li,zero_le->Ky
open Option renaming map_eq_some_iff->Kw
open Option.some renaming inj->KC

namespace Go.Proofs.YtfncpmaefninjaaGreatDoor
def dv {o:dN} (h:kc o=true):(1<=o.1/\o.1<=17)/\(¬ o.1=17->1<=o.2.1/\o.2.1<=1000)/\cv o.2.2.1 (-1) 1000=true/\bw o.2.2.2=true/\(¬ o.1=8-> ¬ o.1=10-> ¬ o.1=13->bI o.2.2.2=true):=by
 unfold kc mQ at h
 split at h
 .simp only [J7,decide_eq_true_eq] at h
  have h1:=bz.1 h.1.1;exact ⟨zo,fun _=>h1,by rw [h.1.2]; rfl,by rw [empty_eq h.2]; rfl,fun _ _ _=>h.2⟩
 .split at h
  .simp only [J7] at h
   have h1:=bz.1 h.1.1;exact ⟨zo,fun _=>h1,h.1.2,by rw [empty_eq h.2]; rfl,fun _ _ _=>h.2⟩
  .split at h
   .simp only [J7] at h
    have h1:=bz.1 h.1.1;exact ⟨zo,fun _=>h1,h.1.2,h.2,fun e _ _=>by omega⟩
   .split at h
    .simp only [J7,decide_eq_true_eq] at h
     have h1:=bz.1 h.1.1;exact ⟨zo,fun _=>h1,by rw [h.1.2]; rfl,h.2,fun _ e1 e2=>by omega⟩
    .split at h
     .simp only [J7,decide_eq_true_eq] at h
      exact ⟨zo,fun e=>by omega,by rw [h.1.2]; rfl,by rw [empty_eq h.2]; rfl,fun _ _ _=>h.2⟩
     .cases h
def n7 (n:Int):n<=n/\n<=n+7:=zo
def sS (p q:aE):Prop:=aQ q/\p.next<=q.next/\q.next<=p.next+7
section
variable {p:aE} {id now:Int} {o:dN}
def cP {code:Int} {q:aE} (h:aQ q) (hu:afc id q) (hc:cv code 0 3=true) (hn:p.next<=q.next/\q.next<=p.next+7):sS p (bu code id q):=⟨D6 h hu hc,hn⟩
def B8 {st:Int} {q:aE} (h:aQ q) (hu:xr id q) (hq:q.next=p.next) (hn:p.next+1<=1000000000) (eu:0<=now/\now<=1000000000) (hm:cv o.2.2.1 (-1) 1000=true)
  (hs:st=5/\bw o.2.2.2=true\/(st=3\/st=4\/st=6\/st=7)/\bI o.2.2.2=true) (hh:hasB q st o.2.1=true):sS p (mX st o now id q):=by
 have h1:=IT (p:=q) (id:=id) (st:=st) (now:=now) (o:=o);exact ⟨Ha h hu zo eu hm hs hh,zo,zo⟩
def pw {s:bD} (h:aQ p) (hf:cg (·.id) o.2.1 p.aj=o_ s):hasB p 3 o.2.1=true/\0<=s.n/\s.n<=s.max:=by
 refine ⟨ul hf,?_⟩;have h1:=(cK h.aj s (ks hf).1).2;unfold gw at h1;simp only [J7] at h1;exact bz.1 h1.2
def ji {b:ci} (h:aQ p) (hf:cg (·.id) o.2.1 p.ae=o_ b):hasB p 5 o.2.1=true/\hasB p 6 o.2.1=true/\(b.Ma.length:Int)<=b.max/\ ∀ t∈b.Ma,bw t=true:=by
 refine ⟨ul hf,ul hf,?_⟩;have h1:=(cK h.ae b (ks hf).1).2;unfold ct at h1;simp only [J7] at h1;exact lv.1 h1.2
def nB {q:dS} (h:aQ p) (hf:cg (·.id) o.2.1 p.ai=o_ q):1<=q.max/\(q.Ma.length:Int)<=q.max/\ ∀ t∈q.Ma,bw t=true:=by
 have h1:=(cK h.ai q (ks hf).1).2;unfold dj at h1;simp only [J7] at h1;exact ⟨(bz.1 h1.1.1).1,lv.1 h1.2⟩
def sX {b:az} (h:aQ p) (hf:cg (·.id) o.2.1 p.ag=o_ b):hasB p 7 o.2.1=true/\bw b.text=true:=by
 refine ⟨ul hf,?_⟩;have h1:=(cK h.ag b (ks hf).1).2;unfold cU at h1;simp only [J7] at h1;exact h1.1
def CO (h:aQ p) (hu:xr id p) (hn:p.next<=999999990) (ho:kc o=true) (hk:o.1=3) (eu:0<=now/\now<=1000000000):sS p (mh o now id p):=by
 obtain ⟨f0,f1,f2,f3,f4⟩:=dv ho;unfold mh
 split
 .exact O_
 .rename_i s hs
  obtain ⟨k1,k2,k3⟩:=pw h hs
  split
  .exact B8 h hu rfl zo eu f2 (.inr ⟨.inl rfl,f4 zo zo zo⟩) k1
  .exact ZbW
def yH (h:aQ p) (hu:xr id p) (hn:p.next<=999999990):sS p (gJ o id p):=by
 unfold gJ
 split
 .exact O_
 .rename_i s hs
  obtain ⟨k1,k2,k3⟩:=pw h hs
  split
  .rename_i y hy
   obtain ⟨m1,m2,-⟩:=ft hy;have h3:=mU p.next y;exact cP (i9 h m1 zo (.inl rfl) zo) (hu.up.Mg m1 zo fun _=>rfl) rfl Zdj
  .split
   .exact O_
   .exact ZbW
def zn (h:aQ p) (hu:xr id p) (hn:p.next<=999999990) (ho:kc o=true) (hk:o.1=5\/o.1=6\/o.1=7) (eu:0<=now/\now<=1000000000):sS p (dE o now id p):=by
 obtain ⟨f0,f1,f2,f3,f4⟩:=dv ho;unfold dE
 split
 .exact O_
 .rename_i e he
  split
  .have h1:=pP (on:=o.2.1) (f:=fun y=>y) (st:=4) (by decide) (.inl rfl) (kw (k:=o.2.1) (b:=true) h) hn
   have h2:(gL o.2.1 true p).next=p.next:=rfl;exact cP h1.1 (afc.ff (p:=gL o.2.1 true p) hu.up (by decide) fun _=>rfl) rfl zo
  .split
   .exact cP (kw h) hu.up rfl (n7 p.next)
   .split
    .exact O_
    .exact B8 h hu rfl zo eu f2 (.inr ⟨.inr (.inl rfl),f4 zo zo zo⟩) (ul he)
def Dg (h:aQ p) (hu:xr id p) (hn:p.next<=999999990) (ho:kc o=true) (eu:0<=now/\now<=1000000000):sS p (lc o now id p):=by
 obtain ⟨f0,f1,f2,f3,f4⟩:=dv ho;unfold lc
 split
 .exact O_
 .rename_i b hb
  obtain ⟨k1,k2,k3,k4⟩:=ji h hb
  split
  .rename_i y hy
   obtain ⟨m1,m2,-⟩:=ft hy;have h3:=mU p.next y;exact cP (i9 h m1 zo (.inr ⟨_,f3,rfl⟩) zo) (hu.up.Mg m1 zo fun _=>rfl) rfl Zdj
  .split
   .exact B8 h hu rfl zo eu f2 (.inl ⟨rfl,f3⟩) k1
   .refine cP (gN h (fun y hy hk=> ?_) fun t ht=> ?_) hu.up rfl (n7 p.next)
    .rw [only h.ae hb hy hk,Lf]; simp only [Lg,K4]; omega
    .rcases Kg.1 ht with ht | ht
     .exact k4 t ht
     .exact ZbO
def Dd (h:aQ p) (hu:xr id p) (hn:p.next<=999999990) (ho:kc o=true) (hk:o.1=9) (eu:0<=now/\now<=1000000000):sS p (ka o now id p):=by
 obtain ⟨f0,f1,f2,f3,f4⟩:=dv ho;unfold ka
 split
 .exact O_
 .rename_i b hb
  obtain ⟨k1,k2,k3,k4⟩:=ji h hb
  split
  .exact B8 (iQ h jX) hu.got rfl zo eu f2 (.inr ⟨.inr (.inr (.inl rfl)),f4 zo zo zo⟩) k2
  .rename_i t r hr
   rw [hr] at k3 k4;simp only [Lg] at k3;have hg:aQ (ez t id p):=iQ h (k4 t zw);have hg':xr id (ez t id p):=hu.got;have hgb:cg (·.id) o.2.1 (ez t id p).ae=o_ b:=hb
   split
   .refine cP (gN hg (fun y hy hk=> ?_) fun t ht=>k4 t (by simp [ht])) hg'.up rfl (n7 p.next)
    rw [only hg.ae hgb hy hk]; omega
   .rename_i y hy
    obtain ⟨m1,m2,-⟩:=ft hy;have h3:=mU p.next y;have hh:bw y.held=true:=by
     have h5:=iF (hg.proc m1).2.1;unfold jY at h5;simp only [J7] at h5;exact h5.1.1.2
    have hb2:aQ (cV o.2.1 (r ++ [y.held]) (ez t id p)):=gN hg (fun z hz hk=>by rw [only hg.ae hgb hz hk,Lf]; simp only [Lg,K4]; omega) fun s hs=>by
     rcases Kg.1 hs with hs | hs
     .exact k4 s (by simp [hs])
     .simp only [Kt,Ku,or_false] at hs; rw [hs]; exact hh
    exact cP (i9 hb2 m1 zo (.inl rfl) (by show p.next+1<=_; omega)) (afc.Mg (p:=cV o.2.1 (r ++ [y.held]) (ez t id p)) hg'.up m1 zo fun _=>rfl) rfl Zdj
def yv (h:aQ p) (hu:xr id p) (hn:p.next<=999999990) (ho:kc o=true) (hk:o.1=10\/o.1=11\/o.1=12) (eu:0<=now/\now<=1000000000):sS p (dC o now id p):=by
 obtain ⟨f0,f1,f2,f3,f4⟩:=dv ho;unfold dC
 split
 .exact O_
 .rename_i b hb
  obtain ⟨k1,k2⟩:=sX h hb
  split
  .have h1:=pP (on:=o.2.1) (f:=lG o.2.2.2) (st:=7) (by decide) (.inr ⟨_,f3,rfl⟩) (kA (k:=o.2.1) (b:=true) h f3 (.inl rfl)) hn
   have h2:(ib o.2.1 true o.2.2.2 p).next=p.next:=rfl;exact cP h1.1 (afc.ff (p:=ib o.2.1 true o.2.2.2 p) hu.up (by decide) fun _=>rfl) rfl zo
  .split
   .exact cP (kA h jX (.inr oB)) hu.up rfl (n7 p.next)
   .split
    .exact cP (iQ h k2) hu.got.up rfl (n7 p.next)
    .exact B8 (iQ h k2) hu.got rfl zo eu f2 (.inr ⟨.inr (.inr (.inr rfl)),f4 zo zo zo⟩) k1
def By (h:aQ p) (hu:xr id p) (ho:kc o=true):sS p (ig o id p):=by
 obtain ⟨f0,f1,f2,f3,f4⟩:=dv ho;unfold ig
 split
 .exact O_
 .rename_i q hq
  obtain ⟨k1,k2,k3⟩:=nB h hq
  split
  .exact O_
  .split
   .refine cP (jj h (fun y hy hk=> ?_) fun t ht=> ?_) hu.up rfl (n7 p.next)
    .rw [only h.ai hq hy hk]; exact k1
    .exact ZbO
   .split
    .exact O_
    .refine cP (jj h (fun y hy hk=> ?_) fun t ht=> ?_) hu.up rfl (n7 p.next)
     .rw [only h.ai hq hy hk,Lf]; simp only [Lg,K4]; omega
     .rcases Kg.1 ht with ht | ht
      .exact k3 t ht
      .exact ZbO
def zO (h:aQ p) (hu:xr id p):sS p (gC o id p):=by
 unfold gC
 split
 .exact O_
 .rename_i q hq
  obtain ⟨k1,k2,k3⟩:=nB h hq
  split
  .exact O_
  .split
   .exact cP (iQ h jX) hu.got.up rfl (n7 p.next)
   .rename_i t r hr
    rw [hr] at k2 k3;simp only [Lg] at k2;have hg:aQ (ez t id p):=iQ h (k3 t zw);have hgb:cg (·.id) o.2.1 (ez t id p).ai=o_ q:=hq
    split
    .refine cP (jj hg (fun y hy hk=> ?_) fun t ht=>k3 t (by simp [ht])) hu.got.up rfl (n7 p.next)
     rw [only hg.ai hgb hy hk]; omega
    .exact cP hg hu.got.up rfl (n7 p.next)
def AO (h:aQ p) (hu:xr id p) (hn:p.next<=999999990):sS p (jU o id p):=by
 have hnx:=bz.1 h.next;unfold jU
 split
 .exact O_
 .rename_i y hy
  split
  .rename_i h0
   obtain ⟨m1,m2⟩:=ks hy;have hne: ¬ o.2.1=id:=fun e=>by have:=hu.up y m1 zo; omega
   refine cP (h.ju (nx:=p.next+1) (f:=fun y=> { y with Md:=1,RU:=p.next }) (fun _=>rfl) ⟨zo,zo⟩ fun z hz hi=> ?_) (hu.up.other hne fun _=>rfl) rfl (by show p.next<=p.next+1/\p.next+1<=p.next+7; omega);have e:=only h.L8 hy hz hi;subst e;obtain ⟨-,q1,q2,q3⟩:=h.proc hz;have q4:=iF q1;rw [fG,J7] at q1;have q5:=q1.2;unfold bO at q5;rw [if_pos h0] at q5;simp only [J7,decide_eq_true_eq] at q5;obtain ⟨⟨⟨⟨⟨a1,a2⟩,a3⟩,a4⟩,a5⟩,a6⟩:=q5;have q6:jm z.prog=true:=by
    unfold jY at q4;simp only [J7] at q4;exact q4.1.1.1.2
   refine ⟨?_,?_,rfl,.inr (.inr rfl)⟩
   .exact Zbo
   .unfold fF
    rw [Kb];exact ZaX
  .exact O_
def nG (h:aQ p) {k:Int} :aQ (ot k p):=by
 have hnx:=bz.1 h.next;refine h.ju (nx:=p.next) (f:=j7) (fun _=>rfl) ⟨LJ _,hnx.2⟩ fun z hz hi=> ?_
 exact ⟨vQ (iF (h.proc hz).2.1),rfl,rfl,.inr (.inl rfl)⟩
def Dr (h:aQ p) (hu:xr id p):sS p (lg o id p):=by
 unfold lg
 split
 .exact O_
 .split
  .exact O_
  .split
   .exact ⟨nG h,n7 p.next⟩
   .rename_i hne
    exact cP (nG h) (hu.up.other hne fun _=>rfl) rfl (n7 p.next)
end
def fK {P:aE->Prop} {c:Prop} [Decidable c] {a b:aE} (h1:c->P a) (h2: ¬ c->P b):P (if c then a else b):=by
 split
 .exact h1 ‹_›
 .exact h2 ‹_›
def AW {p:aE} {x:aD} {now:Int} (h:aQ p) (hx:x∈p.L8) (hs:x.Md=1) (hn:p.next<=999999990) (eu:0<=now/\now<=1000000000):kc (opAt x)=true/\sS p (lX now x (opAt x) p):=by
 obtain ⟨-,k1,k2,k3⟩:=h.proc hx;have hnx:=bz.1 h.next;have hop:=iT k1 (by rw [hs]; decide);have hb:=iF k1;have hpl:jm x.prog=true:=by
  unfold jY at hb;simp only [J7] at hb;exact hb.1.1.1.2
 have hlt:x.pc.toNat < x.prog.length:=zo
 have hoa:opAt x=x.prog[x.pc.toNat] :=by unfold opAt; rw [Kz hlt]; rfl
 have ho:kc (opAt x)=true:=by rw [hoa]; exact yG hpl (Kz hlt)
 refine ⟨ho,?_⟩;have hst:dU x=true/\jJ x=true/\x.Mg=0/\x.on=0/\bI x.held=true:=by
  rw [fG,J7] at k1;have h3:=k1.2;unfold bO at h3;rw [if_neg zo,if_pos hs] at h3;simp only [J7,decide_eq_true_eq] at h3;exact ⟨h3.1.1.1.1,h3.1.1.1.2,h3.1.1.2,h3.1.2,h3.2⟩
 have hone: ∀ y∈p.L8,y.id=x.id->y=x:=fun y hy e=>by
  exact Zat
 have hup:afc x.id p:=fun y hy e=>by rw [hone y hy e]; exact hs
 obtain ⟨f0,f1,f2,f3,f4⟩:=dv ho;have hl: ¬ (opAt x).1=1->xr x.id p:=fun hk y hy e=>by
  rw [hone y hy e];refine ⟨hs,?_⟩;have h4:=hst.2.1;unfold jJ at h4;rw [if_neg hk] at h4;exact of_decide_eq_true h4
 unfold lX;refine fK (P:=sS p) (fun hk=> ?_) (fun hk1=> ?_)
 .have h4:=hst.2.1
  unfold jJ at h4;rw [if_pos hk] at h4;simp only [J7,decide_eq_true_eq] at h4;have hN:=f1 zo;unfold GY;refine fK (P:=sS p) (fun _=> ?_) (fun hne=> ?_)
  .exact cP h hup rfl zo
  .refine ⟨h.ju (nx:=p.next) (f:=fun y=> { y with left:=(if x.left=0 then (opAt x).2.1 else x.left) - 1 }) (fun _=>rfl) ⟨LJ _,hnx.2⟩ fun z hz hi=> ?_,n7 p.next⟩
   rw [hone z hz hi];refine ⟨?_,k2,k3,.inl rfl⟩;rw [fG,J7];refine ⟨hb,?_⟩;unfold bO
   show (if x.Md=0 then _ else if x.Md=1 then dU x && jJ { x with left:=(if x.left=0 then (opAt x).2.1 else x.left) - 1 } && decide (x.Mg=0) && decide (x.on=0) && bI x.held else _)=true
   have h5:jJ { x with left:=(if x.left=0 then (opAt x).2.1 else x.left) - 1 } =true:=by
    unfold jJ
    show (if (opAt x).1=1 then decide (0<=(if x.left=0 then (opAt x).2.1 else x.left) - 1) && decide ((if x.left=0 then (opAt x).2.1 else x.left) - 1 < (opAt x).2.1) else _)=true
    rw [if_pos hk];simp only [J7,decide_eq_true_eq]
    split <;> omega
   rw [if_neg zo,if_pos hs,h5,hst.1,hst.2.2.1,hst.2.2.2.1,hst.2.2.2.2]; rfl
 .have hu:=hl hk1
  refine fK (P:=sS p) (fun hk=> ?_) (fun _=> ?_)
  .have hN:=f1 zo
   exact ⟨sO h hu zo (.inl ⟨rfl,rfl,oB,eB zo zo⟩),by show p.next<=p.next+1; omega,by show p.next+1<=_; omega⟩
  .refine fK (P:=sS p) (fun hk=> ?_) (fun _=> ?_)
   .exact CO h hu hn ho hk eu
   .refine fK (P:=sS p) (fun hk=> ?_) (fun _=> ?_)
    .clear hk; exact yH h hu hn
    .refine fK (P:=sS p) (fun hk=> ?_) (fun _=> ?_)
     .exact zn h hu hn ho hk eu
     .refine fK (P:=sS p) (fun hk=> ?_) (fun _=> ?_)
      .exact Dg h hu hn ho eu
      .refine fK (P:=sS p) (fun hk=> ?_) (fun _=> ?_)
       .exact Dd h hu hn ho hk eu
       .refine fK (P:=sS p) (fun hk=> ?_) (fun _=> ?_)
        .exact yv h hu hn ho hk eu
        .refine fK (P:=sS p) (fun hk=> ?_) (fun _=> ?_)
         .exact By h hu ho
         .refine fK (P:=sS p) (fun hk=> ?_) (fun _=> ?_)
          .exact zO h hu
          .refine fK (P:=sS p) (fun hk=> ?_) (fun _=> ?_)
           .exact AO h hu hn
           .refine fK (P:=sS p) (fun hk=> ?_) (fun _=> ?_)
            .exact Dr h hu
            .refine ⟨h.ju (nx:=p.next) (f:=fun y=> { y with pc:=0 }) (fun _=>rfl) ⟨LJ _,hnx.2⟩ fun z hz hi=> ?_,n7 p.next⟩
             rw [hone z hz hi];have h5:=hu x hx rfl;have h6:=lK hpl;refine ⟨?_,k2,k3,.inl rfl⟩;rw [fG,J7];exact ⟨hb,mr (x:= { x with pc:=0 }) hpl hs ⟨LJ _,by show (0:Int) < x.prog.length; omega⟩ h5.2 hst.2.2.1 hst.2.2.2.1 hst.2.2.2.2⟩
def DA {p:aE} {now:Int} (h:aQ p) (hn:p.next<=999999980) (eu:0<=now/\now<=1000000000):aQ (mS now p)/\p.next<=(mS now p).next/\(mS now p).next<=p.next+13:=by
 obtain ⟨h1,h2,h3⟩:=ru (now:=now) h zo;unfold mS
 split
 .exact ⟨h1,h2,zo⟩
 .rename_i x hx
  obtain ⟨m1,m2,-⟩:=ft hx;obtain ⟨-,h4,h5,h6⟩:=AW (now:=now) h1 m1 m2 zo eu;exact ⟨h4,zo,zo⟩
section
open Go.RowKit Go.Maps
attribute [local go_sem ↓] Kc Kd
def pF (nx code:Int) (x:ao):ao:=⟨iY nx code x.toaD,x.aY,x.bH⟩
abbrev yA (W w:w_) (base gs:Nat) (z q:af):Prop:=av W w.heap.size z/\W.heap[w.heap.size+1]? =o_ (c_ ar 31)/\ap W base q/\aI w W [gs] /\B_ base w W
def re {n:Nat} {x y:ao} {l:List ao} (hx:l[n]? =o_ x) (hy:y.aY=x.aY):(l.set n y).filterMap aR.bt=l.filterMap aR.bt:=by
 have hn:=(Lj.1 hx).1;have e:l[n] =x:=(Lj.1 hx).2;rw [List.set_eq_take_append_cons_drop,if_pos hn]
 conv=>rhs; rw [<- List.take_append_drop n l,List.drop_eq_getElem_cons hn]
 simp only [List.filterMap_append,List.filterMap_cons,e];have hk:aR.bt y=aR.bt x:=by show (y.aY).map _=(x.aY).map _; rw [hy]
 rw [hk]
def Ad {n:Nat} {q:af} {x:ao} {code:Int} {g:Nat} (hx:q.L8[n]? =o_ x) (h:g∈({ q with L8:=q.L8.set n (fE code x) } :af).Mc):g∈q.Mc:=by
 unfold af.Mc at h ⊢;simp only [re hx (show (fE code x).aY=x.aY from rfl)] at h;exact h
def yZ {n:Nat} {q:af} {nx s:Int} {y:ao} {g:Nat} (hx:q.L8[n]? =o_ y) (h:g∈({ q with next:=nx,L8:=q.L8.set n { y with RU:=s } } :af).Mc):g∈q.Mc:=by
 unfold af.Mc at h ⊢;simp only [re hx (show ({ y with RU:=s } :ao).aY=y.aY from rfl)] at h;exact h
def vT (q:af) (n base:Nat) (x:ao) (code:Int) (w:w_) (h:ap w base q) (hb:base<=w.heap.size) (hx:q.L8[n]? =o_ x) (hpc:0<=x.pc/\x.pc < x.prog.length) (hl:x.prog.length<=1048576) (hn:0<=q.next/\q.next<=1000000000):
  k_ J3 86 #[a_ q.cells,i_ j_ n,i_ j_ code] w fun e w'=> ∃ q2:af,e=r_ (a_ q2.cells)/\q2= { q with next:=gf q.next x.toaD,L8:=q.L8.set n (pF q.next code x) } /\ap w' base q2/\B_ base w w'/\aI w w' (blk q.aN):=by
 obtain ⟨gs,ha,-⟩:=cn h.at.1 hx;have hgs:=cf h.L8 (g:=gs) Zdt;have hnl:n < q.L8.length:=(Lj.1 hx).1;obtain ⟨afG,afd,ps,pA,pC,ss,afV,afX,es,afA,afq,bs,afR,afK,fs,aga,afN,ts,afr,af4⟩:=q;simp only at ha;subst ha;obtain ⟨C,hC⟩: ∃ C:Array v_,C= #[i_ j_ afG,i_ j_ afd,s_ (o_ ⟨gs,0,n_⟩) ps.length pC,s_ afV ss.length afX,s_ afA es.length afq,s_ afR bs.length afK,s_ aga fs.length afN,s_ afr ts.length af4] :=⟨_,rfl⟩
 obtain ⟨D,hD⟩: ∃ D:af,D=(⟨afG,afd,ps,o_ ⟨gs,0,n_⟩,pC,ss,afV,afX,es,afA,afq,bs,afR,afK,fs,aga,afN,ts,afr,af4⟩:af):=⟨_,rfl⟩
 obtain ⟨A,hA⟩: ∃ A:w_,A=(w.alloc (c_ C 31)).alloc (c_ ar 31):=⟨_,rfl⟩
 have b1:B_ w.heap.size w A:=by rw [hA]; exact dT _ _ _
 have h2:=cZ w (c_ C 31) (c_ ar 31);have HC:Hid (ps[n]? =o_ x/\base<=gs/\gs < w.heap.size/\base<=w.heap.size/\n < ps.length):=⟨hx,hgs.1,hgs.2,hb,hnl⟩
 have PBK:Hid (∀ g∈D.Mc,g < w.heap.size):=fun g hg=>(h.lt g (hD ▸ hg)).2
 have HA:Hid (av A w.heap.size D/\A.heap[w.heap.size+1]? =o_ (c_ ar 31)/\ap A base D/\B_ w.heap.size w A):=by subst hA hD hC; exact ⟨h2.1,h2.2,h.below b1,b1⟩
 subst hA hD hC;have HN:Hid (0<=afd/\afd<=1000000000):=hn;have Mb:=ve _ n base x code _ HA.I.2.2.1 (by have:=HC.I.2.2.2.1; have:=b1.size; omega) hx hpc hl;have j0:(0:Int)<=(n:Int):=zo
 have j1:(n:Int) < ((ps.set n (fE code x)).length:Int):=by have:n < ps.length:=hnl; rw [LI]; omega
 rw [LI] at j1;clear h hb hx hgs b1 h2 hnl hl hpc hn;unfold af.cells at Mb ⊢;simp only at Mb ⊢
 go_enter func86,ntmps86
 obtain ⟨m0,m1,m2,m3,m4,m5,m6,m7⟩:=HA.I.1.cells;go_wp2_with fail;clear m0 m1 m2 m3 m4 m5 m6 m7;refine Mb.mono ?_;clear Mb;rintro e w1 ⟨rfl,ho1,hb1,hk1⟩;have H1:Hid (yA w1 w base gs (⟨afG,afd,ps,o_ ⟨gs,0,n_⟩,pC,ss,afV,afX,es,afA,afq,bs,afR,afK,fs,aga,afN,ts,afr,af4⟩:af) (⟨afG,afd,(ps.set n (fE code x)),o_ ⟨gs,0,n_⟩,pC,ss,afV,afX,es,afA,afq,bs,afR,afK,fs,aga,afN,ts,afr,af4⟩:af)):=by
  have hc:=HC.I;have hk:aI w w1 [gs] :=(aI.dI HA.I.2.2.2).trans hk1;have l1:=(J2.1 HA.I.2.1).1;exact ⟨(hk1.same _ zo ZdS).trans HA.I.1,(hk1.same _ zo ZdS).trans HA.I.2.1,ho1,hk,(HA.I.2.2.2.mono hc.2.2.2.1).trans hb1⟩
 have PB1:Hid (∀ g∈(⟨afG,afd,(ps.set n (fE code x)),o_ ⟨gs,0,n_⟩,pC,ss,afV,afX,es,afA,afq,bs,afR,afK,fs,aga,afN,ts,afr,af4⟩:af).Mc,g < w.heap.size):=fun g hg=>PBK.I g (Ad HC.I.1 hg)
 clear ho1 hb1 hk1 HA;have H2:Hid (yA (w1.setRow w.heap.size #[i_ j_ afG,i_ j_ afd,s_ (o_ ⟨gs,0,n_⟩) ps.length pC,s_ afV ss.length afX,s_ afA es.length afq,s_ afR bs.length afK,s_ aga fs.length afN,s_ afr ts.length af4]) w base gs (⟨afG,afd,ps,o_ ⟨gs,0,n_⟩,pC,ss,afV,afX,es,afA,afq,bs,afR,afK,fs,aga,afN,ts,afr,af4⟩:af) (⟨afG,afd,(ps.set n (fE code x)),o_ ⟨gs,0,n_⟩,pC,ss,afV,afX,es,afA,afq,bs,afR,afK,fs,aga,afN,ts,afr,af4⟩:af)):=by
  have hc:=HC.I;exact ⟨KU _ _ _ _ _ _ H1.I.1,(KH _ _ _ _ zo).trans H1.I.2.1,H1.I.2.2.1.same fun g hg=>KH _ _ _ _ (by have:=PB1.I g hg; omega),H1.I.2.2.2.1.more (q_ (Kp _ _) zo _),q_ H1.I.2.2.2.2 zo _⟩
 have hx1:(ps.set n (fE code x))[n]? =o_ (fE code x):=by rw [LU HC.I.2.2.2.2]
 have xi:Hid ((ps.set n (fE code x))[n]? =o_ (fE code x)):=hx1;obtain ⟨m0,m1,m2,m3,m4,m5,m6,m7⟩:=H2.I.1.cells;obtain ⟨d3⟩:World.cell? (w1.setRow w.heap.size #[i_ j_ afG,i_ j_ afd,s_ (o_ ⟨gs,0,n_⟩) ps.length pC,s_ afV ss.length afX,s_ afA es.length afq,s_ afR bs.length afK,s_ aga fs.length afN,s_ afr ts.length af4]) ⟨gs,n * 12+3,n_⟩=o_ (i_ j_ (fE code x).Md)/\True:=by
  obtain ⟨g,e,h5⟩:=cn H2.I.2.2.1.at.1 hx1;cases e;exact ⟨h5.2.2.2.1,trivial⟩
 by_cases hlen:x.pc+1=x.prog.length
 .have e1:((fE code x).Md == 1)=false:=by show ((jT code x.toaD).Md == 1)=false; unfold jT; rw [if_pos hlen]; rfl
  have HE:Hid (gf afd x.toaD=afd/\pF afd code x=(fE code x)):=by show _/\_; unfold gf pF fE iY jT; rw [if_pos hlen,if_pos hlen,if_pos hlen]; exact ⟨rfl,rfl⟩
  clear hlen hx1;go_wp2_with (first | (refine ec 3 10 #[i_ j_ afG,i_ j_ afd,s_ (o_ ⟨gs,0,n_⟩) ps.length pC,s_ afV ss.length afX,s_ afA es.length afq,s_ afR bs.length afK,s_ aga fs.length afN,s_ afr ts.length af4] H1.I.1 ?_) | (refine ec 6 21 #[i_ j_ afG,i_ j_ afd,s_ (o_ ⟨gs,0,n_⟩) ps.length pC,s_ afV ss.length afX,s_ afA es.length afq,s_ afR bs.length afK,s_ aga fs.length afN,s_ afr ts.length af4] H2.I.2.1 ?_));refine gZ results86 H2.I.2.1 ?_;rw [HE.I.1,HE.I.2];refine ⟨_,?_,rfl,H2.I.2.2.1.same fun g hg=>KH _ _ _ _ (by have:=PB1.I g hg; omega),q_ H2.I.2.2.2.2 (by have:=HC.I.2.2.2.1; omega) _,H2.I.2.2.2.1.more (q_ (Kp _ _) zo _)⟩;simp only [LI]
 have e1:((fE code x).Md == 1)=true:=by show ((jT code x.toaD).Md == 1)=true; unfold jT; rw [if_neg hlen]; rfl
 have HE:Hid (gf afd x.toaD=afd+1/\pF afd code x= { (fE code x) with RU:=afd }):=by show _/\_; unfold gf pF fE iY jT; rw [if_neg hlen,if_neg hlen,if_neg hlen]; exact ⟨rfl,rfl⟩
 clear hlen;have Mb:=qG _ n base (fE code x) _ H2.I.2.2.1 (by have:=HC.I.2.2.2.1; have:=H2.I.2.2.2.1.size; omega) hx1 HN.I;unfold af.cells at Mb;simp only [LI] at Mb;clear hx1;go_wp2_with (refine ec 3 10 #[i_ j_ afG,i_ j_ afd,s_ (o_ ⟨gs,0,n_⟩) ps.length pC,s_ afV ss.length afX,s_ afA es.length afq,s_ afR bs.length afK,s_ aga fs.length afN,s_ afr ts.length af4] H1.I.1 ?_);clear m0 m1 m2 m3 m4 m5 m6 m7 d3 e1;refine Mb.mono ?_;clear Mb;rintro e w3 ⟨q3,he,rfl,Bn,hb3,hk3⟩;simp only [LI] at he;subst he;have H3:Hid (yA w3 w base gs (⟨afG,afd,ps,o_ ⟨gs,0,n_⟩,pC,ss,afV,afX,es,afA,afq,bs,afR,afK,fs,aga,afN,ts,afr,af4⟩:af) (⟨afG,(afd+1),((ps.set n (fE code x)).set n ({ (fE code x) with RU:=afd } :ao)),o_ ⟨gs,0,n_⟩,pC,ss,afV,afX,es,afA,afq,bs,afR,afK,fs,aga,afN,ts,afr,af4⟩:af)):=by
  have hc:=HC.I;have l1:=(J2.1 H2.I.2.1).1;exact ⟨(hk3.same _ zo ZdS).trans H2.I.1,(hk3.same _ zo ZdS).trans H2.I.2.1,Bn,H2.I.2.2.2.1.trans hk3,H2.I.2.2.2.2.trans hb3⟩
 have PB3:Hid (∀ g∈(⟨afG,(afd+1),((ps.set n (fE code x)).set n ({ (fE code x) with RU:=afd } :ao)),o_ ⟨gs,0,n_⟩,pC,ss,afV,afX,es,afA,afq,bs,afR,afK,fs,aga,afN,ts,afr,af4⟩:af).Mc,g < w.heap.size):=fun g hg=>PB1.I g (yZ (q:=(⟨afG,afd,(ps.set n (fE code x)),o_ ⟨gs,0,n_⟩,pC,ss,afV,afX,es,afA,afq,bs,afR,afK,fs,aga,afN,ts,afr,af4⟩:af)) xi.I hg)
 clear Bn hb3 hk3 H1 H2;have H4:Hid (yA (w3.setRow w.heap.size #[i_ j_ afG,i_ j_ (afd+1),s_ (o_ ⟨gs,0,n_⟩) ps.length pC,s_ afV ss.length afX,s_ afA es.length afq,s_ afR bs.length afK,s_ aga fs.length afN,s_ afr ts.length af4]) w base gs (⟨afG,(afd+1),ps,o_ ⟨gs,0,n_⟩,pC,ss,afV,afX,es,afA,afq,bs,afR,afK,fs,aga,afN,ts,afr,af4⟩:af) (⟨afG,(afd+1),((ps.set n (fE code x)).set n ({ (fE code x) with RU:=afd } :ao)),o_ ⟨gs,0,n_⟩,pC,ss,afV,afX,es,afA,afq,bs,afR,afK,fs,aga,afN,ts,afr,af4⟩:af)):=by
  have hc:=HC.I;exact ⟨KU _ _ _ _ _ _ H3.I.1,(KH _ _ _ _ zo).trans H3.I.2.1,H3.I.2.2.1.same fun g hg=>KH _ _ _ _ (by have:=PB3.I g hg; omega),H3.I.2.2.2.1.more (q_ (Kp _ _) zo _),q_ H3.I.2.2.2.2 zo _⟩
 obtain ⟨m0,m1,m2,m3,m4,m5,m6,m7⟩:=H4.I.1.cells;go_wp2_with (first | (refine ec 3 20 #[i_ j_ afG,i_ j_ (afd+1),s_ (o_ ⟨gs,0,n_⟩) ps.length pC,s_ afV ss.length afX,s_ afA es.length afq,s_ afR bs.length afK,s_ aga fs.length afN,s_ afr ts.length af4] H3.I.1 ?_) | (refine ec 6 21 #[i_ j_ afG,i_ j_ (afd+1),s_ (o_ ⟨gs,0,n_⟩) ps.length pC,s_ afV ss.length afX,s_ afA es.length afq,s_ afR bs.length afK,s_ aga fs.length afN,s_ afr ts.length af4] H4.I.2.1 ?_));refine gZ results86 H4.I.2.1 ?_;rw [HE.I.1,HE.I.2];refine ⟨_,?_,rfl,?_,q_ H4.I.2.2.2.2 (by have:=HC.I.2.2.2.1; omega) _,H4.I.2.2.2.1.more (q_ (Kp _ _) zo _)⟩
 .simp only [LI]
 .have h5:=H4.I.2.2.1.same (w':=(w3.setRow w.heap.size #[i_ j_ afG,i_ j_ (afd+1),s_ (o_ ⟨gs,0,n_⟩) ps.length pC,s_ afV ss.length afX,s_ afA es.length afq,s_ afR bs.length afK,s_ aga fs.length afN,s_ afr ts.length af4]).setRow (w.heap.size+1) #[i_ j_ afG,i_ j_ (afd+1),s_ (o_ ⟨gs,0,n_⟩) ps.length pC,s_ afV ss.length afX,s_ afA es.length afq,s_ afR bs.length afK,s_ aga fs.length afN,s_ afr ts.length af4]) fun g hg=>KH _ _ _ _ (by have:=PB3.I g hg; omega)
  rw [PV] at h5;exact h5
def xN {p q:af} {w W W2 w9:w_} {o b0 n9 c9:Nat} {x:au} {xp:ci} {t8:Array v_} {acc:List au} {a9:Option d_} (hB:av W2 w.heap.size p/\ap W2 b0 p/\B_ w.heap.size w W2/\W2.heap[w.heap.size+1]? =o_ (c_ ar 31))
  (hQ:av W2 o q/\ap W2 W.heap.size q/\q.pure=p.pure/\(∀ g∈q.Mc,g < o)/\W.heap.size<=o/\w.heap.size+1 < W.heap.size/\o < W2.heap.size) (hpb: ∀ g∈p.Mc,g < w.heap.size) (hl:fy bm 96 t8 W2 w9 acc a9 c9) (ha:acc=bY (fun y:au=>y.id) x q.ae) (hn:acc.length=n9) (hx:x.toci=xp)
  (hk: ∀ g,aC.bt x=o_ g->g∉q.Mc/\g≠o) (hm:aC.cO W2 W.heap.size x):
  (av (w9.setCell ⟨o,6,n_⟩ (s_ a9 n9 c9)) w.heap.size p/\ap (w9.setCell ⟨o,6,n_⟩ (s_ a9 n9 c9)) b0 p/\B_ w.heap.size w (w9.setCell ⟨o,6,n_⟩ (s_ a9 n9 c9))/\(w9.setCell ⟨o,6,n_⟩ (s_ a9 n9 c9)).heap[w.heap.size+1]? =o_ (c_ ar 31))/\av (w9.setCell ⟨o,6,n_⟩ (s_ a9 n9 c9)) o ({ q with ae:=acc,am:=a9,aG:=c9 } :af)/\ap (w9.setCell ⟨o,6,n_⟩ (s_ a9 n9 c9)) W.heap.size ({ q with ae:=acc,am:=a9,aG:=c9 } :af)/\({ q with ae:=acc,am:=a9,aG:=c9 } :af).pure= { p.pure with ae:=bY (·.id) xp p.pure.ae } :=by
 have hb:=hl.cd;have nW:=hQ.2.2.2.1;have sm: ∀ g,g < W2.heap.size->g≠o->(w9.setCell ⟨o,6,n_⟩ (s_ a9 n9 c9)).heap[g]? =W2.heap[g]? :=fun g hg hne=>(aH hne).trans (hb.block _ hg)
 have lY:B_ w.heap.size w (w9.setCell ⟨o,6,n_⟩ (s_ a9 n9 c9)):=bP (hB.2.2.1.trans (hb.mono zo)) zo;have iH: ∀ g∈acc.filterMap aC.bt,g∈q.ae.filterMap aC.bt\/aC.bt x=o_ g:=fun g hg=>by
  exact Zan
 have hin: ∀ g∈q.ae.filterMap aC.bt,g∈q.Mc:=fun g hg=>by simp only [af.Mc,Kg]; simp [hg]
 refine ⟨⟨(sm _ zo zo).trans hB.1,hB.2.1.same fun g hg=>sm g Zc4 Zc4,lY,(sm _ zo zo).trans hB.2.2.2⟩,?_,?_,?_⟩
 .have h5:=cx (i:=6) (v:=s_ a9 n9 c9) ((hb.block _ hQ.2.2.2.2.2.2).trans hQ.1)
  unfold av;simp only [hn];exact h5
 .refine hQ.2.1.Eu (B:=W2.heap.size) zo (fun g hg=>by have:=nW g hg; omega) (fun g hg=>sm g Zc7 Zc7) ?_ (fun z hz=> ?_) ?_ (fun g hg=> ?_) (fun g hg=> ?_)
  .exact Zbx
  .rw [ha] at hz
   rcases fq.1 hz with rfl | hz
   .exact ZbL
   .refine (hQ.2.1.eE z hz).same fun g hg=> ?_
    exact Za9
  .have h5:=hQ.2.1.nodup
   simp only [af.Mc,Kf] at h5;have h6:(q.ae.filterMap aC.bt).Nodup:=h5.2.1.2.1.2.1.2.1.2.1.2.1.1;have hp:(acc.filterMap aC.bt).Perm ((x :: q.ae).filterMap aC.bt):=by rw [ha]; exact (pz x _).filterMap _
   refine hp.nodup_iff.2 ?_;cases he:aC.bt x with
   | none=>rw [List.filterMap_cons_none he]; exact h6
   | some g=>rw [List.filterMap_cons_some he]; exact Lp.2 ⟨fun h7=>(hk g he).1 (hin g h7),h6⟩
  .exact Zbm
  .exact Za1
 .show ({ q.pure with ae:=acc.map (·.toci) } :aE)=_
  have e1:q.ae.map (·.toci)=p.pure.ae:=congrArg aE.ae hQ.2.2.1;rw [ha,rF (je:=(·.id)) (fun y:au=>y.toci) (fun _=>rfl),e1,hx,hQ.2.2.1]
def qh (p:af) (id Me:Int) (w:w_) (b0:Nat) (hwf:(Lit.int j_ id).wf=true) (qY:p.pure.Small) (h:ap w b0 p):
  k_ J3 76 #[a_ p.cells,i_ j_ id,i_ j_ Me] w fun e w'=>gI w (cB p.pure { p.pure with ae:=bY (·.id) (⟨id,Me,[]⟩:ci) p.pure.ae }) e w':=by
 have HB:Hid (av ((w.alloc (c_ p.row 31)).alloc (c_ ar 31)) w.heap.size p/\ap ((w.alloc (c_ p.row 31)).alloc (c_ ar 31)) b0 p/\B_ w.heap.size w ((w.alloc (c_ p.row 31)).alloc (c_ ar 31))/\((w.alloc (c_ p.row 31)).alloc (c_ ar 31)).heap[w.heap.size+1]? =o_ (c_ ar 31)):=by
  have b1:B_ w.heap.size w ((w.alloc (c_ p.row 31)).alloc (c_ ar 31)):=((Kp _ _).alloc (Ki _) _).alloc zw _;exact ⟨(PU zw).trans (Kj _ _),h.below b1,b1,heap_alloc2_new _ _ _⟩
 have fl:Hid (p.Fit/\(∀ x∈p.L8,x.dX)/\p.pure.Small/\(Lit.int j_ id).wf=true):=⟨dV qY,fun x hx=>(cY qY hx).1,qY,hwf⟩
 have hpl:p.ae.length<=1048576:=fl.I.1.short.ae;have pd: ∀ g∈p.Mc,g < w.heap.size:=fun g hg=>(h.lt g hg).2
 clear h qY hwf;obtain ⟨m0,m1,m2,m3,m4,m5,m6,m7⟩:=HB.I.1.cells;unfold af.cells
 go_enter func76,ntmps76
 go_wp2_with fail;generalize (w.alloc (c_ p.row 31)).alloc (c_ ar 31)=W at *;clear m0 m1 m2 m3 m4 m5 m6 m7;refine (fR p W fl.I.1 fl.I.2.1 HB.I.2.1.at).mono ?_;rintro e W1 ⟨q,rfl,hown,gn,hb1⟩;have hb2:B_ W1.heap.size W1 (W1.alloc (c_ q.row 31)):=(Kp _ _).alloc (Ki _) _;have hlt:w.heap.size+1 < W.heap.size:=(J2.1 HB.I.2.2.2).1;have hb3:B_ W.heap.size W (W1.alloc (c_ q.row 31)):=hb1.trans (hb2.mono hb1.size);have hq1: ∀ g∈q.Mc,g < W1.heap.size:=fun g hg=>(hown.lt g hg).2
 have hql:q.ae.length<=1048576:=by have e1:=congrArg (fun z=>z.ae.length) gn; simp only [af.pure,KG] at e1; omega
 have HQ:Hid (av (W1.alloc (c_ q.row 31)) W1.heap.size q/\ap (W1.alloc (c_ q.row 31)) W.heap.size q/\q.pure=p.pure/\(∀ g∈q.Mc,g < W1.heap.size)/\W.heap.size<=W1.heap.size/\w.heap.size+1 < W.heap.size/\W1.heap.size < (W1.alloc (c_ q.row 31)).heap.size):=⟨Kj _ _,hown.below hb2,gn,hq1,hb1.size,hlt,by simp⟩
 replace HB:Hid (av (W1.alloc (c_ q.row 31)) w.heap.size p/\ap (W1.alloc (c_ q.row 31)) b0 p/\B_ w.heap.size w (W1.alloc (c_ q.row 31))/\(W1.alloc (c_ q.row 31)).heap[w.heap.size+1]? =o_ (c_ ar 31)):=⟨HB.I.1.below hb3,HB.I.2.1.below hb3,HB.I.2.2.1.trans (hb3.mono HB.I.2.2.1.size),(hb3.block _ hlt).trans HB.I.2.2.2⟩
 have Au:Hid (∀ g∈p.Mc,g < w.heap.size):=fun g hg=>pd g hg
 clear hown gn hb1 hb2 hb3 hq1 hlt pd;have En:Hid (fy bm 96 #[i_ j_ id,i_ j_ Me,s_ n_ 0 0] (W1.alloc (c_ q.row 31)) (((W1.alloc (c_ q.row 31)).alloc (c_ #[] 96)).alloc (c_ #[i_ j_ id,i_ j_ Me,s_ n_ 0 0] 96)) [] (o_ ⟨(W1.alloc (c_ q.row 31)).heap.size,0,n_⟩) 0):=fy.start;have Hw:(W1.alloc (c_ q.row 31)).heap.size=W1.heap.size+1:=by simp
 have HW:Hid ((W1.alloc (c_ q.row 31)).heap.size=W1.heap.size+1):=Hw;clear Hw;unfold af.cells;go_wp2_with fail;generalize W1.alloc (c_ q.row 31)=W2 at *;generalize W1.heap.size=o at *
 go_loopw [9,11,12] (fun l d i wr=> ∃ (k:Nat) (dn:Bool) (acc:List au) (a:Option d_) (c:Nat),k<=q.ae.length/\i=i_ j_ k/\d=b_ dn/\l=s_ a acc.length c/\Hid (fy bm 96 #[i_ j_ id,i_ j_ Me,s_ n_ 0 0] W2 wr acc a c/\gY (fun y:au=>y.id) (⟨⟨id,Me,[]⟩,n_,0⟩:au) q.ae k dn acc)) (fun _ _ i _=>q.ae.length - (Go.RowKit.intOf i).toNat)
 case atStart=>exact ⟨0,false,[],o_ ⟨W2.heap.size,0,n_⟩,0,Ky _,rfl,rfl,by rw [HW.I]; rfl,⟨En.I,gY.start _ _⟩⟩
 case round=>
  obtain ⟨k,dn,acc,a,c,hk,rfl,rfl,rfl,HA⟩:=hrel;have i0:(0:Int)<=(k:Int):=zo
  have hbr:=HA.I.1.cd;have hal:=HA.I.2.le;have ajP:wr.cell? ⟨o,6,n_⟩=o_ (s_ q.am q.ae.length q.aG):=(HQ.I.1.below hbr).cells.2.2.2.2.2.2.1;by_cases hlt:k < q.ae.length
  .have i1:(k:Int) < (q.ae.length:Int):=zo
   obtain ⟨y,hy⟩: ∃ y,q.ae[k]? =o_ y:=⟨_,Kz hlt⟩
   have HY:Hid (q.ae[k]? =o_ y):=hy;obtain ⟨g,ha,hat⟩:=iA (HQ.I.2.1.below hbr).at.2.2.2.2.1 hy;rw [ha] at ajP;obtain ⟨d0,d1,d2⟩:=hat;have HG:Hid (q.am=o_ ⟨g,0,n_⟩):=ha;clear ha hy;obtain ⟨a5,c5,w5,hap,rL⟩:=HA.I.1.add 28 40 (P:=J3) underlying28 kh rfl (by decide) (by decide) y #[i_ j_ y.id,i_ j_ y.max,s_ y.ak y.Ma.length y.aq] rfl nz zo;have F5:Hid (fy bm 96 #[i_ j_ id,i_ j_ Me,s_ n_ 0 0] W2 w5 (acc ++ [y]) a5 c5):=rL;clear rL;cases dn;rotate_left
   .go_wp2_with (at_builtin; first | (refine br _ rfl _ _ 28 rfl _ _ _ _ rfl rfl hap ?_; clear hap))
    exact X4
   by_cases hc:id < y.id;rotate_left
   .have HC:Hid (¬ id < y.id):=hc
    go_wp2_with (at_builtin; first | (refine br _ rfl _ _ 28 rfl _ _ _ _ rfl rfl hap ?_; clear hap))
    exact ZaO
   clear hap F5 a5 c5 w5;have HC:Hid (id < y.id):=hc;obtain ⟨a5,c5,w5,hap,rL⟩:=HA.I.1.add 28 40 (P:=J3) underlying28 kh rfl (by decide) (by decide) (⟨⟨id,Me,[]⟩,n_,0⟩:au) #[i_ j_ id,i_ j_ Me,s_ n_ 0 0] rfl nz zo;obtain ⟨a7,c7,w7,gT,mI⟩:=rL.add 28 40 (P:=J3) underlying28 kh rfl (by decide) (by decide) y #[i_ j_ y.id,i_ j_ y.max,s_ y.ak y.Ma.length y.aq] rfl nz ZcT;rw [Lf] at gT;simp only [Lg,K4,Li] at gT;have HL7:Hid (fy bm 96 #[i_ j_ id,i_ j_ Me,s_ n_ 0 0] W2 w7 (acc ++ [(⟨⟨id,Me,[]⟩,n_,0⟩:au)] ++ [y]) a7 c7):=mI;have mo5:w5.cell? ⟨o,6,n_⟩=o_ (s_ q.am q.ae.length q.aG):=(HQ.I.1.below rL.cd).cells.2.2.2.2.2.2.1;obtain ⟨g2,ha2,g8⟩:=iA (HQ.I.2.1.below rL.cd).at.2.2.2.2.1 HY.I;rw [HG.I] at ha2 mo5;cases ha2;obtain ⟨e0,e1,e2⟩:=g8;obtain ⟨x0,x1,x2⟩:=ia (x:=(⟨⟨id,Me,[]⟩,n_,0⟩:au)) (X:=o+1+1) (W:=wr) Zdn;clear rL mI;simp only [K4] at *;go_wp2_with (at_builtin; first | (refine br _ rfl _ _ 28 rfl _ _ _ _ rfl rfl hap ?_; clear hap) | (refine br _ rfl _ _ 28 rfl _ _ _ _ rfl rfl gT ?_; clear gT))
   go_round
   case rel=>exact ⟨k+1,true,acc ++ [(⟨⟨id,Me,[]⟩,n_,0⟩:au)] ++ [y],a7,c7,zo,by go_num,rfl,by simp,⟨HL7.I,HA.I.2.here HY.I HC.I⟩⟩
   case measure=>simp [Go.RowKit.intOf]; omega
  have i1: ¬ (k:Int) < (q.ae.length:Int):=zo
  cases dn
  .obtain ⟨a9,c9,w9,hap,Jy⟩:=HA.I.1.add 28 40 (P:=J3) underlying28 kh rfl (by decide) (by decide) (⟨⟨id,Me,[]⟩,n_,0⟩:au) #[i_ j_ id,i_ j_ Me,s_ n_ 0 0] rfl nz zo
   have HR:Hid (fy bm 96 #[i_ j_ id,i_ j_ Me,s_ n_ 0 0] W2 w9 (acc ++ [(⟨⟨id,Me,[]⟩,n_,0⟩:au)]) a9 c9/\acc ++ [(⟨⟨id,Me,[]⟩,n_,0⟩:au)] =bY (fun y:au=>y.id) (⟨⟨id,Me,[]⟩,n_,0⟩:au) q.ae/\(acc ++ [(⟨⟨id,Me,[]⟩,n_,0⟩:au)]).length=acc.length+1):=⟨Jy,HA.I.2.last hlt,by simp⟩
   obtain ⟨x0,x1,x2⟩:=ia (x:=(⟨⟨id,Me,[]⟩,n_,0⟩:au)) (X:=o+1+1) (W:=wr) Zdn;simp only [K4] at x0 x1 x2;clear Jy;have eX:Hid (_):=xN HB.I HQ.I Au.I HR.I.1 HR.I.2.1 HR.I.2.2 rfl (fun g hg=>by cases hg) (Ke _ _ _ _);have Mb:=fi p ({ q with ae:=(acc ++ [(⟨⟨id,Me,[]⟩,n_,0⟩:au)]),am:=a9,aG:=c9 } :af) (w9.setCell ⟨o,6,n_⟩ (s_ a9 (acc.length+1) c9)) ⟨fl.I.1,fl.I.2.1,eX.I.1.2.1.at⟩ (fun hr=>by
    have h5:aE.Small ({ q with ae:=(acc ++ [(⟨⟨id,Me,[]⟩,n_,0⟩:au)]),am:=a9,aG:=c9 } :af).pure:=by rw [eX.I.2.2.2]; exact nX fl.I.2.2.1 hr ⟨fl.I.2.2.2,Ky _,(fun s hs=>by cases hs)⟩
    exact ⟨dV h5,fun x hx=>(cY h5 hx).1,eX.I.2.2.1.at⟩)
   obtain ⟨m0,m1,m2,m3,m4,m5,m6,m7⟩:=eX.I.1.1.cells;obtain ⟨k0,k1,k2,k3,k4,k5,k6,k7⟩:=eX.I.2.1.cells;obtain ⟨⟨u,co⟩,fo⟩:(∃ u,w9.cell? ⟨o,6,n_⟩=o_ u)/\w9.frozen? ⟨o,6,n_⟩=false:=⟨⟨_,(HQ.I.1.below HR.I.1.cd).cells.2.2.2.2.2.2.1⟩,Ko _ _ _ _ _ (HQ.I.1.below HR.I.1.cd)⟩
   unfold af.cells at Mb;have sR:=HR.I.2.2;simp only [sR] at Mb k0 k1 k2 k3 k4 k5 k6 k7;clear sR;go_wp2_with (at_builtin; first | (refine br _ rfl _ _ 28 rfl _ _ _ _ rfl rfl hap ?_; clear hap));refine Mb.mono ?_;clear Mb m0 m1 m2 m3 m4 m5 m6 m7 k0 k1 k2 k3 k4 k5 k6 k7;rintro e ow ⟨gy,hok⟩;have hq:=HQ.I.2.2.2.2;have HZ:Hid (B_ w.heap.size w ow/\ow.heap[w.heap.size+1]? =o_ (c_ ar 31)/\ap ow W.heap.size ({ q with ae:=(acc ++ [(⟨⟨id,Me,[]⟩,n_,0⟩:au)]),am:=a9,aG:=c9 } :af)/\w.heap.size+1 < W.heap.size):=⟨eX.I.1.2.2.1.trans (gy.mono eX.I.1.2.2.1.size),(gy.block _ (J2.1 eX.I.1.2.2.2).1).trans eX.I.1.2.2.2,eX.I.2.2.1.below gy,hq.2.1⟩
   clear gy hq;rw [eX.I.2.2.2] at hok;rcases hok with ⟨hok,rfl⟩ | ⟨hok,rfl⟩
   .have HN:Hid (cB p.pure { p.pure with ae:=bY (·.id) (⟨id,Me,[]⟩:ci) p.pure.ae } =o_ { p.pure with ae:=bY (·.id) (⟨id,Me,[]⟩:ci) p.pure.ae }):=jS hok
    clear hok;go_wp2_with (refine ec 6 61 #[i_ j_ q.id,i_ j_ q.next,s_ q.aN q.L8.length q.aW,s_ q.bc q.aj.length q.bF,s_ q.ay q.L9.length q.aO,s_ q.ax q.ag.length q.aP,s_ a9 (acc.length+1) c9,s_ q.aK q.ai.length q.aV] HZ.I.2.1 ?_);refine mG results76 (b_ true) HZ.I.2.1 ?_;have hl:=HZ.I.2.2.2;rw [HN.I];refine ⟨({ q with ae:=(acc ++ [(⟨⟨id,Me,[]⟩,n_,0⟩:au)]),am:=a9,aG:=c9 } :af),by unfold af.cells; simp only [HR.I.2.2]; rfl,(HZ.I.2.2.1.lower zo).same fun g hg=>KH _ _ _ _ Zc2,eX.I.2.2.2,q_ HZ.I.1 zo _⟩
   .exact Zcx
  .have HR:Hid (fy bm 96 #[i_ j_ id,i_ j_ Me,s_ n_ 0 0] W2 wr acc a c/\acc=bY (fun y:au=>y.id) (⟨⟨id,Me,[]⟩,n_,0⟩:au) q.ae/\acc.length=acc.length):=⟨HA.I.1,HA.I.2.done hlt,rfl⟩
   have eX:Hid (_):=xN HB.I HQ.I Au.I HR.I.1 HR.I.2.1 HR.I.2.2 rfl (fun g hg=>by cases hg) (Ke _ _ _ _);have Mb:=fi p ({ q with ae:=acc,am:=a,aG:=c } :af) (wr.setCell ⟨o,6,n_⟩ (s_ a acc.length c)) ⟨fl.I.1,fl.I.2.1,eX.I.1.2.1.at⟩ (fun hr=>by
    have h5:aE.Small ({ q with ae:=acc,am:=a,aG:=c } :af).pure:=by rw [eX.I.2.2.2]; exact nX fl.I.2.2.1 hr ⟨fl.I.2.2.2,Ky _,(fun s hs=>by cases hs)⟩
    exact ⟨dV h5,fun x hx=>(cY h5 hx).1,eX.I.2.2.1.at⟩)
   obtain ⟨m0,m1,m2,m3,m4,m5,m6,m7⟩:=eX.I.1.1.cells;obtain ⟨k0,k1,k2,k3,k4,k5,k6,k7⟩:=eX.I.2.1.cells;obtain ⟨⟨u,co⟩,fo⟩:(∃ u,wr.cell? ⟨o,6,n_⟩=o_ u)/\wr.frozen? ⟨o,6,n_⟩=false:=⟨⟨_,(HQ.I.1.below HR.I.1.cd).cells.2.2.2.2.2.2.1⟩,Ko _ _ _ _ _ (HQ.I.1.below HR.I.1.cd)⟩
   unfold af.cells at Mb;simp only at Mb k0 k1 k2 k3 k4 k5 k6 k7;go_wp2_with fail;refine Mb.mono ?_;clear Mb m0 m1 m2 m3 m4 m5 m6 m7 k0 k1 k2 k3 k4 k5 k6 k7;rintro e ow ⟨gy,hok⟩;have hq:=HQ.I.2.2.2.2;have HZ:Hid (B_ w.heap.size w ow/\ow.heap[w.heap.size+1]? =o_ (c_ ar 31)/\ap ow W.heap.size ({ q with ae:=acc,am:=a,aG:=c } :af)/\w.heap.size+1 < W.heap.size):=⟨eX.I.1.2.2.1.trans (gy.mono eX.I.1.2.2.1.size),(gy.block _ (J2.1 eX.I.1.2.2.2).1).trans eX.I.1.2.2.2,eX.I.2.2.1.below gy,hq.2.1⟩
   clear gy hq;rw [eX.I.2.2.2] at hok;rcases hok with ⟨hok,rfl⟩ | ⟨hok,rfl⟩
   .have HN:Hid (cB p.pure { p.pure with ae:=bY (·.id) (⟨id,Me,[]⟩:ci) p.pure.ae } =o_ { p.pure with ae:=bY (·.id) (⟨id,Me,[]⟩:ci) p.pure.ae }):=jS hok
    clear hok;go_wp2_with (refine ec 6 61 #[i_ j_ q.id,i_ j_ q.next,s_ q.aN q.L8.length q.aW,s_ q.bc q.aj.length q.bF,s_ q.ay q.L9.length q.aO,s_ q.ax q.ag.length q.aP,s_ a acc.length c,s_ q.aK q.ai.length q.aV] HZ.I.2.1 ?_);refine mG results76 (b_ true) HZ.I.2.1 ?_;have hl:=HZ.I.2.2.2;rw [HN.I];refine ⟨({ q with ae:=acc,am:=a,aG:=c } :af),by rfl,(HZ.I.2.2.1.lower zo).same fun g hg=>KH _ _ _ _ Zc2,eX.I.2.2.2,q_ HZ.I.1 zo _⟩
   .exact Zcx
def fy.drew {α:Type} {K:Kind α} {T:T_} {t8:Array v_} {W w:w_} {acc:List α} {a:Option d_} {c:Nat} (h:fy K T t8 W w acc a c):fy K T t8 W w.drew acc a c:=⟨aL h.own fun _ _=>rfl,h.ne,h.cd.drew,h.box⟩
def DY {p q:af} {w W W2 w9:w_} {o b0 n9 c9:Nat} {x:aM} {xp:dS} {t8:Array v_} {acc:List aM} {a9:Option d_} (hB:av W2 w.heap.size p/\ap W2 b0 p/\B_ w.heap.size w W2/\W2.heap[w.heap.size+1+1]? =o_ (c_ ar 31))
  (hQ:av W2 o q/\ap W2 W.heap.size q/\q.pure=p.pure/\(∀ g∈q.Mc,g < o)/\W.heap.size<=o/\w.heap.size+1+1 < W.heap.size/\o < W2.heap.size) (hpb: ∀ g∈p.Mc,g < w.heap.size) (hl:fy bX 115 t8 W2 w9 acc a9 c9) (ha:acc=bY (fun y:aM=>y.id) x q.ai) (hn:acc.length=n9) (hx:x.todS=xp)
  (hk: ∀ g,aU.bt x=o_ g->g∉q.Mc/\g≠o) (hm:aU.cO W2 W.heap.size x):
  (av (w9.setCell ⟨o,7,n_⟩ (s_ a9 n9 c9)) w.heap.size p/\ap (w9.setCell ⟨o,7,n_⟩ (s_ a9 n9 c9)) b0 p/\B_ w.heap.size w (w9.setCell ⟨o,7,n_⟩ (s_ a9 n9 c9))/\(w9.setCell ⟨o,7,n_⟩ (s_ a9 n9 c9)).heap[w.heap.size+1+1]? =o_ (c_ ar 31))/\av (w9.setCell ⟨o,7,n_⟩ (s_ a9 n9 c9)) o ({ q with ai:=acc,aK:=a9,aV:=c9 } :af)/\ap (w9.setCell ⟨o,7,n_⟩ (s_ a9 n9 c9)) W.heap.size ({ q with ai:=acc,aK:=a9,aV:=c9 } :af)/\({ q with ai:=acc,aK:=a9,aV:=c9 } :af).pure= { p.pure with ai:=bY (·.id) xp p.pure.ai } :=by
 have hb:=hl.cd;have nW:=hQ.2.2.2.1;have sm: ∀ g,g < W2.heap.size->g≠o->(w9.setCell ⟨o,7,n_⟩ (s_ a9 n9 c9)).heap[g]? =W2.heap[g]? :=fun g hg hne=>(aH hne).trans (hb.block _ hg)
 have lY:B_ w.heap.size w (w9.setCell ⟨o,7,n_⟩ (s_ a9 n9 c9)):=bP (hB.2.2.1.trans (hb.mono zo)) zo;have iH: ∀ g∈acc.filterMap aU.bt,g∈q.ai.filterMap aU.bt\/aU.bt x=o_ g:=fun g hg=>by
  exact Zan
 have hin: ∀ g∈q.ai.filterMap aU.bt,g∈q.Mc:=fun g hg=>by simp only [af.Mc,Kg]; simp [hg]
 refine ⟨⟨(sm _ zo zo).trans hB.1,hB.2.1.same fun g hg=>sm g Zc4 Zc4,lY,(sm _ zo zo).trans hB.2.2.2⟩,?_,?_,?_⟩
 .have h5:=cx (i:=7) (v:=s_ a9 n9 c9) ((hb.block _ hQ.2.2.2.2.2.2).trans hQ.1)
  unfold av;simp only [hn];exact h5
 .refine hQ.2.1.Jb (B:=W2.heap.size) zo (fun g hg=>by have:=nW g hg; omega) (fun g hg=>sm g Zc7 Zc7) ?_ (fun z hz=> ?_) ?_ (fun g hg=> ?_) (fun g hg=> ?_)
  .exact Zbx
  .rw [ha] at hz
   rcases fq.1 hz with rfl | hz
   .exact ZbL
   .refine (hQ.2.1.eR z hz).same fun g hg=> ?_
    exact Za9
  .have h5:=hQ.2.1.nodup
   simp only [af.Mc,Kf] at h5;have h6:(q.ai.filterMap aU.bt).Nodup:=h5.2.1.2.1.2.1.2.1.2.1.2.1.2.1.2.1;have hp:(acc.filterMap aU.bt).Perm ((x :: q.ai).filterMap aU.bt):=by rw [ha]; exact (pz x _).filterMap _
   refine hp.nodup_iff.2 ?_;cases he:aU.bt x with
   | none=>rw [List.filterMap_cons_none he]; exact h6
   | some g=>rw [List.filterMap_cons_some he]; exact Lp.2 ⟨fun h7=>(hk g he).1 (hin g h7),h6⟩
  .exact Zbm
  .exact Za1
 .show ({ q.pure with ai:=acc.map (·.todS) } :aE)=_
  have e1:q.ai.map (·.todS)=p.pure.ai:=congrArg aE.ai hQ.2.2.1;rw [ha,rF (je:=(·.id)) (fun y:aM=>y.todS) (fun _=>rfl),e1,hx,hQ.2.2.1]
def nd (p:af) (z:aM) (w:w_) (b0:Nat) (hwf:(Lit.int j_ z.id).wf=true) (qY:p.pure.Small) (h:ap w b0 p):
  k_ J3 77 #[a_ p.cells,a_ #[i_ j_ z.id,b_ z.I,b_ z.Mf,i_ j_ z.max,s_ z.ak z.Ma.length z.aq]] w fun e w'=>gI w (cB p.pure { p.pure with ai:=bY (·.id) (⟨z.id,z.I,z.Mf,z.max,[]⟩:dS) p.pure.ai }) e w':=by
 have HB:Hid (av (((w.alloc (c_ p.cells 31)).alloc (c_ #[i_ j_ z.id,b_ z.I,b_ z.Mf,i_ j_ z.max,s_ z.ak z.Ma.length z.aq] 115)).alloc (c_ ar 31)) w.heap.size p/\ap (((w.alloc (c_ p.cells 31)).alloc (c_ #[i_ j_ z.id,b_ z.I,b_ z.Mf,i_ j_ z.max,s_ z.ak z.Ma.length z.aq] 115)).alloc (c_ ar 31)) b0 p/\B_ w.heap.size w (((w.alloc (c_ p.cells 31)).alloc (c_ #[i_ j_ z.id,b_ z.I,b_ z.Mf,i_ j_ z.max,s_ z.ak z.Ma.length z.aq] 115)).alloc (c_ ar 31))/\(((w.alloc (c_ p.cells 31)).alloc (c_ #[i_ j_ z.id,b_ z.I,b_ z.Mf,i_ j_ z.max,s_ z.ak z.Ma.length z.aq] 115)).alloc (c_ ar 31)).heap[w.heap.size+1+1]? =o_ (c_ ar 31)):=by
  have b1:B_ w.heap.size w (((w.alloc (c_ p.cells 31)).alloc (c_ #[i_ j_ z.id,b_ z.I,b_ z.Mf,i_ j_ z.max,s_ z.ak z.Ma.length z.aq] 115)).alloc (c_ ar 31)):=fg _ _ _ _;have h3:=dR w (c_ p.cells 31) (c_ #[i_ j_ z.id,b_ z.I,b_ z.Mf,i_ j_ z.max,s_ z.ak z.Ma.length z.aq] 115) (c_ ar 31);exact ⟨h3.1,h.below b1,b1,h3.2.2.1⟩
 have Cj:Hid ((((w.alloc (c_ p.cells 31)).alloc (c_ #[i_ j_ z.id,b_ z.I,b_ z.Mf,i_ j_ z.max,s_ z.ak z.Ma.length z.aq] 115)).alloc (c_ ar 31)).heap[w.heap.size+1]? =o_ (c_ #[i_ j_ z.id,b_ z.I,b_ z.Mf,i_ j_ z.max,s_ z.ak z.Ma.length z.aq] 115)):=(dR _ _ _ _).2.1;have fl:Hid (p.Fit/\(∀ x∈p.L8,x.dX)/\p.pure.Small/\(Lit.int j_ z.id).wf=true):=⟨dV qY,fun x hx=>(cY qY hx).1,qY,hwf⟩
 have hpl:p.ai.length<=1048576:=fl.I.1.short.ai;have pd: ∀ g∈p.Mc,g < w.heap.size:=fun g hg=>(h.lt g hg).2
 clear h qY hwf;obtain ⟨m0,m1,m2,m3,m4,m5,m6,m7⟩:=HB.I.1.cells;unfold af.cells at *
 go_enter func77,ntmps77
 go_wp2_with fail;generalize ((w.alloc (c_ p.row 31)).alloc (c_ #[i_ j_ z.id,b_ z.I,b_ z.Mf,i_ j_ z.max,s_ z.ak z.Ma.length z.aq] 115)).alloc (c_ ar 31)=W at *;clear m0 m1 m2 m3 m4 m5 m6 m7;refine (fR p W fl.I.1 fl.I.2.1 HB.I.2.1.at).mono ?_;rintro e W1 ⟨q,rfl,hown,gn,hb1⟩;have hb2:B_ W1.heap.size W1 (W1.alloc (c_ q.cells 31)):=(Kp _ _).alloc (Ki _) _;have hlt:w.heap.size+1+1 < W.heap.size:=(J2.1 HB.I.2.2.2).1;have hb3:B_ W.heap.size W (W1.alloc (c_ q.cells 31)):=hb1.trans (hb2.mono hb1.size);have hq1: ∀ g∈q.Mc,g < W1.heap.size:=fun g hg=>(hown.lt g hg).2
 have hql:q.ai.length<=1048576:=by have e1:=congrArg (fun z=>z.ai.length) gn; simp only [af.pure,KG] at e1; omega
 have HQ:Hid (av (W1.alloc (c_ q.cells 31)) W1.heap.size q/\ap (W1.alloc (c_ q.cells 31)) W.heap.size q/\q.pure=p.pure/\(∀ g∈q.Mc,g < W1.heap.size)/\W.heap.size<=W1.heap.size/\w.heap.size+1+1 < W.heap.size/\W1.heap.size < (W1.alloc (c_ q.cells 31)).heap.size):=⟨Kj _ _,hown.below hb2,gn,hq1,hb1.size,hlt,by simp⟩
 replace HB:Hid (av (W1.alloc (c_ q.cells 31)) w.heap.size p/\ap (W1.alloc (c_ q.cells 31)) b0 p/\B_ w.heap.size w (W1.alloc (c_ q.cells 31))/\(W1.alloc (c_ q.cells 31)).heap[w.heap.size+1+1]? =o_ (c_ ar 31)):=⟨HB.I.1.below hb3,HB.I.2.1.below hb3,HB.I.2.2.1.trans (hb3.mono HB.I.2.2.1.size),(hb3.block _ hlt).trans HB.I.2.2.2⟩
 replace Cj:Hid ((W1.alloc (c_ q.cells 31)).heap[w.heap.size+1]? =o_ (c_ #[i_ j_ z.id,b_ z.I,b_ z.Mf,i_ j_ z.max,s_ z.ak z.Ma.length z.aq] 115)):=(hb3.block _ zo).trans Cj.I;have hbz:B_ (W1.alloc (c_ q.cells 31)).heap.size (W1.alloc (c_ q.cells 31)) ((W1.alloc (c_ q.cells 31)).alloc (c_ #[] 115)):=(Kp _ _).alloc (Ki _) _;obtain ⟨z0,z1,z2,z3,z4⟩:=gE (x:=z) ((hbz.block _ (by have:=hb3.size; omega)).trans Cj.I);clear hbz;have Au:Hid (∀ g∈p.Mc,g < w.heap.size):=fun g hg=>pd g hg
 clear hown gn hb1 hb2 hb3 hq1 hlt pd;have En:Hid (fy bX 115 #[i_ j_ z.id,b_ z.I,b_ z.Mf,i_ j_ z.max,s_ n_ 0 0] (W1.alloc (c_ q.cells 31)) (((W1.alloc (c_ q.cells 31)).alloc (c_ #[] 115)).alloc (c_ #[i_ j_ z.id,b_ z.I,b_ z.Mf,i_ j_ z.max,s_ n_ 0 0] 115)) [] (o_ ⟨(W1.alloc (c_ q.cells 31)).heap.size,0,n_⟩) 0):=fy.start;have Hw:(W1.alloc (c_ q.cells 31)).heap.size=W1.heap.size+1:=by simp
 have HW:Hid ((W1.alloc (c_ q.cells 31)).heap.size=W1.heap.size+1):=Hw;clear Hw;unfold af.cells at *;go_wp2_with fail;clear z0 z1 z2 z3 z4;generalize W1.alloc (c_ q.row 31)=W2 at *;generalize W1.heap.size=o at *
 go_loopw [7,9,10] (fun l d i wr=> ∃ (k:Nat) (dn:Bool) (acc:List aM) (a:Option d_) (c:Nat),k<=q.ai.length/\i=i_ j_ k/\d=b_ dn/\l=s_ a acc.length c/\Hid (fy bX 115 #[i_ j_ z.id,b_ z.I,b_ z.Mf,i_ j_ z.max,s_ n_ 0 0] W2 wr acc a c/\gY (fun y:aM=>y.id) (⟨⟨z.id,z.I,z.Mf,z.max,[]⟩,n_,0⟩:aM) q.ai k dn acc)) (fun _ _ i _=>q.ai.length - (Go.RowKit.intOf i).toNat)
 case atStart=>exact ⟨0,false,[],o_ ⟨W2.heap.size,0,n_⟩,0,Ky _,rfl,rfl,by rw [HW.I]; rfl,⟨En.I,gY.start _ _⟩⟩
 case round=>
  obtain ⟨k,dn,acc,a,c,hk,rfl,rfl,rfl,HA⟩:=hrel;have i0:(0:Int)<=(k:Int):=zo
  have mo0:wr.cell? ⟨o,7,n_⟩=o_ (s_ q.aK q.ai.length q.aV):=(HQ.I.1.below HA.I.1.cd).cells.2.2.2.2.2.2.2;have hal:=HA.I.2.le;by_cases hlt:k < q.ai.length
  .have i1:(k:Int) < (q.ai.length:Int):=zo
   replace HA:Hid (fy bX 115 #[i_ j_ z.id,b_ z.I,b_ z.Mf,i_ j_ z.max,s_ n_ 0 0] W2 wr.drew acc a c/\gY (fun y:aM=>y.id) (⟨⟨z.id,z.I,z.Mf,z.max,[]⟩,n_,0⟩:aM) q.ai k dn acc):=⟨HA.I.1.drew,HA.I.2⟩
   have hbr:=HA.I.1.cd;have ajP:wr.drew.cell? ⟨o,7,n_⟩=o_ (s_ q.aK q.ai.length q.aV):=(HQ.I.1.below hbr).cells.2.2.2.2.2.2.2;have ali:wr.drew.cell? ⟨w.heap.size+1,0,n_⟩=o_ (i_ j_ z.id):=(gE (x:=z) ((hbr.block _ (by have:=HQ.I.2.2.2.2; omega)).trans Cj.I)).1;obtain ⟨y,hy⟩: ∃ y,q.ai[k]? =o_ y:=⟨_,Kz hlt⟩
   have HY:Hid (q.ai[k]? =o_ y):=hy;obtain ⟨g,ha,hat⟩:=lm (HQ.I.2.1.below hbr).at.2.2.2.2.2 hy;rw [ha] at ajP;obtain ⟨d0,d1,d2,d3,d4⟩:=hat;have HG:Hid (q.aK=o_ ⟨g,0,n_⟩):=ha;clear ha hy;obtain ⟨a5,c5,w5,hap,rL⟩:=HA.I.1.add 29 48 (P:=J3) underlying29 na rfl (by decide) (by decide) y #[i_ j_ y.id,b_ y.I,b_ y.Mf,i_ j_ y.max,s_ y.ak y.Ma.length y.aq] rfl qX zo;have F5:Hid (fy bX 115 #[i_ j_ z.id,b_ z.I,b_ z.Mf,i_ j_ z.max,s_ n_ 0 0] W2 w5 (acc ++ [y]) a5 c5):=rL;clear rL;cases dn;rotate_left
   .
    go_wp2_with fail;refine aT (fun w'=>w'=wr.drew) ZcS rfl ?_
    iterate 3 (refine PI ?_ (hy:=fun w0 hS0=>by subst hS0; go_simp; try with_reducible rfl))
    iterate 9 (refine nl ?_; simp only [pt,sb,s0,s1])
    (refine PI ?_ (hy:=fun w0 hS0=>by subst hS0; go_simp; try with_reducible rfl))
    refine bk ZcS ?_ _;intro w1 cm;subst cm;clear mo0;go_wp2_with (at_builtin; first | (refine br _ rfl _ _ 29 rfl _ _ _ _ rfl rfl hap ?_; clear hap))
    exact X4
   by_cases hc:z.id < y.id;rotate_left
   .have HC:Hid (¬ z.id < y.id):=hc
    have d2:decide (z.id < y.id)=false:=decide_eq_false hc;go_wp2_with fail;refine aT (fun w'=>w'=wr.drew) ZcS rfl ?_
    iterate 13 (refine PI ?_ (hy:=fun w0 hS0=>by subst hS0; go_simp; try with_reducible rfl))
    refine bk ZcS ?_ _;intro w1 cm;subst cm;clear mo0;go_wp2_with (at_builtin; first | (refine br _ rfl _ _ 29 rfl _ _ _ _ rfl rfl hap ?_; clear hap))
    go_round
    case rel=>exact ⟨k+1,false,acc ++ [y],a5,c5,zo,by go_num,rfl,by simp,⟨F5.I,HA.I.2.past HY.I (Int.not_lt.mpr HC.I)⟩⟩
    case measure=>simp [Go.RowKit.intOf]; omega
   clear hap F5 a5 c5 w5;have HC:Hid (z.id < y.id):=hc;have d2:decide (z.id < y.id)=true:=decide_eq_true hc;obtain ⟨a5,c5,w5,hap,rL⟩:=HA.I.1.add 29 48 (P:=J3) underlying29 na rfl (by decide) (by decide) (⟨⟨z.id,z.I,z.Mf,z.max,[]⟩,n_,0⟩:aM) #[i_ j_ z.id,b_ z.I,b_ z.Mf,i_ j_ z.max,s_ n_ 0 0] rfl qX zo;obtain ⟨a7,c7,w7,gT,mI⟩:=rL.add 29 48 (P:=J3) underlying29 na rfl (by decide) (by decide) y #[i_ j_ y.id,b_ y.I,b_ y.Mf,i_ j_ y.max,s_ y.ak y.Ma.length y.aq] rfl qX ZcT;rw [Lf] at gT;simp only [Lg,K4,Li] at gT;have HL7:Hid (fy bX 115 #[i_ j_ z.id,b_ z.I,b_ z.Mf,i_ j_ z.max,s_ n_ 0 0] W2 w7 (acc ++ [(⟨⟨z.id,z.I,z.Mf,z.max,[]⟩,n_,0⟩:aM)] ++ [y]) a7 c7):=mI;have mo5:w5.cell? ⟨o,7,n_⟩=o_ (s_ q.aK q.ai.length q.aV):=(HQ.I.1.below rL.cd).cells.2.2.2.2.2.2.2;obtain ⟨g2,ha2,g8⟩:=lm (HQ.I.2.1.below rL.cd).at.2.2.2.2.2 HY.I;rw [HG.I] at ha2 mo5;cases ha2;obtain ⟨e0,e1,e2,e3,e4⟩:=g8;obtain ⟨x0,x1,x2,x3,x4⟩:=gE (x:=(⟨⟨z.id,z.I,z.Mf,z.max,[]⟩,n_,0⟩:aM)) (X:=o+1+1) (W:=wr.drew) Zdn;clear rL mI;simp only [K4] at *;go_wp2_with fail;refine aT (fun w'=>w'=wr.drew) ZcS rfl ?_
   iterate 13 (refine PI ?_ (hy:=fun w0 hS0=>by subst hS0; go_simp; try with_reducible rfl))
   refine bk ZcS ?_ _;intro w1 cm;subst cm;clear mo0;go_wp2_with (at_builtin; first | (refine br _ rfl _ _ 29 rfl _ _ _ _ rfl rfl hap ?_; clear hap) | (refine br _ rfl _ _ 29 rfl _ _ _ _ rfl rfl gT ?_; clear gT))
   go_round
   case rel=>exact ⟨k+1,true,acc ++ [(⟨⟨z.id,z.I,z.Mf,z.max,[]⟩,n_,0⟩:aM)] ++ [y],a7,c7,zo,by go_num,rfl,by simp,⟨HL7.I,HA.I.2.here HY.I HC.I⟩⟩
   case measure=>simp [Go.RowKit.intOf]; omega
  have i1: ¬ (k:Int) < (q.ai.length:Int):=zo
  have hbr:=HA.I.1.cd;cases dn
  .obtain ⟨a9,c9,w9,hap,Jy⟩:=HA.I.1.add 29 48 (P:=J3) underlying29 na rfl (by decide) (by decide) (⟨⟨z.id,z.I,z.Mf,z.max,[]⟩,n_,0⟩:aM) #[i_ j_ z.id,b_ z.I,b_ z.Mf,i_ j_ z.max,s_ n_ 0 0] rfl qX zo
   have HR:Hid (fy bX 115 #[i_ j_ z.id,b_ z.I,b_ z.Mf,i_ j_ z.max,s_ n_ 0 0] W2 w9 (acc ++ [(⟨⟨z.id,z.I,z.Mf,z.max,[]⟩,n_,0⟩:aM)]) a9 c9/\acc ++ [(⟨⟨z.id,z.I,z.Mf,z.max,[]⟩,n_,0⟩:aM)] =bY (fun y:aM=>y.id) (⟨⟨z.id,z.I,z.Mf,z.max,[]⟩,n_,0⟩:aM) q.ai/\(acc ++ [(⟨⟨z.id,z.I,z.Mf,z.max,[]⟩,n_,0⟩:aM)]).length=acc.length+1):=⟨Jy,HA.I.2.last hlt,by simp⟩
   obtain ⟨x0,x1,x2,x3,x4⟩:=gE (x:=(⟨⟨z.id,z.I,z.Mf,z.max,[]⟩,n_,0⟩:aM)) (X:=o+1+1) (W:=wr) Zdn;simp only [K4] at x0 x1 x2 x3 x4;clear Jy;have eX:Hid (_):=DY HB.I HQ.I Au.I HR.I.1 HR.I.2.1 HR.I.2.2 rfl (fun g hg=>by cases hg) (Ke _ _ _ _);have Mb:=fi p ({ q with ai:=(acc ++ [(⟨⟨z.id,z.I,z.Mf,z.max,[]⟩,n_,0⟩:aM)]),aK:=a9,aV:=c9 } :af) (w9.setCell ⟨o,7,n_⟩ (s_ a9 (acc.length+1) c9)) ⟨fl.I.1,fl.I.2.1,eX.I.1.2.1.at⟩ (fun hr=>by
    have h5:aE.Small ({ q with ai:=(acc ++ [(⟨⟨z.id,z.I,z.Mf,z.max,[]⟩,n_,0⟩:aM)]),aK:=a9,aV:=c9 } :af).pure:=by rw [eX.I.2.2.2]; exact pU fl.I.2.2.1 hr ⟨fl.I.2.2.2,Ky _,(fun s hs=>by cases hs)⟩
    exact ⟨dV h5,fun x hx=>(cY h5 hx).1,eX.I.2.2.1.at⟩)
   obtain ⟨m0,m1,m2,m3,m4,m5,m6,m7⟩:=eX.I.1.1.cells;obtain ⟨k0,k1,k2,k3,k4,k5,k6,k7⟩:=eX.I.2.1.cells;obtain ⟨⟨u,co⟩,fo⟩:(∃ u,w9.cell? ⟨o,7,n_⟩=o_ u)/\w9.frozen? ⟨o,7,n_⟩=false:=⟨⟨_,(HQ.I.1.below HR.I.1.cd).cells.2.2.2.2.2.2.2⟩,Ko _ _ _ _ _ (HQ.I.1.below HR.I.1.cd)⟩
   unfold af.cells at Mb;have sR:=HR.I.2.2;simp only [sR] at Mb k0 k1 k2 k3 k4 k5 k6 k7;clear sR;go_wp2_with (at_builtin; first | (refine br _ rfl _ _ 29 rfl _ _ _ _ rfl rfl hap ?_; clear hap));refine Mb.mono ?_;clear Mb m0 m1 m2 m3 m4 m5 m6 m7 k0 k1 k2 k3 k4 k5 k6 k7;rintro e ow ⟨gy,hok⟩;have hq:=HQ.I.2.2.2.2;have HZ:Hid (B_ w.heap.size w ow/\ow.heap[w.heap.size+1+1]? =o_ (c_ ar 31)/\ap ow W.heap.size ({ q with ai:=(acc ++ [(⟨⟨z.id,z.I,z.Mf,z.max,[]⟩,n_,0⟩:aM)]),aK:=a9,aV:=c9 } :af)/\w.heap.size+1+1 < W.heap.size):=⟨eX.I.1.2.2.1.trans (gy.mono eX.I.1.2.2.1.size),(gy.block _ (J2.1 eX.I.1.2.2.2).1).trans eX.I.1.2.2.2,eX.I.2.2.1.below gy,hq.2.1⟩
   clear gy hq;rw [eX.I.2.2.2] at hok;rcases hok with ⟨hok,rfl⟩ | ⟨hok,rfl⟩
   .have HN:Hid (cB p.pure { p.pure with ai:=bY (·.id) (⟨z.id,z.I,z.Mf,z.max,[]⟩:dS) p.pure.ai } =o_ { p.pure with ai:=bY (·.id) (⟨z.id,z.I,z.Mf,z.max,[]⟩:dS) p.pure.ai }):=jS hok
    clear hok;go_wp2_with (refine ec 4 66 #[i_ j_ q.id,i_ j_ q.next,s_ q.aN q.L8.length q.aW,s_ q.bc q.aj.length q.bF,s_ q.ay q.L9.length q.aO,s_ q.ax q.ag.length q.aP,s_ q.am q.ae.length q.aG,s_ a9 (acc.length+1) c9] HZ.I.2.1 ?_);refine mG results77 (b_ true) HZ.I.2.1 ?_;have hl:=HZ.I.2.2.2;rw [HN.I];refine ⟨({ q with ai:=(acc ++ [(⟨⟨z.id,z.I,z.Mf,z.max,[]⟩,n_,0⟩:aM)]),aK:=a9,aV:=c9 } :af),by unfold af.cells; simp only [HR.I.2.2]; rfl,(HZ.I.2.2.1.lower zo).same fun g hg=>KH _ _ _ _ Zc2,eX.I.2.2.2,q_ HZ.I.1 zo _⟩
   .exact Zcw
  .have HR:Hid (fy bX 115 #[i_ j_ z.id,b_ z.I,b_ z.Mf,i_ j_ z.max,s_ n_ 0 0] W2 wr acc a c/\acc=bY (fun y:aM=>y.id) (⟨⟨z.id,z.I,z.Mf,z.max,[]⟩,n_,0⟩:aM) q.ai/\acc.length=acc.length):=⟨HA.I.1,HA.I.2.done hlt,rfl⟩
   have eX:Hid (_):=DY HB.I HQ.I Au.I HR.I.1 HR.I.2.1 HR.I.2.2 rfl (fun g hg=>by cases hg) (Ke _ _ _ _);have Mb:=fi p ({ q with ai:=acc,aK:=a,aV:=c } :af) (wr.setCell ⟨o,7,n_⟩ (s_ a acc.length c)) ⟨fl.I.1,fl.I.2.1,eX.I.1.2.1.at⟩ (fun hr=>by
    have h5:aE.Small ({ q with ai:=acc,aK:=a,aV:=c } :af).pure:=by rw [eX.I.2.2.2]; exact pU fl.I.2.2.1 hr ⟨fl.I.2.2.2,Ky _,(fun s hs=>by cases hs)⟩
    exact ⟨dV h5,fun x hx=>(cY h5 hx).1,eX.I.2.2.1.at⟩)
   obtain ⟨m0,m1,m2,m3,m4,m5,m6,m7⟩:=eX.I.1.1.cells;obtain ⟨k0,k1,k2,k3,k4,k5,k6,k7⟩:=eX.I.2.1.cells;obtain ⟨⟨u,co⟩,fo⟩:(∃ u,wr.cell? ⟨o,7,n_⟩=o_ u)/\wr.frozen? ⟨o,7,n_⟩=false:=⟨⟨_,(HQ.I.1.below HR.I.1.cd).cells.2.2.2.2.2.2.2⟩,Ko _ _ _ _ _ (HQ.I.1.below HR.I.1.cd)⟩
   unfold af.cells at Mb;simp only at Mb k0 k1 k2 k3 k4 k5 k6 k7;go_wp2_with fail;refine Mb.mono ?_;clear Mb m0 m1 m2 m3 m4 m5 m6 m7 k0 k1 k2 k3 k4 k5 k6 k7;rintro e ow ⟨gy,hok⟩;have hq:=HQ.I.2.2.2.2;have HZ:Hid (B_ w.heap.size w ow/\ow.heap[w.heap.size+1+1]? =o_ (c_ ar 31)/\ap ow W.heap.size ({ q with ai:=acc,aK:=a,aV:=c } :af)/\w.heap.size+1+1 < W.heap.size):=⟨eX.I.1.2.2.1.trans (gy.mono eX.I.1.2.2.1.size),(gy.block _ (J2.1 eX.I.1.2.2.2).1).trans eX.I.1.2.2.2,eX.I.2.2.1.below gy,hq.2.1⟩
   clear gy hq;rw [eX.I.2.2.2] at hok;rcases hok with ⟨hok,rfl⟩ | ⟨hok,rfl⟩
   .have HN:Hid (cB p.pure { p.pure with ai:=bY (·.id) (⟨z.id,z.I,z.Mf,z.max,[]⟩:dS) p.pure.ai } =o_ { p.pure with ai:=bY (·.id) (⟨z.id,z.I,z.Mf,z.max,[]⟩:dS) p.pure.ai }):=jS hok
    clear hok;go_wp2_with (refine ec 4 66 #[i_ j_ q.id,i_ j_ q.next,s_ q.aN q.L8.length q.aW,s_ q.bc q.aj.length q.bF,s_ q.ay q.L9.length q.aO,s_ q.ax q.ag.length q.aP,s_ q.am q.ae.length q.aG,s_ a acc.length c] HZ.I.2.1 ?_);refine mG results77 (b_ true) HZ.I.2.1 ?_;have hl:=HZ.I.2.2.2;rw [HN.I];refine ⟨({ q with ai:=acc,aK:=a,aV:=c } :af),by rfl,(HZ.I.2.2.1.lower zo).same fun g hg=>KH _ _ _ _ Zc2,eX.I.2.2.2,q_ HZ.I.1 zo _⟩
   .exact Zcw
structure ng {α:Type} (K:Kind α) (T:T_) (W w:w_) (acc:List α) (a:Option d_) (c:Nat):Prop where
 own:w.ownsRow W.heap.size T K.n (s_ a acc.length c) acc.length (K.flat acc)
 cd:B_ W.heap.size W w
def ng.start {α:Type} {K:Kind α} {T:T_} {W:w_} :ng K T W (W.alloc (c_ #[] T)) [] (o_ ⟨W.heap.size,0,n_⟩) 0:=⟨i6 (Kj _ _) (Ki _),(Kp _ _).alloc (Ki _) _⟩
def ng.add {α:Type} {K:Kind α} {T:T_} {W w:w_} {acc:List α} {a:Option d_} {c:Nat} (h:ng K T W w acc a c) (t:T_) (bytes:Nat) {z0:v_} {P:Program} (ht:P.underlying t=o_ (.slice T))
  (hi:(P.info? T).map (fun i=>(i.zero,i.size,i.bytes))=o_ (o_ z0,K.n,bytes)) (hz:z0.cells.size=K.n) (hn:0 < K.n) (hby:bytes<=1000) (z:α) (zs:Array v_) (hzs:zs.toList=K.vals z) (h1: ∀ u∈K.vals z,u.oneCell'=true) (hl:acc.length<=2000000):
  ∃ a' c' w',(Builtin.append_ #[t,t] t #[s_ a acc.length c,s_ (o_ ⟨w.heap.size,0,n_⟩) 1 1]).run P (w.alloc (c_ zs T))= .ok (s_ a' (acc.length+1) c') w'/\ng K T W w' (acc ++ [z]) a' c':=by
 obtain ⟨i,hi,e⟩:=Kw.1 hi;simp only [Prod.mk.injEq] at e;have b1:B_ w.heap.size w (w.alloc (c_ zs T)):=(Kp _ _).alloc (Ki _) _;have b2:=h.cd.trans (b1.mono h.cd.size);obtain ⟨a',c',w',hr,ho,hg,-⟩:=jD (P:=P) (w.alloc (c_ zs T)) W.heap.size t t T i z0 K.n bytes ht hi e.1 e.2.1 e.2.2 hz hn a acc.length c _ (cR h.own b1) (o_ ⟨w.heap.size,0,n_⟩) 1 1 (K.vals z) (by rw [<- hzs]; exact jO (Kj _ _)) (by rw [K.len,Nat.one_mul]) h1 zo hby b2.size;refine ⟨a',c',w',hr,⟨?_,b2.grown hg b2.size fun k e=>(cf h.own (di e)).1⟩⟩;exact Zbi
def DQ {p q:af} {w W W2 w9:w_} {o b0 n9 c9:Nat} {x:ao} {xp:aD} {acc:List ao} {a9:Option d_} (hB:av W2 w.heap.size p/\ap W2 b0 p/\B_ w.heap.size w W2/\W2.heap[w.heap.size+1]? =o_ (c_ ar 31))
  (hQ:av W2 o q/\ap W2 W.heap.size q/\q.pure=p.pure/\(∀ g∈q.Mc,g < o)/\W.heap.size<=o/\w.heap.size+1 < W.heap.size/\o < W2.heap.size) (hpb: ∀ g∈p.Mc,g < w.heap.size) (hl:ng bg 41 W2 w9 acc a9 c9) (ha:acc=bY (fun y:ao=>y.id) x q.L8) (hn:acc.length=n9) (hx:x.toaD=xp)
  (hk: ∀ g,aR.bt x=o_ g->g∉q.Mc/\g≠o) (hm:aR.cO W2 W.heap.size x):
  (av (w9.setCell ⟨o,2,n_⟩ (s_ a9 n9 c9)) w.heap.size p/\ap (w9.setCell ⟨o,2,n_⟩ (s_ a9 n9 c9)) b0 p/\B_ w.heap.size w (w9.setCell ⟨o,2,n_⟩ (s_ a9 n9 c9))/\(w9.setCell ⟨o,2,n_⟩ (s_ a9 n9 c9)).heap[w.heap.size+1]? =o_ (c_ ar 31))/\av (w9.setCell ⟨o,2,n_⟩ (s_ a9 n9 c9)) o ({ q with L8:=acc,aN:=a9,aW:=c9 } :af)/\ap (w9.setCell ⟨o,2,n_⟩ (s_ a9 n9 c9)) W.heap.size ({ q with L8:=acc,aN:=a9,aW:=c9 } :af)/\({ q with L8:=acc,aN:=a9,aW:=c9 } :af).pure= { p.pure with L8:=bY (·.id) xp p.pure.L8 } :=by
 have hb:=hl.cd;have nW:=hQ.2.2.2.1;have sm: ∀ g,g < W2.heap.size->g≠o->(w9.setCell ⟨o,2,n_⟩ (s_ a9 n9 c9)).heap[g]? =W2.heap[g]? :=fun g hg hne=>(aH hne).trans (hb.block _ hg)
 have lY:B_ w.heap.size w (w9.setCell ⟨o,2,n_⟩ (s_ a9 n9 c9)):=bP (hB.2.2.1.trans (hb.mono zo)) zo;have iH: ∀ g∈acc.filterMap aR.bt,g∈q.L8.filterMap aR.bt\/aR.bt x=o_ g:=fun g hg=>by
  exact Zan
 have hin: ∀ g∈q.L8.filterMap aR.bt,g∈q.Mc:=fun g hg=>by simp only [af.Mc,Kg]; simp [hg]
 refine ⟨⟨(sm _ zo zo).trans hB.1,hB.2.1.same fun g hg=>sm g Zc4 Zc4,lY,(sm _ zo zo).trans hB.2.2.2⟩,?_,?_,?_⟩
 .have h5:=cx (i:=2) (v:=s_ a9 n9 c9) ((hb.block _ hQ.2.2.2.2.2.2).trans hQ.1)
  unfold av;simp only [hn];exact h5
 .refine hQ.2.1.IX (B:=W2.heap.size) zo (fun g hg=>by have:=nW g hg; omega) (fun g hg=>sm g Zc7 Zc7) ?_ (fun z hz=> ?_) ?_ (fun g hg=> ?_) (fun g hg=> ?_)
  .exact Zbx
  .rw [ha] at hz
   rcases fq.1 hz with rfl | hz
   .exact ZbL
   .refine (hQ.2.1.eI z hz).same fun g hg=> ?_
    exact Za9
  .have h5:=hQ.2.1.nodup
   simp only [af.Mc,Kf] at h5;have h6:(q.L8.filterMap aR.bt).Nodup:=h5.2.1.1;have hp:(acc.filterMap aR.bt).Perm ((x :: q.L8).filterMap aR.bt):=by rw [ha]; exact (pz x _).filterMap _
   refine hp.nodup_iff.2 ?_;cases he:aR.bt x with
   | none=>rw [List.filterMap_cons_none he]; exact h6
   | some g=>rw [List.filterMap_cons_some he]; exact Lp.2 ⟨fun h7=>(hk g he).1 (hin g h7),h6⟩
  .exact Zbm
  .exact Za1
 .show ({ q.pure with L8:=acc.map (·.toaD) } :aE)=_
  have e1:q.L8.map (·.toaD)=p.pure.L8:=congrArg aE.L8 hQ.2.2.1;rw [ha,rF (je:=(·.id)) (fun y:ao=>y.toaD) (fun _=>rfl),e1,hx,hQ.2.2.1]
def sB (p:af) (id RX:Int) (pa:Option d_) (ops:List dN) (pc:Nat) (w:w_) (b0:Nat) (hwf:(Lit.int j_ id).wf=true) (hop:ops.length<=1048576/\ ∀ o∈ops,o.2.2.2.size<=1048576) (hrow:Row w pa (fk.flat ops)) (qY:p.pure.Small) (h:ap w b0 p):
  k_ J3 78 #[a_ p.cells,i_ j_ id,i_ j_ RX,s_ pa ops.length pc] w fun e w'=>gI w (cB p.pure { p.pure with L8:=bY (·.id) (newP id RX ops) p.pure.L8 }) e w':=by
 have HB:Hid (av ((w.alloc (c_ p.cells 31)).alloc (c_ ar 31)) w.heap.size p/\ap ((w.alloc (c_ p.cells 31)).alloc (c_ ar 31)) b0 p/\B_ w.heap.size w ((w.alloc (c_ p.cells 31)).alloc (c_ ar 31))/\((w.alloc (c_ p.cells 31)).alloc (c_ ar 31)).heap[w.heap.size+1]? =o_ (c_ ar 31)):=by
  have b1:B_ w.heap.size w ((w.alloc (c_ p.cells 31)).alloc (c_ ar 31)):=dT _ _ _;exact ⟨(cZ _ _ _).1,h.below b1,b1,(cZ _ _ _).2⟩
 have fl:Hid (p.Fit/\(∀ x∈p.L8,x.dX)/\p.pure.Small/\(Lit.int j_ id).wf=true):=⟨dV qY,fun x hx=>(cY qY hx).1,qY,hwf⟩
 have tc:Hid ((ops.length<=1048576/\ ∀ o∈ops,o.2.2.2.size<=1048576)/\Row w pa (fk.flat ops)):=⟨hop,hrow⟩
 have hpl:p.L8.length<=1048576:=fl.I.1.short.L8;have pd: ∀ g∈p.Mc,g < w.heap.size:=fun g hg=>(h.lt g hg).2
 clear h qY hwf hop hrow;obtain ⟨m0,m1,m2,m3,m4,m5,m6,m7⟩:=HB.I.1.cells;unfold af.cells at *
 go_enter func78,ntmps78
 go_wp2_with fail;generalize (w.alloc (c_ p.row 31)).alloc (c_ ar 31)=W at *;clear m0 m1 m2 m3 m4 m5 m6 m7;refine (fR p W fl.I.1 fl.I.2.1 HB.I.2.1.at).mono ?_;rintro e W1 ⟨q,rfl,hown,gn,hb1⟩;have hb2:B_ W1.heap.size W1 (W1.alloc (c_ q.cells 31)):=(Kp _ _).alloc (Ki _) _;have hlt:w.heap.size+1 < W.heap.size:=(J2.1 HB.I.2.2.2).1;have hq1: ∀ g∈q.Mc,g < W1.heap.size:=fun g hg=>(hown.lt g hg).2
 have hql:q.L8.length<=1048576:=by have e1:=congrArg (fun z=>z.L8.length) gn; simp only [af.pure,KG] at e1; omega
 have hs2:(W1.alloc (c_ q.cells 31)).heap.size=W1.heap.size+1:=by simp
 have hb3:B_ (W1.heap.size+1) (W1.alloc (c_ q.cells 31)) ((W1.alloc (c_ q.cells 31)).alloc (c_ #[] 45)):=by rw [<- hs2]; exact (Kp _ _).alloc (Ki _) _
 have hbW:B_ w.heap.size w ((W1.alloc (c_ q.cells 31)).alloc (c_ #[] 45)):=HB.I.2.2.1.trans ((hb1.trans ((hb2.trans (hb3.mono zo)).mono hb1.size)).mono HB.I.2.2.1.size);obtain ⟨xa,xc,w4,hap,ho4,hg4,-⟩:=Gg ((W1.alloc (c_ q.cells 31)).alloc (c_ #[] 45)) (W1.heap.size+1) (W1.heap.size+1) (by have h5:=Kj (W1.alloc (c_ q.cells 31)) (c_ #[] 45); rw [hs2] at h5; exact h5) (Ki _) pa ops pc (tc.I.2.below hbW) tc.I.1.1 (by have:=hb3.size; omega);have hb4:B_ (W1.heap.size+1) (W1.alloc (c_ q.cells 31)) w4:=hb3.grown hg4 (by have:=hb3.size; omega) fun c e=>by cases e; exact Ki _
 have anE:W1.heap.size+1<=w4.heap.size:=by have:=hb4.size; omega
 have iJ:B_ (W1.heap.size+1) (W1.alloc (c_ q.cells 31)) (w4.alloc (c_ #[i_ j_ id,i_ j_ RX,s_ xa ops.length xc,i_ j_ 0,i_ j_ 0,i_ j_ 0,i_ j_ 0,i_ j_ 0,t_ ⟨#[]⟩,t_ ⟨#[]⟩,i_ j_ 0,i_ j_ 0] 41)):=hb4.alloc anE _;have jQ:B_ W1.heap.size W1 (w4.alloc (c_ #[i_ j_ id,i_ j_ RX,s_ xa ops.length xc,i_ j_ 0,i_ j_ 0,i_ j_ 0,i_ j_ 0,i_ j_ 0,t_ ⟨#[]⟩,t_ ⟨#[]⟩,i_ j_ 0,i_ j_ 0] 41)):=hb2.trans (iJ.mono zo);have gh:B_ W.heap.size W (w4.alloc (c_ #[i_ j_ id,i_ j_ RX,s_ xa ops.length xc,i_ j_ 0,i_ j_ 0,i_ j_ 0,i_ j_ 0,i_ j_ 0,t_ ⟨#[]⟩,t_ ⟨#[]⟩,i_ j_ 0,i_ j_ 0] 41)):=hb1.trans (jQ.mono hb1.size);have HX:Hid ((w4.alloc (c_ #[i_ j_ id,i_ j_ RX,s_ xa ops.length xc,i_ j_ 0,i_ j_ 0,i_ j_ 0,i_ j_ 0,i_ j_ 0,t_ ⟨#[]⟩,t_ ⟨#[]⟩,i_ j_ 0,i_ j_ 0] 41)).heap[w4.heap.size]? =o_ (c_ #[i_ j_ id,i_ j_ RX,s_ xa ops.length xc,i_ j_ 0,i_ j_ 0,i_ j_ 0,i_ j_ 0,i_ j_ 0,t_ ⟨#[]⟩,t_ ⟨#[]⟩,i_ j_ 0,i_ j_ 0] 41)/\aR.cO (w4.alloc (c_ #[i_ j_ id,i_ j_ RX,s_ xa ops.length xc,i_ j_ 0,i_ j_ 0,i_ j_ 0,i_ j_ 0,i_ j_ 0,t_ ⟨#[]⟩,t_ ⟨#[]⟩,i_ j_ 0,i_ j_ 0] 41)) (W1.heap.size+1) (⟨newP id RX ops,xa,xc⟩:ao)/\w4.heap.size < (w4.alloc (c_ #[i_ j_ id,i_ j_ RX,s_ xa ops.length xc,i_ j_ 0,i_ j_ 0,i_ j_ 0,i_ j_ 0,i_ j_ 0,t_ ⟨#[]⟩,t_ ⟨#[]⟩,i_ j_ 0,i_ j_ 0] 41)).heap.size):=⟨Kj _ _,cR ho4 ((Kp _ _).alloc (Ki _) _),by simp⟩
 have HQ:Hid (av (w4.alloc (c_ #[i_ j_ id,i_ j_ RX,s_ xa ops.length xc,i_ j_ 0,i_ j_ 0,i_ j_ 0,i_ j_ 0,i_ j_ 0,t_ ⟨#[]⟩,t_ ⟨#[]⟩,i_ j_ 0,i_ j_ 0] 41)) W1.heap.size q/\ap (w4.alloc (c_ #[i_ j_ id,i_ j_ RX,s_ xa ops.length xc,i_ j_ 0,i_ j_ 0,i_ j_ 0,i_ j_ 0,i_ j_ 0,t_ ⟨#[]⟩,t_ ⟨#[]⟩,i_ j_ 0,i_ j_ 0] 41)) W.heap.size q/\q.pure=p.pure/\(∀ g∈q.Mc,g < W1.heap.size)/\W.heap.size<=W1.heap.size/\w.heap.size+1 < W.heap.size/\W1.heap.size < (w4.alloc (c_ #[i_ j_ id,i_ j_ RX,s_ xa ops.length xc,i_ j_ 0,i_ j_ 0,i_ j_ 0,i_ j_ 0,i_ j_ 0,t_ ⟨#[]⟩,t_ ⟨#[]⟩,i_ j_ 0,i_ j_ 0] 41)).heap.size):=⟨(iJ.block _ zo).trans (Kj _ _),hown.below jQ,gn,hq1,hb1.size,hlt,by have:=iJ.size; omega⟩
 replace HB:Hid (av (w4.alloc (c_ #[i_ j_ id,i_ j_ RX,s_ xa ops.length xc,i_ j_ 0,i_ j_ 0,i_ j_ 0,i_ j_ 0,i_ j_ 0,t_ ⟨#[]⟩,t_ ⟨#[]⟩,i_ j_ 0,i_ j_ 0] 41)) w.heap.size p/\ap (w4.alloc (c_ #[i_ j_ id,i_ j_ RX,s_ xa ops.length xc,i_ j_ 0,i_ j_ 0,i_ j_ 0,i_ j_ 0,i_ j_ 0,t_ ⟨#[]⟩,t_ ⟨#[]⟩,i_ j_ 0,i_ j_ 0] 41)) b0 p/\B_ w.heap.size w (w4.alloc (c_ #[i_ j_ id,i_ j_ RX,s_ xa ops.length xc,i_ j_ 0,i_ j_ 0,i_ j_ 0,i_ j_ 0,i_ j_ 0,t_ ⟨#[]⟩,t_ ⟨#[]⟩,i_ j_ 0,i_ j_ 0] 41))/\(w4.alloc (c_ #[i_ j_ id,i_ j_ RX,s_ xa ops.length xc,i_ j_ 0,i_ j_ 0,i_ j_ 0,i_ j_ 0,i_ j_ 0,t_ ⟨#[]⟩,t_ ⟨#[]⟩,i_ j_ 0,i_ j_ 0] 41)).heap[w.heap.size+1]? =o_ (c_ ar 31)):=⟨HB.I.1.below gh,HB.I.2.1.below gh,HB.I.2.2.1.trans (gh.mono HB.I.2.2.1.size),(gh.block _ hlt).trans HB.I.2.2.2⟩
 have Au:Hid (∀ g∈p.Mc,g < w.heap.size):=fun g hg=>pd g hg
 clear hown gn hb1 hb2 hb3 hb4 iJ jQ gh hbW hq1 hlt pd ho4 hg4 hs2 anE;have En:Hid (ng bg 41 (w4.alloc (c_ #[i_ j_ id,i_ j_ RX,s_ xa ops.length xc,i_ j_ 0,i_ j_ 0,i_ j_ 0,i_ j_ 0,i_ j_ 0,t_ ⟨#[]⟩,t_ ⟨#[]⟩,i_ j_ 0,i_ j_ 0] 41)) ((w4.alloc (c_ #[i_ j_ id,i_ j_ RX,s_ xa ops.length xc,i_ j_ 0,i_ j_ 0,i_ j_ 0,i_ j_ 0,i_ j_ 0,t_ ⟨#[]⟩,t_ ⟨#[]⟩,i_ j_ 0,i_ j_ 0] 41)).alloc (c_ #[] 41)) [] (o_ ⟨(w4.alloc (c_ #[i_ j_ id,i_ j_ RX,s_ xa ops.length xc,i_ j_ 0,i_ j_ 0,i_ j_ 0,i_ j_ 0,i_ j_ 0,t_ ⟨#[]⟩,t_ ⟨#[]⟩,i_ j_ 0,i_ j_ 0] 41)).heap.size,0,n_⟩) 0):=ng.start;have Hw:(w4.alloc (c_ #[i_ j_ id,i_ j_ RX,s_ xa ops.length xc,i_ j_ 0,i_ j_ 0,i_ j_ 0,i_ j_ 0,i_ j_ 0,t_ ⟨#[]⟩,t_ ⟨#[]⟩,i_ j_ 0,i_ j_ 0] 41)).heap.size=w4.heap.size+1:=by simp
 have HW:Hid ((w4.alloc (c_ #[i_ j_ id,i_ j_ RX,s_ xa ops.length xc,i_ j_ 0,i_ j_ 0,i_ j_ 0,i_ j_ 0,i_ j_ 0,t_ ⟨#[]⟩,t_ ⟨#[]⟩,i_ j_ 0,i_ j_ 0] 41)).heap.size=w4.heap.size+1):=Hw;clear Hw;unfold af.cells at *;go_wp2_with (at_builtin; refine br _ rfl _ _ 39 rfl _ _ _ _ rfl rfl hap ?_; clear hap);generalize w4.alloc (c_ #[i_ j_ id,i_ j_ RX,s_ xa ops.length xc,i_ j_ 0,i_ j_ 0,i_ j_ 0,i_ j_ 0,i_ j_ 0,t_ ⟨#[]⟩,t_ ⟨#[]⟩,i_ j_ 0,i_ j_ 0] 41)=W2 at *;generalize W1.heap.size=o at *;generalize w4.heap.size=xb at *
 go_loopw [12,13,14] (fun l d i wr=> ∃ (k:Nat) (dn:Bool) (acc:List ao) (a:Option d_) (c:Nat),k<=q.L8.length/\i=i_ j_ k/\d=b_ dn/\l=s_ a acc.length c/\Hid (ng bg 41 W2 wr acc a c/\gY (fun y:ao=>y.id) (⟨newP id RX ops,xa,xc⟩:ao) q.L8 k dn acc)) (fun _ _ i _=>q.L8.length - (Go.RowKit.intOf i).toNat)
 case atStart=>exact ⟨0,false,[],o_ ⟨W2.heap.size,0,n_⟩,0,Ky _,rfl,rfl,by rw [HW.I]; rfl,⟨En.I,gY.start _ _⟩⟩
 case round=>
  obtain ⟨k,dn,acc,a,c,hk,rfl,rfl,rfl,HA⟩:=hrel;have i0:(0:Int)<=(k:Int):=zo
  have hbr:=HA.I.1.cd;have hal:=HA.I.2.le;have ajP:wr.cell? ⟨o,2,n_⟩=o_ (s_ q.aN q.L8.length q.aW):=(HQ.I.1.below hbr).cells.2.2.1;by_cases hlt:k < q.L8.length
  .have i1:(k:Int) < (q.L8.length:Int):=zo
   obtain ⟨y,hy⟩: ∃ y,q.L8[k]? =o_ y:=⟨_,Kz hlt⟩
   have HY:Hid (q.L8[k]? =o_ y):=hy;obtain ⟨g,ha,hat⟩:=cn (HQ.I.2.1.below hbr).at.1 hy;rw [ha] at ajP;obtain ⟨d0,d1,d2,d3,d4,d5,d6,d7,d8,d9,tH,tS⟩:=hat;have HG:Hid (q.aN=o_ ⟨g,0,n_⟩):=ha;clear ha hy;obtain ⟨a5,c5,w5,hap,rL⟩:=HA.I.1.add 24 128 (P:=J3) underlying24 nb rfl (by decide) (by decide) y y.row rfl rB zo;have F5:Hid (ng bg 41 W2 w5 (acc ++ [y]) a5 c5):=rL;clear rL;cases dn;rotate_left
   .go_wp2_with (at_builtin; first | (refine br _ rfl _ _ 24 rfl _ _ _ _ rfl rfl hap ?_; clear hap))
    exact X4
   by_cases hc:id < y.id;rotate_left
   .have HC:Hid (¬ id < y.id):=hc
    go_wp2_with (at_builtin; first | (refine br _ rfl _ _ 24 rfl _ _ _ _ rfl rfl hap ?_; clear hap))
    exact ZaO
   clear hap F5 a5 c5 w5;have HC:Hid (id < y.id):=hc;obtain ⟨a5,c5,w5,hap,rL⟩:=HA.I.1.add 24 128 (P:=J3) underlying24 nb rfl (by decide) (by decide) (⟨newP id RX ops,xa,xc⟩:ao) #[i_ j_ id,i_ j_ RX,s_ xa ops.length xc,i_ j_ 0,i_ j_ 0,i_ j_ 0,i_ j_ 0,i_ j_ 0,t_ ⟨#[]⟩,t_ ⟨#[]⟩,i_ j_ 0,i_ j_ 0] rfl rB zo;obtain ⟨a7,c7,w7,gT,mI⟩:=rL.add 24 128 (P:=J3) underlying24 nb rfl (by decide) (by decide) y y.row rfl rB ZcT;rw [Lf] at gT;simp only [Lg,K4,Li] at gT;have HL7:Hid (ng bg 41 W2 w7 (acc ++ [(⟨newP id RX ops,xa,xc⟩:ao)] ++ [y]) a7 c7):=mI;have mo5:w5.cell? ⟨o,2,n_⟩=o_ (s_ q.aN q.L8.length q.aW):=(HQ.I.1.below rL.cd).cells.2.2.1;obtain ⟨g2,ha2,g8⟩:=cn (HQ.I.2.1.below rL.cd).at.1 HY.I;rw [HG.I] at ha2 mo5;cases ha2;obtain ⟨e0,e1,e2,e3,e4,e5,e6,e7,e8,e9,Pn,e11⟩:=g8;obtain ⟨x0,x1,x2,x3,x4,x5,x6,x7,x8,x9,x10,Dm⟩:=bo (x:=(⟨newP id RX ops,xa,xc⟩:ao)) (X:=xb) (W:=wr) ((hbr.block _ HX.I.2.2).trans HX.I.1);clear rL mI;go_wp2_with (at_builtin; first | (refine br _ rfl _ _ 24 rfl _ _ _ _ rfl rfl hap ?_; clear hap) | (refine br _ rfl _ _ 24 rfl _ _ _ _ rfl rfl gT ?_; clear gT))
   go_round
   case rel=>exact ⟨k+1,true,acc ++ [(⟨newP id RX ops,xa,xc⟩:ao)] ++ [y],a7,c7,zo,by go_num,rfl,by simp,⟨HL7.I,HA.I.2.here HY.I HC.I⟩⟩
   case measure=>simp [Go.RowKit.intOf]; omega
  have i1: ¬ (k:Int) < (q.L8.length:Int):=zo
  cases dn
  .obtain ⟨a9,c9,w9,hap,Jy⟩:=HA.I.1.add 24 128 (P:=J3) underlying24 nb rfl (by decide) (by decide) (⟨newP id RX ops,xa,xc⟩:ao) #[i_ j_ id,i_ j_ RX,s_ xa ops.length xc,i_ j_ 0,i_ j_ 0,i_ j_ 0,i_ j_ 0,i_ j_ 0,t_ ⟨#[]⟩,t_ ⟨#[]⟩,i_ j_ 0,i_ j_ 0] rfl rB zo
   have HR:Hid (ng bg 41 W2 w9 (acc ++ [(⟨newP id RX ops,xa,xc⟩:ao)]) a9 c9/\acc ++ [(⟨newP id RX ops,xa,xc⟩:ao)] =bY (fun y:ao=>y.id) (⟨newP id RX ops,xa,xc⟩:ao) q.L8/\(acc ++ [(⟨newP id RX ops,xa,xc⟩:ao)]).length=acc.length+1):=⟨Jy,HA.I.2.last hlt,by simp⟩
   obtain ⟨x0,x1,x2,x3,x4,x5,x6,x7,x8,x9,x10,Dm⟩:=bo (x:=(⟨newP id RX ops,xa,xc⟩:ao)) (X:=xb) (W:=wr) ((hbr.block _ HX.I.2.2).trans HX.I.1);clear Jy;have eX:Hid (_):=DQ HB.I HQ.I Au.I HR.I.1 HR.I.2.1 HR.I.2.2 rfl (fun g hg=>by have h5:=(HX.I.2.1.lt hg).1; exact ⟨fun h6=>by have:=HQ.I.2.2.2.1 g h6; omega,zo⟩) (HX.I.2.1.low (by have:=HQ.I.2.2.2.2.1; omega));have Mb:=fi p ({ q with L8:=(acc ++ [(⟨newP id RX ops,xa,xc⟩:ao)]),aN:=a9,aW:=c9 } :af) (w9.setCell ⟨o,2,n_⟩ (s_ a9 (acc.length+1) c9)) ⟨fl.I.1,fl.I.2.1,eX.I.1.2.1.at⟩ (fun hr=>by
    have h5:aE.Small ({ q with L8:=(acc ++ [(⟨newP id RX ops,xa,xc⟩:ao)]),aN:=a9,aW:=c9 } :af).pure:=by rw [eX.I.2.2.2]; exact pO fl.I.2.2.1 hr tc.I.1 fl.I.2.2.2
    exact ⟨dV h5,fun x hx=>(cY h5 hx).1,eX.I.2.2.1.at⟩)
   obtain ⟨m0,m1,m2,m3,m4,m5,m6,m7⟩:=eX.I.1.1.cells;obtain ⟨k0,k1,k2,k3,k4,k5,k6,k7⟩:=eX.I.2.1.cells;obtain ⟨⟨u,co⟩,fo⟩:(∃ u,w9.cell? ⟨o,2,n_⟩=o_ u)/\w9.frozen? ⟨o,2,n_⟩=false:=⟨⟨_,(HQ.I.1.below HR.I.1.cd).cells.2.2.1⟩,Ko _ _ _ _ _ (HQ.I.1.below HR.I.1.cd)⟩
   unfold af.cells at Mb;have sR:=HR.I.2.2;simp only [sR] at Mb k0 k1 k2 k3 k4 k5 k6 k7;clear sR;go_wp2_with (at_builtin; first | (refine br _ rfl _ _ 24 rfl _ _ _ _ rfl rfl hap ?_; clear hap));refine Mb.mono ?_;clear Mb m0 m1 m2 m3 m4 m5 m6 m7 k0 k1 k2 k3 k4 k5 k6 k7;rintro e ow ⟨gy,hok⟩;have hq:=HQ.I.2.2.2.2;have HZ:Hid (B_ w.heap.size w ow/\ow.heap[w.heap.size+1]? =o_ (c_ ar 31)/\ap ow W.heap.size ({ q with L8:=(acc ++ [(⟨newP id RX ops,xa,xc⟩:ao)]),aN:=a9,aW:=c9 } :af)/\w.heap.size+1 < W.heap.size):=⟨eX.I.1.2.2.1.trans (gy.mono eX.I.1.2.2.1.size),(gy.block _ (J2.1 eX.I.1.2.2.2).1).trans eX.I.1.2.2.2,eX.I.2.2.1.below gy,hq.2.1⟩
   clear gy hq;rw [eX.I.2.2.2] at hok;rcases hok with ⟨hok,rfl⟩ | ⟨hok,rfl⟩
   .have HN:Hid (cB p.pure { p.pure with L8:=bY (·.id) (newP id RX ops) p.pure.L8 } =o_ { p.pure with L8:=bY (·.id) (newP id RX ops) p.pure.L8 }):=jS hok
    clear hok;go_wp2_with (refine ec 8 66 #[i_ j_ q.id,i_ j_ q.next,s_ a9 (acc.length+1) c9,s_ q.bc q.aj.length q.bF,s_ q.ay q.L9.length q.aO,s_ q.ax q.ag.length q.aP,s_ q.am q.ae.length q.aG,s_ q.aK q.ai.length q.aV] HZ.I.2.1 ?_);refine mG results78 (b_ true) HZ.I.2.1 ?_;have hl:=HZ.I.2.2.2;rw [HN.I];refine ⟨({ q with L8:=(acc ++ [(⟨newP id RX ops,xa,xc⟩:ao)]),aN:=a9,aW:=c9 } :af),by unfold af.cells; simp only [HR.I.2.2]; rfl,(HZ.I.2.2.1.lower zo).same fun g hg=>KH _ _ _ _ Zc2,eX.I.2.2.2,q_ HZ.I.1 zo _⟩
   .exact Zcz
  .have HR:Hid (ng bg 41 W2 wr acc a c/\acc=bY (fun y:ao=>y.id) (⟨newP id RX ops,xa,xc⟩:ao) q.L8/\acc.length=acc.length):=⟨HA.I.1,HA.I.2.done hlt,rfl⟩
   have eX:Hid (_):=DQ HB.I HQ.I Au.I HR.I.1 HR.I.2.1 HR.I.2.2 rfl (fun g hg=>by have h5:=(HX.I.2.1.lt hg).1; exact ⟨fun h6=>by have:=HQ.I.2.2.2.1 g h6; omega,zo⟩) (HX.I.2.1.low (by have:=HQ.I.2.2.2.2.1; omega));have Mb:=fi p ({ q with L8:=acc,aN:=a,aW:=c } :af) (wr.setCell ⟨o,2,n_⟩ (s_ a acc.length c)) ⟨fl.I.1,fl.I.2.1,eX.I.1.2.1.at⟩ (fun hr=>by
    have h5:aE.Small ({ q with L8:=acc,aN:=a,aW:=c } :af).pure:=by rw [eX.I.2.2.2]; exact pO fl.I.2.2.1 hr tc.I.1 fl.I.2.2.2
    exact ⟨dV h5,fun x hx=>(cY h5 hx).1,eX.I.2.2.1.at⟩)
   obtain ⟨m0,m1,m2,m3,m4,m5,m6,m7⟩:=eX.I.1.1.cells;obtain ⟨k0,k1,k2,k3,k4,k5,k6,k7⟩:=eX.I.2.1.cells;obtain ⟨⟨u,co⟩,fo⟩:(∃ u,wr.cell? ⟨o,2,n_⟩=o_ u)/\wr.frozen? ⟨o,2,n_⟩=false:=⟨⟨_,(HQ.I.1.below HR.I.1.cd).cells.2.2.1⟩,Ko _ _ _ _ _ (HQ.I.1.below HR.I.1.cd)⟩
   unfold af.cells at Mb;simp only at Mb k0 k1 k2 k3 k4 k5 k6 k7;go_wp2_with fail;refine Mb.mono ?_;clear Mb m0 m1 m2 m3 m4 m5 m6 m7 k0 k1 k2 k3 k4 k5 k6 k7;rintro e ow ⟨gy,hok⟩;have hq:=HQ.I.2.2.2.2;have HZ:Hid (B_ w.heap.size w ow/\ow.heap[w.heap.size+1]? =o_ (c_ ar 31)/\ap ow W.heap.size ({ q with L8:=acc,aN:=a,aW:=c } :af)/\w.heap.size+1 < W.heap.size):=⟨eX.I.1.2.2.1.trans (gy.mono eX.I.1.2.2.1.size),(gy.block _ (J2.1 eX.I.1.2.2.2).1).trans eX.I.1.2.2.2,eX.I.2.2.1.below gy,hq.2.1⟩
   clear gy hq;rw [eX.I.2.2.2] at hok;rcases hok with ⟨hok,rfl⟩ | ⟨hok,rfl⟩
   .have HN:Hid (cB p.pure { p.pure with L8:=bY (·.id) (newP id RX ops) p.pure.L8 } =o_ { p.pure with L8:=bY (·.id) (newP id RX ops) p.pure.L8 }):=jS hok
    clear hok;go_wp2_with (refine ec 8 66 #[i_ j_ q.id,i_ j_ q.next,s_ a acc.length c,s_ q.bc q.aj.length q.bF,s_ q.ay q.L9.length q.aO,s_ q.ax q.ag.length q.aP,s_ q.am q.ae.length q.aG,s_ q.aK q.ai.length q.aV] HZ.I.2.1 ?_);refine mG results78 (b_ true) HZ.I.2.1 ?_;have hl:=HZ.I.2.2.2;rw [HN.I];refine ⟨({ q with L8:=acc,aN:=a,aW:=c } :af),by rfl,(HZ.I.2.2.1.lower zo).same fun g hg=>KH _ _ _ _ Zc2,eX.I.2.2.2,q_ HZ.I.1 zo _⟩
   .exact Zcz
end
def agL (now:Int) (p:aE):Nat->Option aE
 | 0=>o_ p
 | n+1=>(agL now p n).bind fun q=>hZ q (now+n)
def agc (p:aE) (now n:Int):Option aE:=if bK p && cv n 0 200 then agL now p n.toNat else n_
section
variable {now:Int} {p q:aE} {i n:Nat}
def ah6 (h:agL now p i=n_) (hn:i<=n):agL now p n=n_:=by
 induction n with
 | zero=>
  obtain rfl:i=0:=zo
  exact h
 | succ n ih=>
  rcases Nat.lt_or_ge n i with h5 | h5
  .obtain rfl:i=n+1:=zo
   exact h
  .show (agL now p n).bind _=n_
   rw [ih h5];rfl
structure agI (now:Int) (p:aE) (i:Nat) (q:aE):Prop where
 is:agL now p i=o_ q
 right:aQ q
 akr:i=0\/0<=now+i/\now+i<=1000000001
def agI.start (h:aQ p):agI now p 0 p:=⟨rfl,h,.inl rfl⟩
def agI.no (h:agI now p i q) (hb:(cv (now+i) 0 1000000000 && decide (q.next<=999999980))=false) (hn:i < n):agL now p n=n_:=by
 refine ah6 (i:=i+1) ?_ hn
 show (agL now p i).bind _=n_
 rw [h.is]
 show hZ q (now+i)=n_
 unfold hZ;rw [Bool.and_assoc,hb,PP];rfl
def agI.next (h:agI now p i q) (hb:(cv (now+i) 0 1000000000 && decide (q.next<=999999980))=true):agI now p (i+1) (mS (now+i) q):=by
 have hb':=hb;rw [J7,decide_eq_true_eq] at hb';have h1:=bz.1 hb'.1;refine ⟨?_,(DA h.right hb'.2 h1).1,.inr zo⟩
 show (agL now p i).bind _=_
 rw [h.is]
 show hZ q (now+i)=_
 unfold hZ;rw [Bool.and_assoc,hb,(ch q).2 h.right];rfl
def ai5:agc p now 1=hZ p now:=by
 unfold agc;cases hp:bK p with
 | true=>
  show hZ p (now+(0:Nat))=_
  rw [show now+((0:Nat):Int)=now by omega]
 | false=>
  unfold hZ;rw [hp];rfl
end
section
open Go.RowKit
def kv {s:ByteArray} (h:bw s=true):s.size<=1048576:=by
 unfold bw at h;simp only [J7,decide_eq_true_eq] at h;omega
def ta {p:aE} (h:aQ p):p.Small:=by
 have hid: ∀ {α:Type} {num:α->Int} {ok:α->Bool} {last:Int} {l:List α},aw num ok last l=true-> ∀ x∈l,(Lit.int j_ (num x)).wf=true/\ok x=true:=fun hl x hx=>by
  obtain ⟨h1,h2⟩:=cK hl x hx
  have:=bz.1 h1
  exact ⟨pT zo zo,h2⟩
 have hwf: ∀ {α:Type} {num:α->Int} {ok:α->Bool} {last k:Int} {l:List α},aw num ok last l=true->decide (k∈l.map num)=true->(Lit.int j_ k).wf=true:=fun hl hk=>by
  obtain ⟨x,hx,rfl⟩:=Lr.1 (of_decide_eq_true hk);exact (hid hl x hx).1
 refine ⟨by have:=h.dl; omega,by have:=h.fx; omega,by have:=h.cD; omega,by have:=h.cC; omega,by have:=h.cb; omega,by have:=h.dH; omega,fun x hx=> ?_,fun x hx=>(hid h.aj x hx).1,fun x hx=>(hid h.L9 x hx).1,fun x hx=> ?_,fun x hx=> ?_,fun x hx=> ?_⟩
 .obtain ⟨k0,k1,k2,k3⟩:=h.proc hx
  have hb:=iF k1;unfold jY at hb;simp only [J7] at hb;have hl:=lK hb.1.1.1.2;have hi:=bz.1 k0;have hnx:=bz.1 h.next;refine ⟨⟨zo,fun o ho=> ?_,kv hb.1.1.2,kv hb.1.2⟩,pT zo zo,?_,?_⟩
  .obtain ⟨i,hi1,hi2⟩:=LK.1 ho
   exact kv (dv (yG hb.1.1.1.2 (i:=i) (by rw [Kz hi1,hi2]))).2.2.2.1
  .unfold dG at k3
   by_cases h3:3<=x.Md
   .rw [if_pos h3] at k3
    unfold hasB at k3
    split at k3
    .exact hwf h.aj k3
    .split at k3
     .exact hwf h.L9 k3
     .split at k3
      .exact hwf h.ae k3
      .split at k3
       .exact hwf h.ag k3
       .cases k3
   .rw [fG,J7] at k1
    have k4:=k1.2;unfold bO at k4;have h0:x.on=0:=by
     split at k4
     .simp only [J7,decide_eq_true_eq] at k4; exact k4.1.1.2
     .split at k4
      .simp only [J7,decide_eq_true_eq] at k4; exact k4.1.2
      .split at k4
       .simp only [J7,decide_eq_true_eq] at k4; exact k4.1.2
       .split at k4
        .omega
        .split at k4
         .omega
         .cases k4
    rw [h0]; rfl
  .by_cases h0:x.Md=0
   .rw [kx k1 h0]; rfl
   .unfold fF at k2
    simp only [Kb,decide_eq_true_eq,h0,false_or] at k2
    have:=bz.1 k2
    exact pT zo zo
 .obtain ⟨k1,k2⟩:=hid h.ag x hx
  unfold cU at k2;simp only [J7] at k2;exact ⟨k1,kv k2.1⟩
 .obtain ⟨k1,k2⟩:=hid h.ae x hx
  unfold ct at k2;simp only [J7] at k2;have k3:=lv.1 k2.2;have k4:=bz.1 k2.1;exact ⟨k1,zo,fun s hs=>kv (k3.2 s hs)⟩
 .obtain ⟨k1,k2⟩:=hid h.ai x hx
  unfold dj at k2;simp only [J7] at k2;have k3:=lv.1 k2.2;have k4:=bz.1 k2.1.1;exact ⟨k1,zo,fun s hs=>kv (k3.2 s hs)⟩
def za {p:aE} {now:Int} :((hZ p now).getD cN).Small:=by
 unfold hZ
 split
 .rename_i h
  simp only [J7,decide_eq_true_eq] at h;exact ta (DA ((ch _).1 h.1.1) h.2 (bz.1 h.1.2)).1
 .exact hY
def agt {p q:aE} {now:Int} (h:hZ p now=o_ q):aQ q:=by
 unfold hZ at h
 split at h
 .rename_i h5
  simp only [J7,decide_eq_true_eq] at h5;rw [<- KC h];exact (DA ((ch _).1 h5.1.1) h5.2 (bz.1 h5.1.2)).1
 .cases h
def jH (w:w_) (base:Nat) (q:af) (f:aE) (e:Ending) (w':w_):Prop:= ∃ q2:af,e=r_ (a_ q2.cells)/\q2.pure=f/\yr w base q q2 w'
structure Fr (w:w_) (M base:Nat) (q0 z q:af) (W:w_):Prop where
 box:av W w.heap.size z
 own:ap W base q
 kept:aI w W q0.Mc
 far: ∀ g∈q.Mc,g∈q0.Mc\/M<=g
 lo: ∀ g∈q0.Mc,base<=g/\g < w.heap.size
 sz:w.heap.size < M/\M<=W.heap.size/\base<=w.heap.size
section
variable {w W W2:w_} {M base:Nat} {q0 z q q2:af}
def Fr.yO (h:Fr w M base q0 z q W) {X:Nat} (h1:w.heap.size<=X) (h2:X < M):X∉q.Mc:=fun hm=>by
 rcases h.far X hm with h3 | h3
 .have:=(h.lo X h3).2; omega
 .omega
def Fr.start (h:ap w base q) (hb:base<=w.heap.size) (hx:av W w.heap.size q) (hw:B_ w.heap.size w W) (hM:w.heap.size < M/\M<=W.heap.size):Fr w M base q q q W:=
 ⟨hx,h.below hw,aI.dI hw,fun _ hg=> .inl hg,h.lt,hM.1,hM.2,hb⟩
def Fr.call (h:Fr w M base q0 z q W) (ht:yr W base q q2 W2):Fr w M base q0 z q2 W2/\ ∀ X,w.heap.size<=X->X < M->W2.heap[X]? =W.heap[X]? :=by
 have hk: ∀ X,w.heap.size<=X->X < M->W2.heap[X]? =W.heap[X]? :=fun X h1 h2=>ht.kept.same X (by have:=h.sz; omega) (h.yO h1 h2)
 refine ⟨⟨(hk _ (Ki _) h.sz.1).trans h.box,ht.own,⟨ht.kept.os.trans h.kept.os,ht.kept.tape.trans h.kept.tape,ht.kept.output.trans h.kept.output,LG h.kept.size ht.kept.size,fun g h1 h2=>(ht.kept.same g (by have:=h.kept.size; omega) fun hm=> ?_).trans (h.kept.same g h1 h2)⟩,fun g hg=> ?_,h.lo,h.sz.1,LG h.sz.2.1 ht.kept.size,h.sz.2.2⟩,hk⟩
 .rcases h.far g hm with h3 | h3
  .exact h2 h3
  .have:=h.sz; omega
 .rcases ht.far g hg with h3 | h3
  .exact h.far g h3
  .exact .inr (by have:=h.sz; omega)
def Fr.reads (h:Fr w M base q0 z q W) (hb:B_ W.heap.size W W2):Fr w M base q0 z q W2/\ ∀ X,X < M->W2.heap[X]? =W.heap[X]? :=
 ⟨⟨h.box.below hb,h.own.below hb,⟨hb.os.trans h.kept.os,hb.tape.trans h.kept.tape,hb.output.trans h.kept.output,LG h.kept.size hb.size,fun g h1 h2=>(hb.block g (by have:=h.kept.size; omega)).trans (h.kept.same g h1 h2)⟩,h.far,h.lo,h.sz.1,LG h.sz.2.1 hb.size,h.sz.2.2⟩,fun X hX=>hb.block X (by have:=h.sz; omega)⟩
def Fr.other (h:Fr w M base q0 z q W) {X:Nat} (h1:w.heap.size<=X) (h2:X < M) (cs:Array v_) (hz:av (W.setRow X cs) w.heap.size q2):Fr w M base q0 q2 q (W.setRow X cs):=
 ⟨hz,h.own.same fun g hg=>KH _ _ _ _ fun e=>h.yO h1 h2 (e ▸ hg),⟨h.kept.os,h.kept.tape,h.kept.output,by simpa using h.kept.size,fun g h3 h4=>(KH _ _ _ _ zo).trans (h.kept.same g h3 h4)⟩,h.far,h.lo,h.sz.1,by simpa using h.sz.2.1,h.sz.2.2⟩
def Fr.put (h:Fr w M base q0 z q W):Fr w M base q0 q q (W.setRow w.heap.size q.cells):=h.other (Ki _) h.sz.1 _ (KU _ _ _ _ _ _ h.box)
def Fr.mK (h:Fr w M base q0 z q W) {X:Nat} (h1:w.heap.size < X) (h2:X < M) (cs:Array v_):yr w base q0 q (W.setRow X cs):=by
 have h3:=h.other (q2:=z) (Nat.le_of_lt h1) h2 cs ((KH _ _ _ _ zo).trans h.box);exact ⟨h3.own,h3.kept,fun g hg=>(h3.far g hg).imp_right fun h4=>by have:=h.sz; omega⟩
end
end
section
open Go.RowKit Go.Maps
attribute [local go_sem ↓] Kc Kd
structure DZ (now:Int) (base:Nat) (w:w_) (q0:af) (k:Nat) (q:af) (wr:w_):Prop where
 box:av wr w.heap.size q
 mK:wr.heap[w.heap.size+1]? =o_ (c_ ar 31)
 own:ap wr base q
 cd:B_ base w wr
 wk:af9 now q.pure
 same:gj now q.pure=gj now q0.pure
 cnt:(lF now q.pure.L8).length=k
 short: ∀ x∈q.L8,x.prog.length<=1048576
 low: ∀ g∈q.Mc,g < w.heap.size
def un {q:af} {gs:Nat} (h:q.aN=o_ ⟨gs,0,n_⟩):gs∈q.Mc:=by
 unfold af.Mc;rw [h];simp [blk]
def Eb {now:Int} {q:af} {n:Nat} {y:ao} {code:Int} (hw:af9 now q.pure) (hy:q.L8[n]? =o_ y) (hp:q.pure.L8[n]? =o_ y.toaD) (hc:mL y.toaD=code) (hs: ∀ x∈q.L8,x.prog.length<=1048576):
  ({ q with next:=gf q.next y.toaD,L8:=q.L8.set n (pF q.next code y) } :af).pure=gu q.pure y.toaD/\({ q with next:=gf q.next y.toaD,L8:=q.L8.set n (pF q.next code y) } :af).Mc=q.Mc/\(∀ x∈({ q with next:=gf q.next y.toaD,L8:=q.L8.set n (pF q.next code y) } :af).L8,x.prog.length<=1048576):=by
 refine ⟨?_,?_,fun x hx=> ?_⟩
 .unfold gu
  rw [rp hw.kW hp rfl,hc]
  show ({ q.pure with next:=gf q.next y.toaD,L8:=(q.L8.set n (pF q.next code y)).map (·.toaD) } :aE)=_
  rw [PN];rfl
 .unfold af.Mc
  simp only [re hy (show (pF q.next code y).aY=y.aY from rfl)]
 .rcases List.mem_or_eq_of_mem_set hx with h5 | h5
  .exact hs x h5
  .rw [h5]
   show (iY q.next code y.toaD).prog.length<=_
   rw [(rD _ _ _).2];exact hs y (KA hy)
def ti (q0:af) (now:Int) (base:Nat) (w:w_) (h:ap w base q0) (hb:base<=w.heap.size) (hk:af9 now q0.pure) (hs: ∀ x∈q0.L8,x.prog.length<=1048576):
  k_ J3 43 #[a_ q0.cells,i_ j_ now] w fun e w'=> ∃ q:af,e=r_ (a_ q.cells)/\q.pure=gj now q0.pure/\ap w' base q/\B_ base w w':=by
 have b1:B_ w.heap.size w ((w.alloc (c_ q0.cells 31)).alloc (c_ ar 31)):=dT _ _ _;have HB:Hid (DZ now base w q0 (lF now q0.pure.L8).length q0 ((w.alloc (c_ q0.cells 31)).alloc (c_ ar 31))/\base<=w.heap.size):=⟨⟨(cZ _ _ _).1,(cZ _ _ _).2,h.below b1,b1.mono hb,hk,rfl,rfl,hs,fun g hg=>(h.lt g hg).2⟩,hb⟩
 clear h hb hk hs b1;unfold af.cells at *
 go_enter func43,ntmps43
 go_wp2_with fail;generalize (w.alloc (c_ #[i_ j_ q0.id,i_ j_ q0.next,s_ q0.aN q0.L8.length q0.aW,s_ q0.bc q0.aj.length q0.bF,s_ q0.ay q0.L9.length q0.aO,s_ q0.ax q0.ag.length q0.aP,s_ q0.am q0.ae.length q0.aG,s_ q0.aK q0.ai.length q0.aV] 31)).alloc (c_ ar 31)=W at *
 go_loopg [] (lF now q0.pure.L8).length (fun k wr=> ∃ q:af,Hid (DZ now base w q0 k q wr))
 case atStart=>exact ⟨q0,HB.I.1⟩
 case round=>
  obtain ⟨q,HO⟩:=hrel
  rename w_=>W1
  have hql:q.L8.length<=6:=by have h5:=HO.I.wk.low; simpa [af.pure] using h5
  go_wp2_with fail
  go_loopw [5,6] (fun b i wr=> ∃ (k:Nat) (z:Int),k<=q.L8.length/\i=i_ j_ k/\b=i_ j_ z/\Hid (eN l8 (og now) q.pure.L8 k z/\B_ W1.heap.size W1 wr)) (fun _ i _=>q.L8.length - (Go.RowKit.intOf i).toNat)
  case atStart=>exact ⟨0,-1,Ky _,rfl,rfl,⟨eN.start _ _ _,Kp _ _⟩⟩
  case round=>
   obtain ⟨k,z,hk,rfl,rfl,HA⟩:=hrel;have HW:Hid (av wr w.heap.size q/\ap wr base q):=⟨HO.I.box.below HA.I.2,HO.I.own.below HA.I.2⟩
   obtain ⟨m0,m1,m2,m3,m4,m5,m6,m7⟩:=HW.I.1.cells;by_cases hlt:k < q.L8.length
   .have i0:(0:Int)<=(k:Int):=zo
    have i1:(k:Int) < (q.L8.length:Int):=zo
    clear m0 m1 m3 m4 m5 m6 m7;obtain ⟨x,hx⟩: ∃ x,q.L8[k]? =o_ x:=⟨_,Kz hlt⟩
    have HX:Hid (q.L8[k]? =o_ x/\q.pure.L8[k]? =o_ x.toaD):=⟨hx,by show (q.L8.map (·.toaD))[k]? =_; rw [Kk,hx]; rfl⟩
    obtain ⟨gs,ha,hat⟩:=cn HW.I.2.at.1 hx;have HG:Hid (q.aN=o_ ⟨gs,0,n_⟩):=ha;rw [ha] at m2;obtain ⟨d0,d1,d2,d3,d4,d5,d6,d7,d8,d9,tH,tS⟩:=hat;clear hx ha;have hgl:w.heap.size < wr.heap.size:=(J2.1 HW.I.1).1;have HN:Hid (av (wr.alloc (c_ x.row 41)) w.heap.size q/\ap (wr.alloc (c_ x.row 41)) base q/\jx (wr.alloc (c_ x.row 41)) wr.heap.size x/\B_ W1.heap.size W1 (wr.alloc (c_ x.row 41))):=⟨HW.I.1.below ((Kp _ _).alloc (Ki _) _),HW.I.2.below ((Kp _ _).alloc (Ki _) _),Kj _ _,HA.I.2.alloc HA.I.2.size _⟩
    go_wp2_with fail;generalize wr.alloc (c_ x.row 41)=W5 at *;generalize wr.heap.size=X at *;clear d0 d1 d2 d3 d4 d5 d6 d7 d8 d9 tH tS m2 hgl;obtain ⟨-,-,m2,-⟩:=HN.I.1.cells;rw [HG.I] at m2;obtain ⟨-,-,-,b3,-,-,b6,-⟩:=HN.I.2.2.1.cells;by_cases hs:2<=x.Md;rotate_left
    .have d1:decide (2<=x.Md)=false:=decide_eq_false hs
     have HY:Hid (eN l8 (og now) q.pure.L8 (k+1) z):=HA.I.1.skip HX.I.2 (by show (decide (2<=x.Md) && _)=false; rw [d1]; rfl);clear hs;refine aT (fun w'=>(w'.cell? ⟨w.heap.size,2,n_⟩=o_ (s_ (o_ ⟨gs,0,n_⟩) q.L8.length q.aW)/\w'.cell? ⟨X,3,n_⟩=o_ (i_ j_ x.Md)/\w'.cell? ⟨X,6,n_⟩=o_ (i_ j_ x.Mg))/\Hid (B_ W5.heap.size W5 w')) ZcS ⟨⟨m2,b3,b6⟩,(Kp _ _).drew⟩ ?_
     iterate 4 (refine PI ?_)
     iterate 4 (refine nl ?_; simp only [pt,sb,s0,s1])
     exact P_
    have d1:decide (2<=x.Md)=true:=decide_eq_true hs;cases hv:cv x.Mg 1 now
    .have afp:Hid (Ending.returned (b_ (cv x.Mg 1 now))=Ending.returned (b_ false)):=by show _=_; rw [hv]
     have HY:Hid (eN l8 (og now) q.pure.L8 (k+1) z):=HA.I.1.skip HX.I.2 (by show (_ && cv x.Mg 1 now)=false; rw [hv,PP]);clear hs hv;refine aT (fun w'=>(w'.cell? ⟨w.heap.size,2,n_⟩=o_ (s_ (o_ ⟨gs,0,n_⟩) q.L8.length q.aW)/\w'.cell? ⟨X,3,n_⟩=o_ (i_ j_ x.Md)/\w'.cell? ⟨X,6,n_⟩=o_ (i_ j_ x.Mg))/\Hid (B_ W5.heap.size W5 w')) ZcS ⟨⟨m2,b3,b6⟩,(Kp _ _).drew⟩ ?_
     iterate 7 (refine PI ?_)
     refine cl (b_ false) 27 #[i_ j_ x.Mg,i_ j_ 1,i_ j_ now] ?_ ?_ ?_
     .intro w0 hS0
      obtain ⟨⟨o2,o3,o6⟩,hH⟩:=hS0
      exact Fd
     .exact Zag
     simp only [pt,sb,s0,s1]
     exact P_
    have afp:Hid (Ending.returned (b_ (cv x.Mg 1 now))=Ending.returned (b_ true)):=by show _=_; rw [hv]
    have HF:Hid (og now x.toaD=true):=by show (decide (2<=x.Md) && cv x.Mg 1 now)=true; rw [hv,d1]; rfl
    clear hs hv;by_cases hz:z < 0
    .have afO:decide (z < 0)=true:=decide_eq_true hz
     have HY:Hid (eN l8 (og now) q.pure.L8 (k+1) k):=HA.I.1.first hz HX.I.2 HF.I;refine aT (fun w'=>(w'.cell? ⟨w.heap.size,2,n_⟩=o_ (s_ (o_ ⟨gs,0,n_⟩) q.L8.length q.aW)/\w'.cell? ⟨X,3,n_⟩=o_ (i_ j_ x.Md)/\w'.cell? ⟨X,6,n_⟩=o_ (i_ j_ x.Mg))/\Hid (B_ W5.heap.size W5 w')) ZcS ⟨⟨m2,b3,b6⟩,(Kp _ _).drew⟩ ?_
     iterate 7 (refine PI ?_)
     refine cl (b_ true) 27 #[i_ j_ x.Mg,i_ j_ 1,i_ j_ now] ?_ ?_ ?_
     .intro w0 hS0
      obtain ⟨⟨o2,o3,o6⟩,hH⟩:=hS0
      exact Fd
     .exact Zag
     simp only [pt,sb,s0,s1]
     iterate 5 (refine PI ?_)
     iterate 9 (refine nl ?_; simp only [pt,sb,s0,s1])
     iterate 2 (refine PI ?_)
     exact Zah
    have afO:decide (z < 0)=false:=decide_eq_false hz;obtain ⟨n,y0,hzn,hn,hy0,hbe⟩:=HA.I.1.got hz;subst hzn;have Fm:Hid (eN l8 (og now) q.pure.L8 (k+1) (if l8 x.toaD y0 then (k:Int) else (n:Int))):=eN.next hn hy0 hbe HX.I.2 HF.I;obtain ⟨y,hy,rfl⟩: ∃ y,q.L8[n]? =o_ y/\y.toaD=y0:=by
     have h5:(q.L8.map (·.toaD))[n]? =o_ y0:=hy0;rw [Kk,Kw] at h5;exact h5
    have j0:(0:Int)<=(n:Int):=zo
    have j1:(n:Int) < (q.L8.length:Int):=zo
    obtain ⟨gs2,ha2,g8⟩:=cn HN.I.2.1.at.1 hy;rw [HG.I] at ha2;cases ha2;obtain ⟨-,-,-,-,-,-,y6,-⟩:=g8;clear hy hy0 hbe hz;by_cases hw:x.Mg < y.Mg
    .have af6:decide (x.Mg < y.Mg)=true:=decide_eq_true hw
     have HY:Hid (eN l8 (og now) q.pure.L8 (k+1) k):=by have h5:=Fm.I; rwa [show l8 x.toaD y.toaD=true from af6,if_pos rfl] at h5
     clear hw Fm;refine aT (fun w'=>(w'.cell? ⟨w.heap.size,2,n_⟩=o_ (s_ (o_ ⟨gs,0,n_⟩) q.L8.length q.aW)/\w'.cell? ⟨X,3,n_⟩=o_ (i_ j_ x.Md)/\w'.cell? ⟨X,6,n_⟩=o_ (i_ j_ x.Mg)/\w'.cell? ⟨gs,n * 12+6,n_⟩=o_ (i_ j_ y.Mg))/\Hid (B_ W5.heap.size W5 w')) ZcS ⟨⟨m2,b3,b6,y6⟩,(Kp _ _).drew⟩ ?_
     iterate 7 (refine PI ?_)
     refine cl (b_ true) 27 #[i_ j_ x.Mg,i_ j_ 1,i_ j_ now] ?_ ?_ ?_
     .intro w0 hS0
      obtain ⟨⟨o2,o3,o6,afI⟩,hH⟩:=hS0
      exact Fd
     .exact Zag
     simp only [pt,sb,s0,s1]
     iterate 16 (refine PI ?_)
     exact Zah
    .have af6:decide (x.Mg < y.Mg)=false:=decide_eq_false hw
     have HY:Hid (eN l8 (og now) q.pure.L8 (k+1) n):=by have h5:=Fm.I; rwa [show l8 x.toaD y.toaD=false from af6,if_neg Bool.false_ne_true] at h5
     clear hw Fm;refine aT (fun w'=>(w'.cell? ⟨w.heap.size,2,n_⟩=o_ (s_ (o_ ⟨gs,0,n_⟩) q.L8.length q.aW)/\w'.cell? ⟨X,3,n_⟩=o_ (i_ j_ x.Md)/\w'.cell? ⟨X,6,n_⟩=o_ (i_ j_ x.Mg)/\w'.cell? ⟨gs,n * 12+6,n_⟩=o_ (i_ j_ y.Mg))/\Hid (B_ W5.heap.size W5 w')) ZcS ⟨⟨m2,b3,b6,y6⟩,(Kp _ _).drew⟩ ?_
     iterate 7 (refine PI ?_)
     refine cl (b_ true) 27 #[i_ j_ x.Mg,i_ j_ 1,i_ j_ now] ?_ ?_ ?_
     .intro w0 hS0
      obtain ⟨⟨o2,o3,o6,afI⟩,hH⟩:=hS0
      exact Fd
     .exact Zag
     simp only [pt,sb,s0,s1]
     iterate 16 (refine PI ?_)
     refine bk ZcS ?_ _;intro w1 cm;have HV:Hid (B_ W1.heap.size W1 w1):=HN.I.2.2.2.trans (cm.2.I.mono HN.I.2.2.2.size);clear cm;go_wp2;go_roundw
     case rel=>exact ⟨k+1,n,zo,by go_num,rfl,⟨HY.I,HV.I⟩⟩
     case measure=>simp [Go.RowKit.intOf]; omega
   .have i1: ¬ (k:Int) < (q.L8.length:Int):=zo
    have HE:Hid (eN l8 (og now) q.pure.L8 q.L8.length z):=by have h5:=HA.I.1; rwa [show k=q.L8.length by omega] at h5
    have hfl:q.pure.L8.take q.L8.length=q.pure.L8:=by rw [List.take_of_length_le]; simp [af.pure]
    have Ih:Hid (wr.heap[w.heap.size+1]? =o_ (c_ ar 31)/\B_ base w wr):=⟨(HA.I.2.block _ (J2.1 HO.I.mK).1).trans HO.I.mK,HO.I.cd.trans (HA.I.2.mono (by have:=HO.I.cd.size; have:=HB.I.2; omega))⟩
    by_cases hz:z < 0
    .have HD:Hid (lZ now q.pure.L8=n_):=by have h5:=HE.I.none' hz; rwa [hfl] at h5
     have afO:decide (z < 0)=true:=decide_eq_true hz;clear hfl hz;go_wp2_with (refine ec 4 48 q.row Ih.I.1 ?_);refine gZ results43 Ih.I.1 ?_;exact ⟨q,rfl,by rw [<- HO.I.same]; exact (Co HD.I).symm,HW.I.2.same fun g hg=>KH _ _ _ _ (by have:=HO.I.low g hg; omega),q_ Ih.I.2 (by have:=HB.I.2; omega) _⟩
    have afO:decide (z < 0)=false:=decide_eq_false hz;obtain ⟨n,y0,hzn,hn,hy0,hbe⟩:=HE.I.got hz;subst hzn;rw [hfl] at hbe;obtain ⟨y,hy,rfl⟩: ∃ y,q.L8[n]? =o_ y/\y.toaD=y0:=by
     have h5:(q.L8.map (·.toaD))[n]? =o_ y0:=hy0;rw [Kk,Kw] at h5;exact h5
    have HD:Hid (lZ now q.pure.L8=o_ y.toaD/\q.L8[n]? =o_ y/\q.pure.L8[n]? =o_ y.toaD):=⟨hbe,hy,hy0⟩
    have j0:(0:Int)<=(n:Int):=zo
    have j1:(n:Int) < (q.L8.length:Int):=zo
    obtain ⟨gs,ha,hat⟩:=cn HW.I.2.at.1 hy;have HG:Hid (q.aN=o_ ⟨gs,0,n_⟩):=ha;have d3:=hat.2.2.2.1;rw [ha] at m2;have hdu:=(af9.mem hbe)
    have hst:2<=y.Md:=by have h5:=hdu.2; unfold og at h5; simp only [J7,decide_eq_true_eq] at h5; exact h5.1
    have hop:=HO.I.wk.op y.toaD hdu.1 hst;have hro:=HO.I.wk.room;have hle:=HO.I.short y (KA hy);have Mb:=fun code=>vT q n base y code wr HW.I.2 (by have:=HO.I.cd.size; have:=HA.I.2.size; have:=HB.I.2; omega) hy hop hle (by have h5:q.pure.next=q.next:=rfl; omega)
    clear hfl hz hbe hy hy0 hat ha hdu hst hop hro hle hn;unfold af.cells at Mb;simp only [HG.I] at Mb;cases e2:(y.Md == 2)
    .skip
     replace Mb:=Mb 2;have HCO:Hid (mL y.toaD=2):=by show mL y.toaD=_; unfold mL; rw [if_neg (by simpa using e2)]
     exact h_
    .skip
     replace Mb:=Mb 0;have HCO:Hid (mL y.toaD=0):=by show mL y.toaD=_; unfold mL; rw [if_pos (by simpa using e2)]
     exact h_
def cJ.SA {w w':w_} {base o g:Nat} {S:aZ} {f:ao->ao} {nx:Int} (h:cJ w base o S) (hf: ∀ x,(f x).id=x.id/\(f x).prog=x.prog/\(f x).aY=x.aY/\(f x).bH=x.bH)
  (hc: ∀ p∈S.lp,p.2=g->w'.heap[g]? =o_ (c_ (aX (f p.1)) 41)) (hg:g∈S.lp.map (·.2)) (ho:fa w' o { S.q with next:=nx }) (hs: ∀ b∈S.boxes ++ S.kids,b≠g->b≠o->w'.heap[b]? =w.heap[b]?):cJ w' base o (S.ju g f nx):=by
 have iH: ∀ x,aR.bt (f x)=aR.bt x:=fun x=>by show (f x).aY.map (·.block)=x.aY.map (·.block); rw [(hf x).2.2.1]
 have hn:=h.nodup;have hno:=(Lp.1 hn).1;have yD:=(Kf.1 (Lp.1 hn).2)
 have jQ:=yD.1;unfold aZ.boxes at jQ;have hin: ∀ b,b∈S.boxes\/b∈S.kids->b≠o:=fun b hb e=>hno (by rw [<- e]; exact Kg.2 hb)
 have hp:=Kf.1 jQ;have l9:g∈S.q.bp :: S.lp.map (·.2):=LB _ hg;have hgr: ∀ b,b∈((S.q.bs :: S.ls.map (·.2)) ++ ((S.q.be :: S.le.map (·.2)) ++ ((S.q.bb :: S.lb.map (·.2)) ++ ((S.q.bf :: S.lf.map (·.2)) ++ (S.q.bq :: S.lq.map (·.2))))))->b≠g:=fun b hb e=>hp.2.2 g l9 b hb e.symm
 have EI: ∀ b∈S.kids,b≠g:=fun b hb e=>yD.2.2 g (by unfold aZ.boxes; exact Lz _ l9) b hb e.symm
 have hbp:S.q.bp≠g:=fun e=>by
  have:=(Lp.1 hp.1).1
  rw [e] at this;exact this hg
 have lW: ∀ b,b∈(S.q.bp :: S.lp.map (·.2))->b≠o:=fun b hb=>hin b (.inl (by unfold aZ.boxes; exact Lz _ hb))
 have hbr: ∀ b,b∈((S.q.bs :: S.ls.map (·.2)) ++ ((S.q.be :: S.le.map (·.2)) ++ ((S.q.bb :: S.lb.map (·.2)) ++ ((S.q.bf :: S.lf.map (·.2)) ++ (S.q.bq :: S.lq.map (·.2))))))->w'.heap[b]? =w.heap[b]? :=fun b hb=>hs b (Lz _ ZdJ) (hgr b hb) (hin b (.inl ZdJ))
 have hkk: ∀ b∈S.kids,w'.heap[b]? =w.heap[b]? :=fun b hb=>hs b (Ly _ hb) (EI b hb) (hin b (.inr hb))
 have hmem: ∀ (b:Nat),(b∈kids aR S.lp\/b∈kids aC S.lf\/b∈kids aU S.lq)->b∈S.kids:=fun b hb=>by simp only [aZ.kids,Kg]; exact hb
 refine ⟨ho,h.L8.sU (fun p _ _=>(hf p.1).1) hc (hs _ (Lz _ (by unfold aZ.boxes; exact Lz _ zw)) hbp (lW _ zw)) (fun b hb hne=>hs b (Lz _ (by unfold aZ.boxes; exact Lz _ (LB _ hb))) hne (lW b (LB _ hb))),h.aj.same fun b hb=>hbr b (Lz _ hb),h.L9.same fun b hb=>hbr b (Ly _ (Lz _ hb)),h.ag.same fun b hb=>hbr b (Ly _ (Ly _ (Lz _ hb))),h.ae.same fun b hb=>hbr b (Ly _ (Ly _ (Ly _ (Lz _ hb)))),h.ai.same fun b hb=>hbr b (Ly _ (Ly _ (Ly _ (Ly _ hb)))),fun p hp'=> ?_,fun p hp'=>(h.eE p hp').same fun b hb=>hkk b (hmem b (.inr (.inl (Lq.2 ⟨p,hp',hb⟩)))),fun p hp'=>(h.eR p hp').same fun b hb=>hkk b (hmem b (.inr (.inr (Lq.2 ⟨p,hp',hb⟩)))),?_,h.low⟩
 .exact TZ
 .exact ZaV
def aZ.Sb {S:aZ} {g:Nat} {x:ao} {f:ao->ao} {f':aD->aD} {nx:Int} (Sw:S.pure.L8.Pairwise (fun x y=>x.id < y.id)) (hn: ∀ p∈S.lp,p.2=g->p=(x,g)) (hx:(x,g)∈S.lp) (hf: ∀ y,(f y).toaD=f' y.toaD):
  (S.ju g f nx).pure= { S.pure with next:=nx,L8:=ce x.id f' S.pure.L8 } :=by
 have key:(sU g f S.lp).map (·.1.toaD)=ce x.id f' (S.lp.map (·.1.toaD)):=by
  unfold sU ce;rw [Lv,Lv];refine Lw fun p hp=> ?_
  simp only [Ls];by_cases hg:p.2=g
  .have hpx:=hn p hp hg
   subst hpx;rw [if_pos rfl,if_pos rfl];exact hf x
  .rw [if_neg hg]
   have hne: ¬ p.1.toaD.id=x.id:=fun e=>by
    have h5:S.pure.L8.Pairwise (fun a b=>a.id < b.id):=Sw;have h6:(S.lp.map (·.1.toaD)).Pairwise (fun a b=>a.id < b.id):=h5;rw [List.pairwise_map] at h6;obtain ⟨i,hi⟩:=List.mem_iff_getElem?.1 hp;obtain ⟨j,hj⟩:=List.mem_iff_getElem?.1 hx;obtain ⟨hi1,rfl⟩:=Lj.1 hi;obtain ⟨DS,hj2⟩:=Lj.1 hj;rw [P8] at h6;have OG:(S.lp[j]).1.id=x.id:=by rw [hj2]
    rcases P9 i j with hlt | heq | hgt
    .have h7:(S.lp[i]).1.id < (S.lp[j]).1.id:=h6 i j hi1 DS hlt
     have h8:(S.lp[i]).1.id=x.id:=e;omega
    .subst heq; exact hg (by rw [hj2])
    .have h7:(S.lp[j]).1.id < (S.lp[i]).1.id:=h6 j i DS hi1 hgt
     have h8:(S.lp[i]).1.id=x.id:=e;omega
   rw [if_neg hne]
 show ({ S.pure with next:=nx,L8:=(sU g f S.lp).map (·.1.toaD) } :aE)=_
 rw [key];rfl
def aI.row {w:w_} {g:Nat} {cs:Array v_} :aI w (w.drew.setRow g cs) [g] :=by
 have h:=q_ (g:=g) (Kp 0 w).drew (Ky _) cs;exact ⟨h.os,h.tape,h.output,h.size,fun b _ hn=>KH _ _ _ _ (by simpa using hn)⟩
def Sj (g:Nat) (x:ao) (code:Int) (w:w_) (h:w.heap[g]? =o_ (c_ (aX x) 41)) (hpc:0<=x.pc/\x.pc < x.prog.length) (hl:x.prog.length<=1048576):
  k_ J3 103 #[p_ (o_ ⟨g,0,n_⟩),i_ j_ code] w fun e w'=>e=r_ (u_ #[])/\w'.heap[g]? =o_ (c_ (aX (fE code x)) 41)/\aI w w' [g] :=by
 have h1:(w.setCell ⟨g,10,n_⟩ (i_ j_ code)).heap[g]? =o_ (c_ (aX ({ x with code:=code } :ao)) 41):=cx (i:=10) (v:=i_ j_ code) h;have h2:((w.setCell ⟨g,10,n_⟩ (i_ j_ code)).setCell ⟨g,4,n_⟩ (i_ j_ (x.pc+1))).heap[g]? =o_ (c_ (aX ({ x with code:=code,pc:=x.pc+1 } :ao)) 41):=cx (i:=4) (v:=i_ j_ (x.pc+1)) h1;have qF:w.cell? ⟨g,10,n_⟩=o_ (i_ j_ x.code):=(bo h).2.2.2.2.2.2.2.2.2.2.1;have f10:w.frozen? ⟨g,10,n_⟩=false:=Ko _ _ _ _ _ h;have c4:(w.setCell ⟨g,10,n_⟩ (i_ j_ code)).cell? ⟨g,4,n_⟩=o_ (i_ j_ x.pc):=(bo h1).2.2.2.2.1;have f4:(w.setCell ⟨g,10,n_⟩ (i_ j_ code)).frozen? ⟨g,4,n_⟩=false:=Ko _ _ _ _ _ h1;obtain ⟨r0,r1,r2,r3,r4,r5,r6,r7,r8,r9,Ju,Jq⟩:=bo h2;have H2:Hid (((w.setCell ⟨g,10,n_⟩ (i_ j_ code)).setCell ⟨g,4,n_⟩ (i_ j_ (x.pc+1))).heap[g]? =o_ (c_ (aX ({ x with code:=code,pc:=x.pc+1 } :ao)) 41)/\aI w ((w.setCell ⟨g,10,n_⟩ (i_ j_ code)).setCell ⟨g,4,n_⟩ (i_ j_ (x.pc+1))) [g]):=⟨h2,aI.cell.trans aI.cell⟩
 have Mb:=kn ({ x with code:=code,pc:=x.pc+1 } :ao) ((w.setCell ⟨g,10,n_⟩ (i_ j_ code)).setCell ⟨g,4,n_⟩ (i_ j_ (x.pc+1))) hl;obtain ⟨n0,n1⟩:=hpc;have n2:x.pc<=1048576:=zo
 have hv:dU ({ x with code:=code,pc:=x.pc+1 } :ao).toaD=decide (¬ x.pc+1=x.prog.length):=by
  show cv (x.pc+1) 0 ((x.prog.length:Int) - 1)=_
  by_cases e:x.pc+1=x.prog.length
  .rw [decide_eq_false (by simpa using e)]
   cases h5:cv (x.pc+1) 0 ((x.prog.length:Int) - 1) with
   | false=>rfl
   | true=>have:=bz.1 h5; omega
  .rw [decide_eq_true e]
   exact bz.2 zo
 rw [hv] at Mb;simp only [aX] at Mb;clear hv h h1 h2 hl n1
 go_enter func103,ntmps103
 go_wp2_with fail;clear qF f10 c4 f4 r0 r1 r2 r3 r4 r5 r6 r7 r8 r9 Ju Jq;refine Mb.mono ?_;clear Mb;rintro e w3 ⟨rfl,hb3⟩;have H3:Hid (w3.heap[g]? =o_ (c_ (aX ({ x with code:=code,pc:=x.pc+1 } :ao)) 41)/\aI w w3 [g]):=⟨(hb3.block _ (J2.1 H2.I.1).1).trans H2.I.1,H2.I.2.trans (aI.dI hb3)⟩
 clear hb3 H2;by_cases hlen:x.pc+1=x.prog.length
 .have afx:Hid (fE code x=(⟨j7 (jM code x.toaD),x.aY,x.bH⟩:ao)):=by show fE code x=_; unfold fE jT; rw [if_pos hlen]
  have e1:decide (¬ x.pc+1=x.prog.length)=false:=decide_eq_false (by simpa using hlen);rw [e1];clear hlen e1;go_wp2_with fail;refine (NI g ({ x with code:=code,pc:=x.pc+1 } :ao) w3 H3.I.1).mono ?_;rintro e w4 ⟨rfl,rfl⟩;go_wp2;refine bodyPost_ret (results_none results103 _ _ _) rfl ?_;rw [afx.I];exact ⟨rfl,KU _ _ _ _ _ _ H3.I.1,H3.I.2.trans aI.row⟩
 have afx:Hid (fE code x=(⟨jM code x.toaD,x.aY,x.bH⟩:ao)):=by show fE code x=_; unfold fE jT; rw [if_neg hlen]
 have e1:decide (¬ x.pc+1=x.prog.length)=true:=decide_eq_true hlen;rw [e1];clear hlen e1;have c3:=(bo H3.I.1).2.2.2.1;have f3:w3.frozen? ⟨g,3,n_⟩=false:=Ko _ _ _ _ _ H3.I.1;have k3:(w3.setCell ⟨g,3,n_⟩ (i_ j_ 1)).heap[g]? =o_ (c_ (aX ({ x with code:=code,pc:=x.pc+1,Md:=1 } :ao)) 41):=cx (i:=3) (v:=i_ j_ 1) H3.I.1;have c5:=(bo k3).2.2.2.2.2.1;have f5:(w3.setCell ⟨g,3,n_⟩ (i_ j_ 1)).frozen? ⟨g,5,n_⟩=false:=Ko _ _ _ _ _ k3;have k5:((w3.setCell ⟨g,3,n_⟩ (i_ j_ 1)).setCell ⟨g,5,n_⟩ (i_ j_ 0)).heap[g]? =o_ (c_ (aX ({ x with code:=code,pc:=x.pc+1,Md:=1,left:=0 } :ao)) 41):=cx (i:=5) (v:=i_ j_ 0) k3;have c6:=(bo k5).2.2.2.2.2.2.1;have f6:((w3.setCell ⟨g,3,n_⟩ (i_ j_ 1)).setCell ⟨g,5,n_⟩ (i_ j_ 0)).frozen? ⟨g,6,n_⟩=false:=Ko _ _ _ _ _ k5;have k6:(((w3.setCell ⟨g,3,n_⟩ (i_ j_ 1)).setCell ⟨g,5,n_⟩ (i_ j_ 0)).setCell ⟨g,6,n_⟩ (i_ j_ 0)).heap[g]? =o_ (c_ (aX ({ x with code:=code,pc:=x.pc+1,Md:=1,left:=0,Mg:=0 } :ao)) 41):=cx (i:=6) (v:=i_ j_ 0) k5;have c7:=(bo k6).2.2.2.2.2.2.2.1;have f7:(((w3.setCell ⟨g,3,n_⟩ (i_ j_ 1)).setCell ⟨g,5,n_⟩ (i_ j_ 0)).setCell ⟨g,6,n_⟩ (i_ j_ 0)).frozen? ⟨g,7,n_⟩=false:=Ko _ _ _ _ _ k6;have k7:((((w3.setCell ⟨g,3,n_⟩ (i_ j_ 1)).setCell ⟨g,5,n_⟩ (i_ j_ 0)).setCell ⟨g,6,n_⟩ (i_ j_ 0)).setCell ⟨g,7,n_⟩ (i_ j_ 0)).heap[g]? =o_ (c_ (aX ({ x with code:=code,pc:=x.pc+1,Md:=1,left:=0,Mg:=0,on:=0 } :ao)) 41):=cx (i:=7) (v:=i_ j_ 0) k6;have c8:=(bo k7).2.2.2.2.2.2.2.2.1;have f8:((((w3.setCell ⟨g,3,n_⟩ (i_ j_ 1)).setCell ⟨g,5,n_⟩ (i_ j_ 0)).setCell ⟨g,6,n_⟩ (i_ j_ 0)).setCell ⟨g,7,n_⟩ (i_ j_ 0)).frozen? ⟨g,8,n_⟩=false:=Ko _ _ _ _ _ k7;have k8:(((((w3.setCell ⟨g,3,n_⟩ (i_ j_ 1)).setCell ⟨g,5,n_⟩ (i_ j_ 0)).setCell ⟨g,6,n_⟩ (i_ j_ 0)).setCell ⟨g,7,n_⟩ (i_ j_ 0)).setCell ⟨g,8,n_⟩ (t_ ⟨#[]⟩)).heap[g]? =o_ (c_ (aX ({ x with code:=code,pc:=x.pc+1,Md:=1,left:=0,Mg:=0,on:=0,held:=rM } :ao)) 41):=cx (i:=8) (v:=t_ ⟨#[]⟩) k7;have HF:Hid ((((((w3.setCell ⟨g,3,n_⟩ (i_ j_ 1)).setCell ⟨g,5,n_⟩ (i_ j_ 0)).setCell ⟨g,6,n_⟩ (i_ j_ 0)).setCell ⟨g,7,n_⟩ (i_ j_ 0)).setCell ⟨g,8,n_⟩ (t_ ⟨#[]⟩)).heap[g]? =o_ (c_ (aX (⟨jM code x.toaD,x.aY,x.bH⟩:ao)) 41)/\aI w (((((w3.setCell ⟨g,3,n_⟩ (i_ j_ 1)).setCell ⟨g,5,n_⟩ (i_ j_ 0)).setCell ⟨g,6,n_⟩ (i_ j_ 0)).setCell ⟨g,7,n_⟩ (i_ j_ 0)).setCell ⟨g,8,n_⟩ (t_ ⟨#[]⟩)) [g]):=⟨k8,(((((H3.I.2.trans aI.cell).trans aI.cell).trans aI.cell).trans aI.cell).trans aI.cell)⟩
 clear k3 k5 k6 k7 k8;go_wp2
 go_end0
 rw [afx.I];exact ⟨rfl,HF.I.1,HF.I.2⟩
def ahO (o g base:Nat) (S:aZ) (x:ao) (code:Int) (w:w_) (h:cJ w base o S) (lY:base<=w.heap.size) (hx:(x,g)∈S.lp) (n0:0<=S.q.next) (n1:S.q.next<=1000000000) (hpc:0<=x.pc/\x.pc < x.prog.length) (hl:x.prog.length<=1048576):
  k_ J3 62 #[p_ (o_ ⟨o,0,n_⟩),p_ (o_ ⟨g,0,n_⟩),i_ j_ code] w fun e w'=>e=r_ (u_ #[])/\cJ w' base o (S.ju g (pF S.q.next code) (gf S.q.next x.toaD))/\aI w w' [g,o] :=by
 have hgb:w.heap[g]? =o_ (c_ (aX x) 41):=h.L8.box (x,g) hx;have bR:g∈S.lp.map (·.2):=Lr.2 ⟨(x,g),hx,rfl⟩;have hno: ¬ o=g:=fun e=>by
  exact ZbG
 have hgl:base<=g:=h.L8.low g (LB _ bR);have HC:Hid (cJ w base o S/\(x,g)∈S.lp/\g∈S.lp.map (·.2)/\base<=g/\base<=w.heap.size/\ ¬ o=g/\o < w.heap.size):=⟨h,hx,bR,hgl,lY,hno,(J2.1 h.opn).1⟩
 have Mb:=Sj g x code w hgb hpc hl;clear hgb bR hgl h hx lY hpc hl
 go_enter func62,ntmps62
 go_wp2_with fail;refine Mb.mono ?_;clear Mb;rintro e w1 ⟨rfl,CT,hk1⟩;have H1:Hid (w1.heap[g]? =o_ (c_ (aX (fE code x)) 41)/\aI w w1 [g] /\fa w1 o S.q):=⟨CT,hk1,(hk1.same o HC.I.2.2.2.2.2.2 (by simpa using HC.I.2.2.2.2.2.1)).trans HC.I.1.opn⟩
 have s3:=(bo CT).2.2.2.1;clear CT hk1;by_cases hlen:x.pc+1=x.prog.length
 .have e1:((fE code x).Md == 1)=false:=by show ((jT code x.toaD).Md == 1)=false; unfold jT; rw [if_pos hlen]; rfl
  have HE:Hid (gf S.q.next x.toaD=S.q.next/\pF S.q.next code x=fE code x):=by show _/\_; unfold gf pF fE iY jT; rw [if_pos hlen,if_pos hlen,if_pos hlen]; exact ⟨rfl,rfl⟩
  clear hlen;go_wp2
  go_end0
  have hlt: ∀ b∈S.boxes ++ S.kids,b < w.heap.size:=fun b hb=>HC.I.1.lt b (LB _ hb)
  exact ⟨rfl,HC.I.1.SA (fun y=>⟨(rD _ _ _).1,(rD _ _ _).2,rfl,rfl⟩) (fun p hp hpg=>by have e:=HC.I.1.L8.one hp HC.I.2.1 hpg; subst e; rw [HE.I.2]; exact H1.I.1) HC.I.2.2.1 (by rw [HE.I.1]; exact H1.I.2.2) (fun b hb h5 h6=>H1.I.2.1.same b (hlt b hb) (by simpa using h5)),H1.I.2.1.mono zw⟩
 have e1:((fE code x).Md == 1)=true:=by show ((jT code x.toaD).Md == 1)=true; unfold jT; rw [if_neg hlen]; rfl
 have HE:Hid (gf S.q.next x.toaD=S.q.next+1/\pF S.q.next code x= { fE code x with RU:=S.q.next }):=by show _/\_; unfold gf pF fE iY jT; rw [if_neg hlen,if_neg hlen,if_neg hlen]; exact ⟨rfl,rfl⟩
 clear hlen;have Mb:=wE o g S.q.next w1 (H1.I.2.2.cell 1) (Ko _ _ _ _ _ H1.I.2.2) ⟨_,(bo H1.I.1).2.2.2.2.2.2.2.2.2.2.2⟩ (Ko _ _ _ _ _ H1.I.1) hno n0 n1;go_wp2_with fail;refine Mb.mono ?_;clear Mb s3 e1;rintro e w2 ⟨rfl,rfl⟩;have HF:Hid (cJ ((w1.setCell ⟨g,11,n_⟩ (i_ j_ S.q.next)).setCell ⟨o,1,n_⟩ (i_ j_ (S.q.next+1))) base o (S.ju g (pF S.q.next code) (gf S.q.next x.toaD))/\aI w ((w1.setCell ⟨g,11,n_⟩ (i_ j_ S.q.next)).setCell ⟨o,1,n_⟩ (i_ j_ (S.q.next+1))) [g,o]):=by
  have hlt: ∀ b∈S.boxes ++ S.kids,b < w.heap.size:=fun b hb=>HC.I.1.lt b (LB _ hb)
  have hg3:((w1.setCell ⟨g,11,n_⟩ (i_ j_ S.q.next)).setCell ⟨o,1,n_⟩ (i_ j_ (S.q.next+1))).heap[g]? =o_ (c_ (aX ({ fE code x with RU:=S.q.next } :ao)) 41):=(aH (fun e=>HC.I.2.2.2.2.2.1 e.symm:g≠o)).trans (cx (i:=11) (v:=i_ j_ S.q.next) H1.I.1);have Bn:fa ((w1.setCell ⟨g,11,n_⟩ (i_ j_ S.q.next)).setCell ⟨o,1,n_⟩ (i_ j_ (S.q.next+1))) o { S.q with next:=S.q.next+1 } :=by
   have h5:(w1.setCell ⟨g,11,n_⟩ (i_ j_ S.q.next)).heap[o]? =_:=(aH HC.I.2.2.2.2.2.1).trans H1.I.2.2;exact cx (i:=1) (v:=i_ j_ (S.q.next+1)) h5
  exact ⟨HC.I.1.SA (fun y=>⟨(rD _ _ _).1,(rD _ _ _).2,rfl,rfl⟩) (fun p hp hpg=>by have e:=HC.I.1.L8.one hp HC.I.2.1 hpg; subst e; rw [HE.I.2]; exact hg3) HC.I.2.2.1 (by rw [HE.I.1]; exact Bn) (fun b hb h5 h6=>(aH h6).trans ((aH h5).trans (H1.I.2.1.same b (hlt b hb) (by simpa using h5)))),((H1.I.2.1.trans aI.cell).mono zw).trans (aI.cell.mono zw)⟩
 go_wp2
 go_end0
 exact ⟨rfl,HF.I.1,HF.I.2⟩
end
section
variable {now n k:Int} {p q a:aE}
def alT (h:hZ p now=o_ q):aQ p/\(0<=now/\now<=1000000000)/\p.next<=999999980/\q=mS now p/\kk p now=o_ (gj now p):=by
 have h0:=h;unfold hZ at h
 split at h
 case isFalse=>cases h
 rename_i hc;simp only [J7,decide_eq_true_eq] at hc;refine ⟨(ch p).1 hc.1.1,bz.1 hc.1.2,hc.2,(KC h).symm,?_⟩;unfold kk;rw [hc.1.1,hc.1.2,decide_eq_true hc.2];rfl
def amr (hp:aQ p):jl 1 0 p.L8=jo (p.L8.filter fun x=>decide (x.Md=1)):=by
 unfold jl
 congr 1
 refine List.filter_congr fun x hx=> ?_
 unfold ie;by_cases h1:x.Md=1
 .have h2:=(hp.proc hx).2.1
  rw [fG,J7] at h2;have h3:=h2.2;unfold bO at h3;rw [if_neg zo,if_pos h1] at h3;simp only [J7,decide_eq_true_eq] at h3;simp [h1,h3.1.2]
 .simp [h1]
end
section
open Go.RowKit
section
variable {w W w':w_} {M base n m gs:Nat} {q0 z q q2:af} {x y:ao}
def tN (ha:q.aN=o_ ⟨gs,0,n_⟩):gs∈q.Mc:=by unfold af.Mc; rw [ha]; simp [blk]
def yr.of (ho:ap w' base q2) (hk:aI w w' (blk q.aN)) (hb:q2.Mc=q.Mc):yr w base q q2 w':=
 ⟨ho,hk.mono fun g hg=>by unfold af.Mc; exact Lz _ hg,fun g hg=> .inl (hb ▸ hg)⟩
def yr.refl (h:ap w base q):yr w base q q w:=⟨h,aI.refl _ _,fun _ hg=> .inl hg⟩
def nT {nx:Int} (hx:q.L8[n]? =o_ x) (hy:y.aY=x.aY):({ q with next:=nx,L8:=q.L8.set n y } :af).Mc=q.Mc:=by
 unfold af.Mc;simp only [re hx hy]
def jd {nx:Int} :({ q with next:=nx,L8:=q.L8.set n y } :af).cells=({ q with next:=nx } :af).cells:=by unfold af.cells; simp
def mj (hx:q.L8[n]? =o_ x):q.pure.L8[n]? =o_ x.toaD:=by show (q.L8.map (·.toaD))[n]? =_; rw [Kk,hx]; rfl
def iu (hx:q.L8[n]? =o_ x):x.toaD∈q.pure.L8:=KA (mj hx)
def g7 {nx:Int} {f:aD->aD} (hr:q.pure.L8.Pairwise (fun x y=>x.id < y.id)) (hx:q.L8[n]? =o_ x) (hy:y.toaD=f x.toaD):({ q with next:=nx,L8:=q.L8.set n y } :af).pure= { q.pure with next:=nx,L8:=ce x.id f q.pure.L8 } :=by
 rw [rp hr (mj hx) rfl,<- hy]
 show ({ q.pure with next:=nx,L8:=(q.L8.set n y).map (·.toaD) } :aE)=_
 rw [PN];rfl
def bB (code:Int) (h:ap w base q) (hb:base<=w.heap.size) (hr:aQ q.pure) (hx:q.L8[n]? =o_ x) (h0: ¬ x.Md=0):k_ J3 87 #[a_ q.cells,i_ j_ n,i_ j_ code] w (jH w base q (bu code x.id q.pure)):=by
 have h1:=(hr.proc (iu hx)).2.1;have h2:=iT h1 h0;have h3:=iF h1;unfold jY at h3;simp only [J7] at h3;have h4:=(lK h3.1.1.1.2).2;refine (ve q n base x code w h hb hx h2 zo).mono ?_;rintro e w' ⟨rfl,ho,-,hk⟩;exact ⟨({ q with L8:=q.L8.set n (fE code x) } :af),congrArg (fun c=>Ending.returned (a_ c)) (jd (nx:=q.next)).symm,g7 hr.kW hx (f:=jT code) rfl,yr.of ho hk (nT hx rfl)⟩
def lP (h:ap w base q) (hb:base<=w.heap.size) (hr:aQ q.pure) (hx:q.L8[n]? =o_ x) (h0: ¬ x.Md=0) (hn:q.next<=1000000000):k_ J3 86 #[a_ q.cells,i_ j_ n,i_ j_ 0] w (jH w base q (gF (fun y=>y) q.pure x.toaD)):=by
 have h1:=(hr.proc (iu hx)).2.1;have h2:=iT h1 h0;have h3:=iF h1;unfold jY at h3;simp only [J7] at h3;have h4:=(lK h3.1.1.1.2).2;have h5:=bz.1 hr.next;refine (vT q n base x 0 w h hb hx h2 zo ⟨by have:q.pure.next=q.next:=rfl; omega,hn⟩).mono ?_;rintro e w' ⟨q2,rfl,rfl,ho,-,hk⟩;exact ⟨_,rfl,g7 hr.kW hx (f:=iY q.next 0) rfl,yr.of ho hk (nT hx rfl)⟩
def oT (h:ap w base q) (hb:base<=w.heap.size) (hr:q.pure.L8.Pairwise (fun x y=>x.id < y.id)) (hx:q.L8[n]? =o_ x) (hn:0<=q.next/\q.next<=1000000000):k_ J3 118 #[a_ q.cells,i_ j_ n] w (jH w base q { q.pure with next:=q.next+1,L8:=ce x.id (fun y=> { y with RU:=q.next }) q.pure.L8 }):=by
 refine (qG q n base x w h hb hx hn).mono ?_;rintro e w' ⟨q2,rfl,rfl,ho,-,hk⟩;exact ⟨_,rfl,g7 hr hx (f:=fun y=> { y with RU:=q.next }) rfl,yr.of ho hk (nT hx rfl)⟩
def Fr.kB {j:Nat} {v:v_} (h:Fr w M base q0 z q W) (hx:q.L8[n]? =o_ x) (ha:q.aN=o_ ⟨gs,0,n_⟩) (hy:y.prog=x.prog/\y.aY=x.aY/\y.bH=x.bH) (hj:j < 12)
  (hv:bg.vals y=(bg.vals x).set j v):
  Fr w M base q0 z ({ q with L8:=q.L8.set n y } :af) (W.setCell ⟨gs,n * 12+j,n_⟩ v)/\(∀ X,w.heap.size<=X->X < M->(W.setCell ⟨gs,n * 12+j,n_⟩ v).heap[X]? =W.heap[X]?)/\(∃ u,W.cell? ⟨gs,n * 12+j,n_⟩=o_ u)/\W.frozen? ⟨gs,n * 12+j,n_⟩=false:=by
 have h1:(bg.vals y)[j]? =o_ v:=by rw [hv,LU ZdF]
 have h2: ∀ r,r < 12->r≠j->(bg.vals y)[r]? =(bg.vals x)[r]? :=fun r _ hr=>by rw [hv,List.getElem?_set_ne zo]
 have h3:=h.own.kB (n:=n) (j:=j) (x:=x) (y:=y) (vs:= [v]) hx ha hy ZcT (fun r hr=>by simp at hr; subst hr; rw [Nat.add_zero,h1]; rfl) (fun r hr hn=>h2 r hr (by simp at hn; omega));have hg:gs∈q.Mc:=tN ha;have hs: ∀ X,w.heap.size<=X->X < M->(W.setCell ⟨gs,n * 12+j,n_⟩ v).heap[X]? =W.heap[X]? :=fun X a b=>aH fun e=>h.yO a b (e ▸ hg)
 have hc:(∃ u,W.cell? ⟨gs,n * 12+j,n_⟩=o_ u)/\W.frozen? ⟨gs,n * 12+j,n_⟩=false:=by
  obtain ⟨g,hg,hrow⟩:=bl.fX (K:=bg) h.own.L8 Zd1;exact Zbs
 exact ⟨⟨(hs _ (Ki _) h.sz.1).trans h.box,h3.1,⟨h.kept.os,h.kept.tape,h.kept.output,by simpa [World.setCell] using h.kept.size,fun g a b=>(aH fun e=>by
  rcases h.far gs hg with c | c
  .exact b (e ▸ c)
  .have:=h.sz; omega).trans (h.kept.same g a b)⟩,fun g hg=>h.far g (h3.2.2 ▸ hg),h.lo,h.sz.1,by simpa [World.setCell] using h.sz.2.1,h.sz.2.2⟩,hs,hc⟩
def pm {k:Int} {f g:aD->aD} (hf: ∀ y,(f y).id=y.id) (l:List aD):ce k g (ce k f l)=ce k (fun y=>g (f y)) l:=by
 unfold ce;rw [Lv];refine Lw fun z _=> ?_
 simp only [Ls];by_cases e:z.id=k
 .rw [if_pos e,if_pos e,if_pos (by rw [hf]; exact e)]
 .rw [if_neg e,if_neg e,if_neg e]
def us {nx:Int} (hr:q.pure.L8.Pairwise (fun x y=>x.id < y.id)) (hx:q.L8[n]? =o_ x) (hy:y.id=x.id):({ q with next:=nx,L8:=q.L8.set n y } :af).pure.L8.Pairwise (fun x y=>x.id < y.id):=by
 rw [g7 (f:=fun z=> { y.toaD with id:=z.id }) hr hx (by show y.toaD= { y.toaD with id:=x.id }; rw [<- hy])];refine rW (f:=fun z=> { y.toaD with id:=z.id }) ?_ hr;intro _; rfl
def Hi (hx:q.L8[n]? =o_ x):({ q with L8:=q.L8.set n x } :af)=q:=by
 have hn:=(Lj.1 hx).1;have e:q.L8.set n x=q.L8:=by
  rw [<- (Lj.1 hx).2]; simp
 rw [e]
def Fr.again {j:Nat} {v:v_} (h:Fr w M base q0 z { q with L8:=q.L8.set n x } W) (hn:n < q.L8.length) (ha:q.aN=o_ ⟨gs,0,n_⟩) (hy:y.prog=x.prog/\y.aY=x.aY/\y.bH=x.bH) (hj:j < 12) (hv:bg.vals y=(bg.vals x).set j v):
  Fr w M base q0 z ({ q with L8:=q.L8.set n y } :af) (W.setCell ⟨gs,n * 12+j,n_⟩ v)/\(∀ X,w.heap.size<=X->X < M->(W.setCell ⟨gs,n * 12+j,n_⟩ v).heap[X]? =W.heap[X]?)/\(∃ u,W.cell? ⟨gs,n * 12+j,n_⟩=o_ u)/\W.frozen? ⟨gs,n * 12+j,n_⟩=false:=by
 have h1:=h.kB (n:=n) (y:=y) (x:=x) (j:=j) (v:=v) (by show (q.L8.set n x)[n]? =_; rw [LU hn]) ha hy hj hv;simpa only [PV] using h1
end
end
section
open Go.RowKit Go.Maps
attribute [local go_sem ↓] Kc Kd
def uy (p:af) (w:w_):k_ J3 28 #[a_ p.cells] w fun e w'=>e=r_ (b_ (decide (p.next<=999999980)))/\B_ w.heap.size w w':=by
 have HB:Hid (av (w.alloc (c_ p.cells 31)) w.heap.size p/\B_ w.heap.size w (w.alloc (c_ p.cells 31))):=⟨Kj _ _,(Kp _ _).alloc (Ki _) _⟩
 unfold af.cells at *;obtain ⟨-,m1,-⟩:=HB.I.1.cells
 go_enter func28,ntmps28
 go_wp2;go_ret;exact ⟨rfl,HB.I.2⟩
def cJ.below {w w':w_} {base o:Nat} {S:aZ} (h:cJ w base o S) (hb:B_ w.heap.size w w'):cJ w' base o S:=
 ⟨(hb.block _ (J2.1 h.opn).1).trans h.opn,h.L8.below hb,h.aj.below hb,h.L9.below hb,h.ag.below hb,h.ae.below hb,h.ai.below hb,fun p hp=>Di (h.eI p hp) hb,fun p hp=>Di (h.eE p hp) hb,fun p hp=>Di (h.eR p hp) hb,h.nodup,h.low⟩
def St {S:aZ} (h:aQ S.pure) {p:ao × Nat} (hp:p∈S.lp):p.1.prog.length<=1048576:=by
 have h1:=(cK h.L8 p.1.toaD (Lr.2 ⟨p,hp,rfl⟩)).2;simp only [cH,J7] at h1;have h2:=h1.1.1.1.1.1.1.2;unfold jm nq at h2;simp only [decide_eq_true_eq] at h2;omega
end
end Go.Proofs.YtfncpmaefninjaaGreatDoor
