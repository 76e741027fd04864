/- What the proof leans on, part 3. -/
import Derived.Test.YtfncpmaefninjaaGreatDoorOwnS2
import Derived.Deep.AppendSrc
set_option linter.unusedVariables false
set_option maxRecDepth 100000
set_option maxHeartbeats 8000000
open Go.Proofs.Tryz
open Go renaming World->w_,Value->v_,Calls->k_,Addr->d_,TypeId->T_
open Go.Ending renaming returned->r_
open Go.IntKind renaming i64->j_
open Go.Obj renaming cells->c_
open Go.RowKit renaming Below->B_
open Go.Value renaming int->i_,slice->s_,bool->b_,string->t_,agg->a_,pointer->p_,tuple->u_
open Option renaming some->o_,none->n_
open Array renaming getElem?_eq_some_iff->J2
open Bool renaming and_eq_true->J7,false_eq_true->J5
open Function renaming comp_def->Ls
open Go renaming bodyPost_ret->KT,callsIn_wide->LO,heap_alloc_new->Kj,wpList_append_own_at->KD,wp_at_succ->Kd,wp_at_zero->Kc
open Go.DataW.lit renaming injEq->QZ
open Go.Proofs renaming enters_of->LP
open Go.Proofs.AnyZI renaming keys_gives->RD,keys_in->RC,sorted_in->RE
open Go.Proofs.Tryz renaming prog->J3
open Go.RowKit renaming run_makeMap->P4
open Go.RowKit.Below renaming heap_setCell->K6,refl->Kp
open Go.Value.slice renaming injEq->LD
open Go.World renaming news_of_block->KE,ownsRow_nil->Ke
open List renaming getElem?_eq_getElem->Kz,getElem?_eq_some_iff->Lj,length_map->KG,length_take->Lk,map_append->Kl,map_congr_left->Lw,map_cons->Lt,map_map->Lv,mem_cons->Kt,mem_cons_of_mem->LB,mem_map->Lr,mem_of_getElem?->KA,nodup_cons->Lp,take_length->LQ,take_of_length_le->KF
open Nat renaming le_refl->Ki,le_trans->LG,lt_of_lt_of_le->Kn,zero_add->Li,zero_le->Ky
open Option renaming getD_some->Ka,map_eq_some_iff->Kw,map_some->J9
open Option.some renaming inj->KC,injEq->LF
open Prod.mk renaming injEq->Kx

namespace Go.Proofs.YtfncpmaefninjaaGreatDoor
section
open Go.RowKit
theorem qZ (g j:Nat):(⟨g,0,n_⟩:d_).add j=⟨g,j,n_⟩:=by unfold Addr.add; split <;> simp_all
theorem sZ {P:Program} (w:w_) (t ty e:T_) (i:TypeInfo) (z:v_) (size bytes:Nat) (ht:P.underlying t=o_ (.slice e)) (hi:P.info? e=o_ i) (hz:i.zero=o_ z)
  (hsize:i.size=size) (hby:i.bytes=bytes) (hzs:z.cells.size=size) (hsz:0 < size) (a:Option d_) (n cap:Nat) (xs:List v_) (h:Row w a xs) (hl:xs.length=n * size) (h1: ∀ u∈xs,u.oneCell'=true)
  (h63:n≤1048576) (hb:bytes≤1000):
  ∃ a' cap' w',(Builtin.append_ #[t,t] ty #[s_ n_ 0 0,s_ a n cap]).run P w= .ok (s_ a' n cap') w'∧w'.ownsRow w.heap.size e size (s_ a' n cap') n xs∧w.grownBy w' n_:=by
 cases a with
 | none=>
  have hx:xs= [] :=by
   exact Zb4
  subst hx;have hn:n=0:=by
   cases n with
   | zero=>rfl
   | succ n=>simp only [List.length_nil,Nat.succ_mul] at hl; omega
  subst hn;refine ⟨n_,0,w,?_,Ke _ _ _ _,⟨rfl,rfl,rfl,Ki _,fun _ _ _=>rfl⟩⟩;simp [Builtin.append_,run_underlying ht,sizeOf,typeInfo,hi,Builtin.lenOf,Builtin.firstCells]
 | some ad=>
  have hnews: ∀ j u,xs[j]? =o_ u→w.cell? (ad.add j)=o_ u:=fun j u hu=>by
   obtain ⟨g,e',hc⟩:=h j u hu;cases e';rw [qZ];exact hc
  obtain ⟨v',w',hr,ho,hg,-,-⟩:=run_append_own_at (P:=P) w w.heap.size t ty e i z size bytes ht hi hz hsize hby hzs hsz (s_ n_ 0 0) 0 [] (Ke _ _ _ _) ad n cap xs hl hnews h1 ZcW (by rw [Li]; have:=Nat.mul_le_mul h63 hb; omega) (Ki _);simp only [Li,List.nil_append] at ho;obtain ⟨a',cap',rfl,-⟩:=cr ho;exact ⟨a',cap',w',hr,ho,hg⟩
end
section
open Go.RowKit
attribute [local go_sem ↓] Kc Kd
theorem BF {w w':w_} {o X:Nat} {q:ol} {x:ao} {ms me mb mf:df} (h:fu w w' o X q x ms me mb mf):(w'.cell? ⟨o,4,n_⟩=o_ (i_ j_ 5)∧w'.cell? ⟨o,5,n_⟩=o_ (.map (o_ q.bs))∧w'.cell? ⟨X,7,n_⟩=o_ (i_ j_ x.on))∧Hid (fu w w' o X q x ms me mb mf):=
 ⟨⟨h.opn.cell 4,h.opn.cell 5,(bo h.box).2.2.2.2.2.2.2.1⟩,h⟩
theorem ER (o X:Nat) (q:ol) (x:ao) (ms me mb mf:df) (w:w_) (h:fu w w o X q x ms me mb mf) (hw:(Lit.int j_ x.on).wf=true) (hs:x.Md=3):
  k_ J3 102 #[p_ (o_ ⟨o,0,n_⟩),p_ (o_ ⟨X,0,n_⟩)] w fun e w'=>e=r_ (b_ (fw ms me mb mf x))∧B_ w.heap.size w w':=by
 have H:Hid (fu w w o X q x ms me mb mf):=h;have HW:Hid ((Lit.int j_ x.on).wf=true):=hw;have HV:Hid (fw ms me mb mf x=(cz ms x.on).isSome):=by show fw ms me mb mf x=_; simp [fw,hs]
 have k3:w.cell? ⟨X,3,n_⟩=o_ (i_ j_ 3):=by rw [(bo h.box).2.2.2.1,hs]
 clear h hw hs
 go_enter func102,ntmps102
 go_wp2_with fail;clear k3;refine aT (fun w'=>(w'.cell? ⟨o,4,n_⟩=o_ (i_ j_ 5)∧w'.cell? ⟨o,5,n_⟩=o_ (.map (o_ q.bs))∧w'.cell? ⟨X,7,n_⟩=o_ (i_ j_ x.on))∧Hid (fu w w' o X q x ms me mb mf)) ZcS (BF H.I.drew) ?_
 iterate 8 (refine PI ?_)
 refine cl (b_ (cz ms x.on).isSome) 130 #[a_ #[i_ j_ 5,.map (o_ q.bs)],i_ j_ x.on] ?_ ?_ ?_
 ·exact Zcy
 ·intro w0 hS0
  refine (tZ 5 q.bs ms x.on w0 hS0.2.I.ms HW.I).mono ?_;rintro e w2 ⟨rfl,hb2⟩;exact ⟨rfl,BF (hS0.2.I.below hb2)⟩
 exact A_
theorem A5 {w w':w_} {o X:Nat} {q:ol} {x:ao} {ms me mb mf:df} (h:fu w w' o X q x ms me mb mf):(w'.cell? ⟨o,6,n_⟩=o_ (i_ j_ 5)∧w'.cell? ⟨o,7,n_⟩=o_ (.map (o_ q.be))∧w'.cell? ⟨X,7,n_⟩=o_ (i_ j_ x.on))∧Hid (fu w w' o X q x ms me mb mf):=
 ⟨⟨h.opn.cell 6,h.opn.cell 7,(bo h.box).2.2.2.2.2.2.2.1⟩,h⟩
theorem EH (o X:Nat) (q:ol) (x:ao) (ms me mb mf:df) (w:w_) (h:fu w w o X q x ms me mb mf) (hw:(Lit.int j_ x.on).wf=true) (hs:x.Md=4):
  k_ J3 102 #[p_ (o_ ⟨o,0,n_⟩),p_ (o_ ⟨X,0,n_⟩)] w fun e w'=>e=r_ (b_ (fw ms me mb mf x))∧B_ w.heap.size w w':=by
 have H:Hid (fu w w o X q x ms me mb mf):=h;have HW:Hid ((Lit.int j_ x.on).wf=true):=hw;have HV:Hid (fw ms me mb mf x=(cz me x.on).isSome):=by show fw ms me mb mf x=_; simp [fw,hs]
 have k3:w.cell? ⟨X,3,n_⟩=o_ (i_ j_ 4):=by rw [(bo h.box).2.2.2.1,hs]
 clear h hw hs
 go_enter func102,ntmps102
 go_wp2_with fail;clear k3;refine aT (fun w'=>(w'.cell? ⟨o,6,n_⟩=o_ (i_ j_ 5)∧w'.cell? ⟨o,7,n_⟩=o_ (.map (o_ q.be))∧w'.cell? ⟨X,7,n_⟩=o_ (i_ j_ x.on))∧Hid (fu w w' o X q x ms me mb mf)) ZcS (A5 H.I.drew) ?_
 iterate 8 (refine PI ?_)
 refine cl (b_ (cz me x.on).isSome) 131 #[a_ #[i_ j_ 5,.map (o_ q.be)],i_ j_ x.on] ?_ ?_ ?_
 ·exact Zcy
 ·intro w0 hS0
  refine (rj 5 q.be me x.on w0 hS0.2.I.me HW.I).mono ?_;rintro e w2 ⟨rfl,hb2⟩;exact ⟨rfl,A5 (hS0.2.I.below hb2)⟩
 exact A_
theorem AF {w w':w_} {o X:Nat} {q:ol} {x:ao} {ms me mb mf:df} (h:fu w w' o X q x ms me mb mf):(w'.cell? ⟨o,10,n_⟩=o_ (i_ j_ 5)∧w'.cell? ⟨o,11,n_⟩=o_ (.map (o_ q.bf))∧w'.cell? ⟨X,7,n_⟩=o_ (i_ j_ x.on))∧Hid (fu w w' o X q x ms me mb mf):=
 ⟨⟨h.opn.cell 10,h.opn.cell 11,(bo h.box).2.2.2.2.2.2.2.1⟩,h⟩
theorem Fu (o X:Nat) (q:ol) (x:ao) (ms me mb mf:df) (w:w_) (h:fu w w o X q x ms me mb mf) (hw:(Lit.int j_ x.on).wf=true) (hs:x.Md=5):
  k_ J3 102 #[p_ (o_ ⟨o,0,n_⟩),p_ (o_ ⟨X,0,n_⟩)] w fun e w'=>e=r_ (b_ (fw ms me mb mf x))∧B_ w.heap.size w w':=by
 have H:Hid (fu w w o X q x ms me mb mf):=h;have HW:Hid ((Lit.int j_ x.on).wf=true):=hw;have HV:Hid (fw ms me mb mf x=(cz mf x.on).isSome):=by show fw ms me mb mf x=_; simp [fw,hs]
 have k3:w.cell? ⟨X,3,n_⟩=o_ (i_ j_ 5):=by rw [(bo h.box).2.2.2.1,hs]
 clear h hw hs
 go_enter func102,ntmps102
 go_wp2_with fail;clear k3;refine aT (fun w'=>(w'.cell? ⟨o,10,n_⟩=o_ (i_ j_ 5)∧w'.cell? ⟨o,11,n_⟩=o_ (.map (o_ q.bf))∧w'.cell? ⟨X,7,n_⟩=o_ (i_ j_ x.on))∧Hid (fu w w' o X q x ms me mb mf)) ZcS (AF H.I.drew) ?_
 iterate 8 (refine PI ?_)
 refine cl (b_ (cz mf x.on).isSome) 133 #[a_ #[i_ j_ 5,.map (o_ q.bf)],i_ j_ x.on] ?_ ?_ ?_
 ·exact Zcy
 ·intro w0 hS0
  refine (mE 5 q.bf mf x.on w0 hS0.2.I.mf HW.I).mono ?_;rintro e w2 ⟨rfl,hb2⟩;exact ⟨rfl,AF (hS0.2.I.below hb2)⟩
 exact A_
theorem AH {w w':w_} {o X:Nat} {q:ol} {x:ao} {ms me mb mf:df} (h:fu w w' o X q x ms me mb mf):(w'.cell? ⟨o,10,n_⟩=o_ (i_ j_ 5)∧w'.cell? ⟨o,11,n_⟩=o_ (.map (o_ q.bf))∧w'.cell? ⟨X,7,n_⟩=o_ (i_ j_ x.on))∧Hid (fu w w' o X q x ms me mb mf):=
 ⟨⟨h.opn.cell 10,h.opn.cell 11,(bo h.box).2.2.2.2.2.2.2.1⟩,h⟩
theorem Ew (o X:Nat) (q:ol) (x:ao) (ms me mb mf:df) (w:w_) (h:fu w w o X q x ms me mb mf) (hw:(Lit.int j_ x.on).wf=true) (hs:x.Md=6):
  k_ J3 102 #[p_ (o_ ⟨o,0,n_⟩),p_ (o_ ⟨X,0,n_⟩)] w fun e w'=>e=r_ (b_ (fw ms me mb mf x))∧B_ w.heap.size w w':=by
 have H:Hid (fu w w o X q x ms me mb mf):=h;have HW:Hid ((Lit.int j_ x.on).wf=true):=hw;have HV:Hid (fw ms me mb mf x=(cz mf x.on).isSome):=by show fw ms me mb mf x=_; simp [fw,hs]
 have k3:w.cell? ⟨X,3,n_⟩=o_ (i_ j_ 6):=by rw [(bo h.box).2.2.2.1,hs]
 clear h hw hs
 go_enter func102,ntmps102
 go_wp2_with fail;clear k3;refine aT (fun w'=>(w'.cell? ⟨o,10,n_⟩=o_ (i_ j_ 5)∧w'.cell? ⟨o,11,n_⟩=o_ (.map (o_ q.bf))∧w'.cell? ⟨X,7,n_⟩=o_ (i_ j_ x.on))∧Hid (fu w w' o X q x ms me mb mf)) ZcS (AH H.I.drew) ?_
 iterate 8 (refine PI ?_)
 refine cl (b_ (cz mf x.on).isSome) 133 #[a_ #[i_ j_ 5,.map (o_ q.bf)],i_ j_ x.on] ?_ ?_ ?_
 ·exact Zcy
 ·intro w0 hS0
  refine (mE 5 q.bf mf x.on w0 hS0.2.I.mf HW.I).mono ?_;rintro e w2 ⟨rfl,hb2⟩;exact ⟨rfl,AH (hS0.2.I.below hb2)⟩
 exact A_
theorem Bi {w w':w_} {o X:Nat} {q:ol} {x:ao} {ms me mb mf:df} (h:fu w w' o X q x ms me mb mf):(w'.cell? ⟨o,8,n_⟩=o_ (i_ j_ 5)∧w'.cell? ⟨o,9,n_⟩=o_ (.map (o_ q.bb))∧w'.cell? ⟨X,7,n_⟩=o_ (i_ j_ x.on))∧Hid (fu w w' o X q x ms me mb mf):=
 ⟨⟨h.opn.cell 8,h.opn.cell 9,(bo h.box).2.2.2.2.2.2.2.1⟩,h⟩
theorem Fb (o X:Nat) (q:ol) (x:ao) (ms me mb mf:df) (w:w_) (h:fu w w o X q x ms me mb mf) (hw:(Lit.int j_ x.on).wf=true) (hs:x.Md=7):
  k_ J3 102 #[p_ (o_ ⟨o,0,n_⟩),p_ (o_ ⟨X,0,n_⟩)] w fun e w'=>e=r_ (b_ (fw ms me mb mf x))∧B_ w.heap.size w w':=by
 have H:Hid (fu w w o X q x ms me mb mf):=h;have HW:Hid ((Lit.int j_ x.on).wf=true):=hw;have HV:Hid (fw ms me mb mf x=(cz mb x.on).isSome):=by show fw ms me mb mf x=_; simp [fw,hs]
 have k3:w.cell? ⟨X,3,n_⟩=o_ (i_ j_ 7):=by rw [(bo h.box).2.2.2.1,hs]
 clear h hw hs
 go_enter func102,ntmps102
 go_wp2_with fail;clear k3;refine aT (fun w'=>(w'.cell? ⟨o,8,n_⟩=o_ (i_ j_ 5)∧w'.cell? ⟨o,9,n_⟩=o_ (.map (o_ q.bb))∧w'.cell? ⟨X,7,n_⟩=o_ (i_ j_ x.on))∧Hid (fu w w' o X q x ms me mb mf)) ZcS (Bi H.I.drew) ?_
 iterate 8 (refine PI ?_)
 refine cl (b_ (cz mb x.on).isSome) 132 #[a_ #[i_ j_ 5,.map (o_ q.bb)],i_ j_ x.on] ?_ ?_ ?_
 ·exact Zcy
 ·intro w0 hS0
  refine (qM 5 q.bb mb x.on w0 hS0.2.I.mb HW.I).mono ?_;rintro e w2 ⟨rfl,hb2⟩;exact ⟨rfl,Bi (hS0.2.I.below hb2)⟩
 exact A_
theorem zh (o X:Nat) (q:ol) (x:ao) (ms me mb mf:df) (w:w_) (h:fu w w o X q x ms me mb mf) (h3: ¬ x.Md=3) (h4: ¬ x.Md=4) (h5: ¬ x.Md=5) (h6: ¬ x.Md=6) (h7: ¬ x.Md=7):
  k_ J3 102 #[p_ (o_ ⟨o,0,n_⟩),p_ (o_ ⟨X,0,n_⟩)] w fun e w'=>e=r_ (b_ (fw ms me mb mf x))∧B_ w.heap.size w w':=by
 have HV:Hid (fw ms me mb mf x=true):=by show fw ms me mb mf x=true; simp [fw,h3,h4,h5,h6,h7]
 have k3:=(bo h.box).2.2.2.1;have s3:(x.Md == 3)=false:=by simp [h3]
 have s4:(x.Md == 4)=false:=by simp [h4]
 have s5:(x.Md == 5)=false:=by simp [h5]
 have s6:(x.Md == 6)=false:=by simp [h6]
 have s7:(x.Md == 7)=false:=by simp [h7]
 clear h h3 h4 h5 h6 h7
 go_enter func102,ntmps102
 go_wp2;go_ret;exact ⟨al HV.I.symm,Kp _ _⟩
theorem Ak (o X:Nat) (q:ol) (x:ao) (ms me mb mf:df) (w:w_) (h:fu w w o X q x ms me mb mf) (hw:(Lit.int j_ x.on).wf=true):
  k_ J3 102 #[p_ (o_ ⟨o,0,n_⟩),p_ (o_ ⟨X,0,n_⟩)] w fun e w'=>e=r_ (b_ (fw ms me mb mf x))∧B_ w.heap.size w w':=by
 by_cases h3:x.Md=3
 ·exact ER o X q x ms me mb mf w h hw h3
 by_cases h4:x.Md=4
 ·exact EH o X q x ms me mb mf w h hw h4
 by_cases h5:x.Md=5
 ·exact Fu o X q x ms me mb mf w h hw h5
 by_cases h6:x.Md=6
 ·exact Ew o X q x ms me mb mf w h hw h6
 by_cases h7:x.Md=7
 ·exact Fb o X q x ms me mb mf w h hw h7
 exact zh o X q x ms me mb mf w h h3 h4 h5 h6 h7
end
section
open Go.RowKit
theorem wo (x:ao) (w:w_) (hf:eL w x):k_ J3 236 #[a_ (aX x)] w fun e w'=>e=r_ (b_ (cH x.toaD))∧B_ w.heap.size w w':=by
 have HI:Hid (oV w (w.alloc (c_ (aX x) 41)) x):=oV.start hf;have HE:Hid (cH x.toaD=(cv x.RX 1 50 && jm x.prog && bw x.held && bw x.got && cv x.code 0 3 && bO x.toaD)):=rfl;have HB:Hid (B_ w.heap.size w (w.alloc (c_ (aX x) 41))):=HI.I.cd;obtain ⟨c0,c1,c2,c3,c4,c5,c6,c7,c8,c9,qF,pe⟩:=bo HI.I.box;clear hf;unfold aX at *;by_cases h1:1≤x.RX;rotate_left
 ·have HV:Hid (cH x.toaD=false):=by show cH _=false; rw [HE.I,mA (by omega)]; rfl
  exact Zb5
 by_cases h2:x.RX≤50;rotate_left
 ·have HV:Hid (cH x.toaD=false):=by show cH _=false; rw [HE.I,kR (by omega)]; rfl
  exact Zb5
 have HP:Hid (cv x.RX 1 50=true):=eB h1 h2
 go_enter func236,ntmps236
 go_wp2_with fail;refine (wI x.aY x.prog x.bH _ HI.I.fit.1.prog HI.I.fit.1.ops HI.I.fit.2).mono ?_;rintro e w1 ⟨rfl,hb1⟩;have Hs:Hid (oV w w1 x):=HI.I.below hb1;clear hb1 c0 c1 c2 c3 c4 c5 c6 c7 c8 c9 qF pe HI HB;obtain ⟨c0,c1,c2,c3,c4,c5,c6,c7,c8,c9,qF,pe⟩:=bo Hs.I.box;have hsh:=Hs.I.fit.1.held;have hsg:=Hs.I.fit.1.got;cases hl:jm x.prog with
 | false=>
  have HV:Hid (cH x.toaD=false):=by show cH _=false; rw [HE.I,hl]; simp
  clear HE hl;exact ZaW
 | true=>
  have HL:Hid (jm x.prog=true):=hl;clear hl;go_wp2_with fail;refine (iM x.held _ hsh).mono ?_;rintro e w2 ⟨rfl,hw2⟩;subst hw2;cases hh:bw x.held with
  | false=>
   have HV:Hid (cH x.toaD=false):=by show cH _=false; rw [HE.I,hh]; simp
   clear HE hh;exact ZaW
  | true=>
   have HH:Hid (bw x.held=true):=hh;clear hh;go_wp2_with fail;refine (iM x.got _ hsg).mono ?_;rintro e w2 ⟨rfl,hw2⟩;subst hw2;cases hg:bw x.got with
   | false=>
    have HV:Hid (cH x.toaD=false):=by show cH _=false; rw [HE.I,hg]; simp
    clear HE hg;exact ZaW
   | true=>
    have HG:Hid (bw x.got=true):=hg;clear hg;by_cases h3:0≤x.code;rotate_left
    ·have HV:Hid (cH x.toaD=false):=by show cH _=false; rw [HE.I,mA (n:=x.code) (by omega)]; simp
     clear HE;exact ZaW
    by_cases h4:x.code≤3;rotate_left
    ·have HV:Hid (cH x.toaD=false):=by show cH _=false; rw [HE.I,kR (n:=x.code) (by omega)]; simp
     clear HE;exact ZaW
    have HC:Hid (cv x.code 0 3=true):=eB h3 h4;go_wp2_with fail;refine (Am x _ Hs.I.fit).mono ?_;rintro e w2 ⟨rfl,hb2⟩;have jA:Hid (oV w w2 x):=Hs.I.below hb2;clear hb2;have HV:Hid (cH x.toaD=bO x.toaD):=by show cH _=_; rw [HE.I,HP.I,HL.I,HH.I,HG.I,HC.I]; simp
    clear HE;go_wp2;go_ret;exact ⟨al HV.I.symm,jA.I.cd⟩
end
section
open Go.RowKit
attribute [local go_sem ↓] Kc Kd
def IW (w:w_) (Me:Int) (list:List bD) (k:Nat) (wr:w_):Prop:=
 ∃ l:List (bD × Nat),l.map (·.1)=list.take k∧eS eH (fun x:bD=>x.id) 89 72 w wr Me l∧aw (fun x:bD=>x.id) (fun x:bD=>gw x) 0 (list.take k)=true∧(k:Int)≤max Me 0
theorem vV (a:Option d_) (list:List bD) (cap:Nat) (Me:Int) (w:w_) (hl:list.length≤1048576) (h:dm.bU w a list) (hf: ∀ x∈list,kU w x) (hw: ∀ x∈list,(Lit.int j_ x.id).wf=true):
  k_ J3 51 #[s_ a list.length cap,i_ j_ Me] w fun e w'=>jN eH (fun x:bD=>x.id) 89 w Me (aw (fun x:bD=>x.id) (fun x:bD=>gw x) 0 list && decide ((list.length:Int)≤max Me 0)) list e w':=by
 have hmk:=P4 (P:=J3) 70;have hmn:=pb;have H0:Hid (eS eH (fun x:bD=>x.id) 89 72 w (((w.alloc (c_ #[i_ j_ 0,.map n_] 72)).alloc (.map #[] 0)).alloc (c_ #[i_ j_ Me,.map (o_ (w.heap.size+1))] 72)) Me []):=eS.start 72 w Me;have HL:Hid (dm.bU w a list∧(∀ x∈list,kU w x)∧ ∀ x∈list,(Lit.int j_ x.id).wf=true):=⟨h,hf,hw⟩
 clear h hf hw
 go_enter func51,ntmps51
 go_wp2_with fail
 go_loopw [7,15] (fun last i wr=> ∃ k:Nat,k≤list.length∧i=i_ j_ k∧last=i_ j_ (bW (fun x:bD=>x.id) 0 (list.take k))∧Hid (IW w Me list k wr)) (fun _ i _=>list.length - (intOf i).toNat)
 case atStart=>exact ⟨0,Ky _,rfl,rfl,⟨[],by simp,H0.I,rfl,by simp; omega⟩⟩
 case round=>
  clear H0 hmk;obtain ⟨k,hk,rfl,rfl,HA⟩:=hrel;obtain ⟨l,hlm,hin,oC,hkm⟩:=HA.I;have HT:Hid (l.map (·.1)=list.take k∧aw (fun x:bD=>x.id) (fun x:bD=>gw x) 0 (list.take k)=true∧(k:Int)≤max Me 0):=⟨hlm,oC,hkm⟩
  have HI:Hid (eS eH (fun x:bD=>x.id) 89 72 w wr Me l):=hin;clear HA hlm hin oC hkm;by_cases hlt:k < list.length
  ·have i0:(0:Int)≤(k:Int):=by omega
   have i1:(k:Int) < (list.length:Int):=by omega
   obtain ⟨x,hx⟩: ∃ x,list[k]? =o_ x:=⟨_,Kz hlt⟩
   have hmem:=KA hx;have HX:Hid (list[k]? =o_ x):=hx;have HF:Hid (kU w x∧(Lit.int j_ x.id).wf=true):=⟨HL.I.2.1 x hmem,HL.I.2.2 x hmem⟩
   obtain ⟨gs,ha,hat⟩:=lQ (HL.I.1.below HI.I.cd) hx;obtain ⟨c0,c1,c2⟩:=hat;subst ha;clear hx hmem;go_wp2_with fail;refine (jv x _).mono ?_;rintro e w2 ⟨rfl,hb2⟩;have jA:Hid (eS eH (fun x:bD=>x.id) 89 72 w w2 Me l):=(HI.I.below ((Kp _ wr).alloc (Ki _) (c_ #[i_ j_ x.id,i_ j_ x.n,i_ j_ x.max] 89))).below hb2;have HB:Hid (w2.heap[wr.heap.size]? =o_ (c_ (eH x) 89)):=(hb2.block _ (by simp)).trans (Kj _ _);have HZ:Hid (w.heap.size+1 < wr.heap.size):=by show w.heap.size+1 < wr.heap.size; have:=(J2.1 HI.I.var).1; omega
   clear hb2 HI c0 c1 c2;obtain ⟨d0,d1,d2⟩:=gm HB.I;obtain ⟨r0,r1,v0,v1,z0,z1⟩:=jA.I.cells;by_cases hle:x.id≤bW (fun x:bD=>x.id) 0 (list.take k)
   ·have HN:Hid ((aw (fun x:bD=>x.id) (fun x:bD=>gw x) 0 list && decide ((list.length:Int)≤max Me 0))=false):=by
     show _=false
     rw [bS HX.I (fun hh=>absurd hh.2.1 (by show ¬ bW (fun x:bD=>x.id) 0 (list.take k) < x.id; omega))]; rfl
    go_wp2;refine KT (v:=u_ #[a_ #[i_ j_ 0,.map n_],b_ false]) ZdB rfl ?_;exact Zay
   have j6:Hid (bW (fun x:bD=>x.id) 0 (list.take k) < x.id):=by show _ < _; omega
   have hkl:(RW (fun x:bD=>x.id) l).length≤1048576:=by
    exact Tu
   go_wp2_with fail;refine (tU Me (w.heap.size+1) (RW (fun x:bD=>x.id) l) x w2 jA.I.eh.map HF.I.2 hkl (HF.I.1.below jA.I.cd)).mono ?_;rintro e w3 ⟨rfl,hno,fm⟩;cases fW:iI Me (RW (fun x:bD=>x.id) l) x.id (gw x) with
   | false=>
    have HN:Hid ((aw (fun x:bD=>x.id) (fun x:bD=>gw x) 0 list && decide ((list.length:Int)≤max Me 0))=false):=iC HX.I HT.I.1 HT.I.2.1 j6.I fW;have Aw:Hid (eS eH (fun x:bD=>x.id) 89 72 w w3 Me l):=jA.I.below (hno fW);clear hno fm fW jA r0 r1 v0 v1 z0 z1 d0 d1 d2 HB;obtain ⟨r0,r1,v0,v1,z0,z1⟩:=Aw.I.cells;go_wp2;refine KT (v:=u_ #[a_ #[i_ j_ 0,.map n_],b_ false]) ZdB rfl ?_;exact Zaz
   | true=>
    have HY:Hid (aw (fun x:bD=>x.id) (fun x:bD=>gw x) 0 (list.take (k+1))=true∧((k+1:Nat):Int)≤max Me 0):=gM HX.I HT.I.1 HT.I.2.1 j6.I fW;obtain ⟨g,ph⟩:=jA.I.lay (x:=x) (e:=r_ (b_ true)) (w':=w3) ⟨rfl,(fun h=>by cases h),fun _=>fm fW⟩ (jB HT.I.1 HT.I.2.1 j6.I);have BD:Hid (eS eH (fun x:bD=>x.id) 89 72 w w3 Me (l ++ [(x,g)])):=ph;have oh:Hid (w3.heap[wr.heap.size]? =o_ (c_ (eH x) 89)):=by
     exact y4
    clear hno fm fW jA r0 r1 v0 v1 z0 z1 d0 d1 d2 HB ph;obtain ⟨d0,d1,d2⟩:=gm oh.I;go_wp2_with fail;refine (jv x _).mono ?_;rintro e w5 ⟨rfl,iJ⟩;have EY:Hid (eS eH (fun x:bD=>x.id) 89 72 w w5 Me (l ++ [(x,g)])):=BD.I.below iJ;have HE:Hid (bW (fun x:bD=>x.id) 0 (list.take (k+1))=x.id):=eG HX.I 0;exact pl
  ·have i1: ¬ (k:Int) < (list.length:Int):=by omega
   have HK:Hid (list.take k=list∧((list.length:Int)≤max Me 0)):=⟨KF (by omega),by have:=HT.I.2.2; omega⟩
   have HY:Hid ((aw (fun x:bD=>x.id) (fun x:bD=>gw x) 0 list && decide ((list.length:Int)≤max Me 0))=true):=by
    exact M_
   obtain ⟨r0,r1,v0,v1,z0,z1⟩:=HI.I.cells;go_wp2;refine KT (v:=u_ #[a_ #[i_ j_ Me,.map (o_ (w.heap.size+1))],b_ true]) ZdB rfl ?_;exact C_
def EJ (w:w_) (Me:Int) (list:List aB) (k:Nat) (wr:w_):Prop:=
 ∃ l:List (aB × Nat),l.map (·.1)=list.take k∧eS cG (fun x:aB=>x.id) 91 75 w wr Me l∧aw (fun x:aB=>x.id) (fun x:aB=>ey x) 0 (list.take k)=true∧(k:Int)≤max Me 0
theorem rZ (a:Option d_) (list:List aB) (cap:Nat) (Me:Int) (w:w_) (hl:list.length≤1048576) (h:bJ.bU w a list) (hf: ∀ x∈list,ix w x) (hw: ∀ x∈list,(Lit.int j_ x.id).wf=true):
  k_ J3 52 #[s_ a list.length cap,i_ j_ Me] w fun e w'=>jN cG (fun x:aB=>x.id) 91 w Me (aw (fun x:aB=>x.id) (fun x:aB=>ey x) 0 list && decide ((list.length:Int)≤max Me 0)) list e w':=by
 have hmk:=P4 (P:=J3) 73;have hmn:=mT;have H0:Hid (eS cG (fun x:aB=>x.id) 91 75 w (((w.alloc (c_ #[i_ j_ 0,.map n_] 75)).alloc (.map #[] 0)).alloc (c_ #[i_ j_ Me,.map (o_ (w.heap.size+1))] 75)) Me []):=eS.start 75 w Me;have HL:Hid (bJ.bU w a list∧(∀ x∈list,ix w x)∧ ∀ x∈list,(Lit.int j_ x.id).wf=true):=⟨h,hf,hw⟩
 clear h hf hw
 go_enter func52,ntmps52
 go_wp2_with fail
 go_loopw [7,15] (fun last i wr=> ∃ k:Nat,k≤list.length∧i=i_ j_ k∧last=i_ j_ (bW (fun x:aB=>x.id) 0 (list.take k))∧Hid (EJ w Me list k wr)) (fun _ i _=>list.length - (intOf i).toNat)
 case atStart=>exact ⟨0,Ky _,rfl,rfl,⟨[],by simp,H0.I,rfl,by simp; omega⟩⟩
 case round=>
  clear H0 hmk;obtain ⟨k,hk,rfl,rfl,HA⟩:=hrel;obtain ⟨l,hlm,hin,oC,hkm⟩:=HA.I;have HT:Hid (l.map (·.1)=list.take k∧aw (fun x:aB=>x.id) (fun x:aB=>ey x) 0 (list.take k)=true∧(k:Int)≤max Me 0):=⟨hlm,oC,hkm⟩
  have HI:Hid (eS cG (fun x:aB=>x.id) 91 75 w wr Me l):=hin;clear HA hlm hin oC hkm;by_cases hlt:k < list.length
  ·have i0:(0:Int)≤(k:Int):=by omega
   have i1:(k:Int) < (list.length:Int):=by omega
   obtain ⟨x,hx⟩: ∃ x,list[k]? =o_ x:=⟨_,Kz hlt⟩
   have hmem:=KA hx;have HX:Hid (list[k]? =o_ x):=hx;have HF:Hid (ix w x∧(Lit.int j_ x.id).wf=true):=⟨HL.I.2.1 x hmem,HL.I.2.2 x hmem⟩
   obtain ⟨gs,ha,hat⟩:=j4 (HL.I.1.below HI.I.cd) hx;obtain ⟨c0,c1⟩:=hat;subst ha;clear hx hmem;go_wp2_with fail;refine (iw x _).mono ?_;rintro e w2 ⟨rfl,hb2⟩;have jA:Hid (eS cG (fun x:aB=>x.id) 91 75 w w2 Me l):=(HI.I.below ((Kp _ wr).alloc (Ki _) (c_ #[i_ j_ x.id,b_ x.up] 91))).below hb2;have HB:Hid (w2.heap[wr.heap.size]? =o_ (c_ (cG x) 91)):=(hb2.block _ (by simp)).trans (Kj _ _);have HZ:Hid (w.heap.size+1 < wr.heap.size):=by show w.heap.size+1 < wr.heap.size; have:=(J2.1 HI.I.var).1; omega
   clear hb2 HI c0 c1;obtain ⟨d0,d1⟩:=kF HB.I;obtain ⟨r0,r1,v0,v1,z0,z1⟩:=jA.I.cells;by_cases hle:x.id≤bW (fun x:aB=>x.id) 0 (list.take k)
   ·have HN:Hid ((aw (fun x:aB=>x.id) (fun x:aB=>ey x) 0 list && decide ((list.length:Int)≤max Me 0))=false):=by
     show _=false
     rw [bS HX.I (fun hh=>absurd hh.2.1 (by show ¬ bW (fun x:aB=>x.id) 0 (list.take k) < x.id; omega))]; rfl
    go_wp2;refine KT (v:=u_ #[a_ #[i_ j_ 0,.map n_],b_ false]) ZdA rfl ?_;exact Zay
   have j6:Hid (bW (fun x:aB=>x.id) 0 (list.take k) < x.id):=by show _ < _; omega
   have hkl:(RW (fun x:aB=>x.id) l).length≤1048576:=by
    exact Tu
   go_wp2_with fail;refine (rC Me (w.heap.size+1) (RW (fun x:aB=>x.id) l) x w2 jA.I.eh.map HF.I.2 hkl (HF.I.1.below jA.I.cd)).mono ?_;rintro e w3 ⟨rfl,hno,fm⟩;cases fW:iI Me (RW (fun x:aB=>x.id) l) x.id (ey x) with
   | false=>
    have HN:Hid ((aw (fun x:aB=>x.id) (fun x:aB=>ey x) 0 list && decide ((list.length:Int)≤max Me 0))=false):=iC HX.I HT.I.1 HT.I.2.1 j6.I fW;have Aw:Hid (eS cG (fun x:aB=>x.id) 91 75 w w3 Me l):=jA.I.below (hno fW);clear hno fm fW jA r0 r1 v0 v1 z0 z1 d0 d1 HB;obtain ⟨r0,r1,v0,v1,z0,z1⟩:=Aw.I.cells;go_wp2;refine KT (v:=u_ #[a_ #[i_ j_ 0,.map n_],b_ false]) ZdA rfl ?_;exact Zaz
   | true=>
    have HY:Hid (aw (fun x:aB=>x.id) (fun x:aB=>ey x) 0 (list.take (k+1))=true∧((k+1:Nat):Int)≤max Me 0):=gM HX.I HT.I.1 HT.I.2.1 j6.I fW;obtain ⟨g,ph⟩:=jA.I.lay (x:=x) (e:=r_ (b_ true)) (w':=w3) ⟨rfl,(fun h=>by cases h),fun _=>fm fW⟩ (jB HT.I.1 HT.I.2.1 j6.I);have BD:Hid (eS cG (fun x:aB=>x.id) 91 75 w w3 Me (l ++ [(x,g)])):=ph;have oh:Hid (w3.heap[wr.heap.size]? =o_ (c_ (cG x) 91)):=by
     exact y4
    clear hno fm fW jA r0 r1 v0 v1 z0 z1 d0 d1 HB ph;obtain ⟨d0,d1⟩:=kF oh.I;go_wp2_with fail;refine (iw x _).mono ?_;rintro e w5 ⟨rfl,iJ⟩;have EY:Hid (eS cG (fun x:aB=>x.id) 91 75 w w5 Me (l ++ [(x,g)])):=BD.I.below iJ;have HE:Hid (bW (fun x:aB=>x.id) 0 (list.take (k+1))=x.id):=eG HX.I 0;exact pl
  ·have i1: ¬ (k:Int) < (list.length:Int):=by omega
   have HK:Hid (list.take k=list∧((list.length:Int)≤max Me 0)):=⟨KF (by omega),by have:=HT.I.2.2; omega⟩
   have HY:Hid ((aw (fun x:aB=>x.id) (fun x:aB=>ey x) 0 list && decide ((list.length:Int)≤max Me 0))=true):=by
    exact M_
   obtain ⟨r0,r1,v0,v1,z0,z1⟩:=HI.I.cells;go_wp2;refine KT (v:=u_ #[a_ #[i_ j_ Me,.map (o_ (w.heap.size+1))],b_ true]) ZdA rfl ?_;exact C_
def EX (w:w_) (Me:Int) (list:List az) (k:Nat) (wr:w_):Prop:=
 ∃ l:List (az × Nat),l.map (·.1)=list.take k∧eS cI (fun x:az=>x.id) 93 78 w wr Me l∧aw (fun x:az=>x.id) (fun x:az=>cU x) 0 (list.take k)=true∧(k:Int)≤max Me 0
theorem si (a:Option d_) (list:List az) (cap:Nat) (Me:Int) (w:w_) (hl:list.length≤1048576) (h:bG.bU w a list) (hf: ∀ x∈list,gX w x) (hw: ∀ x∈list,(Lit.int j_ x.id).wf=true):
  k_ J3 53 #[s_ a list.length cap,i_ j_ Me] w fun e w'=>jN cI (fun x:az=>x.id) 93 w Me (aw (fun x:az=>x.id) (fun x:az=>cU x) 0 list && decide ((list.length:Int)≤max Me 0)) list e w':=by
 have hmk:=P4 (P:=J3) 76;have hmn:=nr;have H0:Hid (eS cI (fun x:az=>x.id) 93 78 w (((w.alloc (c_ #[i_ j_ 0,.map n_] 78)).alloc (.map #[] 0)).alloc (c_ #[i_ j_ Me,.map (o_ (w.heap.size+1))] 78)) Me []):=eS.start 78 w Me;have HL:Hid (bG.bU w a list∧(∀ x∈list,gX w x)∧ ∀ x∈list,(Lit.int j_ x.id).wf=true):=⟨h,hf,hw⟩
 clear h hf hw
 go_enter func53,ntmps53
 go_wp2_with fail
 go_loopw [7,15] (fun last i wr=> ∃ k:Nat,k≤list.length∧i=i_ j_ k∧last=i_ j_ (bW (fun x:az=>x.id) 0 (list.take k))∧Hid (EX w Me list k wr)) (fun _ i _=>list.length - (intOf i).toNat)
 case atStart=>exact ⟨0,Ky _,rfl,rfl,⟨[],by simp,H0.I,rfl,by simp; omega⟩⟩
 case round=>
  clear H0 hmk;obtain ⟨k,hk,rfl,rfl,HA⟩:=hrel;obtain ⟨l,hlm,hin,oC,hkm⟩:=HA.I;have HT:Hid (l.map (·.1)=list.take k∧aw (fun x:az=>x.id) (fun x:az=>cU x) 0 (list.take k)=true∧(k:Int)≤max Me 0):=⟨hlm,oC,hkm⟩
  have HI:Hid (eS cI (fun x:az=>x.id) 93 78 w wr Me l):=hin;clear HA hlm hin oC hkm;by_cases hlt:k < list.length
  ·have i0:(0:Int)≤(k:Int):=by omega
   have i1:(k:Int) < (list.length:Int):=by omega
   obtain ⟨x,hx⟩: ∃ x,list[k]? =o_ x:=⟨_,Kz hlt⟩
   have hmem:=KA hx;have HX:Hid (list[k]? =o_ x):=hx;have HF:Hid (gX w x∧(Lit.int j_ x.id).wf=true):=⟨HL.I.2.1 x hmem,HL.I.2.2 x hmem⟩
   obtain ⟨gs,ha,hat⟩:=jr (HL.I.1.below HI.I.cd) hx;obtain ⟨c0,c1,c2⟩:=hat;subst ha;clear hx hmem;go_wp2_with fail;refine (iq x _).mono ?_;rintro e w2 ⟨rfl,hb2⟩;have jA:Hid (eS cI (fun x:az=>x.id) 93 78 w w2 Me l):=(HI.I.below ((Kp _ wr).alloc (Ki _) (c_ #[i_ j_ x.id,b_ x.shown,t_ x.text] 93))).below hb2;have HB:Hid (w2.heap[wr.heap.size]? =o_ (c_ (cI x) 93)):=(hb2.block _ (by simp)).trans (Kj _ _);have HZ:Hid (w.heap.size+1 < wr.heap.size):=by show w.heap.size+1 < wr.heap.size; have:=(J2.1 HI.I.var).1; omega
   clear hb2 HI c0 c1 c2;obtain ⟨d0,d1,d2⟩:=kJ HB.I;obtain ⟨r0,r1,v0,v1,z0,z1⟩:=jA.I.cells;by_cases hle:x.id≤bW (fun x:az=>x.id) 0 (list.take k)
   ·have HN:Hid ((aw (fun x:az=>x.id) (fun x:az=>cU x) 0 list && decide ((list.length:Int)≤max Me 0))=false):=by
     show _=false
     rw [bS HX.I (fun hh=>absurd hh.2.1 (by show ¬ bW (fun x:az=>x.id) 0 (list.take k) < x.id; omega))]; rfl
    go_wp2;refine KT (v:=u_ #[a_ #[i_ j_ 0,.map n_],b_ false]) Zdz rfl ?_;exact Zay
   have j6:Hid (bW (fun x:az=>x.id) 0 (list.take k) < x.id):=by show _ < _; omega
   have hkl:(RW (fun x:az=>x.id) l).length≤1048576:=by
    exact Tu
   go_wp2_with fail;refine (rr Me (w.heap.size+1) (RW (fun x:az=>x.id) l) x w2 jA.I.eh.map HF.I.2 hkl (HF.I.1.below jA.I.cd)).mono ?_;rintro e w3 ⟨rfl,hno,fm⟩;cases fW:iI Me (RW (fun x:az=>x.id) l) x.id (cU x) with
   | false=>
    have HN:Hid ((aw (fun x:az=>x.id) (fun x:az=>cU x) 0 list && decide ((list.length:Int)≤max Me 0))=false):=iC HX.I HT.I.1 HT.I.2.1 j6.I fW;have Aw:Hid (eS cI (fun x:az=>x.id) 93 78 w w3 Me l):=jA.I.below (hno fW);clear hno fm fW jA r0 r1 v0 v1 z0 z1 d0 d1 d2 HB;obtain ⟨r0,r1,v0,v1,z0,z1⟩:=Aw.I.cells;go_wp2;refine KT (v:=u_ #[a_ #[i_ j_ 0,.map n_],b_ false]) Zdz rfl ?_;exact Zaz
   | true=>
    have HY:Hid (aw (fun x:az=>x.id) (fun x:az=>cU x) 0 (list.take (k+1))=true∧((k+1:Nat):Int)≤max Me 0):=gM HX.I HT.I.1 HT.I.2.1 j6.I fW;obtain ⟨g,ph⟩:=jA.I.lay (x:=x) (e:=r_ (b_ true)) (w':=w3) ⟨rfl,(fun h=>by cases h),fun _=>fm fW⟩ (jB HT.I.1 HT.I.2.1 j6.I);have BD:Hid (eS cI (fun x:az=>x.id) 93 78 w w3 Me (l ++ [(x,g)])):=ph;have oh:Hid (w3.heap[wr.heap.size]? =o_ (c_ (cI x) 93)):=by
     exact y4
    clear hno fm fW jA r0 r1 v0 v1 z0 z1 d0 d1 d2 HB ph;obtain ⟨d0,d1,d2⟩:=kJ oh.I;go_wp2_with fail;refine (iq x _).mono ?_;rintro e w5 ⟨rfl,iJ⟩;have EY:Hid (eS cI (fun x:az=>x.id) 93 78 w w5 Me (l ++ [(x,g)])):=BD.I.below iJ;have HE:Hid (bW (fun x:az=>x.id) 0 (list.take (k+1))=x.id):=eG HX.I 0;exact pl
  ·have i1: ¬ (k:Int) < (list.length:Int):=by omega
   have HK:Hid (list.take k=list∧((list.length:Int)≤max Me 0)):=⟨KF (by omega),by have:=HT.I.2.2; omega⟩
   have HY:Hid ((aw (fun x:az=>x.id) (fun x:az=>cU x) 0 list && decide ((list.length:Int)≤max Me 0))=true):=by
    exact M_
   obtain ⟨r0,r1,v0,v1,z0,z1⟩:=HI.I.cells;go_wp2;refine KT (v:=u_ #[a_ #[i_ j_ Me,.map (o_ (w.heap.size+1))],b_ true]) Zdz rfl ?_;exact C_
def Dj (w:w_) (Me:Int) (list:List au) (k:Nat) (wr:w_):Prop:=
 ∃ l:List (au × Nat),l.map (·.1)=list.take k∧eS bQ (fun x:au=>x.id) 96 81 w wr Me l∧aw (fun x:au=>x.id) (fun x:au=>ct x.toci) 0 (list.take k)=true∧(k:Int)≤max Me 0
theorem rH (a:Option d_) (list:List au) (cap:Nat) (Me:Int) (w:w_) (hl:list.length≤1048576) (h:bm.bU w a list) (hf: ∀ x∈list,fM w x) (hw: ∀ x∈list,(Lit.int j_ x.id).wf=true):
  k_ J3 54 #[s_ a list.length cap,i_ j_ Me] w fun e w'=>jN bQ (fun x:au=>x.id) 96 w Me (aw (fun x:au=>x.id) (fun x:au=>ct x.toci) 0 list && decide ((list.length:Int)≤max Me 0)) list e w':=by
 have hmk:=P4 (P:=J3) 79;have hmn:=mc;have H0:Hid (eS bQ (fun x:au=>x.id) 96 81 w (((w.alloc (c_ #[i_ j_ 0,.map n_] 81)).alloc (.map #[] 0)).alloc (c_ #[i_ j_ Me,.map (o_ (w.heap.size+1))] 81)) Me []):=eS.start 81 w Me;have HL:Hid (bm.bU w a list∧(∀ x∈list,fM w x)∧ ∀ x∈list,(Lit.int j_ x.id).wf=true):=⟨h,hf,hw⟩
 clear h hf hw
 go_enter func54,ntmps54
 go_wp2_with fail
 go_loopw [7,15] (fun last i wr=> ∃ k:Nat,k≤list.length∧i=i_ j_ k∧last=i_ j_ (bW (fun x:au=>x.id) 0 (list.take k))∧Hid (Dj w Me list k wr)) (fun _ i _=>list.length - (intOf i).toNat)
 case atStart=>exact ⟨0,Ky _,rfl,rfl,⟨[],by simp,H0.I,rfl,by simp; omega⟩⟩
 case round=>
  clear H0 hmk;obtain ⟨k,hk,rfl,rfl,HA⟩:=hrel;obtain ⟨l,hlm,hin,oC,hkm⟩:=HA.I;have HT:Hid (l.map (·.1)=list.take k∧aw (fun x:au=>x.id) (fun x:au=>ct x.toci) 0 (list.take k)=true∧(k:Int)≤max Me 0):=⟨hlm,oC,hkm⟩
  have HI:Hid (eS bQ (fun x:au=>x.id) 96 81 w wr Me l):=hin;clear HA hlm hin oC hkm;by_cases hlt:k < list.length
  ·have i0:(0:Int)≤(k:Int):=by omega
   have i1:(k:Int) < (list.length:Int):=by omega
   obtain ⟨x,hx⟩: ∃ x,list[k]? =o_ x:=⟨_,Kz hlt⟩
   have hmem:=KA hx;have HX:Hid (list[k]? =o_ x):=hx;have HF:Hid (fM w x∧(Lit.int j_ x.id).wf=true):=⟨HL.I.2.1 x hmem,HL.I.2.2 x hmem⟩
   obtain ⟨gs,ha,hat⟩:=iA (HL.I.1.below HI.I.cd) hx;obtain ⟨c0,c1,c2⟩:=hat;subst ha;clear hx hmem;go_wp2_with fail;refine (gP x _).mono ?_;rintro e w2 ⟨rfl,hb2⟩;have jA:Hid (eS bQ (fun x:au=>x.id) 96 81 w w2 Me l):=(HI.I.below ((Kp _ wr).alloc (Ki _) (c_ #[i_ j_ x.id,i_ j_ x.max,s_ x.ak x.Ma.length x.aq] 96))).below hb2;have HB:Hid (w2.heap[wr.heap.size]? =o_ (c_ (bQ x) 96)):=(hb2.block _ (by simp)).trans (Kj _ _);have HZ:Hid (w.heap.size+1 < wr.heap.size):=by show w.heap.size+1 < wr.heap.size; have:=(J2.1 HI.I.var).1; omega
   clear hb2 HI c0 c1 c2;obtain ⟨d0,d1,d2⟩:=ia HB.I;obtain ⟨r0,r1,v0,v1,z0,z1⟩:=jA.I.cells;by_cases hle:x.id≤bW (fun x:au=>x.id) 0 (list.take k)
   ·have HN:Hid ((aw (fun x:au=>x.id) (fun x:au=>ct x.toci) 0 list && decide ((list.length:Int)≤max Me 0))=false):=by
     show _=false
     rw [bS HX.I (fun hh=>absurd hh.2.1 (by show ¬ bW (fun x:au=>x.id) 0 (list.take k) < x.id; omega))]; rfl
    go_wp2;refine KT (v:=u_ #[a_ #[i_ j_ 0,.map n_],b_ false]) Zdy rfl ?_;exact Zay
   have j6:Hid (bW (fun x:au=>x.id) 0 (list.take k) < x.id):=by show _ < _; omega
   have hkl:(RW (fun x:au=>x.id) l).length≤1048576:=by
    exact Tu
   go_wp2_with fail;refine (pV Me (w.heap.size+1) (RW (fun x:au=>x.id) l) x w2 jA.I.eh.map HF.I.2 hkl (HF.I.1.below jA.I.cd)).mono ?_;rintro e w3 ⟨rfl,hno,fm⟩;cases fW:iI Me (RW (fun x:au=>x.id) l) x.id (ct x.toci) with
   | false=>
    have HN:Hid ((aw (fun x:au=>x.id) (fun x:au=>ct x.toci) 0 list && decide ((list.length:Int)≤max Me 0))=false):=iC HX.I HT.I.1 HT.I.2.1 j6.I fW;have Aw:Hid (eS bQ (fun x:au=>x.id) 96 81 w w3 Me l):=jA.I.below (hno fW);clear hno fm fW jA r0 r1 v0 v1 z0 z1 d0 d1 d2 HB;obtain ⟨r0,r1,v0,v1,z0,z1⟩:=Aw.I.cells;go_wp2;refine KT (v:=u_ #[a_ #[i_ j_ 0,.map n_],b_ false]) Zdy rfl ?_;exact Zaz
   | true=>
    have HY:Hid (aw (fun x:au=>x.id) (fun x:au=>ct x.toci) 0 (list.take (k+1))=true∧((k+1:Nat):Int)≤max Me 0):=gM HX.I HT.I.1 HT.I.2.1 j6.I fW;obtain ⟨g,ph⟩:=jA.I.lay (x:=x) (e:=r_ (b_ true)) (w':=w3) ⟨rfl,(fun h=>by cases h),fun _=>fm fW⟩ (jB HT.I.1 HT.I.2.1 j6.I);have BD:Hid (eS bQ (fun x:au=>x.id) 96 81 w w3 Me (l ++ [(x,g)])):=ph;have oh:Hid (w3.heap[wr.heap.size]? =o_ (c_ (bQ x) 96)):=by
     exact y4
    clear hno fm fW jA r0 r1 v0 v1 z0 z1 d0 d1 d2 HB ph;obtain ⟨d0,d1,d2⟩:=ia oh.I;go_wp2_with fail;refine (gP x _).mono ?_;rintro e w5 ⟨rfl,iJ⟩;have EY:Hid (eS bQ (fun x:au=>x.id) 96 81 w w5 Me (l ++ [(x,g)])):=BD.I.below iJ;have HE:Hid (bW (fun x:au=>x.id) 0 (list.take (k+1))=x.id):=eG HX.I 0;exact pl
  ·have i1: ¬ (k:Int) < (list.length:Int):=by omega
   have HK:Hid (list.take k=list∧((list.length:Int)≤max Me 0)):=⟨KF (by omega),by have:=HT.I.2.2; omega⟩
   have HY:Hid ((aw (fun x:au=>x.id) (fun x:au=>ct x.toci) 0 list && decide ((list.length:Int)≤max Me 0))=true):=by
    exact M_
   obtain ⟨r0,r1,v0,v1,z0,z1⟩:=HI.I.cells;go_wp2;refine KT (v:=u_ #[a_ #[i_ j_ Me,.map (o_ (w.heap.size+1))],b_ true]) Zdy rfl ?_;exact C_
def F3 (w:w_) (Me:Int) (list:List aM) (k:Nat) (wr:w_):Prop:=
 ∃ l:List (aM × Nat),l.map (·.1)=list.take k∧eS cW (fun x:aM=>x.id) 115 84 w wr Me l∧aw (fun x:aM=>x.id) (fun x:aM=>dj x.todS) 0 (list.take k)=true∧(k:Int)≤max Me 0
theorem tB (a:Option d_) (list:List aM) (cap:Nat) (Me:Int) (w:w_) (hl:list.length≤1048576) (h:bX.bU w a list) (hf: ∀ x∈list,jf w x) (hw: ∀ x∈list,(Lit.int j_ x.id).wf=true):
  k_ J3 55 #[s_ a list.length cap,i_ j_ Me] w fun e w'=>jN cW (fun x:aM=>x.id) 115 w Me (aw (fun x:aM=>x.id) (fun x:aM=>dj x.todS) 0 list && decide ((list.length:Int)≤max Me 0)) list e w':=by
 have hmk:=P4 (P:=J3) 82;have hmn:=nY;have H0:Hid (eS cW (fun x:aM=>x.id) 115 84 w (((w.alloc (c_ #[i_ j_ 0,.map n_] 84)).alloc (.map #[] 0)).alloc (c_ #[i_ j_ Me,.map (o_ (w.heap.size+1))] 84)) Me []):=eS.start 84 w Me;have HL:Hid (bX.bU w a list∧(∀ x∈list,jf w x)∧ ∀ x∈list,(Lit.int j_ x.id).wf=true):=⟨h,hf,hw⟩
 clear h hf hw
 go_enter func55,ntmps55
 go_wp2_with fail
 go_loopw [7,15] (fun last i wr=> ∃ k:Nat,k≤list.length∧i=i_ j_ k∧last=i_ j_ (bW (fun x:aM=>x.id) 0 (list.take k))∧Hid (F3 w Me list k wr)) (fun _ i _=>list.length - (intOf i).toNat)
 case atStart=>exact ⟨0,Ky _,rfl,rfl,⟨[],by simp,H0.I,rfl,by simp; omega⟩⟩
 case round=>
  clear H0 hmk;obtain ⟨k,hk,rfl,rfl,HA⟩:=hrel;obtain ⟨l,hlm,hin,oC,hkm⟩:=HA.I;have HT:Hid (l.map (·.1)=list.take k∧aw (fun x:aM=>x.id) (fun x:aM=>dj x.todS) 0 (list.take k)=true∧(k:Int)≤max Me 0):=⟨hlm,oC,hkm⟩
  have HI:Hid (eS cW (fun x:aM=>x.id) 115 84 w wr Me l):=hin;clear HA hlm hin oC hkm;by_cases hlt:k < list.length
  ·have i0:(0:Int)≤(k:Int):=by omega
   have i1:(k:Int) < (list.length:Int):=by omega
   obtain ⟨x,hx⟩: ∃ x,list[k]? =o_ x:=⟨_,Kz hlt⟩
   have hmem:=KA hx;have HX:Hid (list[k]? =o_ x):=hx;have HF:Hid (jf w x∧(Lit.int j_ x.id).wf=true):=⟨HL.I.2.1 x hmem,HL.I.2.2 x hmem⟩
   obtain ⟨gs,ha,hat⟩:=lm (HL.I.1.below HI.I.cd) hx;obtain ⟨c0,c1,c2,c3,c4⟩:=hat;subst ha;clear hx hmem;go_wp2_with fail;refine (iN x _).mono ?_;rintro e w2 ⟨rfl,hb2⟩;have jA:Hid (eS cW (fun x:aM=>x.id) 115 84 w w2 Me l):=(HI.I.below ((Kp _ wr).alloc (Ki _) (c_ #[i_ j_ x.id,b_ x.I,b_ x.Mf,i_ j_ x.max,s_ x.ak x.Ma.length x.aq] 115))).below hb2;have HB:Hid (w2.heap[wr.heap.size]? =o_ (c_ (cW x) 115)):=(hb2.block _ (by simp)).trans (Kj _ _);have HZ:Hid (w.heap.size+1 < wr.heap.size):=by show w.heap.size+1 < wr.heap.size; have:=(J2.1 HI.I.var).1; omega
   clear hb2 HI c0 c1 c2 c3 c4;obtain ⟨d0,d1,d2,d3,d4⟩:=gE HB.I;obtain ⟨r0,r1,v0,v1,z0,z1⟩:=jA.I.cells;by_cases hle:x.id≤bW (fun x:aM=>x.id) 0 (list.take k)
   ·have HN:Hid ((aw (fun x:aM=>x.id) (fun x:aM=>dj x.todS) 0 list && decide ((list.length:Int)≤max Me 0))=false):=by
     show _=false
     rw [bS HX.I (fun hh=>absurd hh.2.1 (by show ¬ bW (fun x:aM=>x.id) 0 (list.take k) < x.id; omega))]; rfl
    go_wp2;refine KT (v:=u_ #[a_ #[i_ j_ 0,.map n_],b_ false]) Zdx rfl ?_;exact Zay
   have j6:Hid (bW (fun x:aM=>x.id) 0 (list.take k) < x.id):=by show _ < _; omega
   have hkl:(RW (fun x:aM=>x.id) l).length≤1048576:=by
    exact Tu
   go_wp2_with fail;refine (tb Me (w.heap.size+1) (RW (fun x:aM=>x.id) l) x w2 jA.I.eh.map HF.I.2 hkl (HF.I.1.below jA.I.cd)).mono ?_;rintro e w3 ⟨rfl,hno,fm⟩;cases fW:iI Me (RW (fun x:aM=>x.id) l) x.id (dj x.todS) with
   | false=>
    have HN:Hid ((aw (fun x:aM=>x.id) (fun x:aM=>dj x.todS) 0 list && decide ((list.length:Int)≤max Me 0))=false):=iC HX.I HT.I.1 HT.I.2.1 j6.I fW;have Aw:Hid (eS cW (fun x:aM=>x.id) 115 84 w w3 Me l):=jA.I.below (hno fW);clear hno fm fW jA r0 r1 v0 v1 z0 z1 d0 d1 d2 d3 d4 HB;obtain ⟨r0,r1,v0,v1,z0,z1⟩:=Aw.I.cells;go_wp2;refine KT (v:=u_ #[a_ #[i_ j_ 0,.map n_],b_ false]) Zdx rfl ?_;exact Zaz
   | true=>
    have HY:Hid (aw (fun x:aM=>x.id) (fun x:aM=>dj x.todS) 0 (list.take (k+1))=true∧((k+1:Nat):Int)≤max Me 0):=gM HX.I HT.I.1 HT.I.2.1 j6.I fW;obtain ⟨g,ph⟩:=jA.I.lay (x:=x) (e:=r_ (b_ true)) (w':=w3) ⟨rfl,(fun h=>by cases h),fun _=>fm fW⟩ (jB HT.I.1 HT.I.2.1 j6.I);have BD:Hid (eS cW (fun x:aM=>x.id) 115 84 w w3 Me (l ++ [(x,g)])):=ph;have oh:Hid (w3.heap[wr.heap.size]? =o_ (c_ (cW x) 115)):=by
     exact y4
    clear hno fm fW jA r0 r1 v0 v1 z0 z1 d0 d1 d2 d3 d4 HB ph;obtain ⟨d0,d1,d2,d3,d4⟩:=gE oh.I;go_wp2_with fail;refine (iN x _).mono ?_;rintro e w5 ⟨rfl,iJ⟩;have EY:Hid (eS cW (fun x:aM=>x.id) 115 84 w w5 Me (l ++ [(x,g)])):=BD.I.below iJ;have HE:Hid (bW (fun x:aM=>x.id) 0 (list.take (k+1))=x.id):=eG HX.I 0;exact pl
  ·have i1: ¬ (k:Int) < (list.length:Int):=by omega
   have HK:Hid (list.take k=list∧((list.length:Int)≤max Me 0)):=⟨KF (by omega),by have:=HT.I.2.2; omega⟩
   have HY:Hid ((aw (fun x:aM=>x.id) (fun x:aM=>dj x.todS) 0 list && decide ((list.length:Int)≤max Me 0))=true):=by
    exact M_
   obtain ⟨r0,r1,v0,v1,z0,z1⟩:=HI.I.cells;go_wp2;refine KT (v:=u_ #[a_ #[i_ j_ Me,.map (o_ (w.heap.size+1))],b_ true]) Zdx rfl ?_;exact C_
end
section
open Go.RowKit Go.Maps Go.Sort Go.Shelf
theorem yI (mb:Option Nat) (W:w_):k_ J3 139 #[.map mb] W fun e w'=>e=r_ (.func (.func 178) #[] #[p_ (o_ ⟨W.heap.size,0,n_⟩)])∧w'=W.alloc (c_ #[.map mb] 70):=
 (LO (n:=5)).1 (RC Tryz.keysSem Fence.wide 5 trivial rfl mb W)
theorem qR (Bm b:Nat) (m:df) (W:w_) (hBm:Bm < W.heap.size) (hc:W.cell? ⟨Bm,0,n_⟩=o_ (.map (o_ b))) (h:cF W b m) (hm:m.length≤1048576):
  k_ J3 135 #[.func (.func 178) #[] #[p_ (o_ ⟨Bm,0,n_⟩)]] W fun e w'=> ∃ v:v_,e=r_ v∧w'.ownsRow W.heap.size 2 1 v m.length (m.map fun p=> i_ j_ p.1)∧B_ W.heap.size W w':=by
 have hsz:Maps.size (gA m)=m.length:=size_map m;have hseq:SeqGives Fence.wide 2 J3 178 #[p_ (o_ ⟨Bm,0,n_⟩)] encZ (fun ss=>ss.Perm (intKeys (gA m))) (Maps.size (gA m)) W:=
  RD (ρ:=Tryz.keysSem_ren) { Tryz.keysSem with } Fence.wide _ trivial rfl (by omega) Bm b m.length (gA m) W hBm hc h.1
 have cS:=RE Tryz.sortedA Fence.wide 5 trivial trivial trivial trivial rfl (by omega) (Tryz.sortsA _) (LP func176 ZcS rfl) 178 #[p_ (o_ ⟨Bm,0,n_⟩)] trivial (LP func178 ZcS rfl) _ _ Zdb Zds _ hseq
 exact iv
theorem CX:(Tryz.prog.info? 174).map (fun i=>(i.zero,i.size,i.bytes))=o_ (o_ (p_ n_),1,8):=by kernel_rfl
theorem CS (Me:Int) (b:Nat) (m:df) (w:w_) (h:cF w b m) (hm:m.length≤1048576) (hwf: ∀ p∈m,(Lit.int j_ p.1).wf=true):
  k_ J3 105 #[a_ #[i_ j_ Me,.map (o_ b)]] w fun e w'=> ∃ a cap,e=r_ (s_ a m.length cap)∧w'.ownsRow w.heap.size 174 1 (s_ a m.length cap) m.length (m.map fun p=>dt p.2)∧B_ w.heap.size w w':=by
 obtain ⟨i0,hi,e0⟩:=Kw.1 CX;simp only [Kx] at e0;have HI:Hid (Tryz.prog.info? 174=o_ i0∧i0.zero=o_ (p_ n_)∧i0.size=1∧i0.bytes=8):=⟨hi,e0⟩
 have HM:Hid (cF w b m∧ ∀ p∈m,(Lit.int j_ p.1).wf=true):=⟨h,hwf⟩
 have hbl:b < w.heap.size:=h.lt;clear hi e0 h hwf
 go_enter func105,ntmps105
 go_wp2_with (go_at_call 139; refine (yI _ _).mono ?_; rintro e w' ⟨rfl,rfl⟩);refine (qR (w.heap.size+1) b m _ (by simp) (by simp) (HM.I.1.below (((Kp _ w).alloc (Ki _) _).alloc (by simp) _)) hm).mono ?_;rintro e w2 ⟨v,rfl,hown,hb2⟩;have cy:Hid (B_ w.heap.size w w2):=(((Kp _ w).alloc (Ki _) _).alloc (by simp) _).trans (hb2.mono ZcT);have HS:Hid (w2.heap[w.heap.size]? =o_ (c_ #[i_ j_ Me,.map (o_ b)] 72)):=(hb2.block _ ZcT).trans ((PU (by simp)).trans (Kj _ _));obtain ⟨a,cap,hv,hrow⟩:=cr hown;have HR:Hid (Row w2 a (m.map fun p=> i_ j_ p.1)):=hrow;rw [hv];clear hv hown hrow hb2 v;go_wp2_with fail
 go_loopw [3,11] (fun l i wr=> ∃ k:Nat,k≤m.length∧i=i_ j_ k∧ ∃ a' cap',l=s_ a' k cap'∧Hid (wr.ownsRow w2.heap.size 174 1 (s_ a' k cap') k ((m.take k).map fun p=>dt p.2)∧B_ w2.heap.size w2 wr)) (fun _ i _=>m.length - (intOf i).toNat)
 case atStart=>exact ⟨0,Ky _,rfl,n_,0,rfl,⟨Ke _ _ _ _,Kp _ _⟩⟩
 case round=>
  obtain ⟨k,hk,rfl,a',cap',rfl,HO⟩:=hrel;by_cases hlt:k < m.length
  ·have qE:(0:Int)≤(k:Int):=by omega
   have i1:(k:Int) < (m.length:Int):=by omega
   obtain ⟨p,hp⟩: ∃ p,m[k]? =o_ p:=⟨_,Kz hlt⟩
   have hpm:=KA hp;obtain ⟨g,ha,hc⟩:=(HR.I.below HO.I.2) k (i_ j_ p.1) Zdr;subst ha;have oE:=cy.I.size;have kT:=HO.I.2.size;have ut:cF wr b m:=HM.I.1.below (cy.I.trans (HO.I.2.mono oE));have hlk:=ut.look underlying70 (vU wr) (HM.I.2 p hpm) false;rw [jI ut.2 hpm] at hlk;have hsw:wr.heap[w.heap.size]? =o_ (c_ #[i_ j_ Me,.map (o_ b)] 72):=(HO.I.2.block _ (J2.1 HS.I).1).trans HS.I;have s1:wr.cell? ⟨w.heap.size,1,n_⟩=o_ (.map (o_ b)):=by simp [World.cell?,hsw]
   have HP:Hid (m[k]? =o_ p):=hp;simp only [qz,dt,J5,if_false] at hlk;clear hp hpm ut hsw;go_wp2_with (at_builtin; refine KD _ rfl _ _ 172 rfl w2.heap.size 174 i0 (p_ n_) 1 8 underlying172 HI.I.1 HI.I.2.1 HI.I.2.2.1 HI.I.2.2.2 rfl (by decide) (s_ a' k cap') k ((m.take k).map fun p=>dt p.2) rfl (HO.I.1.alloc _) ⟨wr.heap.size,0,n_⟩ 1 1 [p_ (o_ ⟨p.2,0,n_⟩)] (by rfl) rfl (KE (cs:= #[p_ (o_ ⟨p.2,0,n_⟩)]) (t:=174) (fr:=(0,0)) (Kj wr _)) Zc3 ZcW (by omega) ZcT ?_; intro v' w5 hown' hgrow hnil jV; obtain ⟨a5,im,rfl,-⟩:=cr hown'; have HN:Hid (w5.ownsRow w2.heap.size 174 1 (s_ a5 (k+1) im) (k+1) ((m.take (k+1)).map fun p=>dt p.2)∧B_ w2.heap.size w2 w5):=⟨by rw [cj HP.I,Kl]; exact hown',(HO.I.2.alloc kT _).grown hgrow ZcT (fun q hq=>(HO.I.1.lt q hq).1)⟩; clear hown' hgrow hnil jV);exact mi
  ·exact m_
theorem vq (mb:Option Nat) (W:w_):k_ J3 140 #[.map mb] W fun e w'=>e=r_ (.func (.func 179) #[] #[p_ (o_ ⟨W.heap.size,0,n_⟩)])∧w'=W.alloc (c_ #[.map mb] 73):=
 (LO (n:=5)).1 (RC Tryz.keysEvent Fence.wide 5 trivial rfl mb W)
theorem pD (Bm b:Nat) (m:df) (W:w_) (hBm:Bm < W.heap.size) (hc:W.cell? ⟨Bm,0,n_⟩=o_ (.map (o_ b))) (h:cF W b m) (hm:m.length≤1048576):
  k_ J3 135 #[.func (.func 179) #[] #[p_ (o_ ⟨Bm,0,n_⟩)]] W fun e w'=> ∃ v:v_,e=r_ v∧w'.ownsRow W.heap.size 2 1 v m.length (m.map fun p=> i_ j_ p.1)∧B_ W.heap.size W w':=by
 have hsz:Maps.size (gA m)=m.length:=size_map m;have hseq:SeqGives Fence.wide 2 J3 179 #[p_ (o_ ⟨Bm,0,n_⟩)] encZ (fun ss=>ss.Perm (intKeys (gA m))) (Maps.size (gA m)) W:=
  RD (ρ:=Tryz.keysEvent_ren) { Tryz.keysEvent with } Fence.wide _ trivial rfl (by omega) Bm b m.length (gA m) W hBm hc h.1
 have cS:=RE Tryz.sortedA Fence.wide 5 trivial trivial trivial trivial rfl (by omega) (Tryz.sortsA _) (LP func176 ZcS rfl) 179 #[p_ (o_ ⟨Bm,0,n_⟩)] trivial (LP func179 ZcS rfl) _ _ Zdb Zds _ hseq
 exact iv
theorem zk:(Tryz.prog.info? 177).map (fun i=>(i.zero,i.size,i.bytes))=o_ (o_ (p_ n_),1,8):=by kernel_rfl
theorem yh (Me:Int) (b:Nat) (m:df) (w:w_) (h:cF w b m) (hm:m.length≤1048576) (hwf: ∀ p∈m,(Lit.int j_ p.1).wf=true):
  k_ J3 106 #[a_ #[i_ j_ Me,.map (o_ b)]] w fun e w'=> ∃ a cap,e=r_ (s_ a m.length cap)∧w'.ownsRow w.heap.size 177 1 (s_ a m.length cap) m.length (m.map fun p=>dt p.2)∧B_ w.heap.size w w':=by
 obtain ⟨i0,hi,e0⟩:=Kw.1 zk;simp only [Kx] at e0;have HI:Hid (Tryz.prog.info? 177=o_ i0∧i0.zero=o_ (p_ n_)∧i0.size=1∧i0.bytes=8):=⟨hi,e0⟩
 have HM:Hid (cF w b m∧ ∀ p∈m,(Lit.int j_ p.1).wf=true):=⟨h,hwf⟩
 have hbl:b < w.heap.size:=h.lt;clear hi e0 h hwf
 go_enter func106,ntmps106
 go_wp2_with (go_at_call 140; refine (vq _ _).mono ?_; rintro e w' ⟨rfl,rfl⟩);refine (pD (w.heap.size+1) b m _ (by simp) (by simp) (HM.I.1.below (((Kp _ w).alloc (Ki _) _).alloc (by simp) _)) hm).mono ?_;rintro e w2 ⟨v,rfl,hown,hb2⟩;have cy:Hid (B_ w.heap.size w w2):=(((Kp _ w).alloc (Ki _) _).alloc (by simp) _).trans (hb2.mono ZcT);have HS:Hid (w2.heap[w.heap.size]? =o_ (c_ #[i_ j_ Me,.map (o_ b)] 75)):=(hb2.block _ ZcT).trans ((PU (by simp)).trans (Kj _ _));obtain ⟨a,cap,hv,hrow⟩:=cr hown;have HR:Hid (Row w2 a (m.map fun p=> i_ j_ p.1)):=hrow;rw [hv];clear hv hown hrow hb2 v;go_wp2_with fail
 go_loopw [3,11] (fun l i wr=> ∃ k:Nat,k≤m.length∧i=i_ j_ k∧ ∃ a' cap',l=s_ a' k cap'∧Hid (wr.ownsRow w2.heap.size 177 1 (s_ a' k cap') k ((m.take k).map fun p=>dt p.2)∧B_ w2.heap.size w2 wr)) (fun _ i _=>m.length - (intOf i).toNat)
 case atStart=>exact ⟨0,Ky _,rfl,n_,0,rfl,⟨Ke _ _ _ _,Kp _ _⟩⟩
 case round=>
  obtain ⟨k,hk,rfl,a',cap',rfl,HO⟩:=hrel;by_cases hlt:k < m.length
  ·have qE:(0:Int)≤(k:Int):=by omega
   have i1:(k:Int) < (m.length:Int):=by omega
   obtain ⟨p,hp⟩: ∃ p,m[k]? =o_ p:=⟨_,Kz hlt⟩
   have hpm:=KA hp;obtain ⟨g,ha,hc⟩:=(HR.I.below HO.I.2) k (i_ j_ p.1) Zdr;subst ha;have oE:=cy.I.size;have kT:=HO.I.2.size;have ut:cF wr b m:=HM.I.1.below (cy.I.trans (HO.I.2.mono oE));have hlk:=ut.look underlying73 (rE wr) (HM.I.2 p hpm) false;rw [jI ut.2 hpm] at hlk;have hsw:wr.heap[w.heap.size]? =o_ (c_ #[i_ j_ Me,.map (o_ b)] 75):=(HO.I.2.block _ (J2.1 HS.I).1).trans HS.I;have s1:wr.cell? ⟨w.heap.size,1,n_⟩=o_ (.map (o_ b)):=by simp [World.cell?,hsw]
   have HP:Hid (m[k]? =o_ p):=hp;simp only [qz,dt,J5,if_false] at hlk;clear hp hpm ut hsw;go_wp2_with (at_builtin; refine KD _ rfl _ _ 175 rfl w2.heap.size 177 i0 (p_ n_) 1 8 underlying175 HI.I.1 HI.I.2.1 HI.I.2.2.1 HI.I.2.2.2 rfl (by decide) (s_ a' k cap') k ((m.take k).map fun p=>dt p.2) rfl (HO.I.1.alloc _) ⟨wr.heap.size,0,n_⟩ 1 1 [p_ (o_ ⟨p.2,0,n_⟩)] (by rfl) rfl (KE (cs:= #[p_ (o_ ⟨p.2,0,n_⟩)]) (t:=177) (fr:=(0,0)) (Kj wr _)) Zc3 ZcW (by omega) ZcT ?_; intro v' w5 hown' hgrow hnil jV; obtain ⟨a5,im,rfl,-⟩:=cr hown'; have HN:Hid (w5.ownsRow w2.heap.size 177 1 (s_ a5 (k+1) im) (k+1) ((m.take (k+1)).map fun p=>dt p.2)∧B_ w2.heap.size w2 w5):=⟨by rw [cj HP.I,Kl]; exact hown',(HO.I.2.alloc kT _).grown hgrow ZcT (fun q hq=>(HO.I.1.lt q hq).1)⟩; clear hown' hgrow hnil jV);exact mi
  ·exact m_
theorem vL (mb:Option Nat) (W:w_):k_ J3 141 #[.map mb] W fun e w'=>e=r_ (.func (.func 180) #[] #[p_ (o_ ⟨W.heap.size,0,n_⟩)])∧w'=W.alloc (c_ #[.map mb] 76):=
 (LO (n:=5)).1 (RC Tryz.keysBoard Fence.wide 5 trivial rfl mb W)
theorem pB (Bm b:Nat) (m:df) (W:w_) (hBm:Bm < W.heap.size) (hc:W.cell? ⟨Bm,0,n_⟩=o_ (.map (o_ b))) (h:cF W b m) (hm:m.length≤1048576):
  k_ J3 135 #[.func (.func 180) #[] #[p_ (o_ ⟨Bm,0,n_⟩)]] W fun e w'=> ∃ v:v_,e=r_ v∧w'.ownsRow W.heap.size 2 1 v m.length (m.map fun p=> i_ j_ p.1)∧B_ W.heap.size W w':=by
 have hsz:Maps.size (gA m)=m.length:=size_map m;have hseq:SeqGives Fence.wide 2 J3 180 #[p_ (o_ ⟨Bm,0,n_⟩)] encZ (fun ss=>ss.Perm (intKeys (gA m))) (Maps.size (gA m)) W:=
  RD (ρ:=Tryz.keysBoard_ren) { Tryz.keysBoard with } Fence.wide _ trivial rfl (by omega) Bm b m.length (gA m) W hBm hc h.1
 have cS:=RE Tryz.sortedA Fence.wide 5 trivial trivial trivial trivial rfl (by omega) (Tryz.sortsA _) (LP func176 ZcS rfl) 180 #[p_ (o_ ⟨Bm,0,n_⟩)] trivial (LP func180 ZcS rfl) _ _ Zdb Zds _ hseq
 exact iv
theorem zM:(Tryz.prog.info? 180).map (fun i=>(i.zero,i.size,i.bytes))=o_ (o_ (p_ n_),1,8):=by kernel_rfl
theorem yB (Me:Int) (b:Nat) (m:df) (w:w_) (h:cF w b m) (hm:m.length≤1048576) (hwf: ∀ p∈m,(Lit.int j_ p.1).wf=true):
  k_ J3 107 #[a_ #[i_ j_ Me,.map (o_ b)]] w fun e w'=> ∃ a cap,e=r_ (s_ a m.length cap)∧w'.ownsRow w.heap.size 180 1 (s_ a m.length cap) m.length (m.map fun p=>dt p.2)∧B_ w.heap.size w w':=by
 obtain ⟨i0,hi,e0⟩:=Kw.1 zM;simp only [Kx] at e0;have HI:Hid (Tryz.prog.info? 180=o_ i0∧i0.zero=o_ (p_ n_)∧i0.size=1∧i0.bytes=8):=⟨hi,e0⟩
 have HM:Hid (cF w b m∧ ∀ p∈m,(Lit.int j_ p.1).wf=true):=⟨h,hwf⟩
 have hbl:b < w.heap.size:=h.lt;clear hi e0 h hwf
 go_enter func107,ntmps107
 go_wp2_with (go_at_call 141; refine (vL _ _).mono ?_; rintro e w' ⟨rfl,rfl⟩);refine (pB (w.heap.size+1) b m _ (by simp) (by simp) (HM.I.1.below (((Kp _ w).alloc (Ki _) _).alloc (by simp) _)) hm).mono ?_;rintro e w2 ⟨v,rfl,hown,hb2⟩;have cy:Hid (B_ w.heap.size w w2):=(((Kp _ w).alloc (Ki _) _).alloc (by simp) _).trans (hb2.mono ZcT);have HS:Hid (w2.heap[w.heap.size]? =o_ (c_ #[i_ j_ Me,.map (o_ b)] 78)):=(hb2.block _ ZcT).trans ((PU (by simp)).trans (Kj _ _));obtain ⟨a,cap,hv,hrow⟩:=cr hown;have HR:Hid (Row w2 a (m.map fun p=> i_ j_ p.1)):=hrow;rw [hv];clear hv hown hrow hb2 v;go_wp2_with fail
 go_loopw [3,11] (fun l i wr=> ∃ k:Nat,k≤m.length∧i=i_ j_ k∧ ∃ a' cap',l=s_ a' k cap'∧Hid (wr.ownsRow w2.heap.size 180 1 (s_ a' k cap') k ((m.take k).map fun p=>dt p.2)∧B_ w2.heap.size w2 wr)) (fun _ i _=>m.length - (intOf i).toNat)
 case atStart=>exact ⟨0,Ky _,rfl,n_,0,rfl,⟨Ke _ _ _ _,Kp _ _⟩⟩
 case round=>
  obtain ⟨k,hk,rfl,a',cap',rfl,HO⟩:=hrel;by_cases hlt:k < m.length
  ·have qE:(0:Int)≤(k:Int):=by omega
   have i1:(k:Int) < (m.length:Int):=by omega
   obtain ⟨p,hp⟩: ∃ p,m[k]? =o_ p:=⟨_,Kz hlt⟩
   have hpm:=KA hp;obtain ⟨g,ha,hc⟩:=(HR.I.below HO.I.2) k (i_ j_ p.1) Zdr;subst ha;have oE:=cy.I.size;have kT:=HO.I.2.size;have ut:cF wr b m:=HM.I.1.below (cy.I.trans (HO.I.2.mono oE));have hlk:=ut.look underlying76 (qW wr) (HM.I.2 p hpm) false;rw [jI ut.2 hpm] at hlk;have hsw:wr.heap[w.heap.size]? =o_ (c_ #[i_ j_ Me,.map (o_ b)] 78):=(HO.I.2.block _ (J2.1 HS.I).1).trans HS.I;have s1:wr.cell? ⟨w.heap.size,1,n_⟩=o_ (.map (o_ b)):=by simp [World.cell?,hsw]
   have HP:Hid (m[k]? =o_ p):=hp;simp only [qz,dt,J5,if_false] at hlk;clear hp hpm ut hsw;go_wp2_with (at_builtin; refine KD _ rfl _ _ 178 rfl w2.heap.size 180 i0 (p_ n_) 1 8 underlying178 HI.I.1 HI.I.2.1 HI.I.2.2.1 HI.I.2.2.2 rfl (by decide) (s_ a' k cap') k ((m.take k).map fun p=>dt p.2) rfl (HO.I.1.alloc _) ⟨wr.heap.size,0,n_⟩ 1 1 [p_ (o_ ⟨p.2,0,n_⟩)] (by rfl) rfl (KE (cs:= #[p_ (o_ ⟨p.2,0,n_⟩)]) (t:=180) (fr:=(0,0)) (Kj wr _)) Zc3 ZcW (by omega) ZcT ?_; intro v' w5 hown' hgrow hnil jV; obtain ⟨a5,im,rfl,-⟩:=cr hown'; have HN:Hid (w5.ownsRow w2.heap.size 180 1 (s_ a5 (k+1) im) (k+1) ((m.take (k+1)).map fun p=>dt p.2)∧B_ w2.heap.size w2 w5):=⟨by rw [cj HP.I,Kl]; exact hown',(HO.I.2.alloc kT _).grown hgrow ZcT (fun q hq=>(HO.I.1.lt q hq).1)⟩; clear hown' hgrow hnil jV);exact mi
  ·exact m_
theorem tr (mb:Option Nat) (W:w_):k_ J3 142 #[.map mb] W fun e w'=>e=r_ (.func (.func 181) #[] #[p_ (o_ ⟨W.heap.size,0,n_⟩)])∧w'=W.alloc (c_ #[.map mb] 79):=
 (LO (n:=5)).1 (RC Tryz.keysBuffer Fence.wide 5 trivial rfl mb W)
theorem oF (Bm b:Nat) (m:df) (W:w_) (hBm:Bm < W.heap.size) (hc:W.cell? ⟨Bm,0,n_⟩=o_ (.map (o_ b))) (h:cF W b m) (hm:m.length≤1048576):
  k_ J3 135 #[.func (.func 181) #[] #[p_ (o_ ⟨Bm,0,n_⟩)]] W fun e w'=> ∃ v:v_,e=r_ v∧w'.ownsRow W.heap.size 2 1 v m.length (m.map fun p=> i_ j_ p.1)∧B_ W.heap.size W w':=by
 have hsz:Maps.size (gA m)=m.length:=size_map m;have hseq:SeqGives Fence.wide 2 J3 181 #[p_ (o_ ⟨Bm,0,n_⟩)] encZ (fun ss=>ss.Perm (intKeys (gA m))) (Maps.size (gA m)) W:=
  RD (ρ:=Tryz.keysBuffer_ren) { Tryz.keysBuffer with } Fence.wide _ trivial rfl (by omega) Bm b m.length (gA m) W hBm hc h.1
 have cS:=RE Tryz.sortedA Fence.wide 5 trivial trivial trivial trivial rfl (by omega) (Tryz.sortsA _) (LP func176 ZcS rfl) 181 #[p_ (o_ ⟨Bm,0,n_⟩)] trivial (LP func181 ZcS rfl) _ _ Zdb Zds _ hseq
 exact iv
theorem wt:(Tryz.prog.info? 168).map (fun i=>(i.zero,i.size,i.bytes))=o_ (o_ (p_ n_),1,8):=by kernel_rfl
theorem wF (Me:Int) (b:Nat) (m:df) (w:w_) (h:cF w b m) (hm:m.length≤1048576) (hwf: ∀ p∈m,(Lit.int j_ p.1).wf=true):
  k_ J3 108 #[a_ #[i_ j_ Me,.map (o_ b)]] w fun e w'=> ∃ a cap,e=r_ (s_ a m.length cap)∧w'.ownsRow w.heap.size 168 1 (s_ a m.length cap) m.length (m.map fun p=>dt p.2)∧B_ w.heap.size w w':=by
 obtain ⟨i0,hi,e0⟩:=Kw.1 wt;simp only [Kx] at e0;have HI:Hid (Tryz.prog.info? 168=o_ i0∧i0.zero=o_ (p_ n_)∧i0.size=1∧i0.bytes=8):=⟨hi,e0⟩
 have HM:Hid (cF w b m∧ ∀ p∈m,(Lit.int j_ p.1).wf=true):=⟨h,hwf⟩
 have hbl:b < w.heap.size:=h.lt;clear hi e0 h hwf
 go_enter func108,ntmps108
 go_wp2_with (go_at_call 142; refine (tr _ _).mono ?_; rintro e w' ⟨rfl,rfl⟩);refine (oF (w.heap.size+1) b m _ (by simp) (by simp) (HM.I.1.below (((Kp _ w).alloc (Ki _) _).alloc (by simp) _)) hm).mono ?_;rintro e w2 ⟨v,rfl,hown,hb2⟩;have cy:Hid (B_ w.heap.size w w2):=(((Kp _ w).alloc (Ki _) _).alloc (by simp) _).trans (hb2.mono ZcT);have HS:Hid (w2.heap[w.heap.size]? =o_ (c_ #[i_ j_ Me,.map (o_ b)] 81)):=(hb2.block _ ZcT).trans ((PU (by simp)).trans (Kj _ _));obtain ⟨a,cap,hv,hrow⟩:=cr hown;have HR:Hid (Row w2 a (m.map fun p=> i_ j_ p.1)):=hrow;rw [hv];clear hv hown hrow hb2 v;go_wp2_with fail
 go_loopw [3,11] (fun l i wr=> ∃ k:Nat,k≤m.length∧i=i_ j_ k∧ ∃ a' cap',l=s_ a' k cap'∧Hid (wr.ownsRow w2.heap.size 168 1 (s_ a' k cap') k ((m.take k).map fun p=>dt p.2)∧B_ w2.heap.size w2 wr)) (fun _ i _=>m.length - (intOf i).toNat)
 case atStart=>exact ⟨0,Ky _,rfl,n_,0,rfl,⟨Ke _ _ _ _,Kp _ _⟩⟩
 case round=>
  obtain ⟨k,hk,rfl,a',cap',rfl,HO⟩:=hrel;by_cases hlt:k < m.length
  ·have qE:(0:Int)≤(k:Int):=by omega
   have i1:(k:Int) < (m.length:Int):=by omega
   obtain ⟨p,hp⟩: ∃ p,m[k]? =o_ p:=⟨_,Kz hlt⟩
   have hpm:=KA hp;obtain ⟨g,ha,hc⟩:=(HR.I.below HO.I.2) k (i_ j_ p.1) Zdr;subst ha;have oE:=cy.I.size;have kT:=HO.I.2.size;have ut:cF wr b m:=HM.I.1.below (cy.I.trans (HO.I.2.mono oE));have hlk:=ut.look underlying79 (pS wr) (HM.I.2 p hpm) false;rw [jI ut.2 hpm] at hlk;have hsw:wr.heap[w.heap.size]? =o_ (c_ #[i_ j_ Me,.map (o_ b)] 81):=(HO.I.2.block _ (J2.1 HS.I).1).trans HS.I;have s1:wr.cell? ⟨w.heap.size,1,n_⟩=o_ (.map (o_ b)):=by simp [World.cell?,hsw]
   have HP:Hid (m[k]? =o_ p):=hp;simp only [qz,dt,J5,if_false] at hlk;clear hp hpm ut hsw;go_wp2_with (at_builtin; refine KD _ rfl _ _ 181 rfl w2.heap.size 168 i0 (p_ n_) 1 8 underlying181 HI.I.1 HI.I.2.1 HI.I.2.2.1 HI.I.2.2.2 rfl (by decide) (s_ a' k cap') k ((m.take k).map fun p=>dt p.2) rfl (HO.I.1.alloc _) ⟨wr.heap.size,0,n_⟩ 1 1 [p_ (o_ ⟨p.2,0,n_⟩)] (by rfl) rfl (KE (cs:= #[p_ (o_ ⟨p.2,0,n_⟩)]) (t:=168) (fr:=(0,0)) (Kj wr _)) Zc3 ZcW (by omega) ZcT ?_; intro v' w5 hown' hgrow hnil jV; obtain ⟨a5,im,rfl,-⟩:=cr hown'; have HN:Hid (w5.ownsRow w2.heap.size 168 1 (s_ a5 (k+1) im) (k+1) ((m.take (k+1)).map fun p=>dt p.2)∧B_ w2.heap.size w2 w5):=⟨by rw [cj HP.I,Kl]; exact hown',(HO.I.2.alloc kT _).grown hgrow ZcT (fun q hq=>(HO.I.1.lt q hq).1)⟩; clear hown' hgrow hnil jV);exact mi
  ·exact m_
theorem wq (mb:Option Nat) (W:w_):k_ J3 143 #[.map mb] W fun e w'=>e=r_ (.func (.func 182) #[] #[p_ (o_ ⟨W.heap.size,0,n_⟩)])∧w'=W.alloc (c_ #[.map mb] 82):=
 (LO (n:=5)).1 (RC Tryz.keysPort Fence.wide 5 trivial rfl mb W)
theorem pY (Bm b:Nat) (m:df) (W:w_) (hBm:Bm < W.heap.size) (hc:W.cell? ⟨Bm,0,n_⟩=o_ (.map (o_ b))) (h:cF W b m) (hm:m.length≤1048576):
  k_ J3 135 #[.func (.func 182) #[] #[p_ (o_ ⟨Bm,0,n_⟩)]] W fun e w'=> ∃ v:v_,e=r_ v∧w'.ownsRow W.heap.size 2 1 v m.length (m.map fun p=> i_ j_ p.1)∧B_ W.heap.size W w':=by
 have hsz:Maps.size (gA m)=m.length:=size_map m;have hseq:SeqGives Fence.wide 2 J3 182 #[p_ (o_ ⟨Bm,0,n_⟩)] encZ (fun ss=>ss.Perm (intKeys (gA m))) (Maps.size (gA m)) W:=
  RD (ρ:=Tryz.keysPort_ren) { Tryz.keysPort with } Fence.wide _ trivial rfl (by omega) Bm b m.length (gA m) W hBm hc h.1
 have cS:=RE Tryz.sortedA Fence.wide 5 trivial trivial trivial trivial rfl (by omega) (Tryz.sortsA _) (LP func176 ZcS rfl) 182 #[p_ (o_ ⟨Bm,0,n_⟩)] trivial (LP func182 ZcS rfl) _ _ Zdb Zds _ hseq
 exact iv
theorem BK:(Tryz.prog.info? 169).map (fun i=>(i.zero,i.size,i.bytes))=o_ (o_ (p_ n_),1,8):=by kernel_rfl
theorem Bx (Me:Int) (b:Nat) (m:df) (w:w_) (h:cF w b m) (hm:m.length≤1048576) (hwf: ∀ p∈m,(Lit.int j_ p.1).wf=true):
  k_ J3 109 #[a_ #[i_ j_ Me,.map (o_ b)]] w fun e w'=> ∃ a cap,e=r_ (s_ a m.length cap)∧w'.ownsRow w.heap.size 169 1 (s_ a m.length cap) m.length (m.map fun p=>dt p.2)∧B_ w.heap.size w w':=by
 obtain ⟨i0,hi,e0⟩:=Kw.1 BK;simp only [Kx] at e0;have HI:Hid (Tryz.prog.info? 169=o_ i0∧i0.zero=o_ (p_ n_)∧i0.size=1∧i0.bytes=8):=⟨hi,e0⟩
 have HM:Hid (cF w b m∧ ∀ p∈m,(Lit.int j_ p.1).wf=true):=⟨h,hwf⟩
 have hbl:b < w.heap.size:=h.lt;clear hi e0 h hwf
 go_enter func109,ntmps109
 go_wp2_with (go_at_call 143; refine (wq _ _).mono ?_; rintro e w' ⟨rfl,rfl⟩);refine (pY (w.heap.size+1) b m _ (by simp) (by simp) (HM.I.1.below (((Kp _ w).alloc (Ki _) _).alloc (by simp) _)) hm).mono ?_;rintro e w2 ⟨v,rfl,hown,hb2⟩;have cy:Hid (B_ w.heap.size w w2):=(((Kp _ w).alloc (Ki _) _).alloc (by simp) _).trans (hb2.mono ZcT);have HS:Hid (w2.heap[w.heap.size]? =o_ (c_ #[i_ j_ Me,.map (o_ b)] 84)):=(hb2.block _ ZcT).trans ((PU (by simp)).trans (Kj _ _));obtain ⟨a,cap,hv,hrow⟩:=cr hown;have HR:Hid (Row w2 a (m.map fun p=> i_ j_ p.1)):=hrow;rw [hv];clear hv hown hrow hb2 v;go_wp2_with fail
 go_loopw [3,11] (fun l i wr=> ∃ k:Nat,k≤m.length∧i=i_ j_ k∧ ∃ a' cap',l=s_ a' k cap'∧Hid (wr.ownsRow w2.heap.size 169 1 (s_ a' k cap') k ((m.take k).map fun p=>dt p.2)∧B_ w2.heap.size w2 wr)) (fun _ i _=>m.length - (intOf i).toNat)
 case atStart=>exact ⟨0,Ky _,rfl,n_,0,rfl,⟨Ke _ _ _ _,Kp _ _⟩⟩
 case round=>
  obtain ⟨k,hk,rfl,a',cap',rfl,HO⟩:=hrel;by_cases hlt:k < m.length
  ·have qE:(0:Int)≤(k:Int):=by omega
   have i1:(k:Int) < (m.length:Int):=by omega
   obtain ⟨p,hp⟩: ∃ p,m[k]? =o_ p:=⟨_,Kz hlt⟩
   have hpm:=KA hp;obtain ⟨g,ha,hc⟩:=(HR.I.below HO.I.2) k (i_ j_ p.1) Zdr;subst ha;have oE:=cy.I.size;have kT:=HO.I.2.size;have ut:cF wr b m:=HM.I.1.below (cy.I.trans (HO.I.2.mono oE));have hlk:=ut.look underlying82 (sK wr) (HM.I.2 p hpm) false;rw [jI ut.2 hpm] at hlk;have hsw:wr.heap[w.heap.size]? =o_ (c_ #[i_ j_ Me,.map (o_ b)] 84):=(HO.I.2.block _ (J2.1 HS.I).1).trans HS.I;have s1:wr.cell? ⟨w.heap.size,1,n_⟩=o_ (.map (o_ b)):=by simp [World.cell?,hsw]
   have HP:Hid (m[k]? =o_ p):=hp;simp only [qz,dt,J5,if_false] at hlk;clear hp hpm ut hsw;go_wp2_with (at_builtin; refine KD _ rfl _ _ 183 rfl w2.heap.size 169 i0 (p_ n_) 1 8 underlying183 HI.I.1 HI.I.2.1 HI.I.2.2.1 HI.I.2.2.2 rfl (by decide) (s_ a' k cap') k ((m.take k).map fun p=>dt p.2) rfl (HO.I.1.alloc _) ⟨wr.heap.size,0,n_⟩ 1 1 [p_ (o_ ⟨p.2,0,n_⟩)] (by rfl) rfl (KE (cs:= #[p_ (o_ ⟨p.2,0,n_⟩)]) (t:=169) (fr:=(0,0)) (Kj wr _)) Zc3 ZcW (by omega) ZcT ?_; intro v' w5 hown' hgrow hnil jV; obtain ⟨a5,im,rfl,-⟩:=cr hown'; have HN:Hid (w5.ownsRow w2.heap.size 169 1 (s_ a5 (k+1) im) (k+1) ((m.take (k+1)).map fun p=>dt p.2)∧B_ w2.heap.size w2 w5):=⟨by rw [cj HP.I,Kl]; exact hown',(HO.I.2.alloc kT _).grown hgrow ZcT (fun q hq=>(HO.I.1.lt q hq).1)⟩; clear hown' hgrow hnil jV);exact mi
  ·exact m_
end
section
open Go.RowKit Go.Maps
def sU {α:Type} (c:Nat) (f:α→α) (l:List (α × Nat)):List (α × Nat):=l.map fun p=>if p.2=c then (f p.1,p.2) else p
section
variable {α:Type} {vs:α→Array Value} {num:α→Int} {T:TypeId}
theorem qb (c:Nat) (f:α→α) (l:List (α × Nat)):(sU c f l).map (·.2)=l.map (·.2):=by
 simp only [sU,Lv];refine Lw fun p _=> ?_
 simp only [Function.comp]
 split <;> rfl
theorem Al {c:Nat} {f:α→α} {l:List (α × Nat)} (h: ∀ p∈l,p.2=c→num (f p.1)=num p.1):RW num (sU c f l)=RW num l:=by
 simp only [RW,sU,Lv];refine Lw fun p hp=> ?_
 simp only [Function.comp]
 split
 ·rename_i e
  simp only [h p hp e]
 ·rfl
theorem yy {c:Nat} {f:α→α} {l:List (α × Nat)} {p:α × Nat} :p∈sU c f l↔ ∃ q∈l,(if q.2=c then (f q.1,q.2) else q)=p:=by simp only [sU,Lr]
theorem ke {c:Nat} {f:α→α} {l:List (α × Nat)} {p:α × Nat} (h: ¬ p.2=c):p∈sU c f l↔p∈l:=by
 rw [yy];constructor
 ·rintro ⟨q,hq,rfl⟩
  split at h
  ·rename_i e; exact absurd e h
  ·rename_i e; rw [if_neg e]; exact hq
 ·intro hp
  exact ⟨p,hp,if_neg h⟩
theorem lI {c:Nat} {f:α→α} {l:List (α × Nat)} {p:α × Nat} (h:p.2=c):p∈sU c f l↔ ∃ q∈l,q.2=c∧p=(f q.1,q.2):=by
 rw [yy];constructor
 ·rintro ⟨q,hq,rfl⟩
  by_cases e:q.2=c
  ·exact ⟨q,hq,e,by rw [if_pos e]⟩
  ·rw [if_neg e] at h; exact absurd h e
 ·rintro ⟨q,hq,e,rfl⟩
  exact ⟨q,hq,if_pos e⟩
theorem Shelf.sU {w w':World} {base b c:Nat} {l:List (α × Nat)} {f:α→α} (h:Shelf vs num T w base b l) (hn: ∀ p∈l,p.2=c→num (f p.1)=num p.1) (hc: ∀ p∈l,p.2=c→w'.heap[c]? =some (.cells (vs (f p.1)) T (0,0)))
  (hb:w'.heap[b]? =w.heap[b]?) (hs: ∀ g∈l.map (·.2),¬ g=c→w'.heap[g]? =w.heap[g]?):Shelf vs num T w' base b (YtfncpmaefninjaaGreatDoor.sU c f l):=by
 refine ⟨?_,fun p hp=> ?_,?_,?_⟩
 ·rw [Al hn]
  exact h.map.same hb
 ·by_cases e:p.2=c
  ·obtain ⟨q,hq,Hv,rfl⟩:=(lI e).1 hp
   have:=hc q hq Hv
   rw [← Hv] at this;exact this
  ·have hp':=(ke e).1 hp
   exact (hs p.2 (Lr.2 ⟨p,hp',rfl⟩) e).trans (h.box p hp')
 ·rw [qb]; exact h.nodup
 ·rw [qb]; exact h.low
theorem Shelf.one {w:World} {base b:Nat} {l:List (α × Nat)} (h:Shelf vs num T w base b l) {p p':α × Nat} (hp:p∈l) (hp':p'∈l) (e:p.2=p'.2):p=p':=by
 have hn:=(Lp.1 h.nodup).2;clear h
 induction l with
 | nil=>cases hp
 | cons y r ih=>
  rw [Lt,Lp] at hn;rcases Kt.1 hp with rfl | h1
  ·rcases Kt.1 hp' with rfl | h2
   ·rfl
   ·exact absurd (Lr.2 ⟨p',h2,e.symm⟩) hn.1
  ·rcases Kt.1 hp' with rfl | h2
   ·exact absurd (Lr.2 ⟨p,h1,e⟩) hn.1
   ·exact ih h1 h2 hn.2
theorem Shelf.ne {w:World} {base b:Nat} {l:List (α × Nat)} (h:Shelf vs num T w base b l) {p:α × Nat} (hp:p∈l): ¬ p.2=b:=fun e=>
 (Lp.1 h.nodup).1 (Lr.2 ⟨p,hp,e⟩)
end
theorem br {P:Program} (w:World) {ops:Array Oper} {rest:List Oper} {o:Oper} {a:Act} {Q:Exit→Act→World→Prop} (hgd:o.guard=none) (s x:Operand) (t:TypeId)
  (ho:o.op= .call { callee:= .builtin .append,args:= #[s,x],argTypes:= #[t,t] }) (v u r:Value) (w':World) (hs:a.eval s=v) (hx:a.eval x=u) (hr:(Builtin.append_ #[t,t] o.type #[v,u]).run P w= .ok r w')
  (h:wpList P ops Q rest (a.put o.dst r) w'):wpList P ops Q (o :: rest) a w:=by
 refine wpList_plain hgd fun K hK=> ?_
 unfold Oper.wp execOp;simp only [ho,resolve,invoke,builtin,Sem.run_bind,Sem.run_pure,Result.andThen_ok,List.map_toArray,Lt,List.map_nil,hs,hx,hr];exact hK _ _ h
structure gd (α:Type) where
 vs:α→Array Value
 num:α→Int
 T:TypeId
 e:TypeId
 size:Nat
 ad:α→Option Addr
 cap:α→Nat
 len:α→Nat
 flat:α→List Value
 set:α→Option Addr→Nat→α
 yE: ∀ x a c,num (set x a c)=num x
 Jd: ∀ x a c,len (set x a c)=len x
 Hl: ∀ x a c,flat (set x a c)=flat x
 ad_set: ∀ x a c,ad (set x a c)=a
 Iu: ∀ x a c,cap (set x a c)=c
 set_set: ∀ x a c a' c',set (set x a c) a' c'=set x a' c'
section
variable {α:Type} (N:gd α)
def gd.bt (x:α):Option Nat:=(N.ad x).map (·.block)
def gd.cO (w:World) (base:Nat) (x:α):Prop:=w.ownsRow base N.e N.size (.slice (N.ad x) (N.len x) (N.cap x)) (N.len x) (N.flat x)
variable {N}
theorem gd.cO.same {w w':World} {base:Nat} {x:α} (h:N.cO w base x) (hs: ∀ g,N.bt x=some g→w'.heap[g]? =w.heap[g]?):N.cO w' base x:=by
 obtain ⟨hl,h2⟩:=h;refine ⟨hl,?_⟩;rcases h2 with h2 | ⟨g,cap,cur,hv,hb,hg,r⟩
 ·exact .inl h2
 ·have hk:N.bt x=some g:=by
   simp only [LD] at hv;simp [gd.bt,hv.1]
  exact .inr ⟨g,cap,cur,hv,hb,(hs g hk).trans hg,r⟩
theorem gd.cO.lt {w:World} {base:Nat} {x:α} (h:N.cO w base x) {g:Nat} (hk:N.bt x=some g):base≤g∧g < w.heap.size:=by
 rcases h.2 with ⟨hv,-⟩ | ⟨g',cap,cur,hv,hb,hg,r⟩
 ·simp only [LD] at hv
  simp [gd.bt,hv.1] at hk
 ·simp only [LD] at hv
  simp only [gd.bt,hv.1,J9,LF] at hk;subst hk;exact ⟨hb,(J2.1 hg).1⟩
theorem gd.cO.low {w:World} {base base':Nat} {x:α} (h:N.cO w base x) (hb:base'≤base):N.cO w base' x:=cq h hb
theorem gd.cO.row {w:World} {base:Nat} {x:α} (h:N.cO w base x):Row w (N.ad x) (N.flat x):=by
 obtain ⟨a,cap,e,hr⟩:=cr h;simp only [LD] at e;rw [e.1];exact hr
theorem gd.rJ {w:World} {base:Nat} {x:α} {a:Option Addr} {c:Nat} (h:w.ownsRow base N.e N.size (.slice a (N.len x) c) (N.len x) (N.flat x)):N.cO w base (N.set x a c):=by
 unfold gd.cO;rw [N.ad_set,N.Jd,N.Iu,N.Hl];exact h
variable (N) in
structure fS (w0 wr:World) (base b:Nat) (l l':List (α × Nat)) (left:Lit→Bool):Prop where
 eh:Shelf N.vs N.num N.T wr base b l'
 alike:l'.map (fun p=>(N.set p.1 none 0,p.2))=l.map (fun p=>(N.set p.1 none 0,p.2))
 own: ∀ p∈l',left (.int .i64 (N.num p.1))=false→N.cO wr w0.heap.size p.1
 old: ∀ p∈l',left (.int .i64 (N.num p.1))=true→p∈l
 apart: ∀ p∈l',∀ p'∈l',left (.int .i64 (N.num p.1))=false→left (.int .i64 (N.num p'.1))=false→ ∀ g,N.bt p.1=some g→N.bt p'.1=some g→p.2=p'.2
 os:wr.os=w0.os
 tape:wr.tape=w0.tape
 output:wr.output=w0.output
 size:w0.heap.size≤wr.heap.size
 same: ∀ g,g < w0.heap.size→g∉l.map (·.2)→wr.heap[g]? =w0.heap[g]?
theorem IU (m:df) {p:Int × Nat} (hp:p∈m):Maps.has (gA m) (.int .i64 p.1)=true:=by
 show (m.map nM).any (fun q=>q.1.sameKey (.int .i64 p.1))=true
 rw [List.any_eq_true];refine ⟨nM p,Lr.2 ⟨p,hp,rfl⟩,?_⟩
 have:(nM p).1.sameKey (.int .i64 p.1)=(p.1 == p.1):=kH _ _
 rw [this];simp
theorem fS.start {w0 w1:World} {base b:Nat} {l:List (α × Nat)} (h:Shelf N.vs N.num N.T w0 base b l) (hg:w0.grownBy w1 none):fS N w0 w1 base b l l (Maps.has (gA (RW N.num l))):=by
 have hk: ∀ p∈l,Maps.has (gA (RW N.num l)) (.int .i64 (N.num p.1))=true:=fun p hp=>IU (RW N.num l) (p:=(N.num p.1,p.2)) (Lr.2 ⟨p,hp,rfl⟩)
 refine ⟨h.same fun g hg'=>hg.block g (h.lt g hg') (by simp),rfl,fun p hp e=> ?_,fun p hp _=>hp,fun p hp p' _ e=> ?_,hg.os,hg.tape,hg.output,hg.size,fun g hg' _=>hg.block g hg' (by simp)⟩
 ·rw [hk p hp] at e; cases e
 ·rw [hk p hp] at e; cases e
theorem fS.next {w0 wr w2:World} {base b r:Nat} {l l':List (α × Nat)} {left:Lit→Bool} (h:fS N w0 wr base b l l' left) (hg:wr.grownBy w2 (some r)) (hl: ∀ g∈b :: l.map (·.2),g < w0.heap.size) (hr:w0.heap.size≤r) (iH: ∀ p∈l',left (.int .i64 (N.num p.1))=false→ ¬ N.bt p.1=some r):fS N w0 w2 base b l l' left:=by
 have hbl:l'.map (·.2)=l.map (·.2):=by
  have:=congrArg (List.map (·.2)) h.alike
  exact ZaA
 refine ⟨h.eh.same fun g hg'=>hg.block g (h.eh.lt g hg') (fun e=> ?_),h.alike,fun p hp e=>(h.own p hp e).same fun g hk=>hg.block g ((h.own p hp e).lt hk).2 (fun e'=>iH p hp e (by rw [hk]; exact e')),h.old,h.apart,hg.os.trans h.os,hg.tape.trans h.tape,hg.output.trans h.output,LG h.size hg.size,fun g hg' hn=>(hg.block g (Kn hg' h.size) (fun e=> ?_)).trans (h.same g hg' hn)⟩
 ·rw [hbl] at hg'
  have:=hl g hg'
  have:=KC e
  omega
 ·have:=KC e
  omega
theorem fS.Mc {w0 wr:World} {base b:Nat} {l l':List (α × Nat)} {left:Lit→Bool} (h:fS N w0 wr base b l l' left):l'.map (·.2)=l.map (·.2):=by
 have:=congrArg (List.map (·.2)) h.alike
 exact ZaA
theorem fS.keys {w0 wr:World} {base b:Nat} {l l':List (α × Nat)} {left:Lit→Bool} (h:fS N w0 wr base b l l' left):RW N.num l'=RW N.num l:=by
 have:=congrArg (List.map (fun p=>(N.num p.1,p.2))) h.alike
 simp only [Lv,Ls,N.yE] at this;exact this
theorem fS.step {w0 wr w3 w4:World} {base b:Nat} {l l':List (α × Nat)} {left:Lit→Bool} {p:α × Nat} {a:Option Addr} {cap:Nat} (h:fS N w0 wr base b l l' left) (hl: ∀ g∈b :: l.map (·.2),g < w0.heap.size) (hp:p∈l')
  (ho:w3.ownsRow wr.heap.size N.e N.size (.slice a (N.len p.1) cap) (N.len p.1) (N.flat p.1)) (hg:wr.grownBy w3 none) (hc:w4.heap[p.2]? =some (.cells (N.vs (N.set p.1 a cap)) N.T (0,0))) (hs: ∀ g,¬ g=p.2→w4.heap[g]? =w3.heap[g]?)
  (h1:w4.os=w3.os) (h2:w4.tape=w3.tape) (h3:w4.output=w3.output) (h4:w4.heap.size=w3.heap.size):
  fS N w0 w4 base b l (sU p.2 (fun x=>N.set x a cap) l') (fun z=>left z && !z.sameKey (.int .i64 (N.num p.1))):=by
 have hpl:p.2∈l.map (·.2):=by rw [← h.Mc]; exact Lr.2 ⟨p,hp,rfl⟩
 have hlt:p.2 < w0.heap.size:=hl p.2 (LB _ hpl);have hone: ∀ q∈l',q.2=p.2→q=p:=fun q hq e=>h.eh.one hq hp e
 have hcell: ∀ q∈l',¬ q.2=p.2→ ¬ N.num q.1=N.num p.1:=fun q hq hne e=>hne (by
  have hr:=h.eh.map.2;have a1:=jI hr (p:=(N.num q.1,q.2)) (Lr.2 ⟨q,hq,rfl⟩);have a2:=jI hr (p:=(N.num p.1,p.2)) (Lr.2 ⟨p,hp,rfl⟩);simp only [e] at a1;rw [a1] at a2;exact KC a2)
 have hleft: ∀ q∈l',¬ q.2=p.2→(left (.int .i64 (N.num q.1)) && !(Lit.int .i64 (N.num q.1)).sameKey (.int .i64 (N.num p.1)))=left (.int .i64 (N.num q.1)):=fun q hq hne=>by
  rw [kH];simp [hcell q hq hne]
 have la:N.cO w3 wr.heap.size (N.set p.1 a cap):=gd.rJ ho;have hblk: ∀ g,g < wr.heap.size→ ¬ g=p.2→w4.heap[g]? =wr.heap[g]? :=fun g hg' hne=>(hs g hne).trans (hg.block g hg' (by simp))
 have hkp: ∀ q∈l',left (.int .i64 (N.num q.1))=false→ ∀ g,N.bt q.1=some g→ ¬ g=p.2:=fun q hq e g hk e'=>by
  have:=((h.own q hq e).lt hk).1
  omega
 refine ⟨?_,?_,fun q hq e=> ?_,fun q hq e=> ?_,fun q hq q' hq' e e' g hk hk'=> ?_,h1.trans (hg.os.trans h.os),h2.trans (hg.tape.trans h.tape),h3.trans (hg.output.trans h.output),by rw [h4]; exact LG h.size hg.size,fun g hg' hn=> ?_⟩
 ·refine h.eh.sU (fun q _ _=>N.yE _ _ _) (fun q hq e=> ?_) ?_ fun g hg' hne=>hblk g (h.eh.lt g (LB _ hg')) hne
  ·rw [hone q hq e]; exact hc
  ·exact hblk b h.eh.map.lt (fun e=>h.eh.ne hp e.symm)
 ·rw [← h.alike]
  simp only [sU,Lv];refine Lw fun q _=> ?_
  simp only [Function.comp]
  split
  ·simp only [N.set_set]
  ·rfl
 ·by_cases e0:q.2=p.2
  ·obtain ⟨q0,nu,hq1,rfl⟩:=(lI e0).1 hq
   rw [hone q0 nu hq1];refine (la.low h.size).same fun g hk=>hs g (fun e'=> ?_)
   have:=(la.lt hk).1
   have:=h.size
   omega
  ·have nu:=(ke e0).1 hq
   rw [hleft q nu e0] at e;exact (h.own q nu e).same fun g hk=>hblk g ((h.own q nu e).lt hk).2 (hkp q nu e g hk)
 ·by_cases e0:q.2=p.2
  ·obtain ⟨q0,nu,hq1,rfl⟩:=(lI e0).1 hq
   rw [hone q0 nu hq1] at e;simp only [N.yE] at e;rw [kH] at e;simp at e
  ·have nu:=(ke e0).1 hq
   rw [hleft q nu e0] at e;exact h.old q nu e
 ·by_cases e0:q.2=p.2
  ·by_cases e1:q'.2=p.2
   ·rw [e0,e1]
   ·obtain ⟨q0,nu,hq1,rfl⟩:=(lI e0).1 hq
    have pv:=(ke e1).1 hq';rw [hleft q' pv e1] at e';rw [hone q0 nu hq1] at hk
    have:=((h.own q' pv e').lt hk').2
    have:=(la.lt hk).1
    omega
  ·have nu:=(ke e0).1 hq
   rw [hleft q nu e0] at e;by_cases e1:q'.2=p.2
   ·obtain ⟨q2,pv,IJ,rfl⟩:=(lI e1).1 hq'
    rw [hone q2 pv IJ] at hk'
    have:=((h.own q nu e).lt hk).2
    have:=(la.lt hk').1
    omega
   ·have pv:=(ke e1).1 hq'
    rw [hleft q' pv e1] at e';exact h.apart q nu q' pv e e' g hk hk'
 ·have hne: ¬ g=p.2:=fun e=>hn (by rw [e]; exact hpl)
  exact (hblk g (Kn hg' h.size) hne).trans (h.same g hg' hn)
theorem wz (w:World) (c i:Nat) (v:Value):w.grownBy (w.setCell ⟨c,i,none⟩ v) (some c):=
 ⟨rfl,rfl,rfl,by simp [World.setCell],fun k _ hne=>K6 w _ v k (fun e=>hne (by rw [e]))⟩
theorem fS.pick {w0 wr:World} {base b c:Nat} {l l':List (α × Nat)} {left:Lit→Bool} {x:Int} {kl:Lit} {y:DataW Unit × List MemPlace} (h:fS N w0 wr base b l l' left) (hkey:keyOf J3 2 (.int .i64 x)=some kl) (hv:od (dt c)=some y)
  (hat: ∀ zd,(gA (RW N.num l)).atKey kl zd=y.1): ∃ p∈l',N.num p.1=x∧p.2=c∧kl= .int .i64 x:=by
 obtain ⟨x',e,rfl,-⟩:=keyOf_int_inv Tryz.underlying2 hkey;cases e;obtain ⟨g,e,rfl⟩:=oI hv;have e:g=c:=by
  simp only [dt,Value.pointer.injEq,LF,Addr.mk.injEq] at e;exact e.1.symm
 subst e;have h1:=hat .nil;rw [pk] at h1;cases hl:cz (RW N.num l) x with
 | none=>rw [hl] at h1; cases h1
 | some g'=>
  rw [hl] at h1;simp only [QZ,Lit.int.injEq,Int.natCast_inj,true_and] at h1;subst h1;have hm:=yu hl;rw [← h.keys] at hm;obtain ⟨p,hp,e⟩:=Lr.1 hm;simp only [Kx] at e;exact ⟨p,hp,e.1,e.2,rfl⟩
theorem fS.ju {w0 wr w2 w3:World} {base b r n cnt cnt' i:Nat} {l l':List (α × Nat)} {left:Lit→Bool} {D:DataW Unit} {p:α × Nat} {a:Option Addr} {cap:Nat} (h:fS N w0 wr base b l l' left) (hrg:wr.ranges J3 2 od b r n D left cnt)
  (hgr:wr.grownBy w2 (some r)) (hrg2:w2.ranges J3 2 od b r n D (fun z=>left z && !z.sameKey (.int .i64 (N.num p.1))) cnt') (hl: ∀ g∈b :: l.map (·.2),g < w0.heap.size) (hr:w0.heap.size≤r) (hp:p∈l')
  (ho:w3.ownsRow w2.heap.size N.e N.size (.slice a (N.len p.1) cap) (N.len p.1) (N.flat p.1)) (hg:w2.grownBy w3 none) (hvs:(N.vs p.1).setIfInBounds i (.slice a (N.len p.1) cap)=N.vs (N.set p.1 a cap)):
  fS N w0 (w3.setCell ⟨p.2,i,none⟩ (.slice a (N.len p.1) cap)) base b l (sU p.2 (fun x=>N.set x a cap) l') (fun z=>left z && !z.sameKey (.int .i64 (N.num p.1)))∧
   (w3.setCell ⟨p.2,i,none⟩ (.slice a (N.len p.1) cap)).ranges J3 2 od b r n D (fun z=>left z && !z.sameKey (.int .i64 (N.num p.1))) cnt':=by
 have hpl:p.2∈l.map (·.2):=by rw [← h.Mc]; exact Lr.2 ⟨p,hp,rfl⟩
 have hlt:p.2 < w0.heap.size:=hl p.2 (LB _ hpl);have h2:fS N w0 w2 base b l l' left:=h.next hgr hl hr fun q hq e hk=>by
  obtain ⟨es,clock,RU,seen,c0,_,_,_,_,hit,_⟩:=hrg;rcases (h.own q hq e).2 with ⟨hv,-⟩ | ⟨g',cap',cur,hv,hb,hg',-⟩
  ·simp only [LD] at hv
   simp [gd.bt,hv.1] at hk
  ·simp only [LD] at hv
   simp only [gd.bt,hv.1,J9,LF] at hk;subst hk;rw [hit] at hg';cases hg'
 have lD:=(hg.block p.2 (Kn hlt h2.size) (by simp)).trans (h2.eh.box p hp);have hc:=heap_setCell_same w3 p.2 i _ _ (.slice a (N.len p.1) cap) lD;rw [hvs] at hc;refine ⟨h2.step hl hp ho hg hc (fun g hne=>K6 w3 _ _ g hne) rfl rfl rfl (by simp [World.setCell]),?_⟩;refine (hrg2.kept hg (by simp) (by simp)).kept (wz w3 p.2 i _) (fun e=> ?_) (fun e=> ?_)
 ·exact h2.eh.ne hp (KC e).symm
 ·have:=KC e
  omega
def kids (N:gd α) (l:List (α × Nat)):List Nat:=l.filterMap fun p=>N.bt p.1
theorem fS.nodup {w0 wr:World} {base b:Nat} {l l':List (α × Nat)} {left:Lit→Bool} (h:fS N w0 wr base b l l' left) (hd: ∀ kl,left kl=false):(kids N l').Nodup:=by
 have hn:=(Lp.1 h.eh.nodup).2;have ha:=h.apart;clear h
 induction l' with
 | nil=>exact List.nodup_nil
 | cons y r ih=>
  rw [Lt,Lp] at hn;have ihr:=ih hn.2 (fun p hp p' hp'=>ha p (LB _ hp) p' (LB _ hp'));unfold kids at ihr ⊢;rw [List.filterMap_cons]
  split
  ·exact ihr
  ·rename_i g hg
   refine Lp.2 ⟨fun hm=> ?_,ihr⟩;obtain ⟨p,hp,hk⟩:=List.mem_filterMap.1 hm;exact hn.1 (Lr.2 ⟨p,hp,(ha y (by simp) p Zdr (hd _) (hd _) g hg hk).symm⟩)
end
end
section
open Go.RowKit Go.Maps Go.Sort Go.Shelf
theorem wB (mb:Option Nat) (W:w_):k_ J3 136 #[.map mb] W fun e w'=>e=r_ (.func (.func 177) #[] #[p_ (o_ ⟨W.heap.size,0,n_⟩)])∧w'=W.alloc (c_ #[.map mb] 67):=
 (LO (n:=5)).1 (RC Tryz.keysProc Fence.wide 5 trivial rfl mb W)
theorem qx (Bm b:Nat) (m:df) (W:w_) (hBm:Bm < W.heap.size) (hc:W.cell? ⟨Bm,0,n_⟩=o_ (.map (o_ b))) (h:cF W b m) (hm:m.length≤1048576):
  k_ J3 135 #[.func (.func 177) #[] #[p_ (o_ ⟨Bm,0,n_⟩)]] W fun e w'=> ∃ v:v_,e=r_ v∧w'.ownsRow W.heap.size 2 1 v m.length (m.map fun p=> i_ j_ p.1)∧B_ W.heap.size W w':=by
 have hsz:Maps.size (gA m)=m.length:=size_map m;have hseq:SeqGives Fence.wide 2 J3 177 #[p_ (o_ ⟨Bm,0,n_⟩)] encZ (fun ss=>ss.Perm (intKeys (gA m))) (Maps.size (gA m)) W:=
  RD (ρ:=Tryz.keysProc_ren) { Tryz.keysProc with } Fence.wide _ trivial rfl (by omega) Bm b m.length (gA m) W hBm hc h.1
 have cS:=RE Tryz.sortedA Fence.wide 5 trivial trivial trivial trivial rfl (by omega) (Tryz.sortsA _) (LP func176 ZcS rfl) 177 #[p_ (o_ ⟨Bm,0,n_⟩)] trivial (LP func177 ZcS rfl) _ _ Zdb Zds _ hseq
 exact iv
theorem sQ:(Tryz.prog.info? 64).map (fun i=>(i.zero,i.size,i.bytes))=o_ (o_ (p_ n_),1,8):=by kernel_rfl
theorem mq (Me:Int) (b:Nat) (m:df) (w:w_) (h:cF w b m) (hm:m.length≤1048576) (hwf: ∀ p∈m,(Lit.int j_ p.1).wf=true):
  k_ J3 101 #[a_ #[i_ j_ Me,.map (o_ b)]] w fun e w'=> ∃ a cap,e=r_ (s_ a m.length cap)∧w'.ownsRow w.heap.size 64 1 (s_ a m.length cap) m.length (m.map fun p=>dt p.2)∧B_ w.heap.size w w':=by
 obtain ⟨i0,hi,e0⟩:=Kw.1 sQ;simp only [Kx] at e0;have HI:Hid (Tryz.prog.info? 64=o_ i0∧i0.zero=o_ (p_ n_)∧i0.size=1∧i0.bytes=8):=⟨hi,e0⟩
 have HM:Hid (cF w b m∧ ∀ p∈m,(Lit.int j_ p.1).wf=true):=⟨h,hwf⟩
 have hbl:b < w.heap.size:=h.lt;clear hi e0 h hwf
 go_enter func101,ntmps101
 go_wp2_with (go_at_call 136; refine (wB _ _).mono ?_; rintro e w' ⟨rfl,rfl⟩);refine (qx (w.heap.size+1) b m _ (by simp) (by simp) (HM.I.1.below (((Kp _ w).alloc (Ki _) _).alloc (by simp) _)) hm).mono ?_;rintro e w2 ⟨v,rfl,hown,hb2⟩;have cy:Hid (B_ w.heap.size w w2):=(((Kp _ w).alloc (Ki _) _).alloc (by simp) _).trans (hb2.mono ZcT);have HS:Hid (w2.heap[w.heap.size]? =o_ (c_ #[i_ j_ Me,.map (o_ b)] 69)):=(hb2.block _ ZcT).trans ((((Kp _ _).alloc (Ki _) _).block _ (by simp)).trans (Kj _ _));obtain ⟨a,cap,hv,hrow⟩:=cr hown;have HR:Hid (Row w2 a (m.map fun p=> i_ j_ p.1)):=hrow;rw [hv];clear hv hown hrow hb2 v;go_wp2_with fail
 go_loopw [3,11] (fun l i wr=> ∃ k:Nat,k≤m.length∧i=i_ j_ k∧ ∃ a' cap',l=s_ a' k cap'∧Hid (wr.ownsRow w2.heap.size 64 1 (s_ a' k cap') k ((m.take k).map fun p=>dt p.2)∧B_ w2.heap.size w2 wr)) (fun _ i _=>m.length - (intOf i).toNat)
 case atStart=>exact ⟨0,Ky _,rfl,n_,0,rfl,⟨Ke _ _ _ _,Kp _ _⟩⟩
 case round=>
  obtain ⟨k,hk,rfl,a',cap',rfl,HO⟩:=hrel;by_cases hlt:k < m.length
  ·have qE:(0:Int)≤(k:Int):=by omega
   have i1:(k:Int) < (m.length:Int):=by omega
   obtain ⟨p,hp⟩: ∃ p,m[k]? =o_ p:=⟨_,Kz hlt⟩
   have hpm:=KA hp;obtain ⟨g,ha,hc⟩:=(HR.I.below HO.I.2) k (i_ j_ p.1) Zdr;subst ha;have oE:=cy.I.size;have kT:=HO.I.2.size;have ut:cF wr b m:=HM.I.1.below (cy.I.trans (HO.I.2.mono oE));have hlk:=ut.look underlying67 (oD wr) (HM.I.2 p hpm) false;rw [jI ut.2 hpm] at hlk;have hsw:wr.heap[w.heap.size]? =o_ (c_ #[i_ j_ Me,.map (o_ b)] 69):=(HO.I.2.block _ (J2.1 HS.I).1).trans HS.I;have s1:wr.cell? ⟨w.heap.size,1,n_⟩=o_ (.map (o_ b)):=by simp [World.cell?,hsw]
   have HP:Hid (m[k]? =o_ p):=hp;simp only [qz,dt,J5,if_false] at hlk;clear hp hpm ut hsw;go_wp2_with (at_builtin; refine KD _ rfl _ _ 130 rfl w2.heap.size 64 i0 (p_ n_) 1 8 underlying130 HI.I.1 HI.I.2.1 HI.I.2.2.1 HI.I.2.2.2 rfl (by decide) (s_ a' k cap') k ((m.take k).map fun p=>dt p.2) rfl (HO.I.1.alloc _) ⟨wr.heap.size,0,n_⟩ 1 1 [p_ (o_ ⟨p.2,0,n_⟩)] (by rfl) rfl (KE (cs:= #[p_ (o_ ⟨p.2,0,n_⟩)]) (t:=64) (fr:=(0,0)) (Kj wr _)) Zc3 ZcW (by omega) ZcT ?_; intro v' w5 hown' hgrow hnil jV; obtain ⟨a5,im,rfl,-⟩:=cr hown'; have HN:Hid (w5.ownsRow w2.heap.size 64 1 (s_ a5 (k+1) im) (k+1) ((m.take (k+1)).map fun p=>dt p.2)∧B_ w2.heap.size w2 w5):=⟨by rw [cj HP.I,Kl]; exact hown',(HO.I.2.alloc kT _).grown hgrow ZcT (fun q hq=>(HO.I.1.lt q hq).1)⟩; clear hown' hgrow hnil jV);exact mi
  ·exact m_
end
section
open Go.RowKit
def jx (W:w_) (X:Nat) (x:ao):Prop:=W.heap[X]? =o_ (c_ #[i_ j_ x.id,i_ j_ x.RX,s_ x.aY x.prog.length x.bH,i_ j_ x.Md,i_ j_ x.pc,i_ j_ x.left,i_ j_ x.Mg,i_ j_ x.on,t_ x.held,t_ x.got,i_ j_ x.code,i_ j_ x.RU] 41)
def av (W:w_) (B:Nat) (p:af):Prop:=W.heap[B]? =o_ (c_ #[i_ j_ p.id,i_ j_ p.next,s_ p.aN p.L8.length p.aW,s_ p.bc p.aj.length p.bF,s_ p.ay p.L9.length p.aO,s_ p.ax p.ag.length p.aP,s_ p.am p.ae.length p.aG,s_ p.aK p.ai.length p.aV] 31)
theorem jx.below {W W':w_} {X:Nat} {x:ao} (h:jx W X x) (hb:B_ W.heap.size W W'):jx W' X x:=(hb.block X (J2.1 h).1).trans h
theorem av.below {W W':w_} {X:Nat} {x:af} (h:av W X x) (hb:B_ W.heap.size W W'):av W' X x:=(hb.block X (J2.1 h).1).trans h
theorem jx.cells {W:w_} {X:Nat} {x:ao} (h:jx W X x):
  W.cell? ⟨X,0,n_⟩=o_ (i_ j_ x.id)∧W.cell? ⟨X,1,n_⟩=o_ (i_ j_ x.RX)∧W.cell? ⟨X,2,n_⟩=o_ (s_ x.aY x.prog.length x.bH)∧W.cell? ⟨X,3,n_⟩=o_ (i_ j_ x.Md)∧W.cell? ⟨X,4,n_⟩=o_ (i_ j_ x.pc)∧W.cell? ⟨X,5,n_⟩=o_ (i_ j_ x.left)∧W.cell? ⟨X,6,n_⟩=o_ (i_ j_ x.Mg)∧W.cell? ⟨X,7,n_⟩=o_ (i_ j_ x.on)∧W.cell? ⟨X,8,n_⟩=o_ (t_ x.held)∧W.cell? ⟨X,9,n_⟩=o_ (t_ x.got)∧W.cell? ⟨X,10,n_⟩=o_ (i_ j_ x.code)∧W.cell? ⟨X,11,n_⟩=o_ (i_ j_ x.RU):=by
 unfold jx at h;simp [World.cell?,h]
theorem av.cells {W:w_} {X:Nat} {p:af} (h:av W X p):
  W.cell? ⟨X,0,n_⟩=o_ (i_ j_ p.id)∧W.cell? ⟨X,1,n_⟩=o_ (i_ j_ p.next)∧W.cell? ⟨X,2,n_⟩=o_ (s_ p.aN p.L8.length p.aW)∧W.cell? ⟨X,3,n_⟩=o_ (s_ p.bc p.aj.length p.bF)∧W.cell? ⟨X,4,n_⟩=o_ (s_ p.ay p.L9.length p.aO)∧W.cell? ⟨X,5,n_⟩=o_ (s_ p.ax p.ag.length p.aP)∧W.cell? ⟨X,6,n_⟩=o_ (s_ p.am p.ae.length p.aG)∧W.cell? ⟨X,7,n_⟩=o_ (s_ p.aK p.ai.length p.aV):=by
 unfold av at h;simp [World.cell?,h]
def bh (p:aE) (x:aD):Bool:=cv x.id 1 1000 && cH x && fF p.next x && dG p x
structure nI (w W:w_) (P X:Nat) (p:af) (x:ao):Prop where
 part:av W P p
 proc:jx W X x
 at':af.At W p
 prog:Row W x.aY (fk.flat x.prog)
 cd:B_ w.heap.size w W
theorem nI.below {w W W':w_} {P X:Nat} {p:af} {x:ao} (h:nI w W P X p x) (hb:B_ W.heap.size W W'):nI w W' P X p x:=
 ⟨h.part.below hb,h.proc.below hb,h.at'.below hb,h.prog.below hb,h.cd.trans (hb.mono h.cd.size)⟩
theorem zc {w:w_} {p:af} {x:ao} (h:af.At w p) (hr:Row w x.aY (fk.flat x.prog)):nI w ((w.alloc (c_ p.cells 31)).alloc (c_ (aX x) 41)) w.heap.size (w.heap.size+1) p x:=by
 have b1:B_ w.heap.size w (w.alloc (c_ p.cells 31)):=(Kp _ _).alloc (Ki _) _;have b2:B_ w.heap.size w ((w.alloc (c_ p.cells 31)).alloc (c_ (aX x) 41)):=b1.alloc b1.size _;exact ⟨(PU (by simp)).trans (Kj _ _),heap_alloc2_new _ _ _,h.below b2,hr.below b2,b2⟩
theorem xQ {x:aD} (h:cv x.Md 0 7=false):bO x=false:=by
 have h':x.Md < 0∨7 < x.Md:=by
  have: ¬ (0≤x.Md∧x.Md≤7):=fun hh=>by rw [eB hh.1 hh.2] at h; cases h
  omega
 unfold bO;exact ZbM
theorem EG {x:aD} {n:Nat} {o:dN} (hp:jm x.prog=true) (hpc:x.pc=n) (ho:x.prog[n]? =o_ o):jJ x=(decide (x.left=0) || (decide (o.1=1) && cv x.left 1 (o.2.1 - 1))):=by
 have e1:opAt x=o:=by
  unfold opAt;rw [hpc,Int.toNat_natCast,ho];rfl
 have hn:o.1=1→1≤o.2.1:=fun h1=>by
  have hk:n < x.prog.length:=(Lj.1 ho).1;have hb:nq x.prog.length (Cd x.prog) (Cg x.prog) (Ea x.prog) (Ce x.prog)=true:=hp;simp only [nq,decide_eq_true_eq] at hb
  have:=hb.2.2 n hk
  simp only [j8,Cd,Cg,ho,Ka,mQ,h1] at this;simp only [true_or,if_true,J7] at this
  have:=bz.1 this.1.1
  omega
 simp only [jJ,e1];by_cases h1:o.1=1
 ·have:=hn h1
  simp only [h1,if_true,decide_true,Bool.true_and];by_cases h2:x.left=0
  ·simp [h2]; omega
  ·simp only [h2,decide_false,Bool.false_or,cv]
   by_cases h3:0≤x.left
   ·by_cases h4:x.left < o.2.1
    ·simp [h3,h4]; omega
    ·simp [h3,h4]; omega
   ·simp [h3]; omega
 ·simp [h1]
theorem GK {x:aD} {b c:Bool} (h: ¬ x.Md=0):(bO x && b && c)=(dU x && (bO x && b && c)):=by
 cases ho:dU x with
 | true=>simp
 | false=>
  have:bO x=false:=by
   simp only [bO,h,if_false,ho];simp
  simp [this]
theorem CH {x:aD} (h0: ¬ x.Md=0) (h1: ¬ x.Md=1) (hl: ¬ x.left=0):bO x=false:=by
 simp only [bO,h0,h1,if_false,hl,decide_false];simp
theorem C3 {x:aD} (h0: ¬ x.Md=0) (h1: ¬ x.Md=1) (h5: ¬ x.Md=5) (hl:bI x.held=false):bO x=false:=by
 simp only [bO,h0,h1,h5,if_false,hl];simp
theorem Dn {p:aE} {x:aD} (h0: ¬ x.Md=0) (h1: ¬ x.Md=1) (h2: ¬ x.Md=2) (h5: ¬ x.Md=5) (hb:0≤x.Md∧x.Md≤7) (ho:dU x=true) (hl:x.left=0) (hh:bI x.held=true):(bO x && dG p x)=(lh x.Mg && hasB p x.Md x.on):=by
 have h4:x.Md=3∨x.Md=4∨x.Md=6∨x.Md=7:=by omega
 have h3:3≤x.Md:=by omega
 simp only [bO,dG,h0,h1,h2,h5,if_false,h4,if_true,h3,ho,hl,hh];simp
theorem op_ge {l:List dN} {n:Nat} {o:dN} (hp:jm l=true) (ho:l[n]? =o_ o):o.1=1→1≤o.2.1∧o.2.1≤1000:=by
 intro h1
 ·have hk:n < l.length:=(Lj.1 ho).1
  have hb:nq l.length (Cd l) (Cg l) (Ea l) (Ce l)=true:=hp;simp only [nq,decide_eq_true_eq] at hb
  have:=hb.2.2 n hk
  simp only [j8,Cd,Cg,ho,Ka,mQ,h1] at this;simp only [true_or,if_true,J7] at this
  have:=bz.1 this.1.1
  exact ⟨by omega,by omega⟩
theorem lk (p:af) (x:ao) (w:w_) (hp:p.dX) (hx:x.dX) (h1:1≤p.next) (h2:p.next≤1000000000) (h:af.At w p) (hr:Row w x.aY (fk.flat x.prog)):
  k_ J3 42 #[a_ p.cells,a_ (aX x)] w fun e w'=>e=r_ (b_ (bh p.pure x.toaD))∧B_ w.heap.size w w':=by
 have H0:Hid (nI w ((w.alloc (c_ p.cells 31)).alloc (c_ (aX x) 41)) w.heap.size (w.heap.size+1) p x):=zc h hr;have HS:Hid (p.dX∧x.dX):=⟨hp,hx⟩
 have HE:Hid (bh p.pure x.toaD=(cv x.id 1 1000 && (cv x.RX 1 50 && jm x.prog && bw x.held && bw x.got && cv x.code 0 3 && bO x.toaD) && fF p.next x.toaD && dG p.pure x.toaD)):=rfl;obtain ⟨m0,m1,m2,m3,m4,m5,m6,m7⟩:=H0.I.part.cells;obtain ⟨k0,k1,k2,k3,k4,k5,k6,k7,k8,k9,k10,k11⟩:=H0.I.proc.cells;have hpl:=hx.prog;have hhs:=hx.held;have hgs:=hx.got;clear h hr hp hx;unfold af.cells aX at *
 go_enter func42,ntmps42
 go_wp2_with fail;generalize (w.alloc (c_ p.row 31)).alloc (c_ x.row 41)=W at *;have HP:Hid (nI w W w.heap.size (w.heap.size+1) p x):=H0.I;clear H0;refine (dx x.id 1 1000 _).mono ?_;rintro e w9 ⟨rfl,mW⟩;rw [mW];clear mW w9;cases ha:cv x.id 1 1000
 ·have hz:True:=trivial
  have HV:Hid (bh p.pure x.toaD=false):=by show bh _ _=false; rw [HE.I]; simp [ha]
  exact nv
 have HA:Hid (cv x.id 1 1000=true):=ha;clear ha;go_wp2_with fail;refine (dx x.RX 1 50 _).mono ?_;rintro e w9 ⟨rfl,mW⟩;rw [mW];clear mW w9;cases hb:cv x.RX 1 50
 ·have hz:True:=trivial
  have HV:Hid (bh p.pure x.toaD=false):=by show bh _ _=false; rw [HE.I]; simp [hb]
  exact nv
 have HB:Hid (cv x.RX 1 50=true):=hb;clear hb;go_wp2_with fail;refine (wQ x.aY x.prog x.bH _ hpl HS.I.2.ops HP.I.prog).mono ?_;rintro e w3 ⟨rfl,hb3⟩;have HP:Hid (nI w w3 w.heap.size (w.heap.size+1) p x):=HP.I.below hb3;clear hb3 m0 m1 m2 m3 m4 m5 m6 m7 k0 k1 k2 k3 k4 k5 k6 k7 k8 k9 k10 k11;obtain ⟨m0,m1,m2,m3,m4,m5,m6,m7⟩:=HP.I.part.cells;obtain ⟨k0,k1,k2,k3,k4,k5,k6,k7,k8,k9,k10,k11⟩:=HP.I.proc.cells;cases hc:jm x.prog
 ·have hz:True:=trivial
  have HV:Hid (bh p.pure x.toaD=false):=by show bh _ _=false; rw [HE.I]; simp [hc]
  exact nv
 have HC:Hid (jm x.prog=true):=hc;clear hc;go_wp2_with fail;refine (jC x.held _ hhs).mono ?_;rintro e w9 ⟨rfl,mW⟩;rw [mW];clear mW w9;cases hd:bw x.held
 ·have hz:True:=trivial
  have HV:Hid (bh p.pure x.toaD=false):=by show bh _ _=false; rw [HE.I]; simp [hd]
  exact nv
 have HD:Hid (bw x.held=true):=hd;clear hd;go_wp2_with fail;refine (jC x.got _ hgs).mono ?_;rintro e w9 ⟨rfl,mW⟩;rw [mW];clear mW w9;cases hg:bw x.got
 ·have hz:True:=trivial
  have HV:Hid (bh p.pure x.toaD=false):=by show bh _ _=false; rw [HE.I]; simp [hg]
  exact nv
 have HG:Hid (bw x.got=true):=hg;clear hg;go_wp2_with fail;refine (dx x.code 0 3 _).mono ?_;rintro e w9 ⟨rfl,mW⟩;rw [mW];clear mW w9;cases hk:cv x.code 0 3
 ·have hz:True:=trivial
  have HV:Hid (bh p.pure x.toaD=false):=by show bh _ _=false; rw [HE.I]; simp [hk]
  exact nv
 have HK:Hid (cv x.code 0 3=true):=hk;clear hk;go_wp2_with fail;refine (dx x.Md 0 7 _).mono ?_;rintro e w9 ⟨rfl,mW⟩;rw [mW];clear mW w9;cases hst:cv x.Md 0 7
 ·have hz:True:=trivial
  have HV:Hid (bh p.pure x.toaD=false):=by show bh _ _=false; rw [HE.I]; simp [xQ (x:=x.toaD) hst]
  exact nv
 have HST:Hid (0≤x.Md∧x.Md≤7):=bz.1 hst;clear hst;have HE:Hid (bh p.pure x.toaD=(bO x.toaD && fF p.next x.toaD && dG p.pure x.toaD)):=by show bh _ _=_; rw [HE.I,HA.I,HB.I,HC.I,HD.I,HG.I,HK.I]; simp
 by_cases hs0:x.Md=0
 ·have e0:(x.Md == 0)=true:=by simp [hs0]
  have HE:Hid (bh p.pure x.toaD=(decide (x.pc=0) && decide (x.left=0) && decide (x.Mg=0) && decide (x.on=0) && decide (x.RU=0) && bI x.held)):=by show bh _ _=_; rw [HE.I]; simp [bO,fF,dG,hs0]
  clear hs0;by_cases g0:x.pc=0;rotate_left
  ·have g0':(x.pc == 0)=false:=by simp [g0]
   have HV:Hid (bh p.pure x.toaD=false):=by show bh _ _=false; rw [HE.I]; simp [g0]
   exact nv
  have g0':(x.pc == 0)=true:=by simp [g0]
  have G0:Hid (x.pc=0):=g0;clear g0;by_cases g1:x.left=0;rotate_left
  ·have g1':(x.left == 0)=false:=by simp [g1]
   have HV:Hid (bh p.pure x.toaD=false):=by show bh _ _=false; rw [HE.I]; simp [g1]
   exact nv
  have g1':(x.left == 0)=true:=by simp [g1]
  have G1:Hid (x.left=0):=g1;clear g1;by_cases g2:x.Mg=0;rotate_left
  ·have g2':(x.Mg == 0)=false:=by simp [g2]
   have HV:Hid (bh p.pure x.toaD=false):=by show bh _ _=false; rw [HE.I]; simp [g2]
   exact nv
  have g2':(x.Mg == 0)=true:=by simp [g2]
  have G2:Hid (x.Mg=0):=g2;clear g2;by_cases g3:x.on=0;rotate_left
  ·have g3':(x.on == 0)=false:=by simp [g3]
   have HV:Hid (bh p.pure x.toaD=false):=by show bh _ _=false; rw [HE.I]; simp [g3]
   exact nv
  have g3':(x.on == 0)=true:=by simp [g3]
  have G3:Hid (x.on=0):=g3;clear g3;by_cases g4:x.held.toList= []
  rotate_left
  ·have g4': ¬ [] =x.held.toList:=fun h=>g4 h.symm
   have HV:Hid (bh p.pure x.toaD=false):=by show bh _ _=false; rw [HE.I]; simp [sf g4]
   exact nv
  by_cases g5:x.RU=0;rotate_left
  ·have g5':(x.RU == 0)=false:=by simp [g5]
   have HV:Hid (bh p.pure x.toaD=false):=by show bh _ _=false; rw [HE.I]; simp [g5]
   exact nv
  have g5':(x.RU == 0)=true:=by simp [g5]
  have HV:Hid (bh p.pure x.toaD=true):=by show bh _ _=true; rw [HE.I]; simp [G0.I,G1.I,G2.I,G3.I,g5,p9 g4]
  exact nv
 have e0:(x.Md == 0)=false:=by simp [hs0]
 have HZ:Hid (¬ x.Md=0):=hs0;clear hs0;go_wp2_with fail;refine (dx x.pc 0 ((x.prog.length:Int) - 1) _).mono ?_;rintro e w9 ⟨rfl,mW⟩;rw [mW];clear mW w9;have HE:Hid (bh p.pure x.toaD=(dU x.toaD && (bO x.toaD && fF p.next x.toaD && dG p.pure x.toaD))):=by show bh _ _=_; rw [HE.I]; exact GK HZ.I
 cases hop:cv x.pc 0 ((x.prog.length:Int) - 1)
 ·have hz:dU x.toaD=false:=hop
  exact ZcK
 have tc:Hid (dU x.toaD=true):=hop;clear hop;go_wp2_with fail;refine (dx x.RU 1 (p.next - 1) _).mono ?_;rintro e w9 ⟨rfl,mW⟩;rw [mW];clear mW w9;cases hsi:cv x.RU 1 (p.next - 1)
 ·have hz:fF p.next x.toaD=false:=by simp [fF,hsi,HZ.I]
  exact ZcK
 have HTU:Hid (fF p.next x.toaD=true):=by show fF _ _=true; simp [fF,hsi]
 clear hsi;have HE:Hid (bh p.pure x.toaD=(bO x.toaD && dG p.pure x.toaD)):=by show bh _ _=_; rw [HE.I,tc.I,HTU.I]; simp
 by_cases hs1:x.Md=1
 ·have e1:(x.Md == 1)=true:=by simp [hs1]
  obtain ⟨n,hn,hnl,hno⟩:=xm tc.I;have HLS:Hid (jJ x.toaD=(decide (x.left=0) || (decide ((opAt x.toaD).1=1) && cv x.left 1 ((opAt x.toaD).2.1 - 1)))):=EG HC.I hn hno;have HE:Hid (bh p.pure x.toaD=(jJ x.toaD && decide (x.Mg=0) && decide (x.on=0) && bI x.held)):=by show bh _ _=_; rw [HE.I]; simp [bO,dG,hs1,tc.I]
  have HN1:Hid ((opAt x.toaD).1=1→1≤(opAt x.toaD).2.1∧(opAt x.toaD).2.1≤1000):=op_ge HC.I hno;obtain ⟨g,hg,o0,o1,o2,o3⟩:=Jm HP.I.prog hno;have hsz:w.heap.size+1 < w3.heap.size:=(J2.1 HP.I.proc).1;have i0:(0:Int)≤(n:Int):=by omega
  have i1:(n:Int) < (x.prog.length:Int):=by omega
  rw [hg] at k2;have k4n:w3.cell? ⟨w.heap.size+1,4,n_⟩=o_ (i_ j_ (n:Int)):=by rw [k4]; exact congrArg (fun z=>o_ (Value.int j_ z)) hn
  clear k4;generalize opAt x.toaD=o at *;clear hs1 hg hn hno;by_cases g0:x.Mg=0;rotate_left
  ·have g0':(x.Mg == 0)=false:=by simp [g0]
   have HV:Hid (bh p.pure x.toaD=false):=by show bh _ _=false; rw [HE.I]; simp [g0]
   exact Z_
  have g0':(x.Mg == 0)=true:=by simp [g0]
  have G0:Hid (x.Mg=0):=g0;clear g0;by_cases g1:x.on=0;rotate_left
  ·have g1':(x.on == 0)=false:=by simp [g1]
   have HV:Hid (bh p.pure x.toaD=false):=by show bh _ _=false; rw [HE.I]; simp [g1]
   exact Z_
  have g1':(x.on == 0)=true:=by simp [g1]
  have G1:Hid (x.on=0):=g1;clear g1;by_cases g4:x.held.toList= []
  rotate_left
  ·have g4': ¬ [] =x.held.toList:=fun h=>g4 h.symm
   have HV:Hid (bh p.pure x.toaD=false):=by show bh _ _=false; rw [HE.I]; simp [sf g4]
   exact Z_
  have HE:Hid (bh p.pure x.toaD=(decide (x.left=0) || (decide (o.1=1) && cv x.left 1 (o.2.1 - 1)))):=by show bh _ _=_; rw [HE.I,HLS.I]; simp [G0.I,G1.I,p9 g4]
  by_cases g5:x.left=0
  ·have g5':(x.left == 0)=true:=by simp [g5]
   have HV:Hid (bh p.pure x.toaD=true):=by show bh _ _=true; rw [HE.I]; simp [g5]
   exact Z_
  have g5':(x.left == 0)=false:=by simp [g5]
  by_cases g6:o.1=1;rotate_left
  ·have g6':(o.1 == 1)=false:=by simp [g6]
   have HV:Hid (bh p.pure x.toaD=false):=by show bh _ _=false; rw [HE.I]; simp [g5,g6]
   exact Z_
  have n1:=(HN1.I g6).1;have n2:=(HN1.I g6).2;have HE:Hid (bh p.pure x.toaD=cv x.left 1 (o.2.1 - 1)):=by show bh _ _=_; rw [HE.I]; simp [g5,g6]
  have g6':(o.1 == 1)=true:=by simp [g6]
  clear g6 g5;go_wp2_with (go_at_call 27; refine (dx x.left 1 (o.2.1 - 1) _).mono ?_; rintro e w9 ⟨rfl,mW⟩; rw [mW]; clear mW w9);go_ret;exact ⟨al (by rw [HE.I]),HP.I.cd.alloc HP.I.cd.size _⟩
 have e1:(x.Md == 1)=false:=by simp [hs1]
 by_cases gl:x.left=0;rotate_left
 ·have gl':(x.left == 0)=false:=by simp [gl]
  have HSF:Hid (bO x.toaD=false):=CH HZ.I hs1 gl;exact ZcJ
 have gl':(x.left != 0)=false:=by simp [gl]
 have En:Hid (x.left=0):=gl;clear gl;by_cases hs5:x.Md=5
 ·have e5:(x.Md != 5)=false:=by simp [hs5]
  have e2:(x.Md == 2)=false:=by simp [hs5]
  have HE:Hid (bh p.pure x.toaD=(lh x.Mg && hasB p.pure x.Md x.on)):=by show bh _ _=_; rw [HE.I]; simp [bO,dG,hs5,tc.I,En.I]
  clear hs5;exact ir
 have e5:(x.Md != 5)=true:=by simp [hs5]
 by_cases g4:x.held.toList= []
 rotate_left
 ·have g4': ¬ [] =x.held.toList:=fun h=>g4 h.symm
  have g4n:x.held.toList.isEmpty=false:=by simp [g4]
  have HSF:Hid (bO x.toaD=false):=C3 HZ.I hs1 hs5 (sf g4);exact ZcJ
 have HH0:Hid (bI x.held=true):=p9 g4;by_cases hs2:x.Md=2
 ·have e2:(x.Md == 2)=true:=by simp [hs2]
  have HE:Hid (bh p.pure x.toaD=(cv x.Mg 1 2000000000 && decide (x.on=0))):=by show bh _ _=_; rw [HE.I]; simp [bO,dG,hs2,tc.I,En.I,HH0.I]
  clear hs2;by_cases go:x.on=0;rotate_left
  ·have go':(x.on == 0)=false:=by simp [go]
   have HV:Hid (bh p.pure x.toaD=false):=by show bh _ _=false; rw [HE.I]; simp [go]
   exact nv
  have go':(x.on == 0)=true:=by simp [go]
  have HV:Hid (bh p.pure x.toaD=cv x.Mg 1 2000000000):=by show bh _ _=_; rw [HE.I]; simp [go]
  clear HE go;go_wp2_with (go_at_call 27; refine (dx x.Mg 1 2000000000 _).mono ?_; rintro e w9 ⟨rfl,mW⟩; rw [mW]; clear mW w9);go_ret;exact ⟨al (by rw [HV.I]),HP.I.cd⟩
 have e2:(x.Md == 2)=false:=by simp [hs2]
 have HE:Hid (bh p.pure x.toaD=(lh x.Mg && hasB p.pure x.Md x.on)):=by show bh _ _=_; rw [HE.I]; exact Dn HZ.I hs1 hs2 hs5 HST.I tc.I En.I HH0.I
 clear hs1 hs2 hs5;exact ir
end
section
open Go.RowKit
attribute [local go_sem ↓] Kc Kd
def vY (w:w_) (b:Nat) (m:df) (Me:Int) (x:ao) (w':w_):Prop:=(w'.cell? ⟨w.heap.size,0,n_⟩=o_ (i_ j_ Me)∧w'.cell? ⟨w.heap.size,1,n_⟩=o_ (.map (o_ b))∧(∀ ty,(Builtin.len_ #[67] ty #[.map (o_ b)]).run J3 w'= .ok (i_ j_ (m.length:Int)) w')∧w'.cell? ⟨w.heap.size+1,0,n_⟩=o_ (i_ j_ x.id)∧w'.cell? ⟨w.heap.size+1,1,n_⟩=o_ (i_ j_ x.RX)∧w'.cell? ⟨w.heap.size+1,2,n_⟩=o_ (s_ x.aY x.prog.length x.bH)∧w'.cell? ⟨w.heap.size+1,3,n_⟩=o_ (i_ j_ x.Md)∧w'.cell? ⟨w.heap.size+1,4,n_⟩=o_ (i_ j_ x.pc)∧w'.cell? ⟨w.heap.size+1,5,n_⟩=o_ (i_ j_ x.left)∧w'.cell? ⟨w.heap.size+1,6,n_⟩=o_ (i_ j_ x.Mg)∧w'.cell? ⟨w.heap.size+1,7,n_⟩=o_ (i_ j_ x.on)∧w'.cell? ⟨w.heap.size+1,8,n_⟩=o_ (t_ x.held)∧w'.cell? ⟨w.heap.size+1,9,n_⟩=o_ (t_ x.got)∧w'.cell? ⟨w.heap.size+1,10,n_⟩=o_ (i_ j_ x.code)∧w'.cell? ⟨w.heap.size+1,11,n_⟩=o_ (i_ j_ x.RU))∧Hid (fe w w' w.heap.size (w.heap.size+1) b m Me (aX x) 41 69)∧Hid (eL w' x)
theorem iU {w w':w_} {b:Nat} {m:df} {Me:Int} {x:ao} (h:fe w w' w.heap.size (w.heap.size+1) b m Me (aX x) 41 69) (hf:eL w' x):vY w b m Me x w':=
 ⟨⟨h.cells.1,h.cells.2,fun ty=>h.mp.len underlying67 ty,bo h.bx⟩,h,hf⟩
theorem Bp (Me:Int) (b:Nat) (m:df) (x:ao) (w:w_) (h:cF w b m) (hw:(Lit.int j_ x.id).wf=true) (hm:m.length≤1048576) (hf:eL w x):
  k_ J3 95 #[a_ #[i_ j_ Me,.map (o_ b)],a_ (aX x)] w fun e w'=>dD w b m (iI Me m x.id (cH x.toaD)) x.id (aX x) 41 e w':=by
 have HF:Hid (fe w ((w.alloc (c_ #[i_ j_ Me,.map (o_ b)] 69)).alloc (c_ (aX x) 41)) w.heap.size (w.heap.size+1) b m Me (aX x) 41 69):=fe.start w h Me _ _ _;have HW:Hid ((Lit.int j_ x.id).wf=true∧ ¬ w.heap.size+1=b∧m.length≤1048576):=⟨hw,by have:=h.lt; omega,hm⟩
 have HI:Hid (eL ((w.alloc (c_ #[i_ j_ Me,.map (o_ b)] 69)).alloc (c_ (aX x) 41)) x):=hf.below ((((Kp _ w).alloc (Ki _) _)).alloc (by simp) _);have hmn:=ob;have hmr:=uB;obtain ⟨s0,s1⟩:=HF.I.cells;obtain ⟨c0,c1,c2,c3,c4,c5,c6,c7,c8,c9,qF,pe⟩:=bo HF.I.bx;clear h hw hf hm;unfold aX at *
 go_enter func95,ntmps95
 go_wp2_with fail;clear s0 s1 c0 c1 c2 c3 c4 c5 c6 c7 c8 c9 qF pe;obtain ⟨vA,hA⟩: ∃ v,(cz m x.id).isSome=v:=⟨_,rfl⟩
 obtain ⟨vB,F6⟩: ∃ v,decide (Me≤(m.length:Int))=v:=⟨_,rfl⟩
 obtain ⟨vC,hC⟩: ∃ v,cv x.id 1 1000=v:=⟨_,rfl⟩
 obtain ⟨vD,hD⟩: ∃ v,cH x.toaD=v:=⟨_,rfl⟩
 have HL:Hid (iI Me m x.id (cH x.toaD)=(!vA && !vB && vC && vD)∧(vA=false→cz m x.id=n_)):=⟨pi hA F6 hC hD,fun e=>Option.isNone_iff_eq_none.1 (Option.isSome_eq_false_iff.1 (hA.trans e))⟩
 have HA:Hid (Ending.returned (b_ (cz m x.id).isSome)=r_ (b_ vA)):=al hA;have HC:Hid (Ending.returned (b_ (cv x.id 1 1000))=r_ (b_ vC)):=al hC;have HD:Hid (Ending.returned (b_ (cH x.toaD))=r_ (b_ vD)):=al hD;clear hA hC hD;refine aT (vY w b m Me x) ZcS (iU HF.I.drew (HI.I.below (Kp _ _).drew)) ?_
 iterate 3 (refine agj ?_)
 (refine cl (i_ j_ x.id) 235 #[a_ x.row] ?_ ?_ ?_; (intro w0 hS0; obtain ⟨⟨q0,q1,q2,q3,q4,q5,q6,q7,q8,q9,kY,kV,lB,lz,Ch⟩,hH⟩:=hS0; go_simp; try with_reducible rfl); (intro w0 hS0; refine (iK x w0).mono ?_; rintro e w2 ⟨rfl,hb2⟩; exact ⟨rfl,iU (hS0.2.1.I.below hb2) (hS0.2.2.I.below hb2)⟩); simp only [pt,sb,s0,s1])
 (refine cl (b_ vA) 128 #[a_ #[i_ j_ Me,.map (o_ b)],i_ j_ x.id] ?_ ?_ ?_; (intro w0 hS0; obtain ⟨⟨q0,q1,q2,q3,q4,q5,q6,q7,q8,q9,kY,kV,lB,lz,Ch⟩,hH⟩:=hS0; go_simp; try with_reducible rfl); (intro w0 hS0; refine (BP Me b m x.id w0 hS0.2.1.I.mp HW.I.1).mono ?_; rintro e w2 ⟨rfl,hb2⟩; exact ⟨HA.I,iU (hS0.2.1.I.below hb2) (hS0.2.2.I.below hb2)⟩); simp only [pt,sb,s0,s1])
 (refine agj ?_)
 rcases vA.eq_false_or_eq_true with rfl | rfl
 focus iterate 6 (refine nl ?_; simp only [pt,sb,s0,s1])
 rotate_left
 focus iterate 6 (refine agj ?_)
 all_goals iterate 2 (refine agj ?_)
 rcases vB.eq_false_or_eq_true with rfl | rfl
 focus iterate 5 (refine nl ?_; simp only [pt,sb,s0,s1])
 rotate_left
 focus
  iterate 2 (refine agj ?_)
  (refine cl (i_ j_ x.id) 235 #[a_ x.row] ?_ ?_ ?_; (intro w0 hS0; obtain ⟨⟨q0,q1,q2,q3,q4,q5,q6,q7,q8,q9,kY,kV,lB,lz,Ch⟩,hH⟩:=hS0; go_simp; try with_reducible rfl); (intro w0 hS0; refine (iK x w0).mono ?_; rintro e w2 ⟨rfl,hb2⟩; exact ⟨rfl,iU (hS0.2.1.I.below hb2) (hS0.2.2.I.below hb2)⟩); simp only [pt,sb,s0,s1])
  (refine cl (b_ vC) 129 #[i_ j_ x.id] ?_ ?_ ?_; (intro w0 hS0; obtain ⟨⟨q0,q1,q2,q3,q4,q5,q6,q7,q8,q9,kY,kV,lB,lz,Ch⟩,hH⟩:=hS0; go_simp; try with_reducible rfl); (intro w0 hS0; refine (eW x.id w0).mono ?_; rintro e w2 ⟨rfl,rfl⟩; exact ⟨HC.I,hS0⟩); simp only [pt,sb,s0,s1])
  (refine agj ?_)
 rotate_left
 focus iterate 5 (refine nl ?_; simp only [pt,sb,s0,s1])
 all_goals iterate 2 (refine agj ?_)
 rotate_right
 rcases vC.eq_false_or_eq_true with rfl | rfl
 focus
  iterate 2 (refine agj ?_)
  (refine cl (b_ vD) 236 #[a_ x.row] ?_ ?_ ?_; (intro w0 hS0; obtain ⟨⟨q0,q1,q2,q3,q4,q5,q6,q7,q8,q9,kY,kV,lB,lz,Ch⟩,hH⟩:=hS0; go_simp; try with_reducible rfl); (intro w0 hS0; refine (wo x w0 hS0.2.2.I).mono ?_; rintro e w2 ⟨rfl,hb2⟩; exact ⟨HD.I,iU (hS0.2.1.I.below hb2) (hS0.2.2.I.below hb2)⟩); simp only [pt,sb,s0,s1])
  (refine agj ?_)
 rotate_left
 focus iterate 4 (refine nl ?_; simp only [pt,sb,s0,s1])
 rotate_left
 focus iterate 4 (refine nl ?_; simp only [pt,sb,s0,s1])
 rotate_left
 focus iterate 4 (refine nl ?_; simp only [pt,sb,s0,s1])
 rotate_left
 all_goals (refine agj ?_)
 all_goals refine bk ZcS ?_ _
 all_goals intro w1 cm
 rcases vD.eq_false_or_eq_true with rfl | rfl;rotate_left
 iterate 4
  exact ZaL
 go_wp2_with fail;refine eD (vY w b m Me x) 5 ZcS (iU cm.2.1.I.drew (cm.2.2.I.below (Kp _ _).drew)) ?_
 iterate 4 (refine ly 6 (v:= ?_) (o_ _) rfl rfl ZcS (fun _ _ _ h=>h) (bV ZcS ?_) ?_; rotate_left; (intro w0 hS0; obtain ⟨⟨q0,q1,q2,q3,q4,q5,q6,q7,q8,q9,kY,kV,lB,lz,Ch⟩,hH⟩:=hS0; go_simp; try with_reducible rfl); simp only [pt,sb,s0,s1])
 refine ly 6 (v:=i_ j_ x.id) (o_ _) rfl rfl ZcS (fun _ _ _ h=>h) (iZ (f:=235) (args:= #[a_ x.row]) ZcS ?_ ?_) ?_
 ·intro w0 hS0
  obtain ⟨⟨q0,q1,q2,q3,q4,q5,q6,q7,q8,q9,kY,kV,lB,lz,Ch⟩,hH⟩:=hS0
  exact Fd
 ·intro w0 hS0
  refine (iK x w0).mono ?_;rintro e w2 ⟨rfl,hb2⟩;exact ⟨rfl,iU (hS0.2.1.I.below hb2) (hS0.2.2.I.below hb2)⟩
 simp only [pt,sb,s0,s1];refine fL rfl ZcS ZcS ZcS ?_;intro w1 cm;obtain ⟨w2,hput,hend⟩:=cm.2.1.I.put (by omega) underlying67 HW.I.1 (HL.I.2 (by trivial)) HW.I.2.2 HW.I.2.1;have HE:Hid (dD w b m true x.id (aX x) 41 (r_ (b_ true)) w2):=hend;exact Zak
end
end Go.Proofs.YtfncpmaefninjaaGreatDoor
