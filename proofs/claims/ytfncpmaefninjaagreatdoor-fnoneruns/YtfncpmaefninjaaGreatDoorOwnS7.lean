/- What the proof leans on, part 7. -/
import Derived.Test.YtfncpmaefninjaaGreatDoorOwnS6
set_option linter.defProp false
set_option linter.unusedVariables false
set_option maxRecDepth 100000
set_option maxHeartbeats 8000000
open Go.Proofs.Tryz
open Go renaming World->w_,Value->v_,Calls->k_,Addr->d_,TypeId->T_,below_setRow->q_
open Go.Ending renaming returned->r_
open Go.IntKind renaming i64->j_
open Go.Obj renaming cells->c_
open Go.RowKit renaming Below->B_
open Go.Value renaming int->i_,slice->s_,bool->b_,string->t_,agg->a_,pointer->p_,tuple->u_
open Option renaming some->o_,none->n_
open Array renaming getElem?_eq_some_iff->J2
open Bool renaming and_eq_true->J7,or_eq_true->Kb
open Function renaming comp_def->Ls
open Go renaming heap_alloc_new->Kj,wp_at_succ->Kd,wp_at_zero->Kc
open Go.ByteArray renaming toList_eq->PQ
open Go.Proofs.Tryz renaming prog->J3
open Go.RowKit.Below renaming refl->Kp
open Int renaming le_refl->LJ
open List renaming append_assoc->Lm,append_nil->QO,find?_cons->LL,getElem?_eq_getElem->Kz,getElem?_eq_some_iff->Lj,length_filter_le->Qq,length_nil->K4,length_set->LI,length_take->Lk,map_congr_left->Lw,map_cons->Lt,map_map->Lv,mem_append->Kg,mem_append_left->Lz,mem_append_right->Ly,mem_cons->Kt,mem_filterMap->Lq,mem_iff_getElem->LK,mem_map->Lr,mem_of_getElem?->KA,mem_of_mem_drop->RL,mem_of_mem_take->RK,nodup_append->Kf,pairwise_cons->LM,pairwise_map->Qm,set_eq_take_append_cons_drop->RJ,take_append_drop->Qn,take_of_length_le->KF
open Nat renaming le_refl->Ki,zero_le->Ky
open Option renaming map_eq_some_iff->Kw,map_some->J9
open Option.some renaming inj->KC,injEq->LF
open Prod.mk renaming injEq->Kx

namespace Go.Proofs.YtfncpmaefninjaaGreatDoor
def jP {α:Type} (num:α->Int) (id:Int) (f:α->α) (l:List α):List α:=l.map fun x=>if num x=id then f x else x
def cg {α:Type} (num:α->Int) (id:Int) (l:List α):Option α:=l.find? fun x=>decide (num x=id)
def ie (st on:Int) (x:aD):Bool:=decide (x.Md=st) && decide (x.on=on)
def jl (st on:Int) (l:List aD):Option aD:=jo (l.filter (ie st on))
def bu (code id:Int) (p:aE):aE:= { p with L8:=ce id (jT code) p.L8 }
def lG (t:ByteArray) (x:aD):aD:= { x with got:=t }
def ez (t:ByteArray) (id:Int) (p:aE):aE:= { p with L8:=ce id (lG t) p.L8 }
def gF (f:aD->aD) (p:aE) (x:aD):aE:= { p with next:=gf p.next x,L8:=ce x.id (fun y=>iY p.next 0 (f y)) p.L8 }
def gW (f:aD->aD) (st on:Int):Nat->aE->aE
 | 0,p=>p
 | n+1,p=>match jl st on p.L8 with
  | none=>p
  | some x=>gW f st on n (gF f p x)
def ff (f:aD->aD) (st on:Int) (p:aE):aE:=gW f st on (p.L8.filter (ie st on)).length p
def zb (nx st on:Int) (held:ByteArray) (Mg:Int) (y:aD):aD:= { y with Md:=st,Mg:=Mg,on:=on,held:=held,RU:=nx }
def kC (st on:Int) (held:ByteArray) (Mg id:Int) (p:aE):aE:= { p with next:=p.next+1,L8:=ce id (zb p.next st on held Mg) p.L8 }
def kZ (now m:Int):Int:=if 0<=m then now+m else -1
def mX (st:Int) (o:dN) (now id:Int) (p:aE):aE:=if o.2.2.1=0 then bu 1 id p else kC st o.2.1 o.2.2.2 (kZ now o.2.2.1) id p
def nZ (id d:Int) (p:aE):aE:= { p with aj:=jP (·.id) id (fun y=> { y with n:=y.n+d }) p.aj }
def gL (id:Int) (b:Bool) (p:aE):aE:= { p with L9:=jP (·.id) id (fun y=> { y with up:=b }) p.L9 }
def ib (id:Int) (b:Bool) (t:ByteArray) (p:aE):aE:= { p with ag:=jP (·.id) id (fun y=> { y with shown:=b,text:=t }) p.ag }
def cV (id:Int) (l:List ByteArray) (p:aE):aE:= { p with ae:=jP (·.id) id (fun y=> { y with Ma:=l }) p.ae }
def gU (id:Int) (l:List ByteArray) (p:aE):aE:= { p with ai:=jP (·.id) id (fun y=> { y with Ma:=l }) p.ai }
def mh (o:dN) (now id:Int) (p:aE):aE:=match cg (·.id) o.2.1 p.aj with
 | none=>bu 3 id p
 | some s=>if s.n=0 then mX 3 o now id p else bu 0 id (nZ o.2.1 (-1) p)
def gJ (o:dN) (id:Int) (p:aE):aE:=match cg (·.id) o.2.1 p.aj with
 | none=>bu 3 id p
 | some s=>match jl 3 o.2.1 p.L8 with
  | some y=>bu 0 id (gF (fun y=>y) p y)
  | none=>if s.n=s.max then bu 1 id p else bu 0 id (nZ o.2.1 1 p)
def dE (o:dN) (now id:Int) (p:aE):aE:=match cg (·.id) o.2.1 p.L9 with
 | none=>bu 3 id p
 | some e=>if o.1=5 then bu 0 id (ff (fun y=>y) 4 o.2.1 (gL o.2.1 true p))
  else if o.1=6 then bu 0 id (gL o.2.1 false p)
  else if e.up then bu 0 id p else mX 4 o now id p
def lc (o:dN) (now id:Int) (p:aE):aE:=match cg (·.id) o.2.1 p.ae with
 | none=>bu 3 id p
 | some b=>match jl 6 o.2.1 p.L8 with
  | some y=>bu 0 id (gF (lG o.2.2.2) p y)
  | none=>if (b.Ma.length:Int)=b.max then mX 5 o now id p else bu 0 id (cV o.2.1 (b.Ma ++ [o.2.2.2]) p)
def ka (o:dN) (now id:Int) (p:aE):aE:=match cg (·.id) o.2.1 p.ae with
 | none=>bu 3 id p
 | some b=>match b.Ma with
  | [] =>mX 6 o now id (ez rM id p)
  | t :: r=>match jl 5 o.2.1 (ez t id p).L8 with
   | none=>bu 0 id (cV o.2.1 r (ez t id p))
   | some y=>bu 0 id (gF (fun y=>y) (cV o.2.1 (r ++ [y.held]) (ez t id p)) y)
def dC (o:dN) (now id:Int) (p:aE):aE:=match cg (·.id) o.2.1 p.ag with
 | none=>bu 3 id p
 | some b=>if o.1=10 then bu 0 id (ff (lG o.2.2.2) 7 o.2.1 (ib o.2.1 true o.2.2.2 p))
  else if o.1=11 then bu 0 id (ib o.2.1 false rM p)
  else if b.shown then bu 0 id (ez b.text id p) else mX 7 o now id (ez b.text id p)
def ig (o:dN) (id:Int) (p:aE):aE:=match cg (·.id) o.2.1 p.ai with
 | none=>bu 3 id p
 | some q=>if q.I=false then bu 3 id p
  else if q.Mf=false then bu 0 id (gU o.2.1 [o.2.2.2] p)
  else if (q.Ma.length:Int)=q.max then bu 1 id p
  else bu 0 id (gU o.2.1 (q.Ma ++ [o.2.2.2]) p)
def gC (o:dN) (id:Int) (p:aE):aE:=match cg (·.id) o.2.1 p.ai with
 | none=>bu 3 id p
 | some q=>if q.I then bu 3 id p else match q.Ma with
  | [] =>bu 1 id (ez rM id p)
  | t :: r=>bu 0 id (if q.Mf then gU o.2.1 r (ez t id p) else ez t id p)
def py (id:Int) (p:aE):aE:= { p with next:=p.next+1,L8:=ce id (fun y=> { y with Md:=1,RU:=p.next }) p.L8 }
def ot (id:Int) (p:aE):aE:= { p with L8:=ce id j7 p.L8 }
def jU (o:dN) (id:Int) (p:aE):aE:=match cg (·.id) o.2.1 p.L8 with
 | none=>bu 3 id p
 | some y=>if y.Md=0 then bu 0 id (py o.2.1 p) else bu 1 id p
def lg (o:dN) (id:Int) (p:aE):aE:=match cg (·.id) o.2.1 p.L8 with
 | none=>bu 3 id p
 | some y=>if y.Md=0 then bu 1 id p else if o.2.1=id then ot id p else bu 0 id (ot o.2.1 p)
def GY (x:aD) (o:dN) (p:aE):aE:=
 if (if x.left=0 then o.2.1 else x.left)=1 then bu 0 x.id p
 else { p with L8:=ce x.id (fun y=> { y with left:=(if x.left=0 then o.2.1 else x.left) - 1 }) p.L8 }
def lX (now:Int) (x:aD) (o:dN) (p:aE):aE:=
 if o.1=1 then GY x o p
 else if o.1=2 then kC 2 0 rM (now+o.2.1) x.id p
 else if o.1=3 then mh o now x.id p
 else if o.1=4 then gJ o x.id p
 else if o.1=5\/o.1=6\/o.1=7 then dE o now x.id p
 else if o.1=8 then lc o now x.id p
 else if o.1=9 then ka o now x.id p
 else if o.1=10\/o.1=11\/o.1=12 then dC o now x.id p
 else if o.1=13 then ig o x.id p
 else if o.1=14 then gC o x.id p
 else if o.1=15 then jU o x.id p
 else if o.1=16 then lg o x.id p
 else { p with L8:=ce x.id (fun y=> { y with pc:=0 }) p.L8 }
def mS (now:Int) (p:aE):aE:=match jl 1 0 (gj now p).L8 with
 | none=>gj now p
 | some x=>lX now x (opAt x) (gj now p)
def hZ (p:aE) (now:Int):Option aE:=if bK p && cv now 0 1000000000 && decide (p.next<=999999980) then o_ (mS now p) else n_
section
variable {α:Type} {num:α->Int}
def jF {l:List α} {f:α->α} {id:Int} {n:Nat} {y:α} (hr:l.Pairwise (fun x y=>num x < num y)) (hn:l[n]? =o_ y) (hy:num y=id):jP num id f l=l.set n (f y):=by
 induction l generalizing n with
 | nil=>simp at hn
 | cons x r ih=>
  obtain ⟨h1,h2⟩:=LM.1 hr;cases n with
  | zero=>
   simp only [List.getElem?_cons_zero,LF] at hn;subst hn;have e:jP num id f r=r:=by
    unfold jP
    conv=>rhs; rw [<- List.map_id r]
    refine Lw fun z hz=> ?_
    rw [if_neg (by have:=h1 z hz; omega)];rfl
   simp only [List.set_cons_zero]
   show (if num x=id then f x else x) :: jP num id f r=_
   rw [if_pos hy,e]
  | succ n=>
   simp only [List.getElem?_cons_succ] at hn;have hlt:=h1 y (KA hn);simp only [List.set_cons_succ]
   show (if num x=id then f x else x) :: jP num id f r=_
   rw [if_neg zo,ih h2 hn]
def ef (id:Int): ∀ (l:List α) (k:Nat),(place (l.map num) id k= -1/\cg num id l=n_)\/ ∃ n x,place (l.map num) id k=((k+n:Nat):Int)/\l[n]? =o_ x/\num x=id/\cg num id l=o_ x
 | [],k=> .inl ⟨rfl,rfl⟩
 | x :: r,k=>by
  unfold cg;by_cases h:num x=id
  .refine .inr ⟨0,x,?_,rfl,h,by simp [h]⟩
   simp [place,h]
  .rcases ef id r (k+1) with ⟨h1,h2⟩ | ⟨n,y,h1,h2,h4,h3⟩
   .exact ZbD
   .refine .inr ⟨n+1,y,?_,h2,h4,by simp only [LL,h,decide_false]; exact h3⟩
    simp only [Lt,place];rw [if_neg h,h1];omega
def ks {id:Int} {l:List α} {x:α} (h:cg num id l=o_ x):x∈l/\num x=id:=by
 have h1:=List.find?_some h;exact ⟨List.mem_of_find?_eq_some h,by simpa using h1⟩
end
def xw: ∀ (l:List aD) (r:Option aD) {y:aD},l.foldl iy r=o_ y->y∈l\/r=o_ y
 | [],_,_,h=> .inr h
 | x :: l,r,y,h=>by
  rcases xw l (iy r x) h with h1 | h1
  .exact .inl (by simp [h1])
  .rcases zp h1 with h2 | h2
   .exact .inl (by simp [h2])
   .exact .inr h2
def ft {st on:Int} {l:List aD} {x:aD} (h:jl st on l=o_ x):x∈l/\x.Md=st/\x.on=on:=by
 have h1:x∈l.filter (ie st on):=(xw _ n_ h).elim (fun e=>e) (fun e=>by cases e);obtain ⟨h2,h3⟩:=List.mem_filter.1 h1;unfold ie at h3;simp only [J7,decide_eq_true_eq] at h3;exact ⟨h2,h3⟩
def Dt {st on:Int} {l:List aD} (h:jl st on l=n_):l.filter (ie st on)= [] :=by
 unfold jl jo at h;rcases List.eq_nil_or_concat (l.filter (ie st on)) with e | ⟨l',x,e⟩
 .exact e
 .rw [e,List.concat_eq_append,List.foldl_append] at h
  simp only [List.foldl_cons,List.foldl_nil] at h;obtain ⟨y,hy⟩:=pN (l'.foldl iy n_) x;rw [hy] at h;cases h
def pT {n:Int} (h1: -2147483648<=n) (h2:n<=2147483647):(Lit.int j_ n).wf=true:=by
 have e1:IntKind.min j_<= -2147483648:=by decide
 have e2:2147483647<=IntKind.max j_:=by decide
 exact ZbZ
section
open Go.RowKit
section
variable {α:Type} {num:α->Int} {ok:α->Bool}
def bY (num:α->Int) (x:α):List α->List α
 | [] => [x]
 | y :: r=>if num x < num y then x :: y :: r else y :: bY num x r
def cA (num:α->Int) (x:α):List α->List α
 | [] => [x]
 | y :: r=>if num y < num x then y :: cA num x r else x :: y :: r
def er (x:α): ∀ l:List α,(bY num x l).length=l.length+1
 | [] =>rfl
 | y :: r=>by
  simp only [bY]
  split
  .rfl
  .simp [er x r]
def fq {x z:α} : ∀ {l:List α},z∈bY num x l↔z=x\/z∈l
 | [] =>by simp [bY]
 | y :: r=>by
  simp only [bY]
  split
  .simp
  .simp only [Kt,fq (l:=r)]
   constructor
   .exact Q3
   .exact Q3
def js {x z:α} : ∀ {l:List α},z∈cA num x l↔z=x\/z∈l
 | [] =>by simp [cA]
 | y :: r=>by
  simp only [cA]
  split
  .simp only [Kt,js (l:=r)]
   constructor
   .exact Q3
   .exact Q3
  .simp
def eJ (x:α): ∀ l:List α,(cA num x l).length=l.length+1
 | [] =>rfl
 | y :: r=>by
  simp only [cA]
  split
  .simp [eJ x r]
  .rfl
def tP {x:α} : ∀ {l:List α} {k:Nat},(∀ y∈l.take k,num y < num x)->(∀ y,l[k]? =o_ y-> ¬ num y < num x)->l.take k ++ x :: l.drop k=cA num x l
 | [],k,_,_=>by simp [cA]
 | y :: r,0,_,h2=>by
  have h3:=h2 y rfl;simp [cA,h3]
 | y :: r,k+1,h1,h2=>by
  have h3:=h1 y zw;simp only [List.take_succ_cons,List.drop_succ_cons,List.cons_append,cA,if_pos h3];rw [tP (fun z hz=>h1 z (by simp [hz])) (fun z hz=>h2 z (by simpa using hz))]
end
def cB (p p':aE):Option aE:=if bK p && bK p' then o_ p' else n_
end
section
open Go.RowKit Go.Maps
attribute [local go_sem ↓] Kc Kd
def NI (g:Nat) (x:ao) (w:w_) (h:w.heap[g]? =o_ (c_ (aX x) 41)):k_ J3 138 #[p_ (o_ ⟨g,0,n_⟩)] w fun e w'=>e=r_ (u_ #[])/\w'=w.drew.setRow g #[i_ j_ x.id,i_ j_ x.RX,s_ x.aY x.prog.length x.bH,i_ j_ 0,i_ j_ 0,i_ j_ 0,i_ j_ 0,i_ j_ 0,t_ ⟨#[]⟩,t_ x.got,i_ j_ x.code,i_ j_ 0] :=by
 have H:Hid (_):=h;obtain ⟨d0,d1,d2,d3,d4,d5,d6,d7,d8,d9,tH,tS⟩:=bo h;clear h d3 d4 d5 d6 d7 d8 tS
 go_enter func138,ntmps138
 go_wp2_with fail;refine eD (fun w'=>w'=w.drew) 23 ZcS rfl ?_
 iterate 23 (refine ly 24 (v:= ?_) (o_ _) rfl rfl ZcS (fun _ _ _ h=>h) (bV ZcS ?_) ?_; rotate_left; (intro w0 hS0; subst hS0; go_simp; try with_reducible rfl); simp only [pt,sb,s0,s1])
 refine fL rfl ZcS ZcS ZcS ?_;intro w1 cm;subst cm;refine qd _ _ _ rfl g _ _ #[i_ j_ x.id,i_ j_ x.RX,s_ x.aY x.prog.length x.bH,i_ j_ 0,i_ j_ 0,i_ j_ 0,i_ j_ 0,i_ j_ 0,t_ ⟨#[]⟩,t_ x.got,i_ j_ x.code,i_ j_ 0] rfl rfl H.I ZcS rfl ZcS ?_
 go_end0
 exact ⟨rfl,rfl⟩
def Qz (a b:aD):Bool:=if a.Mg=b.Mg then decide (a.id < b.id) else decide (a.Mg < b.Mg)
def RY (a b:ao × Nat):Bool:=Qz a.1.toaD b.1.toaD
def Qx (now:Int) (l:List (ao × Nat)):List (ao × Nat):=l.filter fun p=>og now p.1.toaD
def RZ {now:Int} {x:aD} :og now x=true↔2<=x.Md/\1<=x.Mg/\x.Mg<=now:=by
 unfold og;rw [J7,decide_eq_true_eq,bz]
def R2 (now:Int) (l:List (ao × Nat)) (p:ao × Nat):Qx now (l ++ [p])=Qx now l ++ (if og now p.1.toaD=true then [p] else []):=by
 unfold Qx;rw [List.filter_append];by_cases h:og now p.1.toaD=true <;> simp [h]
def Sn {α:Type} (afM:α->α->Bool) {l:List α} {k:Nat} (h:0 < k) (hk:k<=l.length): ∃ y,oa afM (l.take k)=o_ y/\y∈l:=by
 cases hb:oa afM (l.take k) with
 | none=>
  have h1:=congrArg List.length (CZ afM hb);rw [Lk,K4] at h1;omega
 | some y=>exact ⟨y,rfl,RK (Fg afM hb)⟩
def Sq {α β:Type} {afM:β->β->Bool} (f:α->β) (l:List α):oa afM (l.map f)=(oa (fun x y=>afM (f x) (f y)) l).map f:=by
 have key: ∀ (l:List α) (r:Option α),(l.map f).foldl (qV afM) (r.map f)=(l.foldl (qV fun x y=>afM (f x) (f y)) r).map f:=by
  intro l
  induction l with
  | nil=>intro r; rfl
  | cons x l ih=>
   intro r;simp only [List.foldl_cons,Lt,<- ih]
   congr 1
   cases r with
   | none=>rfl
   | some b=>
    simp only [qV,J9]
    split <;> rfl
 exact key l n_
def fold_congr {α:Type} {afM ah':α->α->Bool} : ∀ (l l0:List α) (r:Option α),(∀ b,r=o_ b->b∈l0)->(∀ b∈l0,∀ x∈l,afM x b=ah' x b)->l.Pairwise (fun b x=>afM x b=ah' x b)->l.foldl (qV afM) r=l.foldl (qV ah') r
 | [],_,_,_,_,_=>rfl
 | x :: l,l0,r,hr,h1,h2=>by
  rw [LM] at h2;have e:qV afM r x=qV ah' r x:=by
   cases r with
   | none=>rfl
   | some b=>simp only [qV,h1 b (hr b rfl) x zw]
  simp only [List.foldl_cons,e];refine fold_congr l (x :: l0) _ (fun b hb=> ?_) (fun b hb y hy=> ?_) h2.2
  .rcases EO ah' hb with h3 | h3
   .simp [h3]
   .exact List.mem_cons_of_mem _ (hr b h3)
  .rcases Kt.1 hb with rfl | hb
   .exact h2.1 y hy
   .exact h1 b hb y ZdH
def Sy {now:Int} {lp:List (ao × Nat)} (h:(lp.map fun p=>p.1.toaD).Pairwise (fun x y=>x.id < y.id)):(oa RY (Qx now lp)).map (fun p=>p.1.toaD)=lZ now (lp.map fun p=>p.1.toaD):=by
 have e1:lF now (lp.map fun p=>p.1.toaD)=(Qx now lp).map fun p=>p.1.toaD:=by
  unfold lF Qx;rw [List.filter_map];rfl
 unfold lZ;rw [e1];have e2:oa l8 ((Qx now lp).map fun p=>p.1.toaD)=oa Qz ((Qx now lp).map fun p=>p.1.toaD):=by
  refine fold_congr _ [] n_ (fun b hb=>by cases hb) (fun b hb=>by cases hb) ?_;have h2:((Qx now lp).map fun p=>p.1.toaD).Pairwise (fun x y=>x.id < y.id):=by
   rw [<- e1];exact h.sublist List.filter_sublist
  refine h2.imp fun {b x} lW=> ?_
  unfold l8 Qz;by_cases hw:x.Mg=b.Mg
  .rw [if_pos hw,decide_eq_false zo,decide_eq_false zo]
  .rw [if_neg hw]
 rw [e2,Sq];rfl
def R9 (A B:Nat) (a b:ao) (w:w_) (ha:w.heap[A]? =o_ (c_ (aX a) 41)) (hb:w.heap[B]? =o_ (c_ (aX b) 41)):
  k_ J3 61 #[p_ (o_ ⟨A,0,n_⟩),p_ (o_ ⟨B,0,n_⟩)] w fun e w'=>e=r_ (b_ (Qz a.toaD b.toaD))/\B_ w.heap.size w w':=by
 obtain ⟨a0,-,-,-,-,-,a6,-⟩:=bo ha;obtain ⟨b0,-,-,-,-,-,b6,-⟩:=bo hb;clear ha hb
 go_enter func61,ntmps61
 by_cases hp:a.Mg=b.Mg
 .have e1:(a.Mg != b.Mg)=false:=by simp [hp]
  by_cases hs:a.id < b.id
  .have ds:decide (a.id < b.id)=true:=decide_eq_true hs
   have HV:Hid (Qz a.toaD b.toaD=true):=by show Qz _ _=_; unfold Qz; rw [if_pos hp]; exact ds
   exact ab
  .have ds:decide (a.id < b.id)=false:=decide_eq_false hs
   have HV:Hid (Qz a.toaD b.toaD=false):=by show Qz _ _=_; unfold Qz; rw [if_pos hp]; exact ds
   exact ab
 .have e1:(a.Mg != b.Mg)=true:=by simp [hp]
  by_cases hs:a.Mg < b.Mg
  .have ds:decide (a.Mg < b.Mg)=true:=decide_eq_true hs
   have HV:Hid (Qz a.toaD b.toaD=true):=by show Qz _ _=_; unfold Qz; rw [if_neg hp]; exact ds
   exact ab
  .have ds:decide (a.Mg < b.Mg)=false:=decide_eq_false hs
   have HV:Hid (Qz a.toaD b.toaD=false):=by show Qz _ _=_; unfold Qz; rw [if_neg hp]; exact ds
   exact ab
def Sd (a:Option d_) (l:List (ao × Nat)) (cap:Nat) (w:w_) (hl:l.length<=1048576) (hr:Row w a (l.map fun p=>dt p.2)) (hb: ∀ p∈l,w.heap[p.2]? =o_ (c_ (aX p.1) 41)):
  k_ J3 59 #[s_ a l.length cap,.func (.func 61) #[] #[]] w fun e w'=>e=r_ (u_ #[qz ((oa RY l).map (·.2)),b_ (decide (0 < l.length))])/\B_ w.heap.size w w':=by
 have H:Hid (Row w a (l.map fun p=>dt p.2)/\ ∀ p∈l,w.heap[p.2]? =o_ (c_ (aX p.1) 41)):=⟨hr,hb⟩
 clear hr hb
 go_enter func59,ntmps59
 go_wp2_with fail
 go_loopw [6,11] (fun b i wr=> ∃ (k:Nat) (r:Option (ao × Nat)),k<=l.length/\i=i_ j_ k/\b=qz (r.map (·.2))/\Hid (r=oa RY (l.take k)/\B_ w.heap.size w wr)) (fun _ i _=>l.length - (intOf i).toNat)
 case atStart=>exact ⟨0,n_,Ky _,rfl,rfl,⟨by simp [oa],Kp _ _⟩⟩
 case round=>
  obtain ⟨k,r,hk,rfl,rfl,HA⟩:=hrel;by_cases hlt:k < l.length
  .have i0:(0:Int)<=(k:Int):=zo
   have i1:(k:Int) < (l.length:Int):=zo
   obtain ⟨p,hp⟩: ∃ p,l[k]? =o_ p:=⟨_,Kz hlt⟩
   obtain ⟨g,ha,hc⟩:=(H.I.1.below HA.I.2) k (dt p.2) Zdr;subst ha;unfold dt at hc;have HP:Hid (l[k]? =o_ p/\p∈l):=⟨hp,KA hp⟩
   clear hp;by_cases hk0:k=0
   .have e0:((k:Int) == 0)=true:=by simp [hk0]
    have HS:Hid (o_ p=oa RY (l.take (k+1))):=by show _=_; rw [cj HP.I.1,qy,hk0]; rfl
    exact Zbe
   .have e0:((k:Int) == 0)=false:=by simp [hk0]
    obtain ⟨y,hy,hym⟩:=Sn RY (l:=l) (by omega:0 < k) hk;have hry:r=o_ y:=HA.I.1.trans hy;subst hry;have HQ:Hid (oa RY (l.take k)=o_ y/\y∈l):=⟨hy,hym⟩
    clear hk0 hy hym;simp only [qz,dt,J9];go_wp2_with fail;refine (R9 p.2 y.2 p.1 y.1 wr ((HA.I.2.block _ (J2.1 (H.I.2 p HP.I.2)).1).trans (H.I.2 p HP.I.2)) ((HA.I.2.block _ (J2.1 (H.I.2 y HQ.I.2)).1).trans (H.I.2 y HQ.I.2))).mono ?_;rintro e w4 ⟨rfl,hb4⟩;have HB4:Hid (B_ w.heap.size w w4):=HA.I.2.trans (hb4.mono HA.I.2.size);clear hb4;cases FT:Qz p.1.toaD y.1.toaD with
    | true=>
     have HS:Hid (o_ p=oa RY (l.take (k+1))):=by show _=_; rw [cj HP.I.1,qy,HQ.I.1]; simp [qV,RY,FT]
     exact Zbg
    | false=>
     have HS:Hid (o_ y=oa RY (l.take (k+1))):=by show _=_; rw [cj HP.I.1,qy,HQ.I.1]; simp [qV,RY,FT]
     exact Zbh
  .have i1: ¬ (k:Int) < (l.length:Int):=zo
   have HE:Hid (r=oa RY l):=by have h5:=HA.I.1; rwa [KF zo] at h5
   go_wp2;go_ret2;refine ⟨?_,HA.I.2⟩;rw [HE.I];simp
def Sz (o:Nat) (q:ol) (lp:List (ao × Nat)) (now:Int) (base:Nat) (w:w_) (hop:fa w o q) (hsh:Shelf aX (fun x:ao=>x.id) 41 w base q.bp lp) (hl:lp.length<=1048576) (hwf: ∀ p∈RW (fun x:ao=>x.id) lp,(Lit.int j_ p.1).wf=true):
  k_ J3 60 #[p_ (o_ ⟨o,0,n_⟩),i_ j_ now] w fun e w'=>(∃ a cap,e=r_ (s_ a (Qx now lp).length cap)/\Row w' a ((Qx now lp).map fun p=>dt p.2))/\B_ w.heap.size w w':=by
 obtain ⟨i0,hi,e0⟩:=Kw.1 sQ;simp only [Kx] at e0;have HI:Hid (Tryz.prog.info? 64=o_ i0/\i0.zero=o_ (p_ n_)/\i0.size=1/\i0.bytes=8):=⟨hi,e0⟩
 have H:Hid (Shelf aX (fun x:ao=>x.id) 41 w base q.bp lp/\ ∀ p∈RW (fun x:ao=>x.id) lp,(Lit.int j_ p.1).wf=true):=⟨hsh,hwf⟩
 have c2:w.cell? ⟨o,2,n_⟩=o_ (i_ j_ 6):=hop.cell 2;have c3:w.cell? ⟨o,3,n_⟩=o_ (.map (o_ q.bp)):=hop.cell 3;have HK:Hid ((RW (fun x:ao=>x.id) lp).length=lp.length):=bZ lp;clear hop hsh hwf hi e0
 go_enter func60,ntmps60
 go_wp2_with fail;refine (mq 6 q.bp (RW (fun x:ao=>x.id) lp) w H.I.1.map Zc8 H.I.2).mono ?_;rintro e w2 ⟨a,cap,rfl,hown,hb2⟩;obtain ⟨a',cap',hv,hrow⟩:=cr hown;cases hv;have HR:Hid (Row w2 a ((RW (fun x:ao=>x.id) lp).map fun p=>dt p.2)):=hrow;have HO:Hid (Shelf aX (fun x:ao=>x.id) 41 w2 base q.bp lp/\B_ w.heap.size w w2):=⟨H.I.1.below hb2,hb2⟩
 rw [HK.I];clear hown hrow hb2 c2 c3;go_wp2_with fail
 go_loopw [5,14] (fun l i wr=> ∃ (k n:Nat),k<=lp.length/\n<=k/\i=i_ j_ k/\ ∃ a' cap',l=s_ a' n cap'/\Hid (n=(Qx now (lp.take k)).length/\wr.ownsRow w2.heap.size 64 1 (s_ a' n cap') n ((Qx now (lp.take k)).map fun p=>dt p.2)/\B_ w2.heap.size w2 wr)) (fun _ i _=>lp.length - (intOf i).toNat)
 case atStart=>exact ⟨0,0,Ky _,Ki _,rfl,n_,0,rfl,⟨rfl,World.ownsRow_nil _ _ _ _,Kp _ _⟩⟩
 case round=>
  obtain ⟨k,n,hk,hn,rfl,a',cap',rfl,HA⟩:=hrel;by_cases hlt:k < lp.length
  .have qE:(0:Int)<=(k:Int):=zo
   have i1:(k:Int) < (lp.length:Int):=zo
   obtain ⟨p,hp⟩: ∃ p,lp[k]? =o_ p:=⟨_,Kz hlt⟩
   obtain ⟨g,ha,hc⟩:=(HR.I.below HA.I.2.2) k (dt p.2) Zdc;subst ha;unfold dt at hc;have HP:Hid (lp[k]? =o_ p):=hp;have lW:wr.heap[p.2]? =o_ (c_ (aX p.1) 41):=(HO.I.1.below HA.I.2.2).box p (KA hp);obtain ⟨-,-,-,s3,-,-,s6,-⟩:=bo lW;have kT:=HA.I.2.2.size;clear hp lW;by_cases h1:2<=p.1.Md;rotate_left
   .skip
    exact te
   by_cases h2:1<=p.1.Mg;rotate_left
   .skip
    exact te
   by_cases h3:p.1.Mg<=now;rotate_left
   .skip
    exact te
   have SC:Hid ((Qx now (lp.take (k+1)))=(Qx now (lp.take k)) ++ [p]):=by show _=_; rw [cj HP.I,R2,if_pos (by rw [RZ]; exact ⟨h1,h2,h3⟩)]
   go_wp2_with (at_builtin; refine wpList_append_own_at _ rfl _ _ 130 rfl w2.heap.size 64 i0 (p_ n_) 1 8 underlying130 HI.I.1 HI.I.2.1 HI.I.2.2.1 HI.I.2.2.2 rfl (by decide) (s_ a' n cap') n ((Qx now (lp.take k)).map fun p=>dt p.2) rfl (HA.I.2.1.alloc _) ⟨wr.heap.size,0,n_⟩ 1 1 [p_ (o_ ⟨p.2,0,n_⟩)] (by rfl) rfl (World.news_of_block (cs:= #[p_ (o_ ⟨p.2,0,n_⟩)]) (t:=64) (fr:=(0,0)) (Kj wr _)) Zc3 ZcW zo ZcT ?_; intro v' w5 hown' hgrow hnil jV; obtain ⟨a5,im,rfl,-⟩:=cr hown'; have HN:Hid (n+1=(Qx now (lp.take (k+1))).length/\w5.ownsRow w2.heap.size 64 1 (s_ a5 (n+1) im) (n+1) ((Qx now (lp.take (k+1))).map fun p=>dt p.2)/\B_ w2.heap.size w2 w5):=⟨by rw [SC.I,List.length_append,<- HA.I.1]; rfl,by rw [SC.I,List.map_append]; exact hown',(HA.I.2.2.alloc kT _).grown hgrow ZcT (fun q hq=>(HA.I.2.1.lt q hq).1)⟩; clear hown' hgrow hnil jV);exact Zar
  .have i1: ¬ (k:Int) < (lp.length:Int):=zo
   have HE:Hid (n=(Qx now lp).length/\Row wr a' ((Qx now lp).map fun p=>dt p.2)):=by
    have h5:=HA.I;rw [KF zo] at h5;exact Zbl
   exact Zbv
end
def sr {α:Type} {num:α->Int} {ok:α->Bool} : ∀ {l:List α} {last:Int},(∀ x∈l,cv (num x) 1 1000=true/\ok x=true)->(∀ x∈l,last < num x)->l.Pairwise (fun x y=>num x < num y)->aw num ok last l=true
 | [],_,_,_,_=>rfl
 | x :: r,last,h1,h2,h3=>by
  obtain ⟨h4,h5⟩:=LM.1 h3;simp only [aw,J7,decide_eq_true_eq];exact ⟨⟨⟨(h1 x zw).1,h2 x zw⟩,(h1 x zw).2⟩,sr (fun y hy=>h1 y ZdH) h4 h5⟩
def nj {α:Type} {num:α->Int} {ok:α->Bool} {l:List α} {last id:Int} {f:α->α} (h:aw num ok last l=true) (hf: ∀ x,num (f x)=num x) (ho: ∀ x∈l,num x=id->ok (f x)=true):aw num ok last (jP num id f l)=true:=by
 obtain ⟨h1,h2⟩:=db h;have h3:=cK h;have e: ∀ z:α,num (if num z=id then f z else z)=num z:=fun z=>by split <;> simp [hf]
 refine sr (fun y hy=> ?_) (fun y hy=> ?_) ?_
 .obtain ⟨z,hz,rfl⟩:=Lr.1 hy
  refine ⟨by rw [e]; exact (h3 z hz).1,?_⟩
  split
  .exact ho z hz ‹_›
  .exact (h3 z hz).2
 .obtain ⟨z,hz,rfl⟩:=Lr.1 hy
  rw [e]; exact h1 z hz
 .unfold jP
  rw [Qm];exact h2.imp fun {a b} hab=>by rw [e,e]; exact hab
def vN {α:Type} {num:α->Int} {id:Int} {f:α->α} (hf: ∀ x,num (f x)=num x) (l:List α):(jP num id f l).map num=l.map num:=by
 unfold jP;rw [Lv];refine Lw fun z _=> ?_
 simp only [Ls]
 split <;> simp [hf]
section
variable {p:aE}
def aQ.proc (h:aQ p) {x:aD} (hx:x∈p.L8):cv x.id 1 1000=true/\cH x=true/\fF p.next x=true/\dG p x=true:=by
 obtain ⟨h1,h2⟩:=cK h.L8 x hx;simp only [J7] at h2;exact ⟨h1,h2.1.1,h2.1.2,h2.2⟩
def aQ.kW (h:aQ p):p.L8.Pairwise (fun x y=>x.id < y.id):=(db h.L8).2
def aQ.ju {id nx:Int} {f:aD->aD} (h:aQ p) (hid: ∀ x,(f x).id=x.id) (hn:p.next<=nx/\nx<=1000000000)
  (hx: ∀ x∈p.L8,x.id=id->cH (f x)=true/\fF nx (f x)=true/\dG p (f x)=true/\((f x).RU=x.RU\/(f x).RU=0\/(f x).RU=p.next)):aQ { p with next:=nx,L8:=ce id f p.L8 } :=by
 have hnx:=bz.1 h.next;have e: ∀ z:aD,(if z.id=id then f z else z).id=z.id:=fun z=>by split <;> simp [hid]
 refine ⟨h.id,(show cv nx 1 1000000000=true from eB zo hn.2),by simpa [ce] using h.dl,h.fx,h.cD,h.cC,h.cb,h.dH,?_,h.aj,h.L9,h.ag,h.ae,h.ai,?_⟩
 .obtain ⟨h1,h2⟩:=db h.L8
  refine sr (fun y hy=> ?_) (fun y hy=> ?_) ?_
  .obtain ⟨z,hz,rfl⟩:=Lr.1 hy
   refine ⟨by rw [e]; exact (h.proc hz).1,?_⟩;simp only [J7]
   split
   .rename_i hi
    obtain ⟨k1,k2,k3,-⟩:=hx z hz hi;exact ⟨⟨k1,k2⟩,k3⟩
   .obtain ⟨-,k1,k2,k3⟩:=h.proc hz
    refine ⟨⟨k1,?_⟩,k3⟩;unfold fF at k2 ⊢;simp only [Kb,decide_eq_true_eq] at k2 ⊢;rcases k2 with k2 | k2
    .exact .inl k2
    .have:=bz.1 k2; exact .inr (eB zo (by show _<=nx - 1; omega))
  .obtain ⟨z,hz,rfl⟩:=Lr.1 hy
   rw [e]; exact h1 z hz
  .show (ce id f p.L8).Pairwise _
   exact rW hid h2
 .have hs: ∀ z∈p.L8,z.RU < p.next/\0<=z.RU:=fun z hz=>by
   obtain ⟨-,k1,k2,-⟩:=h.proc hz;by_cases h0:z.Md=0
   .have:=kx k1 h0; omega
   .unfold fF at k2
    simp only [Kb,decide_eq_true_eq,h0,false_or] at k2
    have:=bz.1 k2; omega
  have ha:=h.apart;unfold rb at ha ⊢
  show ((ce id f p.L8).map (·.RU)).Pairwise _
  unfold ce;rw [Lv,Qm];rw [Qm] at ha;refine List.Pairwise.imp_of_mem (fun {a b} ham wU hab=> ?_) (ha.and h.kW);obtain ⟨h1,h2⟩:=hab;have sa:=hs a ham;have sb:=hs b wU;simp only [Ls];by_cases ea:a.id=id
  .rw [if_pos ea,if_neg zo]
   obtain ⟨-,-,-,k⟩:=hx a ham ea;rintro ⟨u,v⟩;rcases k with k | k | k
   .rw [k] at u; exact h1 ⟨u,v⟩
   .omega
   .omega
  .rw [if_neg ea]
   by_cases eb:b.id=id
   .rw [if_pos eb]
    obtain ⟨-,-,-,k⟩:=hx b wU eb;rintro ⟨u,v⟩;rcases k with k | k | k
    .rw [k] at u v; exact h1 ⟨u,v⟩
    .omega
    .omega
   .rw [if_neg eb]; exact h1
def aQ.GD {l:List bD} (h:aQ p) (hi:l.map (·.id)=p.aj.map (·.id)) (hr:aw (·.id) gw 0 l=true):aQ { p with aj:=l } :=by
 have hw:dG { p with aj:=l } =dG p:=by funext x; simp only [dG,hasB,hi]
 have hl:l.length=p.aj.length:=by simpa using congrArg List.length hi
 exact ⟨h.id,h.next,h.dl,by show l.length<=5; rw [hl]; exact h.fx,h.cD,h.cC,h.cb,h.dH,by rw [hw]; exact h.L8,hr,h.L9,h.ag,h.ae,h.ai,h.apart⟩
def aQ.Cz {l:List aB} (h:aQ p) (hi:l.map (·.id)=p.L9.map (·.id)) (hr:aw (·.id) ey 0 l=true):aQ { p with L9:=l } :=by
 have hw:dG { p with L9:=l } =dG p:=by funext x; simp only [dG,hasB,hi]
 have hl:l.length=p.L9.length:=by simpa using congrArg List.length hi
 exact ⟨h.id,h.next,h.dl,h.fx,by show l.length<=5; rw [hl]; exact h.cD,h.cC,h.cb,h.dH,by rw [hw]; exact h.L8,h.aj,hr,h.ag,h.ae,h.ai,h.apart⟩
def aQ.C5 {l:List az} (h:aQ p) (hi:l.map (·.id)=p.ag.map (·.id)) (hr:aw (·.id) cU 0 l=true):aQ { p with ag:=l } :=by
 have hw:dG { p with ag:=l } =dG p:=by funext x; simp only [dG,hasB,hi]
 have hl:l.length=p.ag.length:=by simpa using congrArg List.length hi
 exact ⟨h.id,h.next,h.dl,h.fx,h.cD,by show l.length<=5; rw [hl]; exact h.cC,h.cb,h.dH,by rw [hw]; exact h.L8,h.aj,h.L9,hr,h.ae,h.ai,h.apart⟩
def aQ.Cb {l:List ci} (h:aQ p) (hi:l.map (·.id)=p.ae.map (·.id)) (hr:aw (·.id) ct 0 l=true):aQ { p with ae:=l } :=by
 have hw:dG { p with ae:=l } =dG p:=by funext x; simp only [dG,hasB,hi]
 have hl:l.length=p.ae.length:=by simpa using congrArg List.length hi
 exact ⟨h.id,h.next,h.dl,h.fx,h.cD,h.cC,by show l.length<=5; rw [hl]; exact h.cb,h.dH,by rw [hw]; exact h.L8,h.aj,h.L9,h.ag,hr,h.ai,h.apart⟩
def aQ.Es {l:List dS} (h:aQ p) (hi:l.map (·.id)=p.ai.map (·.id)) (hr:aw (·.id) dj 0 l=true):aQ { p with ai:=l } :=by
 have hw:dG { p with ai:=l } =dG p:=by funext x; simp only [dG,hasB]
 have hl:l.length=p.ai.length:=by simpa using congrArg List.length hi
 exact ⟨h.id,h.next,h.dl,h.fx,h.cD,h.cC,h.cb,by show l.length<=5; rw [hl]; exact h.dH,by rw [hw]; exact h.L8,h.aj,h.L9,h.ag,h.ae,hr,h.apart⟩
end
def jY (x:aD):Bool:=cv x.RX 1 50 && jm x.prog && bw x.held && bw x.got && cv x.code 0 3
def fG (x:aD):cH x=(jY x && bO x):=rfl
def jX:bw rM=true:=by decide
def oB:bI rM=true:=by simp [bI,rM,PQ]
def iT {x:aD} (h:cH x=true) (h0: ¬ x.Md=0):0<=x.pc/\x.pc < x.prog.length:=by
 rw [fG,J7] at h;have h3:=h.2;unfold bO at h3;have h4:dU x=true:=by
  rw [if_neg h0] at h3
  split at h3
  .simp only [J7] at h3; exact h3.1.1.1.1
  .exact ZaK
 have h5:=bz.1 h4;omega
def yG {l:List dN} (h:jm l=true) {i:Nat} {o:dN} (ho:l[i]? =o_ o):kc o=true:=by
 unfold jm nq at h;have h1:=(of_decide_eq_true h).2.2 i (Lj.1 ho).1;unfold j8 Cd Cg Ea Ce at h1;rw [ho] at h1;exact h1
def lK {l:List dN} (h:jm l=true):1<=l.length/\l.length<=20:=by
 unfold jm nq at h;have h1:=of_decide_eq_true h;exact ⟨h1.1,h1.2.1⟩
def mr {x:aD} (hp:jm x.prog=true) (hs:x.Md=1) (hc:0<=x.pc/\x.pc < x.prog.length) (hl:x.left=0) (hw:x.Mg=0) (ho:x.on=0) (hh:bI x.held=true):bO x=true:=by
 unfold bO;rw [if_neg zo,if_pos hs,hw,ho,hh];have h1:dU x=true:=eB hc.1 zo;have h2:jJ x=true:=by
  unfold jJ;rw [hl]
  split
  .rename_i hk
   unfold opAt at hk ⊢;have h3:x.pc.toNat < x.prog.length:=zo
   rw [Kz h3] at hk ⊢;simp only [Option.getD_some] at hk ⊢;have h4:=yG hp (Kz h3);unfold kc mQ at h4;rw [hk] at h4;have h5:cv (x.prog[x.pc.toNat]).2.1 1 1000=true:=by simp at h4; exact h4.1.1
   have:=bz.1 h5
   simp only [J7,decide_eq_true_eq];omega
  .rfl
 rw [h1,h2]; rfl
def vQ {x:aD} (h:jY x=true):cH (j7 x)=true:=by
 rw [fG,J7];constructor
 .unfold jY at h ⊢
  simp only [J7] at h ⊢;exact ⟨⟨⟨h.1.1.1,jX⟩,h.1.2⟩,h.2⟩
 .unfold bO j7
  simp [oB]
def vF {x:aD} {code s:Int} (h:jY x=true) (hc:cv code 0 3=true) (h0:0<=x.pc) (h1:x.pc+1 < x.prog.length):cH { jM code x with RU:=s } =true:=by
 rw [fG,J7];unfold jY at h ⊢;simp only [J7] at h ⊢;refine ⟨⟨⟨⟨h.1.1.1,jX⟩,h.1.2⟩,hc⟩,mr (x:= { jM code x with RU:=s }) h.1.1.1.2 rfl ⟨by show 0<=x.pc+1; omega,h1⟩ rfl rfl rfl oB⟩
section
open Go.RowKit Go.Maps
def cJ.lt {w:w_} {base o:Nat} {S:aZ} (h:cJ w base o S): ∀ c∈o :: (S.boxes ++ S.kids),c < w.heap.size:=fun c hc=>by
 simp only [aZ.boxes,aZ.kids,Kt,Kg] at hc;rcases hc with rfl | ((hc | hc | hc | hc | hc | hc) | hc | hc | hc)
 .exact (J2.1 h.opn).1
 .exact h.L8.lt c (Kt.2 hc)
 .exact h.aj.lt c (Kt.2 hc)
 .exact h.L9.lt c (Kt.2 hc)
 .exact h.ag.lt c (Kt.2 hc)
 .exact h.ae.lt c (Kt.2 hc)
 .exact h.ai.lt c (Kt.2 hc)
 .obtain ⟨r,hr,hk⟩:=Lq.1 hc
  exact ((h.eI r hr).lt hk).2
 .obtain ⟨r,hr,hk⟩:=Lq.1 hc
  exact ((h.eE r hr).lt hk).2
 .obtain ⟨r,hr,hk⟩:=Lq.1 hc
  exact ((h.eR r hr).lt hk).2
def ld (w:w_) (a:Option d_) (xs:List v_):Prop:= ∀ j u,xs[j]? =o_ u-> ∃ ad,a=o_ ad/\w.cell? (ad.add j)=o_ u
def ld.nil {w:w_} {a:Option d_} :ld w a [] :=fun j u hu=>by cases hu
def ld.none {w:w_} {xs:List v_} (h:ld w n_ xs):xs= [] :=by
 cases xs with
 | nil=>rfl
 | cons u r=>
  obtain ⟨ad,e,_⟩:=h 0 u rfl;cases e
def jD {P:Program} (w:w_) (base:Nat) (t ty e:T_) (i:TypeInfo) (z:v_) (size bytes:Nat) (ht:P.underlying t=o_ (.slice e)) (hi:P.info? e=o_ i) (hz:i.zero=o_ z)
  (hsize:i.size=size) (hby:i.bytes=bytes) (hzs:z.cells.size=size) (hsz:0 < size) (a0:Option d_) (n0 c0:Nat) (ys:List v_) (ho:w.ownsRow base e size (s_ a0 n0 c0) n0 ys)
  (a:Option d_) (n cap:Nat) (xs:List v_) (h:ld w a xs) (hl:xs.length=n * size) (h1: ∀ u∈xs,u.oneCell'=true) (h63:n0+n<=4000000) (hb:bytes<=1000) (lY:base<=w.heap.size):
  ∃ a' cap' w',(Builtin.append_ #[t,t] ty #[s_ a0 n0 c0,s_ a n cap]).run P w= .ok (s_ a' (n0+n) cap') w'/\w'.ownsRow base e size (s_ a' (n0+n) cap') (n0+n) (ys ++ xs)/\w.grownBy w' (Value.slice a0 n0 c0).ownBlock/\ ∀ g∈blk a',g∈blk a0\/g=w.heap.size:=by
 cases a with
 | none=>
  have hx:=h.none;subst hx;have hn:n=0:=by
   cases n with
   | zero=>rfl
   | succ n=>simp only [K4,Nat.succ_mul] at hl; omega
  subst hn;refine ⟨a0,c0,w,?_,by simpa using ho,⟨rfl,rfl,rfl,Ki _,fun _ _ _=>rfl⟩,fun g hg=> .inl hg⟩;have hc:n0<=c0:=by
   obtain ⟨-,⟨e1,e2⟩ | ⟨g,c,cur,e1,-,-,h5,-⟩⟩:=ho
   .cases e1; exact Ki _
   .cases e1; exact h5
  cases a0 <;> simp [Builtin.append_,run_underlying ht,sizeOf,typeInfo,hi,Builtin.lenOf,Builtin.firstCells,storeCells,hc]
 | some ad=>
  have hnews: ∀ j u,xs[j]? =o_ u->w.cell? (ad.add j)=o_ u:=fun j u hu=>by
   obtain ⟨ad',e',hc⟩:=h j u hu;cases e';exact hc
  obtain ⟨v',w',hr,ho',hgr,-,hbl⟩:=run_append_own_at (P:=P) w base t ty e i z size bytes ht hi hz hsize hby hzs hsz (s_ a0 n0 c0) n0 ys ho ad n cap xs hl hnews h1 ZcW (by have:=Nat.mul_le_mul h63 hb; omega) lY;obtain ⟨a',cap',rfl,-⟩:=cr ho';refine ⟨a',cap',w',hr,ho',hgr,fun g hg=> ?_⟩;rw [fZ] at hg ⊢;cases a' with
  | none=>cases hg
  | some ad'=>
   simp only [J9,LF] at hg;subst hg;rcases hbl with hbl | hbl
   .refine .inl ?_
    cases a0 with
    | none=>cases hbl
    | some ad0=>simpa [Value.ownBlock] using hbl.symm
   .exact .inr ZdG
def qv {Z A A' R:List Nat} (h:(Z ++ (A ++ R)).Nodup) (hA:A'.Nodup) (h1: ∀ g∈A',g∉Z ++ (A ++ R)):(Z ++ (A' ++ R)).Nodup:=by
 simp only [Kg,not_or] at h1;simp only [Kf,Kg] at h ⊢;obtain ⟨hz,⟨-,hR,-⟩,hzz⟩:=h;refine ⟨hz,⟨hA,hR,fun a ha b hb e=>(h1 a ha).2.2 (e ▸ hb)⟩,fun a ha b hb e=> ?_⟩;rcases hb with hb | hb
 .exact (h1 b hb).1 (e ▸ ha)
 .exact hzz a ha b (.inr hb) e
def Hj (g m j:Nat):(⟨g,m,n_⟩:d_).add j=⟨g,m+j,n_⟩:=by unfold Addr.add; split <;> simp_all
def FH {α:Type} {K:Kind α} {w:w_} {a:Option d_} {l:List α} (k:Nat) (h:Row w a (K.flat l)):ld w (a.map (·.add (k * K.n))) (K.flat (l.drop k)):=fun j u hu=>by
 by_cases hk:k<=l.length
 .have e:K.flat l=K.flat (l.take k) ++ K.flat (l.drop k):=by rw [<- K.dc,Qn]
  have hl:(K.flat (l.take k)).length=k * K.n:=by rw [K.dM,Lk,Nat.min_eq_left hk]
  have hu2:(K.flat l)[k * K.n+j]? =o_ u:=by
   rw [e,List.getElem?_append_right zo,hl,Nat.add_sub_cancel_left];exact hu
  obtain ⟨g,rfl,hc⟩:=h _ u hu2;exact ⟨⟨g,k * K.n,n_⟩,by rw [J9,qZ],by rw [Hj]; exact hc⟩
 .rw [List.drop_eq_nil_of_le zo] at hu
  cases hu
def IS {w:w_} {a:Option d_} {xs:List v_} (h:Row w a xs):ld w a xs:=fun j u hu=>by
 obtain ⟨g,rfl,hc⟩:=h j u hu;exact ⟨_,rfl,by rw [qZ]; exact hc⟩
def uM {α:Type} {K:Kind α} {w:w_} {a:Option d_} {l:List α} (k:Nat) (h:Row w a (K.flat l)):ld w a (K.flat (l.take k)):=fun j u hu=>by
 have e:K.flat l=K.flat (l.take k) ++ K.flat (l.drop k):=by rw [<- K.dc,Qn]
 have hu2:(K.flat l)[j]? =o_ u:=by
  rw [e,List.getElem?_append_left (Lj.1 hu).1];exact hu
 exact IS h j u hu2
def nV {w:w_} {base size n c:Nat} {e:T_} {a:Option d_} {xs:List v_} (h:w.ownsRow base e size (s_ a n c) n xs):n<=c:=by
 obtain ⟨-,⟨e1,e2⟩ | ⟨g,c',cur,e1,-,-,h5,-⟩⟩:=h
 .cases e1; exact Ki _
 .cases e1; exact h5
def jO {w:w_} {g:Nat} {cs:Array v_} {t:T_} {aaO:Nat × Nat} (h:w.heap[g]? =o_ (c_ cs t aaO)):ld w (o_ ⟨g,0,n_⟩) cs.toList:=fun j u hu=>⟨_,rfl,by rw [qZ]; simp only [World.cell?,h]; simpa using hu⟩
def ja {w:w_} {o i:Nat} {v:v_} :(w.setCell ⟨o,i,n_⟩ v).heap.size=w.heap.size:=fH [v]
def qK {α:Type} {K:Kind α} {w:w_} {a:Option d_} {l:List α} {k c:Nat} (hk:l.length<=c) (h:Row w a (K.flat l)):ld w (if c=k then a else Option.map (fun x=>x.add (k * K.n)) a) (K.flat (l.drop k)):=by
 split
 .rw [List.drop_eq_nil_of_le zo]
  exact ld.nil
 .exact FH k h
def jS {p p':aE} (h:(bK p && bK p')=true):cB p p'=o_ p':=if_pos h
def jh {p p':aE} (h:(bK p && bK p')=false):cB p p'=n_:=if_neg (by rw [h]; decide)
def zm {α:Type} (num:α->Int) (id:Int) (l:List α) (k:Nat):(∃ x,l[k]? =o_ x/\num x < id/\k < l.length)\/(∃ x,l[k]? =o_ x/\ ¬ num x < id/\k < l.length)\/ ¬ k < l.length:=by
 by_cases h:k < l.length
 .by_cases h2:num l[k] < id
  .exact .inl ⟨_,Kz h,h2,h⟩
  .exact .inr (.inl ⟨_,Kz h,h2,h⟩)
 .exact .inr (.inr h)
end
section
open Go.RowKit
def nX {p:aE} {x:ci} (h:p.Small) (hr:bK p=true) (hx:(Lit.int j_ x.id).wf=true/\x.Ma.length<=1048576/\ ∀ s∈x.Ma,s.size<=1048576):aE.Small { p with ae:=bY (·.id) x p.ae } :=by
 have h2:=((ch _).1 hr).cb;exact ⟨h.dl,h.fx,h.cD,h.cC,by show (bY (·.id) x p.ae).length<=_; rw [er]; omega,h.dH,h.L8,h.aj,h.L9,h.ag,fun y hy=>(fq.1 hy).elim (fun e=>e ▸ hx) (h.ae y),h.ai⟩
def wrap64_wf (n:Int):(Lit.int j_ (wrap64 n)).wf=true:=by
 have e1:IntKind.min j_= -9223372036854775808:=by decide
 have e2:IntKind.max j_=9223372036854775807:=by decide
 simp only [Lit.wf,J7,decide_eq_true_eq,e1,e2];unfold wrap64;omega
def Iv (r:Nat) (a:Option d_) (len cap:Nat) (low high:Int) (w:w_) (hl:len<=1048576) (l0: -1<=low) (l1:low<=high) (l2:high<=1000000000) (h:Rd r a len cap w):
  k_ J3 39 #[p_ (o_ ⟨r,0,n_⟩),i_ j_ low,i_ j_ high] w fun e w'=> ∃ v:Int,e=r_ (i_ j_ v)/\(Lit.int j_ v).wf=true/\gG r w w'/\Rd r a len cap w':=by
 have HWL:Hid ((Lit.int j_ low).wf=true/\(Lit.int j_ high).wf=true):=⟨pT zo zo,pT zo zo⟩
 have k1: ¬ high < low:=zo
 have k2: ¬ high - low+1=0:=zo
 go_enter func39,ntmps39
 go_wp2_with fail;refine (dh r a len cap 8 _ hl zo zo h).mono ?_;rintro e w1 ⟨v,v0,v1,rfl,hb,hr⟩;by_cases e0:v=0
 .have b0:(v == 0)=true:=by simp [e0]
  go_wp2;go_ret;exact ⟨_,rfl,HWL.I.1,hb,hr⟩
 have b0:(v == 0)=false:=by simp [e0]
 by_cases e1:v=1
 .have b1:(v == 1)=true:=by simp [e1]
  go_wp2;go_ret;exact ⟨_,rfl,HWL.I.2,hb,hr⟩
 have b1:(v == 1)=false:=by simp [e1]
 go_wp2_with fail;refine (BO r a len cap _ hl hr).mono ?_;rintro e w2 ⟨x,rfl,hb2,hr2⟩;go_wp2;go_ret;exact ⟨_,rfl,wrap64_wf _,hb.trans hb2,hr2⟩
def Gk (r:Nat) (a:Option d_) (len cap:Nat) (low high:Int) (w:w_) (hl:len<=1048576) (l0: -1<=low) (l1:low<=high) (l2:high<=1000000000) (h:Rd r a len cap w):
  k_ J3 24 #[p_ (o_ ⟨r,0,n_⟩),i_ j_ low,i_ j_ high] w fun e w'=> ∃ v:Int,e=r_ (i_ j_ v)/\(Lit.int j_ v).wf=true/\gG r w w'/\Rd r a len cap w':=by
 go_enter func24,ntmps24
 go_wp2_with fail;refine (jt r a len cap 24 _ hl zo zo h).mono ?_;rintro e w1 ⟨v,rfl,hb,hr⟩;cases v with
 | true=>
  have rl:=hr.lt;go_wp2_with fail;refine (dh r a len cap 4 _ hl zo zo (hr.below ((Kp _ _).alloc (Ki _) _))).mono ?_;rintro e w2 ⟨v,v0,v1,rfl,hb2,hr2⟩;obtain ⟨n,rfl⟩:=Int.eq_ofNat_of_zero_le v0;have hn:n < 4:=zo
  have hy: ∃ y,w2.cell? ⟨w1.heap.size,n,n_⟩=o_ (i_ j_ y)/\(Lit.int j_ y).wf=true:=by
   rw [hb2.cell (p:=⟨w1.heap.size,n,n_⟩) zw ZcT,World.cell?_alloc_new]
   match n,hn with
   | 0,_=>exact ⟨_,rfl,pT zo zo⟩
   | 1,_=>exact ⟨_,rfl,pT zo zo⟩
   | 2,_=>exact ⟨_,rfl,rfl⟩
   | 3,_=>exact ⟨_,rfl,rfl⟩
  obtain ⟨y,hy,hyw⟩:=hy;have HY:Hid ((Lit.int j_ y).wf=true):=hyw;clear hyw;have HB:Hid (gG r w w2):=(hb.alloc _).trans hb2;clear hb2 hb;go_wp2;go_ret;exact ⟨y,rfl,HY.I,HB.I,hr2⟩
 | false=>
  go_wp2_with fail;refine (Iv r a len cap low high _ hl l0 l1 l2 hr).mono ?_;rintro e w2 ⟨x,rfl,hxw,hb2,hr2⟩;go_wp2;go_ret;exact ⟨_,rfl,hxw,hb.trans hb2,hr2⟩
def yN {p:aE} {x:bD} (h:p.Small) (hr:bK p=true) (hx:(Lit.int j_ x.id).wf=true):aE.Small { p with aj:=cA (·.id) x p.aj } :=by
 have h2:=((ch _).1 hr).fx;exact ⟨h.dl,by show (cA (·.id) x p.aj).length<=_; rw [eJ]; omega,h.cD,h.cC,h.cb,h.dH,h.L8,fun y hy=>(js.1 hy).elim (fun e=>e ▸ hx) (h.aj y),h.L9,h.ag,h.ae,h.ai⟩
def vS {p:aE} {x:aB} (h:p.Small) (hr:bK p=true) (hx:(Lit.int j_ x.id).wf=true):aE.Small { p with L9:=cA (·.id) x p.L9 } :=by
 have h2:=((ch _).1 hr).cD;exact ⟨h.dl,h.fx,by show (cA (·.id) x p.L9).length<=_; rw [eJ]; omega,h.cC,h.cb,h.dH,h.L8,h.aj,fun y hy=>(js.1 hy).elim (fun e=>e ▸ hx) (h.L9 y),h.ag,h.ae,h.ai⟩
def vR {p:aE} {x:az} (h:p.Small) (hr:bK p=true) (hx:(Lit.int j_ x.id).wf=true/\x.text.size<=1048576):aE.Small { p with ag:=cA (·.id) x p.ag } :=by
 have h2:=((ch _).1 hr).cC;exact ⟨h.dl,h.fx,h.cD,by show (cA (·.id) x p.ag).length<=_; rw [eJ]; omega,h.cb,h.dH,h.L8,h.aj,h.L9,fun y hy=>(js.1 hy).elim (fun e=>e ▸ hx) (h.ag y),h.ae,h.ai⟩
def pU {p:aE} {x:dS} (h:p.Small) (hr:bK p=true) (hx:(Lit.int j_ x.id).wf=true/\x.Ma.length<=1048576/\ ∀ s∈x.Ma,s.size<=1048576):aE.Small { p with ai:=bY (·.id) x p.ai } :=by
 have h2:=((ch _).1 hr).dH;exact ⟨h.dl,h.fx,h.cD,h.cC,h.cb,by show (bY (·.id) x p.ai).length<=_; rw [er]; omega,h.L8,h.aj,h.L9,h.ag,h.ae,fun y hy=>(fq.1 hy).elim (fun e=>e ▸ hx) (h.ai y)⟩
abbrev newP (id RX:Int) (l:List dN):aD:=⟨id,RX,l,0,0,0,0,0,⟨#[]⟩,⟨#[]⟩,0,0⟩
section
variable {p:aE} {id RX:Int} {l:List dN}
def pO (h:p.Small) (hr:bK p=true) (hx:l.length<=1048576/\ ∀ o∈l,o.2.2.2.size<=1048576) (hw:(Lit.int j_ id).wf=true):aE.Small { p with L8:=bY (·.id) (newP id RX l) p.L8 } :=by
 have h2:=((ch _).1 hr).dl;exact ⟨by show (bY (·.id) (newP id RX l) p.L8).length<=_; rw [er]; omega,h.fx,h.cD,h.cC,h.cb,h.dH,fun y hy=>(fq.1 hy).elim (fun e=>e ▸ ⟨⟨hx.1,hx.2,Ky _,Ky _⟩,hw,by show (Lit.int j_ 0).wf=true; decide,by show (Lit.int j_ 0).wf=true; decide⟩) (h.L8 y),h.aj,h.L9,h.ag,h.ae,h.ai⟩
end
end
section
variable {p:aE} {x:aD}
def iF (h:cH x=true):jY x=true:=by rw [fG,J7] at h; exact h.1
def vm {code:Int} (h:cH x=true) (h0: ¬ x.Md=0) (hc:cv code 0 3=true):cH (jT code x)=true:=by
 obtain ⟨h1,h2⟩:=iT h h0;unfold jT
 split
 .refine vQ ?_
  have h3:=iF h;unfold jY at h3 ⊢;simp only [J7] at h3 ⊢;exact ⟨⟨⟨h3.1.1.1,jX⟩,h3.1.2⟩,hc⟩
 .have:=vF (s:=x.RU) (iF h) hc h1 zo
  exact this
def AR {code nx:Int} (h:cH x=true) (h0: ¬ x.Md=0) (hc:cv code 0 3=true):cH (iY nx code x)=true:=by
 obtain ⟨h1,h2⟩:=iT h h0;unfold iY
 split
 .have:=vm (code:=code) h h0 hc
  unfold jT at this;rw [if_pos ‹_›] at this;exact this
 .exact vF (iF h) hc h1 zo
def zF {code id:Int} (h:aQ p) (h0: ∀ x∈p.L8,x.id=id-> ¬ x.Md=0) (hc:cv code 0 3=true):aQ (bu code id p):=by
 have hn:=bz.1 h.next;refine h.ju (nx:=p.next) (f:=jT code) (fun x=>by unfold jT; split <;> rfl) ⟨LJ _,hn.2⟩ fun x hx hi=> ?_
 obtain ⟨-,k1,k2,-⟩:=h.proc hx;have k0:=h0 x hx hi;refine ⟨vm k1 k0 hc,?_,?_,?_⟩
 .unfold fF at k2 ⊢
  simp only [Kb,decide_eq_true_eq,k0,false_or] at k2 ⊢;unfold jT
  split
  .exact .inl rfl
  .exact .inr k2
 .unfold dG
  rw [if_neg];unfold jT
  split <;> simp [j7,jM]
 .unfold jT
  split
  .exact .inr (.inl rfl)
  .exact .inl rfl
def lO {code:Int} {f:aD->aD} (h:aQ p) (hx:x∈p.L8) (h0: ¬ x.Md=0) (hc:cv code 0 3=true) (hf: ∀ y,(f y).id=y.id/\(f y).pc=y.pc/\(f y).prog=y.prog/\(f y).Md=y.Md) (hr:cH (f x)=true) (hn:p.next+1<=1000000000):
  aQ { p with next:=gf p.next x,L8:=ce x.id (fun y=>iY p.next code (f y)) p.L8 } :=by
 have hnx:=bz.1 h.next;have hw:gf p.next x=if (f x).pc+1=(f x).prog.length then p.next else p.next+1:=by unfold gf; rw [(hf x).2.1,(hf x).2.2.1]
 refine h.ju (f:=fun y=>iY p.next code (f y)) (fun y=>by rw [(rD _ _ _).1,(hf y).1]) ?_ fun y hy hi=> ?_
 .rw [hw]; split <;> omega
 .have e:y=x:=by
   have h5:=h.kW;rw [List.pairwise_iff_getElem] at h5;obtain ⟨i,hi1,rfl⟩:=LK.1 hy;obtain ⟨j,DS,rfl⟩:=LK.1 hx;exact Zbf
  subst e;have hs: ¬ (f y).Md=0:=by rw [(hf y).2.2.2]; exact h0
  refine ⟨AR hr hs hc,?_,?_,?_⟩
  .unfold fF
   rw [hw];simp only [Kb,decide_eq_true_eq];unfold iY
   split
   .exact .inl rfl
   .exact .inr (eB (by show 1<=p.next; omega) (by show p.next<=_; omega))
  .unfold dG
   rw [if_neg];unfold iY
   split <;> simp [j7,jM]
  .unfold iY
   split
   .exact .inr (.inl rfl)
   .exact .inr (.inr rfl)
def mU (nx:Int) (x:aD):nx<=gf nx x/\gf nx x<=nx+1:=by unfold gf; split <;> omega
def vd {now:Int} (h:aQ p) (hx:lZ now p.L8=o_ x) (hn:p.next+1<=1000000000):aQ (gu p x):=by
 obtain ⟨hm,hd⟩:=af9.mem hx;unfold og at hd;simp only [J7,decide_eq_true_eq] at hd;exact lO (f:=fun y=>y) h hm zo (by unfold mL; split <;> rfl) (fun _=>⟨rfl,rfl,rfl,rfl⟩) (h.proc hm).2.1 hn
def qI {now:Int} : ∀ (n:Nat) (p:aE),aQ p->p.next+n<=1000000000->aQ (oO now n p)/\p.next<=(oO now n p).next/\(oO now n p).next<=p.next+n
 | 0,p,h,_=>⟨h,by simp [oO]⟩
 | n+1,p,h,hn=>by
  unfold oO
  split
  .exact ⟨h,zo,zo⟩
  .rename_i x hx
   have h1:=vd h hx zo;have h2:(gu p x).next=gf p.next x:=rfl;have h3:=mU p.next x;obtain ⟨h4,h5,h6⟩:=qI n (gu p x) h1 zo;exact ⟨h4,zo,zo⟩
def ru {now:Int} (h:aQ p) (hn:p.next<=999999990):aQ (gj now p)/\p.next<=(gj now p).next/\(gj now p).next<=p.next+6:=by
 have h1:(lF now p.L8).length<=p.L8.length:=Qq _ _;have h2:=h.dl;obtain ⟨h3,h4,h5⟩:=qI (now:=now) (lF now p.L8).length p h zo;exact ⟨h3,h4,by unfold gj; omega⟩
def iQ {t:ByteArray} {id:Int} (h:aQ p) (ht:bw t=true):aQ (ez t id p):=by
 have hn:=bz.1 h.next;refine h.ju (nx:=p.next) (f:=lG t) (fun _=>rfl) ⟨LJ _,hn.2⟩ fun x hx _=> ?_
 obtain ⟨-,k1,k2,k3⟩:=h.proc hx;refine ⟨?_,k2,k3,.inl rfl⟩;exact Zbd
def i9 {f:aD->aD} (h:aQ p) (hx:x∈p.L8) (h0: ¬ x.Md=0) (hf:f=(fun y=>y)\/ ∃ t,bw t=true/\f=lG t) (hn:p.next+1<=1000000000):aQ (gF f p x):=by
 rcases hf with rfl | ⟨t,ht,rfl⟩
 .exact lO h hx h0 rfl (fun _=>⟨rfl,rfl,rfl,rfl⟩) (h.proc hx).2.1 hn
 .refine lO (f:=lG t) h hx h0 rfl (fun _=>⟨rfl,rfl,rfl,rfl⟩) ?_ hn
  have k1:=(h.proc hx).2.1;exact Zbd
def oU {f:aD->aD} {st on:Int} (hst: ¬ st=0) (hf:f=(fun y=>y)\/ ∃ t,bw t=true/\f=lG t): ∀ (n:Nat) (p:aE),aQ p->p.next+n<=1000000000->aQ (gW f st on n p)/\p.next<=(gW f st on n p).next/\(gW f st on n p).next<=p.next+n
 | 0,p,h,_=>⟨h,by simp [gW]⟩
 | n+1,p,h,hn=>by
  unfold gW
  split
  .exact ⟨h,zo,zo⟩
  .rename_i x hx
   obtain ⟨m1,m2,-⟩:=ft hx;have h1:=i9 (f:=f) h m1 zo hf zo;have h2:(gF f p x).next=gf p.next x:=rfl;have h3:=mU p.next x;obtain ⟨h4,h5,h6⟩:=oU hst hf n (gF f p x) h1 zo;exact ⟨h4,zo,zo⟩
def pP {f:aD->aD} {st on:Int} (hst: ¬ st=0) (hf:f=(fun y=>y)\/ ∃ t,bw t=true/\f=lG t) (h:aQ p) (hn:p.next<=999999990):aQ (ff f st on p)/\p.next<=(ff f st on p).next/\(ff f st on p).next<=p.next+6:=by
 have h1:(p.L8.filter (ie st on)).length<=p.L8.length:=Qq _ _;have h2:=h.dl;obtain ⟨h3,h4,h5⟩:=oU (on:=on) hst hf (p.L8.filter (ie st on)).length p h zo;exact ⟨h3,h4,by unfold ff; omega⟩
end
def xK: ∀ {l:List aD},jo l=n_->l= [] :=by
 intro l h;rcases List.eq_nil_or_concat l with rfl | ⟨r,x,rfl⟩
 .rfl
 .rw [List.concat_eq_append,ny] at h
  obtain ⟨y,hy⟩:=pN (jo r) x;rw [hy] at h; cases h
def Ei {x y b:aD} (h:dF x b=true) (hy:dF y b=false):dF y x=false:=by
 unfold dF at *
 split at h <;> split at hy <;> split <;> simp only [decide_eq_true_eq,decide_eq_false_iff_not] at * <;> omega
def uA (x:aD):dF x x=false:=by simp [dF]
def xC (n:Nat): ∀ (l:List aD) (b:aD),l.length=n->jo l=o_ b->b∈l/\ ∀ y∈l,dF y b=false:=by
 induction n with
 | zero=>intro l b hn h; cases l with | nil=>cases h | cons=>cases hn
 | succ n ih=>
  intro l b hn h;rcases List.eq_nil_or_concat l with rfl | ⟨r,x,rfl⟩
  .cases hn
  .rw [List.concat_eq_append] at h hn ⊢
   rw [ny] at h;have hr:r.length=n:=by simpa using hn
   cases hb:jo r with
   | none=>
    rw [hb] at h;obtain rfl:=xK hb;obtain rfl:x=b:=KC h;exact ⟨by simp,fun y hy=>by simp at hy; subst hy; exact uA _⟩
   | some c=>
    obtain ⟨h1,h2⟩:=ih r c hr hb;rw [hb] at h
    change (if dF x c=true then o_ x else o_ c)=o_ b at h
    by_cases ha:dF x c=true
    .rw [if_pos ha] at h
     obtain rfl:x=b:=KC h;refine ⟨by simp,fun y hy=> ?_⟩;rcases Kg.1 hy with hy | hy
     .exact Ei ha (h2 y hy)
     .simp at hy; subst hy; exact uA _
    .rw [if_neg ha] at h
     obtain rfl:c=b:=KC h;refine ⟨by simp [h1],fun y hy=> ?_⟩;rcases Kg.1 hy with hy | hy
     .exact h2 y hy
     .simp at hy; subst hy; simpa using ha
section
open Go.RowKit Go.Maps
def cJ.drew {w:w_} {base o:Nat} {S:aZ} (h:cJ w base o S):cJ w.drew base o S:=
 ⟨h.opn,h.L8.same fun _ _=>rfl,h.aj.same fun _ _=>rfl,h.L9.same fun _ _=>rfl,h.ag.same fun _ _=>rfl,h.ae.same fun _ _=>rfl,h.ai.same fun _ _=>rfl,fun p hp=>(h.eI p hp).same fun _ _=>rfl,fun p hp=>(h.eE p hp).same fun _ _=>rfl,fun p hp=>(h.eR p hp).same fun _ _=>rfl,h.nodup,h.low⟩
structure yr (w:w_) (base:Nat) (q q2:af) (W:w_):Prop where
 own:ap W base q2
 kept:aI w W q.Mc
 far: ∀ g∈q2.Mc,g∈q.Mc\/w.heap.size<=g
def rn {α:Type} {K:Kind α} {T:T_} {w:w_} {base cap n gs j:Nat} {a:Option d_} {l:List α} {x y:α} {v:v_} (h:w.ownsRow base T K.n (s_ a l.length cap) l.length (K.flat l)) (hx:l[n]? =o_ x) (ha:a=o_ ⟨gs,0,n_⟩) (hj:j < K.n) (hv:K.vals y=(K.vals x).set j v):
  (w.setCell ⟨gs,n * K.n+j,n_⟩ v).ownsRow base T K.n (s_ a l.length cap) l.length (K.flat (l.set n y))/\aI w (w.setCell ⟨gs,n * K.n+j,n_⟩ v) (blk a)/\(∃ u,w.cell? ⟨gs,n * K.n+j,n_⟩=o_ u)/\w.frozen? ⟨gs,n * K.n+j,n_⟩=false:=by
 have hn:n < l.length:=(Lj.1 hx).1;obtain ⟨g,hg,hrow⟩:=bl.fX (K:=K) h zo;rw [ha] at hg;cases hg;have h7:=hrow.cell hx (r:=j) hj;have hsp:=kL hx;have hset:l.set n y=l.take n ++ y :: l.drop (n+1):=by rw [RJ,if_pos hn]
 have hl:(l.take n).length=n:=by rw [Lk]; omega
 rw [hsp] at hrow;have h5:=bl.part (K:=K) (x:=x) (y:=y) (j:=j) (vs:= [v]) hrow ZcT (fun r hr=>by simp at hr; subst hr; rw [Nat.add_zero,hv,List.getElem?_set_self (by rw [K.len]; exact hj)]; rfl) (fun r hr hn=>by rw [hv,List.getElem?_set_ne (by simp at hn; omega)]);rw [hl,<- hset] at h5;have h6:=h5.owns;rw [LI] at h6;rw [ha];exact ⟨h6,aI.set (vs:= [v]) (by simp [blk]),⟨_,h7.1.trans (Kz (by rw [K.len]; exact hj))⟩,h7.2⟩
def uX {P1 P2:List Nat} {a b:Option Nat} (h:(P1 ++ (a.toList ++ P2)).Nodup) (hb: ∀ g,b=o_ g->g∉P1/\g∉P2):(P1 ++ (b.toList ++ P2)).Nodup:=by
 obtain ⟨h1,h2,h3⟩:=Kf.1 h;obtain ⟨-,h5,-⟩:=Kf.1 h2;refine Kf.2 ⟨h1,Kf.2 ⟨by cases b <;> simp,h5,fun x hx y hy e=> ?_⟩,fun x hx y hy e=> ?_⟩
 .cases b with
  | none=>simp at hx
  | some g=>simp at hx; subst hx; exact (hb x rfl).2 (e ▸ hy)
 .rcases Kg.1 hy with hy | hy
  .cases b with
   | none=>simp at hy
   | some g=>simp at hy; subst hy; exact (hb y rfl).1 (e ▸ hx)
  .exact h3 x hx y (Ly _ hy) e
def ou (w:w_) (base:Nat) (a0:Option d_) (c0:Nat) (l0:List ByteArray) (ho:w.ownsRow base 9 1 (s_ a0 l0.length c0) l0.length (bT.flat l0)) (a:Option d_) (l:List ByteArray) (cap:Nat) (h:ld w a (bT.flat l)) (hl:l0.length+l.length<=4000000) (lY:base<=w.heap.size):
  ∃ a' cap' w',(Builtin.append_ #[94,94] 94 #[s_ a0 l0.length c0,s_ a l.length cap]).run J3 w= .ok (s_ a' (l0.length+l.length) cap') w'/\w'.ownsRow base 9 1 (s_ a' (l0.length+l.length) cap') (l0.length+l.length) (bT.flat (l0 ++ l))/\w.grownBy w' (Value.slice a0 l0.length c0).ownBlock/\ ∀ g∈blk a',g∈blk a0\/g=w.heap.size:=by
 obtain ⟨i,hi,e⟩:=Kw.1 zD;simp only [Kx] at e;rw [bT.dc];exact jD w base _ _ 9 i _ 1 16 underlying94 hi e.1 e.2.1 e.2.2 rfl (by decide) a0 l0.length c0 _ ho a l.length cap _ h (bT.dM l) yK hl (by decide) lY
def IN (w:w_) (s:ByteArray):(w.alloc (c_ #[t_ s] 9)).ownsRow w.heap.size 9 1 (s_ (o_ ⟨w.heap.size,0,n_⟩) [s].length 1) [s].length (bT.flat [s]):=
 ⟨rfl,.inr ⟨w.heap.size,1,#[t_ s],rfl,Ki _,Kj _ _,Ki _,by decide,rfl,rfl⟩⟩
def vg {w:w_} {a:Option d_} {l:List ByteArray} {c:Nat} (hk:l.length<=c) (h:Row w a (bT.flat l)):ld w (if c=1 then a else Option.map (fun x:d_=>⟨x.block,x.off+1,n_⟩) a) (bT.flat (l.drop 1)):=by
 have h1:=qK (K:=bT) (k:=1) hk h;have e:(fun x:d_=>x.add (1 * bT.n))=(fun x:d_=>⟨x.block,x.off+1,n_⟩):=by funext x; rfl
 rw [e] at h1;exact h1
def aI.grown {w w5 w7:w_} {a:Option d_} {n c:Nat} (hb:B_ w.heap.size w w5) (hg:w5.grownBy w7 (Value.slice a n c).ownBlock):aI w w7 (blk a):=
 ⟨hg.os.trans hb.os,hg.tape.trans hb.tape,hg.output.trans hb.output,Nat.le_trans hb.size hg.size,fun g h1 h2=>(hg.block g (Nat.lt_of_lt_of_le h1 hb.size) fun e=>h2 (di e.symm)).trans (hb.block g h1)⟩
section
variable {w W:w_} {base n gs:Nat} {q:af}
def pg {x:aM} {l:List ByteArray} {a:Option d_} {c:Nat} (h:ap w base q) (hb:aI w W (blk x.ak)) (hx:q.ai[n]? =o_ x) (ha:q.aK=o_ ⟨gs,0,n_⟩) (ho:W.ownsRow base 9 1 (s_ a l.length c) l.length (bT.flat l)) (hf: ∀ g∈blk a,g∈blk x.ak\/w.heap.size<=g):
  yr w base q ({ q with ai:=q.ai.set n { x with Ma:=l,ak:=a,aq:=c } } :af) (W.setCell ⟨gs,n * 5+4,n_⟩ (s_ a l.length c))/\(∃ u,W.cell? ⟨gs,n * 5+4,n_⟩=o_ u)/\W.frozen? ⟨gs,n * 5+4,n_⟩=false:=by
 have hn:n < q.ai.length:=(Lj.1 hx).1;have hset:q.ai.set n { x with Ma:=l,ak:=a,aq:=c } =q.ai.take n ++ { x with Ma:=l,ak:=a,aq:=c } :: q.ai.drop (n+1):=by rw [RJ,if_pos hn]
 have hk: ∀ (z:aM) (A B:List aM),(A ++ z :: B).filterMap aU.bt=A.filterMap aU.bt ++ ((aU.bt z).toList ++ B.filterMap aU.bt):=fun z A B=>by
  rw [List.filterMap_append,List.filterMap_cons];cases aU.bt z <;> simp
 have h6:q.ai.filterMap aU.bt=(q.ai.take n).filterMap aU.bt ++ ((aU.bt x).toList ++ (q.ai.drop (n+1)).filterMap aU.bt):=(congrArg (List.filterMap aU.bt) (kL hx)).trans (hk _ _ _);obtain ⟨P1,uZ⟩: ∃ P1,P1=blk q.aN ++ (q.L8.filterMap aR.bt ++ (blk q.bc ++ (blk q.ay ++ (blk q.ax ++ (blk q.am ++ (q.ae.filterMap aC.bt ++ blk q.aK)))))) ++ (q.ai.take n).filterMap aU.bt:=⟨_,rfl⟩
 obtain ⟨P2,IQ⟩: ∃ P2,P2=(q.ai.drop (n+1)).filterMap aU.bt:=⟨_,rfl⟩
 have e1:q.Mc=P1 ++ ((aU.bt x).toList ++ P2):=by rw [uZ,IQ]; simp only [af.Mc,h6,Lm]
 have e2:({ q with ai:=q.ai.set n { x with Ma:=l,ak:=a,aq:=c } } :af).Mc=P1 ++ ((a.map (·.block)).toList ++ P2):=by
  rw [uZ,IQ];simp only [af.Mc,hset,hk,Lm];rfl
 have hkx: ∀ g,g∈blk x.ak↔g∈(aU.bt x).toList:=fun g=>Iff.rfl
 have Dl:=h.nodup;rw [e1] at Dl;have hP: ∀ g,g∈P1\/g∈P2->g∉blk x.ak:=fun g hg hm=>by
  exact ZaQ
 have hin: ∀ g,g∈P1\/g∈P2->g∈q.Mc:=fun g hg=>by
  rw [e1];rcases hg with hg | hg
  .exact Lz _ hg
  .exact Ly _ (Ly _ hg)
 have hgl:gs∈blk q.aK:=by rw [ha]; simp [blk]
 have hgP:gs∈P1:=by rw [uZ]; simp [hgl]
 have hsW: ∀ g,g∈P1\/g∈P2->W.heap[g]? =w.heap[g]? :=fun g hg=>hb.same g (h.lt g (hin g hg)).2 (hP g hg)
 have hrow:=aL h.ai fun g hg=>hsW g (.inl Zc9)
 obtain ⟨h1,h2,h3⟩:=rn (K:=bX) (y:= { x with Ma:=l,ak:=a,aq:=c }) (v:=s_ a l.length c) hrow hx ha (show 4 < 5 by decide) rfl;refine ⟨?_,h3⟩;have hnd:({ q with ai:=q.ai.set n { x with Ma:=l,ak:=a,aq:=c } } :af).Mc.Nodup:=by
  exact Zaj
 have hs: ∀ g,g≠gs->(W.setCell ⟨gs,n * 5+4,n_⟩ (s_ a l.length c)).heap[g]? =W.heap[g]? :=fun g hg=>aH hg
 have hsp:q.Mc=(blk q.aN ++ (q.L8.filterMap aR.bt ++ (blk q.bc ++ (blk q.ay ++ (blk q.ax ++ (blk q.am ++ q.ae.filterMap aC.bt)))))) ++ (blk q.aK ++ (q.ai.filterMap aU.bt)):=by simp [af.Mc,Lm]
 have nw: ∀ g,(g∈(blk q.aN ++ (q.L8.filterMap aR.bt ++ (blk q.bc ++ (blk q.ay ++ (blk q.ax ++ (blk q.am ++ q.ae.filterMap aC.bt))))))\/g∈(q.ai.filterMap aU.bt))->g≠gs:=fun g hg he=>by
  exact ZaI
 have hall: ∀ g,g∈P1\/g∈P2->g≠gs->(W.setCell ⟨gs,n * 5+4,n_⟩ (s_ a l.length c)).heap[g]? =w.heap[g]? :=fun g hg hne=>(hs g hne).trans (hsW g hg)
 refine ⟨⟨aL h.L8 fun g hg=>hall g (.inl Zc9) (nw g (.inl Zdm)),aL h.aj fun g hg=>hall g (.inl Zc9) (nw g (.inl Zdm)),aL h.L9 fun g hg=>hall g (.inl Zc9) (nw g (.inl Zdm)),aL h.ag fun g hg=>hall g (.inl Zc9) (nw g (.inl Zdm)),aL h.ae fun g hg=>hall g (.inl Zc9) (nw g (.inl Zdm)),(by show (W.setCell _ _).ownsRow _ _ _ (s_ _ (List.set _ _ _).length _) (List.set _ _ _).length _; rw [LI]; exact h1),fun z hz=>(h.eI z hz).same fun g hg=>hall g (.inl ZdD) (nw g (.inl ZdV)),?_,?_,hnd⟩,⟨hb.os,hb.tape,hb.output,by rw [ja]; exact hb.size,fun g hg hm=>(hs g fun e=>hm (e ▸ hin gs (.inl hgP))).trans (hb.same g hg fun hx=>hm ZdQ)⟩,fun g hg=> ?_⟩
 .intro z hz
  exact (h.eE z hz).same fun g hg=>hall g (.inl (by rw [uZ]; simp only [Kg]; exact .inl (.inr (.inr (.inr (.inr (.inr (.inr (.inl (dP.2 ⟨z,hz,hg⟩)))))))))) (nw g (.inl (by simp only [Kg]; exact .inr (.inr (.inr (.inr (.inr (.inr (dP.2 ⟨z,hz,hg⟩)))))))))
 .intro z hz
  rw [hset] at hz;rcases Kg.1 hz with hz | hz
  .exact (h.eR z (RK hz)).same fun g hg=>hall g (.inl (by rw [uZ]; exact Ly _ (dP.2 ⟨z,hz,hg⟩))) (nw g (.inr (by exact dP.2 ⟨z,RK hz,hg⟩)))
  .rcases Kt.1 hz with rfl | hz
   .exact Zaq
   .exact (h.eR z (RL hz)).same fun g hg=>hall g (.inr (by rw [IQ]; exact dP.2 ⟨z,hz,hg⟩)) (nw g (.inr (by exact dP.2 ⟨z,RL hz,hg⟩)))
 .exact Zap
end
end
section
open Go.RowKit Go.Maps
attribute [local go_sem ↓] Kc Kd
def fi (p q:af) (w:w_) (hp:p.Fit/\(∀ x∈p.L8,x.dX)/\af.At w p) (hq:bK p.pure=true->q.Fit/\(∀ x∈q.L8,x.dX)/\af.At w q):
  k_ J3 115 #[a_ p.cells,a_ q.cells] w fun e w'=>B_ w.heap.size w w'/\(((bK p.pure && bK q.pure)=true/\e=r_ (u_ #[a_ q.cells,b_ true]))\/((bK p.pure && bK q.pure)=false/\e=r_ (u_ #[a_ ar,b_ false]))):=by
 have HB:Hid (B_ w.heap.size w (((w.alloc (c_ p.row 31)).alloc (c_ q.row 31)).alloc (c_ ar 31))/\av (((w.alloc (c_ p.row 31)).alloc (c_ q.row 31)).alloc (c_ ar 31)) w.heap.size p/\av (((w.alloc (c_ p.row 31)).alloc (c_ q.row 31)).alloc (c_ ar 31)) (w.heap.size+1) q/\(((w.alloc (c_ p.row 31)).alloc (c_ q.row 31)).alloc (c_ ar 31)).heap[w.heap.size+2]? =o_ (c_ ar 31)):=by
  refine ⟨(((Kp _ _).alloc (Ki _) _).alloc zw _).alloc ZcT _,?_,?_,?_⟩
  .exact (PU ZcT).trans ((PU zw).trans (Kj _ _))
  .exact (PU zw).trans (by simpa using Kj (w.alloc (c_ p.row 31)) _)
  .simpa using Kj ((w.alloc (c_ p.row 31)).alloc (c_ q.row 31)) _
 have HP:Hid (p.Fit/\(∀ x∈p.L8,x.dX)/\af.At w p):=hp;have HQ:Hid (bK p.pure=true->q.Fit/\(∀ x∈q.L8,x.dX)/\af.At w q):=hq;clear hp hq;obtain ⟨m0,m1,m2,m3,m4,m5,m6,m7⟩:=HB.I.2.1.cells;obtain ⟨k0,k1,k2,k3,k4,k5,k6,k7⟩:=HB.I.2.2.1.cells;unfold af.cells
 go_enter func115,ntmps115
 go_wp2_with fail;generalize ((w.alloc (c_ p.row 31)).alloc (c_ q.row 31)).alloc (c_ ar 31)=W at *;clear m0 m1 m2 m3 m4 m5 m6 m7 k0 k1 k2 k3 k4 k5 k6 k7;refine (eV p W HP.I.1 HP.I.2.1 (HP.I.2.2.below HB.I.1)).mono ?_;rintro e W1 ⟨rfl,hb⟩;replace HB:Hid (B_ w.heap.size w W1/\av W1 w.heap.size p/\av W1 (w.heap.size+1) q/\W1.heap[w.heap.size+2]? =o_ (c_ ar 31)):=⟨HB.I.1.trans (hb.mono HB.I.1.size),HB.I.2.1.below hb,HB.I.2.2.1.below hb,(hb.block _ (J2.1 HB.I.2.2.2).1).trans HB.I.2.2.2⟩
 clear hb;obtain ⟨k0,k1,k2,k3,k4,k5,k6,k7⟩:=HB.I.2.2.1.cells;cases h4:bK p.pure
 .have H4:Hid (bK p.pure=false):=h4
  clear h4;go_wp2_with (refine ec 4 14 ar HB.I.2.2.2 ?_);refine mG results115 (b_ false) HB.I.2.2.2 ?_;exact ⟨q_ HB.I.1 zo _,.inr ⟨by rw [H4.I]; rfl,rfl⟩⟩
 have H4:Hid (bK p.pure=true):=h4;clear h4;go_wp2_with fail;clear k0 k1 k2 k3 k4 k5 k6 k7;refine (eV q W1 (HQ.I H4.I).1 (HQ.I H4.I).2.1 ((HQ.I H4.I).2.2.below HB.I.1)).mono ?_;rintro e W2 ⟨rfl,hb⟩;replace HB:Hid (B_ w.heap.size w W2/\av W2 w.heap.size p/\av W2 (w.heap.size+1) q/\W2.heap[w.heap.size+2]? =o_ (c_ ar 31)):=⟨HB.I.1.trans (hb.mono HB.I.1.size),HB.I.2.1.below hb,HB.I.2.2.1.below hb,(hb.block _ (J2.1 HB.I.2.2.2).1).trans HB.I.2.2.2⟩
 clear hb;obtain ⟨k0,k1,k2,k3,k4,k5,k6,k7⟩:=HB.I.2.2.1.cells;cases h5:bK q.pure
 .have H5:Hid (bK q.pure=false):=h5
  clear h5;go_wp2_with (refine ec 4 14 ar HB.I.2.2.2 ?_);refine mG results115 (b_ false) HB.I.2.2.2 ?_;exact ⟨q_ HB.I.1 zo _,.inr ⟨by rw [H4.I,H5.I]; rfl,rfl⟩⟩
 have H5:Hid (bK q.pure=true):=h5;clear h5;go_wp2_with (refine ec 4 15 q.row HB.I.2.2.2 ?_);refine mG results115 (b_ true) HB.I.2.2.2 ?_;exact ⟨q_ HB.I.1 zo _,.inl ⟨by rw [H4.I,H5.I]; rfl,rfl⟩⟩
end
section
open Go.RowKit Go.Maps
def uI (w:w_) (base:Nat) (a0:Option d_) (c0:Nat) (l0:List bD) (ho:w.ownsRow base 89 3 (s_ a0 l0.length c0) l0.length (dm.flat l0)) (a:Option d_) (l:List bD) (cap:Nat) (h:ld w a (dm.flat l)) (hl:l0.length+l.length<=4000000) (lY:base<=w.heap.size):
  ∃ a' cap' w',(Builtin.append_ #[25,25] 25 #[s_ a0 l0.length c0,s_ a l.length cap]).run J3 w= .ok (s_ a' (l0.length+l.length) cap') w'/\w'.ownsRow base 89 3 (s_ a' (l0.length+l.length) cap') (l0.length+l.length) (dm.flat (l0 ++ l))/\w.grownBy w' (Value.slice a0 l0.length c0).ownBlock/\ ∀ g∈blk a',g∈blk a0\/g=w.heap.size:=by
 obtain ⟨i,hi,e⟩:=Kw.1 yS;simp only [Kx] at e;rw [dm.dc];exact jD w base _ _ 89 i _ 3 24 underlying25 hi e.1 e.2.1 e.2.2 rfl (by decide) a0 l0.length c0 _ ho a l.length cap _ h (dm.dM l) Ec hl (by decide) lY
def ap.newSem {w w':w_} {base B:Nat} {q:af} {l:List bD} {a':Option d_} {c':Nat} (h:ap w base q) (hb:base<=B) (hB: ∀ g∈q.Mc,g < B) (hs: ∀ g∈q.Mc,w'.heap[g]? =w.heap[g]?)
  (ho:w'.ownsRow B 89 3 (s_ a' l.length c') l.length (dm.flat l)):ap w' base ({ q with aj:=l,bc:=a',bF:=c' } :af):=by
 refine ⟨aL h.L8 fun g hg=>hs g ZcV,cq ho hb,aL h.L9 fun g hg=>hs g ZcV,aL h.ag fun g hg=>hs g ZcV,aL h.ae fun g hg=>hs g ZcV,aL h.ai fun g hg=>hs g ZcV,fun x hx=>(h.eI x hx).same fun g hg=>hs g ?_,fun x hx=>(h.eE x hx).same fun g hg=>hs g ?_,fun x hx=>(h.eR x hx).same fun g hg=>hs g ?_,?_⟩
 .exact ZaD
 .exact R_
 .exact N_
 .have h5:=h.nodup
  have h6: ∀ g∈blk a',g∉q.Mc:=fun g hg hm=>by have:=(cf ho hg).1; have:=hB g hm; omega
  have e1: ∀ (a2:Option d_) (l2:List bD) (c2:Nat),({ q with aj:=l2,bc:=a2,bF:=c2 } :af).Mc=(blk q.aN ++ q.L8.filterMap aR.bt) ++ (blk a2 ++ (blk q.ay ++ (blk q.ax ++ (blk q.am ++ (q.ae.filterMap aC.bt ++ (blk q.aK ++ q.ai.filterMap aU.bt)))))):=fun _ _ _=>by simp [af.Mc]
  have e2:=e1 q.bc q.aj q.bF;rw [e1];have e3:q.Mc=(blk q.aN ++ q.L8.filterMap aR.bt) ++ (blk q.bc ++ (blk q.ay ++ (blk q.ax ++ (blk q.am ++ (q.ae.filterMap aC.bt ++ (blk q.aK ++ q.ai.filterMap aU.bt)))))):=e2;rw [e3] at h5 h6;exact qv h5 (fN _) h6
def qu (w:w_) (base:Nat) (a0:Option d_) (c0:Nat) (l0:List aB) (ho:w.ownsRow base 91 2 (s_ a0 l0.length c0) l0.length (bJ.flat l0)) (a:Option d_) (l:List aB) (cap:Nat) (h:ld w a (bJ.flat l)) (hl:l0.length+l.length<=4000000) (lY:base<=w.heap.size):
  ∃ a' cap' w',(Builtin.append_ #[26,26] 26 #[s_ a0 l0.length c0,s_ a l.length cap]).run J3 w= .ok (s_ a' (l0.length+l.length) cap') w'/\w'.ownsRow base 91 2 (s_ a' (l0.length+l.length) cap') (l0.length+l.length) (bJ.flat (l0 ++ l))/\w.grownBy w' (Value.slice a0 l0.length c0).ownBlock/\ ∀ g∈blk a',g∈blk a0\/g=w.heap.size:=by
 obtain ⟨i,hi,e⟩:=Kw.1 so;simp only [Kx] at e;rw [bJ.dc];exact jD w base _ _ 91 i _ 2 16 underlying26 hi e.1 e.2.1 e.2.2 rfl (by decide) a0 l0.length c0 _ ho a l.length cap _ h (bJ.dM l) xB hl (by decide) lY
def ap.Ge {w w':w_} {base B:Nat} {q:af} {l:List aB} {a':Option d_} {c':Nat} (h:ap w base q) (hb:base<=B) (hB: ∀ g∈q.Mc,g < B) (hs: ∀ g∈q.Mc,w'.heap[g]? =w.heap[g]?)
  (ho:w'.ownsRow B 91 2 (s_ a' l.length c') l.length (bJ.flat l)):ap w' base ({ q with L9:=l,ay:=a',aO:=c' } :af):=by
 refine ⟨aL h.L8 fun g hg=>hs g ZcV,aL h.aj fun g hg=>hs g ZcV,cq ho hb,aL h.ag fun g hg=>hs g ZcV,aL h.ae fun g hg=>hs g ZcV,aL h.ai fun g hg=>hs g ZcV,fun x hx=>(h.eI x hx).same fun g hg=>hs g ?_,fun x hx=>(h.eE x hx).same fun g hg=>hs g ?_,fun x hx=>(h.eR x hx).same fun g hg=>hs g ?_,?_⟩
 .exact ZaD
 .exact R_
 .exact N_
 .have h5:=h.nodup
  have h6: ∀ g∈blk a',g∉q.Mc:=fun g hg hm=>by have:=(cf ho hg).1; have:=hB g hm; omega
  have e1: ∀ (a2:Option d_) (l2:List aB) (c2:Nat),({ q with L9:=l2,ay:=a2,aO:=c2 } :af).Mc=(blk q.aN ++ (q.L8.filterMap aR.bt ++ blk q.bc)) ++ (blk a2 ++ (blk q.ax ++ (blk q.am ++ (q.ae.filterMap aC.bt ++ (blk q.aK ++ q.ai.filterMap aU.bt))))):=fun _ _ _=>by simp [af.Mc]
  have e2:=e1 q.ay q.L9 q.aO;rw [e1];have e3:q.Mc=(blk q.aN ++ (q.L8.filterMap aR.bt ++ blk q.bc)) ++ (blk q.ay ++ (blk q.ax ++ (blk q.am ++ (q.ae.filterMap aC.bt ++ (blk q.aK ++ q.ai.filterMap aU.bt))))):=e2;rw [e3] at h5 h6;exact qv h5 (fN _) h6
def pX (w:w_) (base:Nat) (a0:Option d_) (c0:Nat) (l0:List az) (ho:w.ownsRow base 93 3 (s_ a0 l0.length c0) l0.length (bG.flat l0)) (a:Option d_) (l:List az) (cap:Nat) (h:ld w a (bG.flat l)) (hl:l0.length+l.length<=4000000) (lY:base<=w.heap.size):
  ∃ a' cap' w',(Builtin.append_ #[27,27] 27 #[s_ a0 l0.length c0,s_ a l.length cap]).run J3 w= .ok (s_ a' (l0.length+l.length) cap') w'/\w'.ownsRow base 93 3 (s_ a' (l0.length+l.length) cap') (l0.length+l.length) (bG.flat (l0 ++ l))/\w.grownBy w' (Value.slice a0 l0.length c0).ownBlock/\ ∀ g∈blk a',g∈blk a0\/g=w.heap.size:=by
 obtain ⟨i,hi,e⟩:=Kw.1 sj;simp only [Kx] at e;rw [bG.dc];exact jD w base _ _ 93 i _ 3 32 underlying27 hi e.1 e.2.1 e.2.2 rfl (by decide) a0 l0.length c0 _ ho a l.length cap _ h (bG.dM l) xV hl (by decide) lY
def ap.GV {w w':w_} {base B:Nat} {q:af} {l:List az} {a':Option d_} {c':Nat} (h:ap w base q) (hb:base<=B) (hB: ∀ g∈q.Mc,g < B) (hs: ∀ g∈q.Mc,w'.heap[g]? =w.heap[g]?)
  (ho:w'.ownsRow B 93 3 (s_ a' l.length c') l.length (bG.flat l)):ap w' base ({ q with ag:=l,ax:=a',aP:=c' } :af):=by
 refine ⟨aL h.L8 fun g hg=>hs g ZcV,aL h.aj fun g hg=>hs g ZcV,aL h.L9 fun g hg=>hs g ZcV,cq ho hb,aL h.ae fun g hg=>hs g ZcV,aL h.ai fun g hg=>hs g ZcV,fun x hx=>(h.eI x hx).same fun g hg=>hs g ?_,fun x hx=>(h.eE x hx).same fun g hg=>hs g ?_,fun x hx=>(h.eR x hx).same fun g hg=>hs g ?_,?_⟩
 .exact ZaD
 .exact R_
 .exact N_
 .have h5:=h.nodup
  have h6: ∀ g∈blk a',g∉q.Mc:=fun g hg hm=>by have:=(cf ho hg).1; have:=hB g hm; omega
  have e1: ∀ (a2:Option d_) (l2:List az) (c2:Nat),({ q with ag:=l2,ax:=a2,aP:=c2 } :af).Mc=(blk q.aN ++ (q.L8.filterMap aR.bt ++ (blk q.bc ++ blk q.ay))) ++ (blk a2 ++ (blk q.am ++ (q.ae.filterMap aC.bt ++ (blk q.aK ++ q.ai.filterMap aU.bt)))):=fun _ _ _=>by simp [af.Mc]
  have e2:=e1 q.ax q.ag q.aP;rw [e1];have e3:q.Mc=(blk q.aN ++ (q.L8.filterMap aR.bt ++ (blk q.bc ++ blk q.ay))) ++ (blk q.ax ++ (blk q.am ++ (q.ae.filterMap aC.bt ++ (blk q.aK ++ q.ai.filterMap aU.bt)))):=e2;rw [e3] at h5 h6;exact qv h5 (fN _) h6
end
end Go.Proofs.YtfncpmaefninjaaGreatDoor
