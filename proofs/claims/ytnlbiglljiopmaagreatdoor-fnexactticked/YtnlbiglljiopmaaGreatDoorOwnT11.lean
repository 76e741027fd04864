/- What the proof leans on, part 11. -/
import Derived.Test.YtnlbiglljiopmaaGreatDoorOwnT10
set_option linter.unusedVariables false
set_option maxRecDepth 100000
set_option maxHeartbeats 8000000
open Go.Proofs.Tryz
open Go renaming World->w_,Value->v_,Calls->k_,Addr->d_,TypeId->T_
open Go.IntKind renaming i64->j_
open Go.Obj renaming cells->c_
open Go.RowKit renaming Below->B_
open Go.Value renaming int->i_,slice->s_,bool->b_,string->t_,agg->a_
open Option renaming some->o_,none->n_
open Array renaming getElem?_eq_some_iff->J2
open Bool renaming and_eq_true->J7
open Function renaming comp_def->Ls
open Go renaming heap_alloc2_new->Kq,heap_alloc_new->Kj,wpAnyH_done->K3,wpAnyH_ready->KW,wpList_load_row->LS,wp_at_succ->Kd,wp_at_zero->Kc,wp_region_held_drew->Kr
open Go.AllReadyH renaming cons->KX,nil->KY
open Go.Proofs.Tryz renaming prog->J3
open Go.RowKit.Below renaming refl->Kp
open Go.World renaming cell?_of_block->J1
open List renaming append_assoc->Lm,filterMap_append->LW,filterMap_cons->LH,find?_cons_of_neg->aeD,find?_cons_of_pos->aeC,getElem?_eq_some_iff->Lj,getElem?_set_self->LU,getElem_cons_succ->K1,getElem_cons_zero->K0,getElem_toArray->KZ,length_append->Lf,length_cons->Lg,length_drop->Ql,length_nil->K4,map_append->Kl,map_congr_left->Lw,map_cons->Lt,map_map->Lv,mem_append->Kg,mem_append_left->Lz,mem_append_right->Ly,mem_cons->Kt,mem_cons_of_mem->LB,mem_filterMap->Lq,mem_map->Lr,mem_of_getElem?->KA,nodup_append->Kf,nodup_cons->Lp,not_mem_nil->Ku,pairwise_iff_getElem->P8,set_set->PV
open Nat renaming le_refl->Ki,lt_trichotomy->P9,zero_add->Li
open Option.some renaming inj->KC

namespace Go.Proofs.YtnlbiglljiopmaaGreatDoor
theorem cAt {w:w_} {X i:Nat} {cs:Array v_} {T:T_} {v:v_} (h:w.heap[X]? =o_ (c_ cs T)) (hv:cs[i]? =o_ v):w.cell? ⟨X,i,n_⟩=o_ v:=by simp [World.cell?,h,hv]
theorem zq9w {P:Program} {md:Region.Mode} {ops:Array Oper} {Q:Exit→Act→w_→Prop} {S:w_→Prop} (i:Nat) {oi:Oper} {v:v_} {fuel:Nat} {RV:Array Bool} {a a':Act} {w:w_} {d:Tmp} (hS:S w) (h:wpAnyH P md ops Q S fuel (RV.setIfInBounds i true) a' w) (hi:ops[i]? =o_ oi:=by rfl) (hd:oi.dst=o_ d:=by rfl)
  (hy: ∀ w,S w→(execOp a.eval oi).run P w= .ok (.value v) w:=by intro w0 hS0; (first | (have q0:=hS0.1.cells.2.2.2.2.2.2.2; rw [HG.I] at q0) | (have q0:=hS0.1.cells.2.2.2.2.2.2.1; rw [HG.I] at q0)); (try (have q5:=hS0.1.cells.2.2.1; rw [ud.I] at q5; have q7:=hS0.2)); (try have q3:=hS0.2.1.cells.2.2.2); (first | have q4:=cAt (i:=4) hS0.2.2 rfl | have q4:=cAt (i:=2) hS0.2.2 rfl | have q4:=cAt (i:=4) hS0.2 rfl | have q4:=cAt (i:=2) hS0.2 rfl | skip); (try simp only at q3); go_simp; try with_reducible rfl) (h1:Region.noSelect ops=true:=by kernel_rfl) (h2:Region.free md ops RV i=true:=by kernel_rfl) (h3:(Region.ready md ops RV).contains i=true:=by kernel_rfl)
  (hQ: ∀ c a w,Q (.panic c) (a.put (o_ d) v) w→Q (.panic c) a w:=by exact fun _ _ _ h=>h) (hw:Region.wanted oi (yielded ops a.tmps)=true:=by kernel_rfl) (ha:a.put (o_ d) v=a':=by simp only [pt,sb,s0,s1]; rfl):wpAnyH P md ops Q S (fuel+1) RV a w:=
 tk i hy hS ZdD hi hd h1 h2 h3 hQ hw
def aic (now id:Int) (o:dN) (r:aE × Int):aE:=if r.2= -1 then r.1 else if 10≤r.2 then mX (r.2 - 10) o now id r.1 else bu r.2 id r.1
def agh {α:Type} (p:aE) (x:Option α) (f:α→aE × Int):aE × Int:=match x with
 | none=>(p,3)
 | some x=>f x
def aiw (n:Int) (p:aE) (s:bD):aE × Int:=if s.n=0 then (p,13) else (nZ n (-1) p,0)
def agx (n:Int) (p:aE) (s:bD):aE × Int:=match jl 3 n p.L8 with
 | some y=>(gF (fun y=>y) p y,0)
 | none=>if s.n=s.max then (p,1) else (nZ n 1 p,0)
def aks (n:Int) (p:aE) (_:aB):aE × Int:=(ff (fun y=>y) 4 n (gL n true p),0)
def aiJ (n:Int) (p:aE) (_:aB):aE × Int:=(gL n false p,0)
def ahQ (p:aE) (e:aB):aE × Int:=(p,if e.up then 0 else 14)
def ag8 (n:Int) (t:ByteArray) (p:aE) (b:ci):aE × Int:=match jl 6 n p.L8 with
 | some y=>(gF (lG t) p y,0)
 | none=>if (b.Ma.length:Int)=b.max then (p,15) else (cV n (b.Ma ++ [t]) p,0)
def ag5 (n id:Int) (p:aE) (b:ci):aE × Int:=match b.Ma with
 | [] =>(ez rM id p,16)
 | t :: r=>match jl 5 n (ez t id p).L8 with
  | none=>(cV n r (ez t id p),0)
  | some y=>(gF (fun y=>y) (cV n (r ++ [y.held]) (ez t id p)) y,0)
def ajf (n:Int) (t:ByteArray) (p:aE) (_:az):aE × Int:=(ff (lG t) 7 n (ib n true t p),0)
def aiG (n:Int) (p:aE) (_:az):aE × Int:=(ib n false rM p,0)
def ain (id:Int) (p:aE) (b:az):aE × Int:=(ez b.text id p,if b.shown then 0 else 17)
def agw (n:Int) (t:ByteArray) (p:aE) (q:dS):aE × Int:=if q.I=false then (p,3) else if q.Mf=false then (gU n [t] p,0) else if (q.Ma.length:Int)=q.max then (p,1) else (gU n (q.Ma ++ [t]) p,0)
def agB (n id:Int) (p:aE) (q:dS):aE × Int:=if q.I then (p,3) else match q.Ma with
 | [] =>(ez rM id p,1)
 | t :: r=>(if q.Mf then gU n r (ez t id p) else ez t id p,0)
def ahH (n:Int) (p:aE) (y:aD):aE × Int:=if y.Md=0 then (py n p,0) else (p,1)
def aiy (n id:Int) (p:aE) (y:aD):aE × Int:=if y.Md=0 then (p,1) else (ot n p,if n=id then -1 else 0)
def aiA (v:Int) (y:aD):aD:= { y with left:=v }
def agO (x:aD) (o:dN):Int:=if x.left=0 then o.2.1 else x.left
def runT (x:aD) (o:dN) (p:aE):aE × Int:=({ p with L8:=ce x.id (aiA (agO x o - 1)) p.L8 },if agO x o=1 then 0 else -1)
def ahr (nx Mg:Int) (y:aD):aD:= { y with Md:=2,Mg:=Mg,RU:=nx }
def aiX (now:Int) (x:aD) (o:dN) (p:aE):aE × Int:=({ p with next:=p.next+1,L8:=ce x.id (ahr p.next (now+o.2.1)) p.L8 },-1)
def aj6 (x:aD) (p:aE):aE × Int:=({ p with L8:=ce x.id (fun y=> { y with pc:=0 }) p.L8 },-1)
def agq (now:Int) (x:aD) (o:dN) (p:aE):aE × Int:=
 if o.1=1 then runT x o p
 else if o.1=2 then aiX now x o p
 else if o.1=3 then agh p (cg (·.id) o.2.1 p.aj) (aiw o.2.1 p)
 else if o.1=4 then agh p (cg (·.id) o.2.1 p.aj) (agx o.2.1 p)
 else if o.1=5 then agh p (cg (·.id) o.2.1 p.L9) (aks o.2.1 p)
 else if o.1=6 then agh p (cg (·.id) o.2.1 p.L9) (aiJ o.2.1 p)
 else if o.1=7 then agh p (cg (·.id) o.2.1 p.L9) (ahQ p)
 else if o.1=8 then agh p (cg (·.id) o.2.1 p.ae) (ag8 o.2.1 o.2.2.2 p)
 else if o.1=9 then agh p (cg (·.id) o.2.1 p.ae) (ag5 o.2.1 x.id p)
 else if o.1=10 then agh p (cg (·.id) o.2.1 p.ag) (ajf o.2.1 o.2.2.2 p)
 else if o.1=11 then agh p (cg (·.id) o.2.1 p.ag) (aiG o.2.1 p)
 else if o.1=12 then agh p (cg (·.id) o.2.1 p.ag) (ain x.id p)
 else if o.1=13 then agh p (cg (·.id) o.2.1 p.ai) (agw o.2.1 o.2.2.2 p)
 else if o.1=14 then agh p (cg (·.id) o.2.1 p.ai) (agB o.2.1 x.id p)
 else if o.1=15 then agh p (cg (·.id) o.2.1 p.L8) (ahH o.2.1 p)
 else if o.1=16 then agh p (cg (·.id) o.2.1 p.L8) (aiy o.2.1 x.id p)
 else aj6 x p
section
variable {now id:Int} {o:dN} {p:aE}
theorem agd (c:Int) (h:c≠ -1:=by decide) (h2: ¬ 10≤c:=by decide):aic now id o (p,c)=bu c id p:=by unfold aic; rw [if_neg h,if_neg h2]
theorem aif (c:Int) (h2:10≤c:=by decide):aic now id o (p,c)=mX (c - 10) o now id p:=by
 unfold aic;rw [if_neg (show ¬ c= -1 by omega),if_pos h2]
theorem ajy {f g:aD→aD} {l:List aD} (h: ∀ y∈l,y.id=id→f y=g y):ce id f l=ce id g l:=by
 unfold ce;refine Lw fun y hy=> ?_
 by_cases e:y.id=id
 ·rw [if_pos e,if_pos e,h y hy e]
 ·rw [if_neg e,if_neg e]
theorem aj2 {l:List aD} {x y:aD} (h:l.Pairwise (fun x y=>x.id < y.id)) (hx:x∈l) (hy:y∈l) (e:x.id=y.id):x=y:=by
 obtain ⟨i,hi⟩:=List.mem_iff_getElem?.1 hx;obtain ⟨j,hj⟩:=List.mem_iff_getElem?.1 hy;obtain ⟨hi1,rfl⟩:=Lj.1 hi;obtain ⟨DS,rfl⟩:=Lj.1 hj;rw [P8] at h;rcases P9 i j with hlt | heq | hgt
 ·have h7:=h i j hi1 DS hlt
  omega
 ·subst heq; rfl
 ·have h7:=h j i DS hi1 hgt
  omega
end
theorem aia {x:aD} (h:cH x=true) (hs:x.Md=1):x.on=0∧x.held=rM∧((opAt x).1=1→0≤x.left∧x.left < (opAt x).2.1):=by
 rw [fG,J7] at h;have h2:=h.2;unfold bO at h2;rw [if_neg (by omega),if_pos hs] at h2;simp only [J7,decide_eq_true_eq] at h2;refine ⟨h2.1.2,empty_eq h2.2,fun e=> ?_⟩;have h3:=h2.1.1.1.2;unfold jJ at h3;rw [if_pos e] at h3;simpa using h3
theorem op_fin {now:Int} {x:aD} {p:aE} (h:aQ p) (hx:x∈p.L8) (hs:x.Md=1):lX now x (opAt x) p=aic now x.id (opAt x) (agq now x (opAt x) p):=by
 have hr:=aia (h.proc hx).2.1 hs;have one: ∀ y∈p.L8,y.id=x.id→y=x:=fun y hy e=>aj2 h.kW hy hx e
 obtain ⟨o,ho⟩: ∃ o,o=opAt x:=⟨_,rfl⟩
 rw [← ho] at hr ⊢;unfold lX agq;by_cases k1:o.1=1
 ·rw [if_pos k1,if_pos k1]
  have hl:=hr.2.2 k1;unfold GY runT;by_cases e:agO x o=1
  ·have e':(if x.left=0 then o.2.1 else x.left)=1:=e
   rw [if_pos e',if_pos e,agd 0]
   show ({ p with L8:=ce x.id (jT 0) p.L8 } :aE)= { p with L8:=ce x.id (jT 0) (ce x.id (aiA (agO x o - 1)) p.L8) }
   rw [pm (f:=aiA (agO x o - 1)) fun _=>rfl];rfl
  ·have e': ¬ (if x.left=0 then o.2.1 else x.left)=1:=e
   rw [if_neg e',if_neg e];rfl
 rw [if_neg k1,if_neg k1];by_cases k2:o.1=2
 ·rw [if_pos k2,if_pos k2]
  unfold kC
  show _=({ p with next:=p.next+1,L8:=ce x.id (ahr p.next (now+o.2.1)) p.L8 } :aE)
  rw [ajy (f:=zb p.next 2 0 rM (now+o.2.1)) (g:=ahr p.next (now+o.2.1)) fun y hy e=> ?_];rw [one y hy e];unfold zb ahr;rw [← hr.1,← hr.2.1]
 rw [if_neg k2,if_neg k2];by_cases k3:o.1=3
 ·rw [if_pos k3,if_pos k3]
  unfold mh agh aiw;cases cg (·.id) o.2.1 p.aj with
  | none=>exact (agd 3).symm
  | some s=>
   simp only
   split
   ·exact (aif 13).symm
   ·exact (agd 0).symm
 rw [if_neg k3,if_neg k3];by_cases k4:o.1=4
 ·rw [if_pos k4,if_pos k4]
  unfold gJ agh agx;cases cg (·.id) o.2.1 p.aj with
  | none=>exact (agd 3).symm
  | some s=>
   simp only;cases jl 3 o.2.1 p.L8 with
   | some y=>exact (agd 0).symm
   | none=>
    simp only
    split
    ·exact (agd 1).symm
    ·exact (agd 0).symm
 rw [if_neg k4,if_neg k4];by_cases k5:o.1=5∨o.1=6∨o.1=7
 ·rw [if_pos k5]
  unfold dE;cases hf:cg (·.id) o.2.1 p.L9 with
  | none=>rcases k5 with k | k | k <;> simp only [k,agh] <;> exact (agd 3).symm
  | some e=>
   rcases k5 with k | k | k
   ·exact ZbN
   ·exact ZbN
   ·simp only [k,agh,ahQ]
    cases e.up
    ·exact (aif 14).symm
    ·exact (agd 0).symm
 rw [if_neg k5,if_neg (fun e=>k5 (.inl e)),if_neg (fun e=>k5 (.inr (.inl e))),if_neg (fun e=>k5 (.inr (.inr e)))];by_cases k8:o.1=8
 ·rw [if_pos k8,if_pos k8]
  unfold lc agh ag8;cases cg (·.id) o.2.1 p.ae with
  | none=>exact (agd 3).symm
  | some b=>
   simp only;cases jl 6 o.2.1 p.L8 with
   | some y=>exact (agd 0).symm
   | none=>
    simp only
    split
    ·exact (aif 15).symm
    ·exact (agd 0).symm
 rw [if_neg k8,if_neg k8];by_cases k9:o.1=9
 ·rw [if_pos k9,if_pos k9]
  unfold ka agh ag5;cases cg (·.id) o.2.1 p.ae with
  | none=>exact (agd 3).symm
  | some b=>
   simp only;cases b.Ma with
   | nil=>exact (aif 16).symm
   | cons t r=>
    simp only;cases jl 5 o.2.1 (ez t x.id p).L8 with
    | none=>exact (agd 0).symm
    | some y=>exact (agd 0).symm
 rw [if_neg k9,if_neg k9];by_cases k10:o.1=10∨o.1=11∨o.1=12
 ·rw [if_pos k10]
  unfold dC;cases hf:cg (·.id) o.2.1 p.ag with
  | none=>rcases k10 with k | k | k <;> simp only [k,agh] <;> exact (agd 3).symm
  | some e=>
   rcases k10 with k | k | k
   ·exact ZbN
   ·exact ZbN
   ·simp only [k,agh,ain]
    cases e.shown
    ·exact (aif 17).symm
    ·exact (agd 0).symm
 rw [if_neg k10,if_neg (fun e=>k10 (.inl e)),if_neg (fun e=>k10 (.inr (.inl e))),if_neg (fun e=>k10 (.inr (.inr e)))];by_cases k13:o.1=13
 ·rw [if_pos k13,if_pos k13]
  unfold ig agh agw;cases cg (·.id) o.2.1 p.ai with
  | none=>exact (agd 3).symm
  | some q=>
   simp only
   split
   ·exact (agd 3).symm
   split
   ·exact (agd 0).symm
   split
   ·exact (agd 1).symm
   ·exact (agd 0).symm
 rw [if_neg k13,if_neg k13];by_cases k14:o.1=14
 ·rw [if_pos k14,if_pos k14]
  unfold gC agh agB;cases cg (·.id) o.2.1 p.ai with
  | none=>exact (agd 3).symm
  | some q=>
   simp only
   split
   ·exact (agd 3).symm
   cases q.Ma with
   | nil=>exact (agd 1).symm
   | cons t r=>exact (agd 0).symm
 rw [if_neg k14,if_neg k14];by_cases k15:o.1=15
 ·rw [if_pos k15,if_pos k15]
  unfold jU agh ahH;cases cg (·.id) o.2.1 p.L8 with
  | none=>exact (agd 3).symm
  | some y=>
   simp only
   split
   ·exact (agd 0).symm
   ·exact (agd 1).symm
 rw [if_neg k15,if_neg k15];by_cases k16:o.1=16
 ·rw [if_pos k16,if_pos k16]
  unfold lg agh aiy;cases cg (·.id) o.2.1 p.L8 with
  | none=>exact (agd 3).symm
  | some y=>
   simp only
   split
   ·exact (agd 1).symm
   by_cases e:o.2.1=x.id
   ·rw [if_pos e,if_pos e,e]
    rfl
   ·rw [if_neg e,if_neg e]
    exact (agd 0).symm
 rw [if_neg k16,if_neg k16];rfl
section
open Go.RowKit Go.Maps
attribute [local go_sem ↓] Kc Kd
theorem BE (q:af) (n base:Nat) (x:ao) (now:Int) (o:dN) (w:w_) (h:ap w base q) (hb:base≤w.heap.size) (hr:aQ q.pure) (hx:q.L8[n]? =o_ x) (hs:x.Md=1) (hn:q.next≤999999990) (eu:0≤now∧now≤1000000000) (ho:kc o=true) (hk:o.1=7):
  k_ J3 105 #[a_ q.cells,i_ j_ n,a_ (j9 o),i_ j_ now] w (jH w base q (dE o now x.id q.pure)):=by
 obtain ⟨-,f1,f2,f3,f4⟩:=dv ho;have hM:=bz.1 f2;obtain ⟨k,N,M,s⟩:=o;simp only at hk hM f1 f3 f4;subst hk;have HR:=aA (SD hr hx hs hn eu hM);have HF:=aA (dW hr);clear f2 hr hx hs hn eu hM ho;have S:=aA (Xf.start (o:=(7,N,M,s)) h hb);clear h hb
 go_enter func105,ntmps105
 go_upto_region 1 with fail;generalize ((w.alloc (c_ q.cells 38)).alloc (c_ (j9 (7,N,M,s)) 165)).alloc (c_ ar 38)=A at *;obtain ⟨-,o1,-,-⟩:=S.I.op.cells;simp only at o1;have Mb:=lw q N A ZcY S.I.fr.own.at;go_wp2_with (refine eT 4 S.I.fr.box ?_);refine Mb.mono ?_;clear Mb;rintro e A2 ⟨rfl,hb2⟩;replace S:=aA (S.I.reads hb2);clear hb2 o1;generalize place (q.aj.map (fun x=>x.id)) N 0=z0 at *;obtain ⟨o0,o1,-,-⟩:=S.I.op.cells;simp only at o0 o1;have hpf:=ef (num:=fun x:aB=>x.id) N q.L9 0;have Mb:=ml q N A2 ZcY S.I.fr.own.at;generalize place (q.L9.map (fun x=>x.id)) N 0=z at *;go_wp2_with (refine eT 4 S.I.fr.box ?_);refine Mb.mono ?_;clear Mb;rintro e A3 ⟨rfl,hb2⟩;replace S:=aA (S.I.reads hb2);clear hb2 o0 o1;obtain ⟨o0,-,-,-⟩:=S.I.op.cells;simp only at o0;rcases hpf with ⟨hz,hf⟩ | ⟨m,y,hz,hm,hid,hf⟩
 ·subst hz
  have HE:Hid (dE (7,N,M,s) now x.id q.pure=bu 3 x.id q.pure):=by show dE (7,N,M,s) now x.id q.pure=_; unfold dE; rw [show cg (fun x:aB=>x.id) N q.pure.L9=n_ from hf]
  exact g_
 rw [Li] at hz;subst hz;have afO:decide ((m:Int) < 0)=false:=decide_eq_false (by omega);have HM:Hid (q.L9[m]? =o_ y∧y.id=N∧cg (fun x:aB=>x.id) N q.L9=o_ y):=⟨hm,hid,hf⟩
 have hml:=(Lj.1 hm).1;have j0:(0:Int)≤(m:Int):=by omega
 have j1:(m:Int) < (q.L9.length:Int):=by omega
 obtain ⟨Y5,iE,hat⟩:=j4 S.I.fr.own.at.2.2.1 hm;have m4:=S.I.fr.box.cells.2.2.2.2.1;rw [iE] at m4;have HG:Hid (q.ay=o_ ⟨Y5,0,n_⟩):=iE;have d1:=hat.2;clear hm hid hf hml hat iE;cases hu:y.up
 ·rw [hu] at d1
  have HE:Hid (dE (7,N,M,s) now x.id q.pure=mX 4 (7,N,M,s) now x.id q.pure):=by show dE (7,N,M,s) now x.id q.pure=_; unfold dE; rw [show cg (fun x:aB=>x.id) N q.pure.L9=o_ y from HM.I.2.2]; simp [hu]
  clear hu;have Mb:=oR q n base x 4 now (7,N,M,s) A3 S.I.fr.own S.I.low HR.I.1 HR.I.2.1 Zc0 Zdh HR.I.2.2.2.2.1 HR.I.2.2.2.2.2;go_wp2_with (first | (refine eT 4 S.I.fr.box ?_) | (refine LS rfl 165 (.tmp 6) rfl (w.heap.size+1) (by rfl) 165 (j9 (7,N,M,s)) (0,0) _ S.I.op underlying165 rfl ZcR ?_));refine Mb.mono ?_;clear Mb;rintro e A2 ⟨q2,rfl,hp,ht⟩;replace S:=aA (S.I.call ht);have HP:Hid (q2.pure=_):=hp;clear hp ht;go_wp2_with (refine ec 8 142 q2.cells S.I.an ?_);refine gZ results105 S.I.an ?_;exact mi
 ·rw [hu] at d1
  have HE:Hid (dE (7,N,M,s) now x.id q.pure=bu 0 x.id q.pure):=by show dE (7,N,M,s) now x.id q.pure=_; unfold dE; rw [show cg (fun x:aB=>x.id) N q.pure.L9=o_ y from HM.I.2.2]; simp [hu]
  clear hu;have Mb:=bB (n:=n) 0 S.I.fr.own S.I.low HR.I.1 HR.I.2.1 Zc0;exact Zcc
theorem Ab (q:af) (n base:Nat) (x:ao) (now:Int) (o:dN) (w:w_) (h:ap w base q) (hb:base≤w.heap.size) (hr:aQ q.pure) (hx:q.L8[n]? =o_ x) (hs:x.Md=1) (hn:q.next≤999999990) (eu:0≤now∧now≤1000000000) (ho:kc o=true) (hk:o.1=6):
  k_ J3 105 #[a_ q.cells,i_ j_ n,a_ (j9 o),i_ j_ now] w (jH w base q (dE o now x.id q.pure)):=by
 obtain ⟨-,f1,f2,f3,f4⟩:=dv ho;have hM:=bz.1 f2;obtain ⟨k,N,M,s⟩:=o;simp only at hk hM f1 f3 f4;subst hk;have HR:=aA (SD hr hx hs hn eu hM);have HF:=aA (dW hr);clear f2 hr hx hs hn eu hM ho;have S:=aA (Xf.start (o:=(6,N,M,s)) h hb);clear h hb
 go_enter func105,ntmps105
 go_upto_region 1 with fail;generalize ((w.alloc (c_ q.cells 38)).alloc (c_ (j9 (6,N,M,s)) 165)).alloc (c_ ar 38)=A at *;obtain ⟨-,o1,-,-⟩:=S.I.op.cells;simp only at o1;have Mb:=lw q N A ZcY S.I.fr.own.at;go_wp2_with (refine eT 4 S.I.fr.box ?_);refine Mb.mono ?_;clear Mb;rintro e A2 ⟨rfl,hb2⟩;replace S:=aA (S.I.reads hb2);clear hb2 o1;generalize place (q.aj.map (fun x=>x.id)) N 0=z0 at *;obtain ⟨o0,o1,-,-⟩:=S.I.op.cells;simp only at o0 o1;have hpf:=ef (num:=fun x:aB=>x.id) N q.L9 0;have Mb:=ml q N A2 ZcY S.I.fr.own.at;generalize place (q.L9.map (fun x=>x.id)) N 0=z at *;go_wp2_with (refine eT 4 S.I.fr.box ?_);refine Mb.mono ?_;clear Mb;rintro e A3 ⟨rfl,hb2⟩;replace S:=aA (S.I.reads hb2);clear hb2 o0 o1;obtain ⟨o0,-,-,-⟩:=S.I.op.cells;simp only at o0;rcases hpf with ⟨hz,hf⟩ | ⟨m,y,hz,hm,hid,hf⟩
 ·subst hz
  have HE:Hid (dE (6,N,M,s) now x.id q.pure=bu 3 x.id q.pure):=by show dE (6,N,M,s) now x.id q.pure=_; unfold dE; rw [show cg (fun x:aB=>x.id) N q.pure.L9=n_ from hf]
  exact g_
 rw [Li] at hz;subst hz;have afO:decide ((m:Int) < 0)=false:=decide_eq_false (by omega);have HM:Hid (q.L9[m]? =o_ y∧y.id=N∧cg (fun x:aB=>x.id) N q.L9=o_ y):=⟨hm,hid,hf⟩
 have hml:=(Lj.1 hm).1;have j0:(0:Int)≤(m:Int):=by omega
 have j1:(m:Int) < (q.L9.length:Int):=by omega
 obtain ⟨Y5,iE,hat⟩:=j4 S.I.fr.own.at.2.2.1 hm;have m4:=S.I.fr.box.cells.2.2.2.2.1;rw [iE] at m4;have HG:Hid (q.ay=o_ ⟨Y5,0,n_⟩):=iE;have HE:Hid (dE (6,N,M,s) now x.id q.pure=bu 0 x.id (gL N false q.pure)):=by show dE (6,N,M,s) now x.id q.pure=_; unfold dE; rw [show cg (fun x:aB=>x.id) N q.pure.L9=o_ y from HM.I.2.2]; rfl
 clear hm hid hf hml hat iE;obtain ⟨s1,⟨u,c⟩,f⟩:=rv (n:=m) (j:=1) (v:=b_ false) (y:= { y with up:=false }) S.I.fr.own HM.I.1 HG.I (by decide) rfl;replace S:=aA (S.I.call s1);clear s1;go_upto_region 29 with fail;generalize A3.setCell ⟨Y5,m * 2+1,n_⟩ (b_ false)=C at *;clear m4 c f u afO j0 j1 o0;have hq:({ q with L9:=q.L9.set m { y with up:=false } } :af).pure=gL N false q.pure:=by show ({ q.pure with L9:=q.L9.set m { y with up:=false } } :aE)=_; unfold gL; rw [jF (num:=fun x:aB=>x.id) (db HR.I.1.L9).2 HM.I.1 HM.I.2.1]; rfl
 have Hv:af.cells ({ q with L9:=q.L9.set m { y with up:=false } } :af)=q.cells:=by unfold af.cells; simp
 have hr2:aQ (gL N false q.pure):=kw HR.I.1;rw [← hq] at hr2;have Mb:=bB (n:=n) 0 S.I.fr.own S.I.low hr2 HR.I.2.1 Zc0;rw [hq,Hv] at Mb;clear hq Hv hr2;exact Zcc
theorem Ey (q:af) (n base:Nat) (x:ao) (now:Int) (o:dN) (w:w_) (h:ap w base q) (hb:base≤w.heap.size) (hr:aQ q.pure) (hx:q.L8[n]? =o_ x) (hs:x.Md=1) (hn:q.next≤999999990) (eu:0≤now∧now≤1000000000) (ho:kc o=true) (hk:o.1=5):
  k_ J3 105 #[a_ q.cells,i_ j_ n,a_ (j9 o),i_ j_ now] w (jH w base q (dE o now x.id q.pure)):=by
 obtain ⟨-,f1,f2,f3,f4⟩:=dv ho;have hM:=bz.1 f2;obtain ⟨k,N,M,s⟩:=o;simp only at hk hM f1 f3 f4;subst hk;have HR:=aA (SD hr hx hs hn eu hM);have HF:=aA (dW hr);clear f2 hr hx hs hn eu hM ho;have S:=aA (Xf.start (o:=(5,N,M,s)) h hb);clear h hb
 go_enter func105,ntmps105
 go_upto_region 1 with fail;generalize ((w.alloc (c_ q.cells 38)).alloc (c_ (j9 (5,N,M,s)) 165)).alloc (c_ ar 38)=A at *;obtain ⟨-,o1,-,-⟩:=S.I.op.cells;simp only at o1;have Mb:=lw q N A ZcY S.I.fr.own.at;go_wp2_with (refine eT 4 S.I.fr.box ?_);refine Mb.mono ?_;clear Mb;rintro e A2 ⟨rfl,hb2⟩;replace S:=aA (S.I.reads hb2);clear hb2 o1;generalize place (q.aj.map (fun x=>x.id)) N 0=z0 at *;obtain ⟨o0,o1,-,-⟩:=S.I.op.cells;simp only at o0 o1;have hpf:=ef (num:=fun x:aB=>x.id) N q.L9 0;have Mb:=ml q N A2 ZcY S.I.fr.own.at;generalize place (q.L9.map (fun x=>x.id)) N 0=z at *;go_wp2_with (refine eT 4 S.I.fr.box ?_);refine Mb.mono ?_;clear Mb;rintro e A3 ⟨rfl,hb2⟩;replace S:=aA (S.I.reads hb2);clear hb2 o0 o1;obtain ⟨o0,o1,-,-⟩:=S.I.op.cells;simp only at o0 o1;rcases hpf with ⟨hz,hf⟩ | ⟨m,y,hz,hm,hid,hf⟩
 ·subst hz
  have HE:Hid (dE (5,N,M,s) now x.id q.pure=bu 3 x.id q.pure):=by show dE (5,N,M,s) now x.id q.pure=_; unfold dE; rw [show cg (fun x:aB=>x.id) N q.pure.L9=n_ from hf]
  exact g_
 rw [Li] at hz;subst hz;have afO:decide ((m:Int) < 0)=false:=decide_eq_false (by omega);have HM:Hid (q.L9[m]? =o_ y∧y.id=N∧cg (fun x:aB=>x.id) N q.L9=o_ y):=⟨hm,hid,hf⟩
 have hml:=(Lj.1 hm).1;have j0:(0:Int)≤(m:Int):=by omega
 have j1:(m:Int) < (q.L9.length:Int):=by omega
 obtain ⟨Y5,iE,hat⟩:=j4 S.I.fr.own.at.2.2.1 hm;have m4:=S.I.fr.box.cells.2.2.2.2.1;rw [iE] at m4;have HG:Hid (q.ay=o_ ⟨Y5,0,n_⟩):=iE;have HE:Hid (dE (5,N,M,s) now x.id q.pure=bu 0 x.id (ff (fun y=>y) 4 N (gL N true q.pure))):=by show dE (5,N,M,s) now x.id q.pure=_; unfold dE; rw [show cg (fun x:aB=>x.id) N q.pure.L9=o_ y from HM.I.2.2]; rfl
 clear o1;clear hm hid hf hml hat iE;obtain ⟨s1,⟨u,c⟩,f⟩:=rv (n:=m) (j:=1) (v:=b_ true) (y:= { y with up:=true }) S.I.fr.own HM.I.1 HG.I (by decide) rfl;replace S:=aA (S.I.call s1);clear s1;go_upto_region 20 with fail;generalize A3.setCell ⟨Y5,m * 2+1,n_⟩ (b_ true)=C at *;clear m4 c f u afO j0 j1 o0;have hq:({ q with L9:=q.L9.set m { y with up:=true } } :af).pure=gL N true q.pure:=by show ({ q.pure with L9:=q.L9.set m { y with up:=true } } :aE)=_; unfold gL; rw [jF (num:=fun x:aB=>x.id) (db HR.I.1.L9).2 HM.I.1 HM.I.2.1]; rfl
 have Hv:af.cells ({ q with L9:=q.L9.set m { y with up:=true } } :af)=q.cells:=by unfold af.cells; simp
 have hr2:aQ (gL N true q.pure):=kw HR.I.1;obtain ⟨q1,hq1⟩: ∃ q1:af,q1= { q with L9:=q.L9.set m { y with up:=true } } :=⟨_,rfl⟩
 rw [← hq1] at hq Hv S;rw [← hq] at hr2;have HQ:Hid (q1.pure=gL N true q.pure∧q1.cells=q.cells∧aQ q1.pure∧q1.L8[n]? =o_ x∧q1.next≤999999990):=⟨hq,Hv,hr2,by rw [hq1]; exact HR.I.2.1,by rw [hq1]; exact HR.I.2.2.2.1⟩
 have Mb:=ij q1 4 N C (by have:=(dW HQ.I.2.2.1).1; omega) S.I.fr.own.at;rw [Hv] at Mb;clear hq Hv hr2 hq1;obtain ⟨-,o1,-,-⟩:=S.I.op.cells;simp only at o1;go_wp2_with (refine eT 4 S.I.fr.box ?_);refine Mb.mono ?_;clear Mb o1;rintro e afl ⟨⟨z,rfl,gV⟩,hb2⟩;replace S:=aA (S.I.reads hb2);clear hb2;have afW:Hid (Xf w base q q1 q1 (5,N,M,s) afl):=⟨⟨by have h5:=S.I.fr.box; unfold av at h5 ⊢; exact h5.trans (congrArg (fun c=>o_ (Obj.cells c 38 (0,0))) HQ.I.2.1.symm),S.I.fr.own,S.I.fr.kept,S.I.fr.far,S.I.fr.lo,S.I.fr.sz⟩,S.I.op,S.I.an⟩
 have HI:=aA (If.start (f:=fun y=>y) (n:=n) (x:=x.toaD) HQ.I.2.2.1 (mj HQ.I.2.2.2.1) HQ.I.2.2.2.2 gV);rw [HQ.I.1] at HI;clear gV S;go_wp2_with fail
 go_loopg [11] ((gL N true q.pure).L8.filter (ie 4 N)).length (fun k b wr=> ∃ (qk:af) (z:Int),b=i_ j_ z∧Hid (If (fun y=>y) 4 N (ff (fun y=>y) 4 N (gL N true q.pure)) n x.toaD k qk z∧Xf w base q qk qk (5,N,M,s) wr))
 case atStart=>exact ⟨q1,z,rfl,HI.I,afW.I⟩
 case round=>
  obtain ⟨qk,z,rfl,HK⟩:=hrel;have S:=aA HK.I.2;rcases pp HK.I.1.best with ⟨hz,hw⟩ | ⟨i,v,hz,hi,hw⟩
  ·have afO:decide (z≥0)=false:=decide_eq_false (by omega)
   obtain ⟨x2,hx2,sw⟩:=tQ HK.I.1.pos;have HT:Hid (bu 0 x2.id qk.pure=dE (5,N,M,s) now x.id q.pure):=by show bu 0 x2.id qk.pure=_; rw [HE.I,← HK.I.1.same,qO hw,show x2.id=x.id from congrArg aD.id sw]
   have Mb:=bB (n:=n) 0 S.I.fr.own S.I.low HK.I.1.r hx2 ZcZ;clear hz hw hx2 sw;go_wp2_with (refine eT 4 S.I.fr.box ?_);refine Mb.mono ?_;clear Mb;rintro e A2 ⟨q2,rfl,hp,ht⟩;replace S:=aA (S.I.call ht);have HP:Hid (q2.pure=_):=hp;clear hp ht;go_wp2_with (refine ec 8 145 q2.cells S.I.an ?_);refine gZ results105 S.I.an ?_;exact ⟨q2,rfl,HP.I.trans HT.I,S.I.done _⟩
  subst hz;have afO:decide ((i:Int)≥0)=true:=decide_eq_true (by omega);have HW:Hid (jl 4 N qk.pure.L8=o_ v.toaD∧qk.L8[i]? =o_ v∧v.Md=4):=⟨hw,hi,(ft hw).2.1⟩
  clear hw hi;have Mb:=lP (n:=i) S.I.fr.own S.I.low HK.I.1.r HW.I.2.1 Zc7 (by have:=HK.I.1.nx; omega);go_wp2_with (refine eT 4 S.I.fr.box ?_);refine Mb.mono ?_;clear Mb afO;rintro e D ⟨q2,rfl,hp,ht⟩;replace S:=aA (S.I.call ht);have HJ:=aA (HK.I.1.step (q2:=q2) HR.I.2.2.1 ⟨by decide,by decide⟩ (.inl rfl) HW.I.1 hp);clear hp ht;have S2:=aA S.I.put;go_upto_region 22 with (refine ec 4 121 q2.cells S.I.fr.box ?_);generalize D.setRow w.heap.size q2.cells=af3 at *;clear S;have S:=S2;clear S2;obtain ⟨-,o1,-,-⟩:=S.I.op.cells;simp only at o1;have Mb:=ij q2 4 N af3 (by have:=(dW HJ.I.2.2.1).1; omega) S.I.fr.own.at;go_wp2_with (refine eT 4 S.I.fr.box ?_);refine Mb.mono ?_;clear Mb o1;rintro e afY ⟨⟨z2,rfl,gV⟩,hb2⟩;exact ZaH
theorem Cl (q:af) (n base:Nat) (x:ao) (now:Int) (o:dN) (w:w_) (h:ap w base q) (hb:base≤w.heap.size) (hr:aQ q.pure) (hx:q.L8[n]? =o_ x) (hs:x.Md=1) (hn:q.next≤999999990) (eu:0≤now∧now≤1000000000) (ho:kc o=true) (hk:o.1=12):
  k_ J3 107 #[a_ q.cells,i_ j_ n,a_ (j9 o),i_ j_ now] w (jH w base q (dC o now x.id q.pure)):=by
 obtain ⟨-,f1,f2,f3,f4⟩:=dv ho;have hM:=bz.1 f2;obtain ⟨k,N,M,s⟩:=o;simp only at hk hM f1 f3 f4;subst hk;have HR:=aA (SD hr hx hs hn eu hM);have HF:=aA (dW hr);clear f2 hr hx hs hn eu hM ho;have S:=aA (Xf.start (o:=(12,N,M,s)) h hb);clear h hb
 go_enter func107,ntmps107
 go_upto_region 1 with fail;generalize ((w.alloc (c_ q.cells 38)).alloc (c_ (j9 (12,N,M,s)) 165)).alloc (c_ ar 38)=A at *;obtain ⟨-,o1,-,-⟩:=S.I.op.cells;simp only at o1;have hpf:=ef (num:=fun x:az=>x.id) N q.ag 0;have Mb:=mg q N A ZcY S.I.fr.own.at;generalize place (q.ag.map (fun x=>x.id)) N 0=z at *;go_wp2_with (refine eT 4 S.I.fr.box ?_);refine Mb.mono ?_;clear Mb;rintro e A2 ⟨rfl,hb2⟩;replace S:=aA (S.I.reads hb2);clear hb2 o1;rcases hpf with ⟨hz,hf⟩ | ⟨m,y,hz,hm,hid,hf⟩
 ·subst hz
  have HE:Hid (dC (12,N,M,s) now x.id q.pure=bu 3 x.id q.pure):=by show dC (12,N,M,s) now x.id q.pure=_; unfold dC; rw [show cg (fun x:az=>x.id) N q.pure.ag=n_ from hf]
  exact Zcd
 rw [Li] at hz;subst hz;have afO:decide ((m:Int) < 0)=false:=decide_eq_false (by omega);have HM:Hid (q.ag[m]? =o_ y∧y.id=N∧cg (fun x:az=>x.id) N q.pure.ag=o_ y):=⟨hm,hid,hf⟩
 have hml:=(Lj.1 hm).1;have j0:(0:Int)≤(m:Int):=by omega
 have j1:(m:Int) < (q.ag.length:Int):=by omega
 clear hm hid hf hml;obtain ⟨o0,-,-,-⟩:=S.I.op.cells;simp only at o0;have ht:=(sX (o:=(12,N,M,s)) HR.I.1 HM.I.2.2).2;have HG1:=aA (kg HR.I.1 HR.I.2.1 ht);clear ht;go_upto_region 17 with fail;clear afO o0;replace S:=aA (S.I.reads (Kp _ _).drew);refine eD (fun w1=>w1=A2.drew) 11 ZcR rfl ?_;generalize A2.drew=B at *;obtain ⟨Y5,iE,hat⟩:=jr S.I.fr.own.at.2.2.2.1 HM.I.1;have m5:=S.I.fr.box.cells.2.2.2.2.2.1;rw [iE] at m5;have d1:=hat.2.1;have d2:=hat.2.2;have HG:Hid (q.ax=o_ ⟨Y5,0,n_⟩):=iE;clear hat iE;obtain ⟨gp,l9,-⟩:=cn S.I.fr.own.at.1 HR.I.2.1;have m2:=S.I.fr.box.cells.2.2.1;have k1:(n:Int) < (q.L8.length:Int):=by have:=(Lj.1 HR.I.2.1).1; omega
 have k0:(0:Int)≤(n:Int):=by omega
 rw [l9] at m2;obtain ⟨s1,⟨u,c⟩,f⟩:=eY (n:=n) (j:=9) (v:=t_ y.text) (y:= { x with got:=y.text }) S.I.fr.own HR.I.2.1 l9 ⟨rfl,rfl,rfl⟩ (by decide) rfl;replace S:=aA (S.I.call s1);clear s1 l9
 iterate 11 (refine ly 12 (v:= ?_) (o_ _) rfl rfl ZcR (fun _ _ _ h=>h) (bV ZcR ?_) ?_; rotate_left; (intro w0 hS0; subst hS0; go_simp; try with_reducible rfl); simp only [pt,sb,s0,s1])
 refine fL rfl ZcR ZcR ZcR ?_;intro w1 cm;rw [cm];clear cm w1
 go_simp
 generalize B.setCell ⟨gp,n * 12+9,n_⟩ (t_ y.text)=C at *;clear m2 m5 d1 d2 c f u k0 k1;obtain ⟨q1,hq1,hq⟩:=HG1.I;have HB:Hid (q1.ag[m]? =o_ y∧q1.next=q.next∧q1.ax=q.ax):=by rw [hq1]; exact ⟨HM.I.1,rfl,rfl⟩
 rw [← hq1] at S;have HQ:=aA hq;clear hq1 hq HG1;obtain ⟨ga2,iE,hat⟩:=jr S.I.fr.own.at.2.2.2.1 HB.I.1;rw [HB.I.2.2,HG.I] at iE;cases iE;have d1:=hat.2.1;clear hat;have m5:=S.I.fr.box.cells.2.2.2.2.2.1;rw [HG.I] at m5;cases hu:y.shown
 ·rw [hu] at d1
  have HE:Hid (dC (12,N,M,s) now x.id q.pure=mX 7 (12,N,M,s) now x.id (ez y.text x.id q.pure)):=by show dC (12,N,M,s) now x.id q.pure=_; unfold dC; rw [show cg (fun x:az=>x.id) N q.pure.ag=o_ y from HM.I.2.2]; simp [hu]
  clear hu;have Mb:=oR q1 n base { x with got:=y.text } 7 now (12,N,M,s) C S.I.fr.own S.I.low HQ.I.2.2.1 HQ.I.2.2.2 Zc2 (by have:=HR.I.2.2.2.1; rw [HB.I.2.1]; omega) HR.I.2.2.2.2.1 HR.I.2.2.2.2.2;rw [HQ.I.1,HQ.I.2.1] at Mb;go_wp2_with (first | (refine eT 4 S.I.fr.box ?_) | (refine LS rfl 165 (.tmp 6) rfl (w.heap.size+1) (by rfl) 165 (j9 (12,N,M,s)) (0,0) _ S.I.op underlying165 rfl ZcR ?_));refine Mb.mono ?_;clear Mb;rintro e A2 ⟨q2,rfl,hp,ht⟩;replace S:=aA (S.I.call ht);have HP:Hid (q2.pure=_):=hp;clear hp ht;go_wp2_with (refine ec 8 92 q2.cells S.I.an ?_);refine gZ results107 S.I.an ?_;exact mi
 ·rw [hu] at d1
  have HE:Hid (dC (12,N,M,s) now x.id q.pure=bu 0 x.id (ez y.text x.id q.pure)):=by show dC (12,N,M,s) now x.id q.pure=_; unfold dC; rw [show cg (fun x:az=>x.id) N q.pure.ag=o_ y from HM.I.2.2]; simp [hu]
  clear hu;have Mb:=bB (n:=n) 0 S.I.fr.own S.I.low HQ.I.2.2.1 HQ.I.2.2.2 Zc2;exact Zcq
theorem AS (q:af) (n base:Nat) (x:ao) (now:Int) (o:dN) (w:w_) (h:ap w base q) (hb:base≤w.heap.size) (hr:aQ q.pure) (hx:q.L8[n]? =o_ x) (hs:x.Md=1) (hn:q.next≤999999990) (eu:0≤now∧now≤1000000000) (ho:kc o=true) (hk:o.1=11):
  k_ J3 107 #[a_ q.cells,i_ j_ n,a_ (j9 o),i_ j_ now] w (jH w base q (dC o now x.id q.pure)):=by
 obtain ⟨-,f1,f2,f3,f4⟩:=dv ho;have hM:=bz.1 f2;obtain ⟨k,N,M,s⟩:=o;simp only at hk hM f1 f3 f4;subst hk;have HR:=aA (SD hr hx hs hn eu hM);have HF:=aA (dW hr);clear f2 hr hx hs hn eu hM ho;have S:=aA (Xf.start (o:=(11,N,M,s)) h hb);clear h hb
 go_enter func107,ntmps107
 go_upto_region 1 with fail;generalize ((w.alloc (c_ q.cells 38)).alloc (c_ (j9 (11,N,M,s)) 165)).alloc (c_ ar 38)=A at *;obtain ⟨-,o1,-,-⟩:=S.I.op.cells;simp only at o1;have hpf:=ef (num:=fun x:az=>x.id) N q.ag 0;have Mb:=mg q N A ZcY S.I.fr.own.at;generalize place (q.ag.map (fun x=>x.id)) N 0=z at *;go_wp2_with (refine eT 4 S.I.fr.box ?_);refine Mb.mono ?_;clear Mb;rintro e A2 ⟨rfl,hb2⟩;replace S:=aA (S.I.reads hb2);clear hb2 o1;rcases hpf with ⟨hz,hf⟩ | ⟨m,y,hz,hm,hid,hf⟩
 ·subst hz
  have HE:Hid (dC (11,N,M,s) now x.id q.pure=bu 3 x.id q.pure):=by show dC (11,N,M,s) now x.id q.pure=_; unfold dC; rw [show cg (fun x:az=>x.id) N q.pure.ag=n_ from hf]
  exact Zcd
 rw [Li] at hz;subst hz;have afO:decide ((m:Int) < 0)=false:=decide_eq_false (by omega);have HM:Hid (q.ag[m]? =o_ y∧y.id=N∧cg (fun x:az=>x.id) N q.pure.ag=o_ y):=⟨hm,hid,hf⟩
 have hml:=(Lj.1 hm).1;have j0:(0:Int)≤(m:Int):=by omega
 have j1:(m:Int) < (q.ag.length:Int):=by omega
 clear hm hid hf hml;obtain ⟨o0,-,-,-⟩:=S.I.op.cells;simp only at o0;have HE:Hid (dC (11,N,M,s) now x.id q.pure=bu 0 x.id (ib N false rM q.pure)):=by show dC (11,N,M,s) now x.id q.pure=_; unfold dC; rw [show cg (fun x:az=>x.id) N q.pure.ag=o_ y from HM.I.2.2]; rfl
 obtain ⟨Y5,iE,hat⟩:=jr S.I.fr.own.at.2.2.2.1 HM.I.1;have m5:=S.I.fr.box.cells.2.2.2.2.2.1;rw [iE] at m5;have HG:Hid (q.ax=o_ ⟨Y5,0,n_⟩):=iE;clear hat iE;obtain ⟨s1,⟨u,c⟩,f⟩:=ll (n:=m) (j:=1) (v:=b_ false) (y:= { y with shown:=false }) S.I.fr.own HM.I.1 HG.I (by decide) rfl;replace S:=aA (S.I.call s1);clear s1;go_upto_region 15 with fail;generalize A2.setCell ⟨Y5,m * 3+1,n_⟩ (b_ false)=C at *;clear m5 c f u;have m5:=S.I.fr.box.cells.2.2.2.2.2.1;rw [HG.I] at m5;obtain ⟨s1,⟨u,c⟩,f⟩:=ll (n:=m) (j:=2) (v:=t_ ⟨#[]⟩) (x:= { y with shown:=false }) (y:= { y with shown:=false,text:=rM }) S.I.fr.own ZdT HG.I (by decide) rfl;replace S:=aA (S.I.call s1);clear s1;simp only [PV] at S;go_upto_region 20 with fail;generalize C.setCell ⟨Y5,m * 3+2,n_⟩ (t_ ⟨#[]⟩)=D at *;clear m5 c f u afO j0 j1;have CK:Hid (∃ q1:af,q1= { q with ag:=q.ag.set m { y with shown:=false,text:=rM } } ∧q1.pure=ib N false rM q.pure∧q1.cells=q.cells∧aQ q1.pure∧q1.L8[n]? =o_ x∧q1.next=q.next):=by
  have hq:({ q with ag:=q.ag.set m { y with shown:=false,text:=rM } } :af).pure=ib N false rM q.pure:=by show ({ q.pure with ag:=q.ag.set m { y with shown:=false,text:=rM } } :aE)=_; unfold ib; rw [jF (num:=fun x:az=>x.id) (db HR.I.1.ag).2 HM.I.1 HM.I.2.1]; rfl
  exact ⟨_,rfl,hq,by unfold af.cells; simp,by rw [hq]; exact kA HR.I.1 jX (.inr oB),HR.I.2.1,rfl⟩
 obtain ⟨q1,hq1,hq⟩:=CK.I;rw [← hq1] at S;have HQ:=aA hq;clear hq1 hq CK;have Mb:=bB (n:=n) 0 S.I.fr.own S.I.low HQ.I.2.2.1 HQ.I.2.2.2.1 Zc0;exact Zcq
theorem CA (q:af) (n base:Nat) (x:ao) (now:Int) (o:dN) (w:w_) (h:ap w base q) (hb:base≤w.heap.size) (hr:aQ q.pure) (hx:q.L8[n]? =o_ x) (hs:x.Md=1) (hn:q.next≤999999990) (eu:0≤now∧now≤1000000000) (ho:kc o=true) (hk:o.1=10):
  k_ J3 107 #[a_ q.cells,i_ j_ n,a_ (j9 o),i_ j_ now] w (jH w base q (dC o now x.id q.pure)):=by
 obtain ⟨-,f1,f2,f3,f4⟩:=dv ho;have hM:=bz.1 f2;obtain ⟨k,N,M,s⟩:=o;simp only at hk hM f1 f3 f4;subst hk;have HR:=aA (SD hr hx hs hn eu hM);have HF:=aA (dW hr);clear f2 hr hx hs hn eu hM ho;have S:=aA (Xf.start (o:=(10,N,M,s)) h hb);clear h hb
 go_enter func107,ntmps107
 go_upto_region 1 with fail;generalize ((w.alloc (c_ q.cells 38)).alloc (c_ (j9 (10,N,M,s)) 165)).alloc (c_ ar 38)=A at *;obtain ⟨-,o1,-,-⟩:=S.I.op.cells;simp only at o1;have hpf:=ef (num:=fun x:az=>x.id) N q.ag 0;have Mb:=mg q N A ZcY S.I.fr.own.at;generalize place (q.ag.map (fun x=>x.id)) N 0=z at *;go_wp2_with (refine eT 4 S.I.fr.box ?_);refine Mb.mono ?_;clear Mb;rintro e A2 ⟨rfl,hb2⟩;replace S:=aA (S.I.reads hb2);clear hb2 o1;rcases hpf with ⟨hz,hf⟩ | ⟨m,y,hz,hm,hid,hf⟩
 ·subst hz
  have HE:Hid (dC (10,N,M,s) now x.id q.pure=bu 3 x.id q.pure):=by show dC (10,N,M,s) now x.id q.pure=_; unfold dC; rw [show cg (fun x:az=>x.id) N q.pure.ag=n_ from hf]
  exact Zcd
 rw [Li] at hz;subst hz;have afO:decide ((m:Int) < 0)=false:=decide_eq_false (by omega);have HM:Hid (q.ag[m]? =o_ y∧y.id=N∧cg (fun x:az=>x.id) N q.pure.ag=o_ y):=⟨hm,hid,hf⟩
 have hml:=(Lj.1 hm).1;have j0:(0:Int)≤(m:Int):=by omega
 have j1:(m:Int) < (q.ag.length:Int):=by omega
 clear hm hid hf hml;obtain ⟨o0,-,-,-⟩:=S.I.op.cells;simp only at o0;have HE:Hid (dC (10,N,M,s) now x.id q.pure=bu 0 x.id (ff (lG s) 7 N (ib N true s q.pure))):=by show dC (10,N,M,s) now x.id q.pure=_; unfold dC; rw [show cg (fun x:az=>x.id) N q.pure.ag=o_ y from HM.I.2.2]; rfl
 obtain ⟨Y5,iE,hat⟩:=jr S.I.fr.own.at.2.2.2.1 HM.I.1;have m5:=S.I.fr.box.cells.2.2.2.2.2.1;rw [iE] at m5;have HG:Hid (q.ax=o_ ⟨Y5,0,n_⟩):=iE;clear hat iE;obtain ⟨s1,⟨u,c⟩,f⟩:=ll (n:=m) (j:=1) (v:=b_ true) (y:= { y with shown:=true }) S.I.fr.own HM.I.1 HG.I (by decide) rfl;replace S:=aA (S.I.call s1);clear s1;go_upto_region 7 with fail;generalize A2.setCell ⟨Y5,m * 3+1,n_⟩ (b_ true)=C at *;clear m5 c f u;obtain ⟨-,-,-,o3⟩:=S.I.op.cells;simp only at o3;have m5:=S.I.fr.box.cells.2.2.2.2.2.1;rw [HG.I] at m5;obtain ⟨s1,⟨u,c⟩,f⟩:=ll (n:=m) (j:=2) (v:=t_ s) (x:= { y with shown:=true }) (y:= { y with shown:=true,text:=s }) S.I.fr.own ZdT HG.I (by decide) rfl;replace S:=aA (S.I.call s1);clear s1;simp only [PV] at S;go_upto_region 8 with fail;generalize C.setCell ⟨Y5,m * 3+2,n_⟩ (t_ s)=D at *;clear m5 c f u afO j0 j1 o3;have CK:Hid (∃ q1:af,q1= { q with ag:=q.ag.set m { y with shown:=true,text:=s } } ∧q1.pure=ib N true s q.pure∧q1.cells=q.cells∧aQ q1.pure∧q1.L8[n]? =o_ x∧q1.next=q.next):=by
  have hq:({ q with ag:=q.ag.set m { y with shown:=true,text:=s } } :af).pure=ib N true s q.pure:=by show ({ q.pure with ag:=q.ag.set m { y with shown:=true,text:=s } } :aE)=_; unfold ib; rw [jF (num:=fun x:az=>x.id) (db HR.I.1.ag).2 HM.I.1 HM.I.2.1]; rfl
  exact ⟨_,rfl,hq,by unfold af.cells; simp,by rw [hq]; exact kA HR.I.1 f3 (.inl rfl),HR.I.2.1,rfl⟩
 obtain ⟨q1,hq1,hq⟩:=CK.I;rw [← hq1] at S;have HQ:=aA hq;clear hq1 hq CK;have Mb:=ij q1 7 N D (by have:=(dW HQ.I.2.2.1).1; omega) S.I.fr.own.at;rw [HQ.I.2.1] at Mb;obtain ⟨-,o1,-,-⟩:=S.I.op.cells;simp only at o1;go_wp2_with (refine eT 4 S.I.fr.box ?_);refine Mb.mono ?_;clear Mb o1;rintro e af3 ⟨⟨z,rfl,gV⟩,hb2⟩;replace S:=aA (S.I.reads hb2);clear hb2;have afW:=aA (S.I.sync HQ.I.2.1);have IB:Hid (bw s=true):=f3;have HI:=aA (If.start (f:=lG s) (n:=n) (x:=x.toaD) HQ.I.2.2.1 (mj HQ.I.2.2.2.1) (by have:=HR.I.2.2.2.1; rw [HQ.I.2.2.2.2]; exact this) gV);rw [HQ.I.1] at HI;clear gV S f1 f3 f4;go_wp2_with fail
 go_loopg [10] ((ib N true s q.pure).L8.filter (ie 7 N)).length (fun k b wr=> ∃ (qk:af) (z:Int),b=i_ j_ z∧Hid (If (lG s) 7 N (ff (lG s) 7 N (ib N true s q.pure)) n x.toaD k qk z∧Xf w base q qk qk (10,N,M,s) wr))
 case atStart=>exact ⟨q1,z,rfl,HI.I,afW.I⟩
 case round=>
  obtain ⟨qk,z,rfl,HK⟩:=hrel;have S:=aA HK.I.2;rcases pp HK.I.1.best with ⟨hz,hw⟩ | ⟨i,v,hz,hi,hw⟩
  ·have afO:decide (z≥0)=false:=decide_eq_false (by omega)
   obtain ⟨x2,hx2,sw⟩:=tQ HK.I.1.pos;have HT:Hid (bu 0 x2.id qk.pure=dC (10,N,M,s) now x.id q.pure):=by show bu 0 x2.id qk.pure=_; rw [HE.I,← HK.I.1.same,qO hw,show x2.id=x.id from congrArg aD.id sw]
   have Mb:=bB (n:=n) 0 S.I.fr.own S.I.low HK.I.1.r hx2 ZcZ;clear hz hw hx2 sw;go_wp2_with (refine eT 4 S.I.fr.box ?_);refine Mb.mono ?_;clear Mb;rintro e A2 ⟨q2,rfl,hp,ht⟩;replace S:=aA (S.I.call ht);have HP:Hid (q2.pure=_):=hp;clear hp ht;go_wp2_with (refine ec 8 95 q2.cells S.I.an ?_);refine gZ results107 S.I.an ?_;exact ⟨q2,rfl,HP.I.trans HT.I,S.I.done _⟩
  subst hz;have afO:decide ((i:Int)≥0)=true:=decide_eq_true (by omega);have HW:Hid (jl 7 N qk.pure.L8=o_ v.toaD∧qk.L8[i]? =o_ v∧v.Md=7):=⟨hw,hi,(ft hw).2.1⟩
  clear hw hi;obtain ⟨-,-,-,o3⟩:=S.I.op.cells;simp only at o3;obtain ⟨gp,l9,-⟩:=cn S.I.fr.own.at.1 HW.I.2.1;have m2:=S.I.fr.box.cells.2.2.1;have k1:(i:Int) < (qk.L8.length:Int):=by have:=(Lj.1 HW.I.2.1).1; omega
  have k0:(0:Int)≤(i:Int):=by omega
  rw [l9] at m2;obtain ⟨s1,⟨u,c⟩,f⟩:=eY (n:=i) (j:=9) (v:=t_ s) (y:= { v with got:=s }) S.I.fr.own HW.I.2.1 l9 ⟨rfl,rfl,rfl⟩ (by decide) rfl;replace S:=aA (S.I.call s1);clear s1 l9;go_upto_region 12 with fail;generalize wr.setCell ⟨gp,i * 12+9,n_⟩ (t_ s)=E at *;clear m2 c f u k0 k1 afO o3;obtain ⟨afn,hqg,g1,g2,g3,g4⟩:=kg HK.I.1.r HW.I.2.1 IB.I;rw [← hqg] at S;have Mb:=lP (n:=i) S.I.fr.own S.I.low g3 g4 (by show ¬ v.Md=0; rw [HW.I.2.2]; decide) (by rw [hqg]; have:=HK.I.1.nx; show qk.next≤_; omega);rw [g1,g2,show ({ v with got:=s } :ao).toaD=lG s v.toaD from rfl,Bz] at Mb;clear hqg g1 g2 g3 g4;go_wp2_with (refine eT 4 S.I.fr.box ?_);refine Mb.mono ?_;clear Mb;rintro e afP ⟨q2,rfl,hp,ht⟩;replace S:=aA (S.I.call ht);have HJ:=aA (HK.I.1.step (q2:=q2) HR.I.2.2.1 ⟨by decide,by decide⟩ (.inr ⟨_,IB.I,rfl⟩) HW.I.1 hp);clear hp ht;have S2:=aA S.I.put;go_upto_region 10 with (refine ec 4 55 q2.cells S.I.fr.box ?_);generalize afP.setRow w.heap.size q2.cells=afv at *;clear S;have S:=S2;clear S2;obtain ⟨-,o1,-,-⟩:=S.I.op.cells;simp only at o1;have Mb:=ij q2 7 N afv (by have:=(dW HJ.I.2.2.1).1; omega) S.I.fr.own.at;go_wp2_with (refine eT 4 S.I.fr.box ?_);refine Mb.mono ?_;clear Mb o1;rintro e R1 ⟨⟨z2,rfl,gV⟩,hb2⟩;exact ZaH
theorem Aa {p:aE} {y:aD} {N:Int} (h:aQ p) (hf:cg (fun x:aD=>x.id) N p.L8=o_ y) (h0:y.Md=0) (hn:p.next≤999999990):aQ (py N p):=by
 have hnx:=bz.1 h.next;refine h.ju (nx:=p.next+1) (f:=fun y=> { y with Md:=1,RU:=p.next }) (fun _=>rfl) ⟨by omega,by omega⟩ fun z hz hi=> ?_
 have e:=only h.L8 hf hz hi;subst e;obtain ⟨-,q1,q2,q3⟩:=h.proc hz;have q4:=iF q1;rw [fG,J7] at q1;have q5:=q1.2;unfold bO at q5;rw [if_pos h0] at q5;simp only [J7,decide_eq_true_eq] at q5;obtain ⟨⟨⟨⟨⟨a1,a2⟩,a3⟩,a4⟩,a5⟩,a6⟩:=q5;have q6:jm z.prog=true:=by
  unfold jY at q4;simp only [J7] at q4;exact q4.1.1.1.2
 refine ⟨?_,?_,rfl,.inr (.inr rfl)⟩
 ·exact Zbr
 ·unfold fF
  rw [Bool.or_eq_true];exact Za5
theorem sP {q q2:af} {n:Nat} {k nx:Int} {x:ao} {f:aD→aD} (hx:q.L8[n]? =o_ x) (hk: ¬ x.id=k) (hp:q2.pure= { q.pure with next:=nx,L8:=ce k f q.pure.L8 }): ∃ x2,q2.L8[n]? =o_ x2∧x2.toaD=x.toaD:=
 tQ (by rw [hp]; exact ym (mj hx) hk)
theorem A0 {q q2:af} {n:Nat} {N:Int} {x:ao} {y:aD} (hr:aQ q.pure) (hx:q.L8[n]? =o_ x) (hs:x.Md=1) (hf:cg (fun x:aD=>x.id) N q.pure.L8=o_ y) (h0:y.Md=0) (hn:q.next≤999999990) (hp:q2.pure=py N q.pure):
  aQ q2.pure∧ ∃ x2,q2.L8[n]? =o_ x2∧x2.toaD=x.toaD:=by
 refine ⟨by rw [hp]; exact Aa hr hf h0 hn,sP hx (fun e=> ?_) hp⟩
 have:=only hr.L8 hf (iu hx) e
 rw [← this] at h0;have h2:x.toaD.Md=1:=hs;omega
theorem BU (q:af) (n base:Nat) (x:ao) (o:dN) (w:w_) (h:ap w base q) (hb:base≤w.heap.size) (hr:aQ q.pure) (hx:q.L8[n]? =o_ x) (hs:x.Md=1) (hn:q.next≤999999990) (ho:kc o=true) (hk:o.1=15):
  k_ J3 109 #[a_ q.cells,i_ j_ n,a_ (j9 o)] w (jH w base q (jU o x.id q.pure)):=by
 obtain ⟨-,f1,f2,f3,f4⟩:=dv ho;have hM:=bz.1 f2;obtain ⟨k,N,M,s⟩:=o;simp only at hk hM f1 f3 f4;subst hk;have HR:Hid (aQ q.pure∧q.L8[n]? =o_ x∧x.Md=1∧q.next≤999999990∧(-1≤M∧M≤1000)):=⟨hr,hx,hs,hn,hM⟩
 have HF:=aA (dW hr);clear f2 hr hx hs hn hM ho;have S:=aA (Xf.start (o:=(15,N,M,s)) h hb);clear h hb
 go_enter func109,ntmps109
 go_upto_region 1 with fail;generalize ((w.alloc (c_ q.cells 38)).alloc (c_ (j9 (15,N,M,s)) 165)).alloc (c_ ar 38)=A at *;obtain ⟨-,o1,-,-⟩:=S.I.op.cells;simp only at o1;have hpf:=ef (num:=fun x:ao=>x.id) N q.L8 0;have Mb:=lS q N A ZcY S.I.fr.own.at;generalize place (q.L8.map (fun x=>x.id)) N 0=z at *;go_wp2_with (refine eT 3 S.I.fr.box ?_);refine Mb.mono ?_;clear Mb;rintro e A2 ⟨rfl,hb2⟩;replace S:=aA (S.I.reads hb2);clear hb2 o1;have hfm:=lJ (num:=fun x:aD=>x.id) (je:=fun x:ao=>x.id) (g:=fun x:ao=>x.toaD) (fun _=>rfl) (id:=N) q.L8;rcases hpf with ⟨hz,hf⟩ | ⟨m,y,hz,hm,hid,hf⟩
 ·subst hz
  rw [hf] at hfm;have HE:Hid (jU (15,N,M,s) x.id q.pure=bu 3 x.id q.pure):=by show jU (15,N,M,s) x.id q.pure=_; unfold jU; rw [show cg (fun x:aD=>x.id) N q.pure.L8=n_ from hfm]
  exact Zcl
 rw [hf] at hfm;rw [Li] at hz;subst hz;have afO:decide ((m:Int) < 0)=false:=decide_eq_false (by omega);have HM:Hid (q.L8[m]? =o_ y∧y.id=N∧cg (fun x:aD=>x.id) N q.pure.L8=o_ y.toaD):=⟨hm,hid,hfm⟩
 have hml:=(Lj.1 hm).1;have j0:(0:Int)≤(m:Int):=by omega
 have j1:(m:Int) < (q.L8.length:Int):=by omega
 obtain ⟨gp,l9,hat⟩:=cn S.I.fr.own.at.1 hm;have HG:Hid (q.aN=o_ ⟨gp,0,n_⟩):=l9;obtain ⟨o0,-,-,-⟩:=S.I.op.cells;simp only at o0;have m2:=S.I.fr.box.cells.2.2.1;rw [l9] at m2;have d3:=hat.2.2.2.1;clear hm hid hf hfm hml hat l9;by_cases h0:y.Md=0;rotate_left
 ·have e1:(y.Md == 0)=false:=by simp [h0]
  have HE:Hid (jU (15,N,M,s) x.id q.pure=bu 1 x.id q.pure):=by show jU (15,N,M,s) x.id q.pure=_; unfold jU; rw [show cg (fun x:aD=>x.id) N q.pure.L8=o_ y.toaD from HM.I.2.2]; exact if_neg h0
  exact Zcn
 have e1:(y.Md == 0)=true:=by simp [h0]
 have HE:Hid (jU (15,N,M,s) x.id q.pure=bu 0 x.id (py N q.pure)):=by show jU (15,N,M,s) x.id q.pure=_; unfold jU; rw [show cg (fun x:aD=>x.id) N q.pure.L8=o_ y.toaD from HM.I.2.2]; exact if_pos h0
 have HN:Hid (y.Md=0):=h0;clear h0;obtain ⟨s1,⟨u,c⟩,f⟩:=eY (n:=m) (j:=3) (v:=i_ j_ 1) (y:= { y with Md:=1 }) S.I.fr.own HM.I.1 HG.I ⟨rfl,rfl,rfl⟩ (by decide) rfl;replace S:=aA (S.I.call s1);clear s1;go_upto_region 9 with fail;generalize A2.setCell ⟨gp,m * 12+3,n_⟩ (i_ j_ 1)=C at *;clear m2 d3 c f u afO e1 o0 j0 j1;have hq:({ q with L8:=q.L8.set m { y with Md:=1 } } :af).pure= { q.pure with next:=q.next,L8:=ce y.id (fun z=> { z with Md:=1 }) q.pure.L8 } :=g7 (nx:=q.next) HR.I.1.kW HM.I.1 rfl;have Mb:=oT (n:=m) (x:= { y with Md:=1 }) S.I.fr.own S.I.low (us HR.I.1.kW HM.I.1 rfl) (by show (q.L8.set m _)[m]? =_; rw [LU (Lj.1 HM.I.1).1]) ⟨by have h5:=bz.1 HR.I.1.next; have:q.pure.next=q.next:=rfl; show 0≤q.next; omega,by have:=HR.I.2.2.2.1; show q.next≤_; omega⟩;rw [jd (nx:=q.next),hq] at Mb;have HS:Hid ({ q.pure with next:=q.next+1,L8:=ce y.id (fun z=> { z with RU:=q.next }) (ce y.id (fun z=> { z with Md:=1 }) q.pure.L8) } =py N q.pure):=by show _=py N q.pure; rw [pm (by intro _; rfl),HM.I.2.1]; rfl
 clear hq;go_wp2_with (refine eT 3 S.I.fr.box ?_);refine Mb.mono ?_;clear Mb;rintro e afl ⟨q2,rfl,hp,ht⟩;replace S:=aA (S.I.call ht);replace hp:=hp.trans HS.I;obtain ⟨hr2,x2,hx2,sw⟩:=A0 HR.I.1 HR.I.2.1 HR.I.2.2.1 HM.I.2.2 HN.I HR.I.2.2.2.1 hp;have Mb:=bB (n:=n) 0 S.I.fr.own S.I.low hr2 hx2 ZcZ;rw [show x2.id=x.id from congrArg aD.id sw,hp,← HE.I] at Mb;clear hp ht hr2 hx2 sw;go_wp2_with fail;refine Mb.mono ?_;clear Mb;rintro e C22 ⟨q3,rfl,hp,ht⟩;replace S:=aA (S.I.call ht);have HP:Hid (q3.pure=_):=hp;clear hp ht;go_wp2_with (refine ec 6 43 q3.cells S.I.an ?_);refine gZ results109 S.I.an ?_;exact ⟨q3,rfl,HP.I,S.I.done _⟩
theorem C9 (q:af) (n base:Nat) (x:ao) (o:dN) (w:w_) (h:ap w base q) (hb:base≤w.heap.size) (hr:aQ q.pure) (hx:q.L8[n]? =o_ x) (hs:x.Md=1) (hn:q.next≤999999990) (ho:kc o=true) (hk:o.1=16):
  k_ J3 109 #[a_ q.cells,i_ j_ n,a_ (j9 o)] w (jH w base q (lg o x.id q.pure)):=by
 obtain ⟨-,f1,f2,f3,f4⟩:=dv ho;have hM:=bz.1 f2;obtain ⟨k,N,M,s⟩:=o;simp only at hk hM f1 f3 f4;subst hk;have HR:Hid (aQ q.pure∧q.L8[n]? =o_ x∧x.Md=1∧q.next≤999999990∧(-1≤M∧M≤1000)):=⟨hr,hx,hs,hn,hM⟩
 have HF:=aA (dW hr);clear f2 hr hx hs hn hM ho;have S:=aA (Xf.start (o:=(16,N,M,s)) h hb);clear h hb
 go_enter func109,ntmps109
 go_upto_region 1 with fail;generalize ((w.alloc (c_ q.cells 38)).alloc (c_ (j9 (16,N,M,s)) 165)).alloc (c_ ar 38)=A at *;obtain ⟨-,o1,-,-⟩:=S.I.op.cells;simp only at o1;have hpf:=ef (num:=fun x:ao=>x.id) N q.L8 0;have Mb:=lS q N A ZcY S.I.fr.own.at;generalize place (q.L8.map (fun x=>x.id)) N 0=z at *;go_wp2_with (refine eT 3 S.I.fr.box ?_);refine Mb.mono ?_;clear Mb;rintro e A2 ⟨rfl,hb2⟩;replace S:=aA (S.I.reads hb2);clear hb2 o1;have hfm:=lJ (num:=fun x:aD=>x.id) (je:=fun x:ao=>x.id) (g:=fun x:ao=>x.toaD) (fun _=>rfl) (id:=N) q.L8;rcases hpf with ⟨hz,hf⟩ | ⟨m,y,hz,hm,hid,hf⟩
 ·subst hz
  rw [hf] at hfm;have HE:Hid (lg (16,N,M,s) x.id q.pure=bu 3 x.id q.pure):=by show lg (16,N,M,s) x.id q.pure=_; unfold lg; rw [show cg (fun x:aD=>x.id) N q.pure.L8=n_ from hfm]
  exact Zcl
 rw [hf] at hfm;rw [Li] at hz;subst hz;have afO:decide ((m:Int) < 0)=false:=decide_eq_false (by omega);have HM:Hid (q.L8[m]? =o_ y∧y.id=N∧cg (fun x:aD=>x.id) N q.pure.L8=o_ y.toaD):=⟨hm,hid,hfm⟩
 have hml:=(Lj.1 hm).1;have j0:(0:Int)≤(m:Int):=by omega
 have j1:(m:Int) < (q.L8.length:Int):=by omega
 obtain ⟨gp,l9,hat⟩:=cn S.I.fr.own.at.1 hm;have HG:Hid (q.aN=o_ ⟨gp,0,n_⟩):=l9;obtain ⟨o0,-,-,-⟩:=S.I.op.cells;simp only at o0;have m2:=S.I.fr.box.cells.2.2.1;rw [l9] at m2;have d3:=hat.2.2.2.1;clear hm hid hf hfm hml hat l9;by_cases h0:y.Md=0
 ·have e1:(y.Md == 0)=true:=by simp [h0]
  have HE:Hid (lg (16,N,M,s) x.id q.pure=bu 1 x.id q.pure):=by show lg (16,N,M,s) x.id q.pure=_; unfold lg; rw [show cg (fun x:aD=>x.id) N q.pure.L8=o_ y.toaD from HM.I.2.2]; exact if_pos h0
  exact Zcn
 have e1:(y.Md == 0)=false:=by simp [h0]
 have HE:Hid (lg (16,N,M,s) x.id q.pure=if N=x.id then ot x.id q.pure else bu 0 x.id (ot N q.pure)):=by show lg (16,N,M,s) x.id q.pure=_; unfold lg; rw [show cg (fun x:aD=>x.id) N q.pure.L8=o_ y.toaD from HM.I.2.2]; exact if_neg h0
 clear h0;go_upto_region 10 with fail;clear m2 d3 afO e1 o0;replace S:=aA (S.I.reads (Kp _ _).drew);have HT:Hid (∀ w1,Xf w base q q q (16,N,M,s) w1→Ba w.heap.size gp m q y w1):=fun w1 h1=>by
  obtain ⟨g,hg,hat⟩:=cn h1.fr.own.at.1 HM.I.1;rw [HG.I] at hg;cases hg;exact ⟨h1.m2 HG.I,hat⟩
 refine eD (fun w1=>Ba w.heap.size gp m q y w1∧Hid (Xf w base q q q (16,N,M,s) w1)) 10 ZcR ⟨HT.I _ S.I,S⟩ ?_;clear S
 iterate 8 (refine ly 11 (v:= ?_) (o_ _) rfl rfl ZcR (fun _ _ _ h=>h) (bV ZcR ?_) ?_; rotate_left; (intro w0 hS0; obtain ⟨⟨o2,d0,d1,d2,d3,d4,d5,d6,d7,d8,d9,tH,tS⟩,hH⟩:=hS0; go_simp; try with_reducible rfl); simp only [pt,sb,s0,s1])
 refine ly 11 (v:=a_ (sy y)) (o_ _) rfl rfl ZcR (fun _ _ _ h=>h) (iZ (f:=146) (args:= #[a_ y.row]) ZcR ?_ ?_) ?_
 ·intro w0 hS0
  obtain ⟨⟨o2,d0,d1,d2,d3,d4,d5,d6,d7,d8,d9,tH,tS⟩,hH⟩:=hS0
  exact wl
 ·intro w0 hS0
  refine (mN y w0).mono ?_;rintro e w2 ⟨rfl,hb2⟩;have h6:=aA (hS0.2.I.reads hb2);exact ⟨rfl,HT.I _ h6.I,h6⟩
 simp only [pt,sb,s0,s1]
 (refine ly 11 (v:= ?_) (o_ _) rfl rfl ZcR (fun _ _ _ h=>h) (bV ZcR ?_) ?_; rotate_left; (intro w0 hS0; obtain ⟨⟨o2,d0,d1,d2,d3,d4,d5,d6,d7,d8,d9,tH,tS⟩,hH⟩:=hS0; go_simp; try with_reducible rfl); simp only [pt,sb,s0,s1])
 refine fL rfl ZcR ZcR ZcR ?_;intro B cm;have S:=cm.2;obtain ⟨oC,hto⟩:=GC S.I.fr.own HM.I.1 HG.I;clear cm HT;replace S:=aA (S.I.call hto);clear hto;refine wp_store_mid 100 _ _ rfl gp (m * 12) (sy y) rfl rfl oC ZcR ZcR ?_;generalize B.setCells gp (m * 12) (sy y).toList=C at *;clear oC;obtain ⟨q1,hq1⟩: ∃ q1:af,q1= { q with L8:=q.L8.set m (sW y) } :=⟨_,rfl⟩
 have HQ:Hid (q1.pure=ot N q.pure∧q1.cells=q.cells∧aQ q1.pure):=by
  have hq:q1.pure=ot N q.pure:=by rw [hq1,← HM.I.2.1]; exact g7 (nx:=q.next) HR.I.1.kW HM.I.1 rfl
  exact ⟨hq,by rw [hq1]; exact jd (nx:=q.next),by rw [hq]; exact nG HR.I.1⟩
 rw [← hq1] at S;clear hq1;have k1:=(Lj.1 HR.I.2.1).1;by_cases hmn:m=n
 ·have e2:((m:Int) == (n:Int))=true:=by simp [hmn]
  have HT:Hid (q1.pure=lg (16,N,M,s) x.id q.pure):=by
   have e:y=x:=by have h5:=HM.I.1; rw [hmn,HR.I.2.1] at h5; exact (KC h5).symm
   have hN:N=x.id:=by rw [← HM.I.2.1,e]
   show q1.pure=_
   rw [HE.I,if_pos hN,HQ.I.1,hN]
  clear hmn k1;go_wp2_with (first | (refine eT 3 S.I.fr.box ?_) | (refine ec 6 57 q.cells S.I.an ?_));refine gZ results109 S.I.an ?_;exact ⟨q1,by rw [HQ.I.2.1],HT.I,S.I.done _⟩
 have e2:((m:Int) == (n:Int))=false:=by simp; omega
 have hne: ¬ x.id=N:=fun e=>by
  have h5:=only HR.I.1.L8 HM.I.2.2 (iu HR.I.2.1) e;have h6:=HR.I.1.kW;rw [P8] at h6;obtain ⟨i1,i2⟩:=Lj.1 (mj HR.I.2.1);obtain ⟨i3,i4⟩:=Lj.1 (mj HM.I.1);rcases P9 m n with hlt | heq | hgt
  ·have:=h6 m n i3 i1 hlt; rw [i2,i4,h5] at this; omega
  ·exact hmn heq
  ·have:=h6 n m i1 i3 hgt; rw [i2,i4,h5] at this; omega
 have HT:Hid (lg (16,N,M,s) x.id q.pure=bu 0 x.id (ot N q.pure)):=HE.I.trans (if_neg fun e=>hne e.symm);obtain ⟨x2,hx2,sw⟩:=sP (nx:=q.pure.next) (f:=j7) HR.I.2.1 hne HQ.I.1;have Mb:=bB (n:=n) 0 S.I.fr.own S.I.low HQ.I.2.2 hx2 ZcZ;rw [show x2.id=x.id from congrArg aD.id sw,HQ.I.1,HQ.I.2.1,← HT.I] at Mb;clear hmn hne hx2 sw k1;go_wp2_with (refine eT 3 S.I.fr.box ?_);refine Mb.mono ?_;clear Mb;rintro e A2 ⟨q2,rfl,hp,ht⟩;replace S:=aA (S.I.call ht);have HP:Hid (q2.pure=_):=hp;clear hp ht;go_wp2_with (refine ec 6 60 q2.cells S.I.an ?_);refine gZ results109 S.I.an ?_;exact ⟨q2,rfl,HP.I,S.I.done _⟩
theorem uJ {p:aE} {y:ci} (h:aQ p) (hy:y∈p.ae):y.max≤5:=by
 have h1:=(cK h.ae y hy).2;unfold ct at h1;simp only [J7] at h1;exact (bz.1 h1.1).2
theorem CD (q:af) (n base:Nat) (x:ao) (now:Int) (o:dN) (w:w_) (h:ap w base q) (hb:base≤w.heap.size) (hr:aQ q.pure) (hx:q.L8[n]? =o_ x) (hs:x.Md=1) (hn:q.next≤999999990) (eu:0≤now∧now≤1000000000) (ho:kc o=true) (hk:o.1=8):
  k_ J3 106 #[a_ q.cells,i_ j_ n,a_ (j9 o),i_ j_ now] w (jH w base q (lc o now x.id q.pure)):=by
 obtain ⟨-,f1,f2,f3,f4⟩:=dv ho;have hM:=bz.1 f2;obtain ⟨k,N,M,s⟩:=o;simp only at hk hM f1 f3 f4;subst hk;have HR:=aA (SD hr hx hs hn eu hM);have HF:=aA (dW hr);clear f2 hr hx hs hn eu hM ho;have S:=aA (Xf.start (o:=(8,N,M,s)) h hb);clear h hb
 go_enter func106,ntmps106
 go_upto_region 1 with fail;generalize ((w.alloc (c_ q.cells 38)).alloc (c_ (j9 (8,N,M,s)) 165)).alloc (c_ ar 38)=A at *;obtain ⟨-,o1,-,-⟩:=S.I.op.cells;simp only at o1;have hpf:=ef (num:=fun x:au=>x.id) N q.ae 0;have Mb:=lr q N A ZcY S.I.fr.own.at;generalize place (q.ae.map (fun x=>x.id)) N 0=z at *;go_wp2_with (refine eT 4 S.I.fr.box ?_);refine Mb.mono ?_;clear Mb;rintro e A2 ⟨rfl,hb2⟩;replace S:=aA (S.I.reads hb2);clear hb2 o1;have hfm:=lJ (num:=fun x:ci=>x.id) (je:=fun x:au=>x.id) (g:=fun x:au=>x.toci) (fun _=>rfl) (id:=N) q.ae;rcases hpf with ⟨hz,hf⟩ | ⟨m,y,hz,hm,hid,hf⟩
 ·subst hz
  rw [hf] at hfm;have HE:Hid (lc (8,N,M,s) now x.id q.pure=bu 3 x.id q.pure):=by show lc (8,N,M,s) now x.id q.pure=_; unfold lc; rw [show cg (fun x:ci=>x.id) N q.pure.ae=n_ from hfm]
  exact Zcm
 rw [hf] at hfm;rw [Li] at hz;subst hz;have afO:decide ((m:Int) < 0)=false:=decide_eq_false (by omega);have HM:Hid (q.ae[m]? =o_ y∧y.id=N∧cg (fun x:ci=>x.id) N q.pure.ae=o_ y.toci):=⟨hm,hid,hfm⟩
 have hml:=(Lj.1 hm).1;have j0:(0:Int)≤(m:Int):=by omega
 have j1:(m:Int) < (q.ae.length:Int):=by omega
 clear hm hid hf hfm hml;obtain ⟨Y5,iE,hat⟩:=iA S.I.fr.own.at.2.2.2.2.1 HM.I.1;have m6:=S.I.fr.box.cells.2.2.2.2.2.2.1;rw [iE] at m6;have d0:=hat.1;have d1:=hat.2.1;have d2:=hat.2.2;have HG:Hid (q.am=o_ ⟨Y5,0,n_⟩):=iE;clear hat iE;have h5:=(Kp A2.heap.size A2).alloc (Ki _) (c_ #[i_ j_ y.id,i_ j_ y.max,s_ y.ak y.Ma.length y.aq] 114);have afa:Hid ((A2.alloc (c_ #[i_ j_ y.id,i_ j_ y.max,s_ y.ak y.Ma.length y.aq] 114)).heap[A2.heap.size]? =o_ (c_ #[i_ j_ y.id,i_ j_ y.max,s_ y.ak y.Ma.length y.aq] 114)∧w.heap.size+3≤A2.heap.size):=⟨Kj _ _,S.I.fr.sz.2.1⟩
 replace S:=aA (S.I.reads h5);clear h5;go_upto_region 5 with fail;generalize A2.alloc (c_ #[i_ j_ y.id,i_ j_ y.max,s_ y.ak y.Ma.length y.aq] 114)=B at *;generalize A2.heap.size=X at *;clear m6 d0 d1 d2 afO;obtain ⟨o0,o1,-,-⟩:=S.I.op.cells;simp only at o0 o1;have Mb:=ij q 6 N B ZcY S.I.fr.own.at;go_wp2_with (refine eT 4 S.I.fr.box ?_);refine Mb.mono ?_;clear Mb o0 o1;rintro e A3 ⟨⟨z,rfl,gV⟩,hb2⟩;replace afa:=aA (And.intro ((hb2.block X (J2.1 afa.I.1).1).trans afa.I.1) afa.I.2);replace S:=aA (S.I.reads hb2);clear hb2;have IB:Hid (bw s=true):=f3;clear f1 f3 f4;rcases pp gV with ⟨hz,hw⟩ | ⟨i,v,hz,hi,hw⟩
 ·have HW:Hid (jl 6 N q.pure.L8=n_):=hw
  have afO:decide (z≥0)=false:=decide_eq_false (by omega);clear gV hz hw;have HU:Hid (lc (8,N,M,s) now x.id q.pure=if (y.Ma.length:Int)=y.max then mX 5 (8,N,M,s) now x.id q.pure else bu 0 x.id (cV N (y.Ma ++ [s]) q.pure)):=by show lc (8,N,M,s) now x.id q.pure=_; unfold lc; rw [show cg (fun x:ci=>x.id) N q.pure.ae=o_ y.toci from HM.I.2.2]; dsimp only; rw [HW.I]
  have x1:A3.cell? ⟨X,1,n_⟩=o_ (i_ j_ y.max):=by simp [World.cell?,afa.I.1]
  have x2:A3.cell? ⟨X,2,n_⟩=o_ (s_ y.ak y.Ma.length y.aq):=by simp [World.cell?,afa.I.1]
  by_cases hfl:(y.Ma.length:Int)=y.max
  ·have HE:Hid (lc (8,N,M,s) now x.id q.pure=mX 5 (8,N,M,s) now x.id q.pure):=HU.I.trans (if_pos hfl)
   have e1:((y.Ma.length:Int) == y.max)=true:=by simp [hfl]
   clear hfl;have Mb:=oR q n base x 5 now (8,N,M,s) A3 S.I.fr.own S.I.low HR.I.1 HR.I.2.1 Zc0 Zdh HR.I.2.2.2.2.1 HR.I.2.2.2.2.2;go_wp2_with (first | (refine eT 4 S.I.fr.box ?_) | (refine LS rfl 165 (.tmp 6) rfl (w.heap.size+1) (by rfl) 165 (j9 (8,N,M,s)) (0,0) _ S.I.op underlying165 rfl ZcR ?_));refine Mb.mono ?_;clear Mb;rintro e A2 ⟨q2,rfl,hp,ht⟩;replace S:=aA (S.I.call ht);have HP:Hid (q2.pure=_):=hp;clear hp ht;go_wp2_with (refine ec 8 71 q2.cells S.I.an ?_);refine gZ results106 S.I.an ?_;exact mi
  have HE:Hid (lc (8,N,M,s) now x.id q.pure=bu 0 x.id (cV N (y.Ma ++ [s]) q.pure)):=HU.I.trans (if_neg hfl);have e1:((y.Ma.length:Int) == y.max)=false:=by simp [hfl]
  have HN:Hid (¬ (y.Ma.length:Int)=y.max):=hfl;clear hfl HU;go_upto_region 7 with fail;clear e1 afO x1 x2;replace S:=aA (S.I.reads (Kp _ _).drew);replace afa:Hid (A3.drew.heap[X]? =o_ (c_ #[i_ j_ y.id,i_ j_ y.max,s_ y.ak y.Ma.length y.aq] 114)∧w.heap.size+3≤X):=afa.I;refine Kr (S:=fun w'=>av w' w.heap.size q∧oo w' (w.heap.size+1) (8,N,M,s)∧w'.heap[X]? =o_ (c_ #[i_ j_ y.id,i_ j_ y.max,s_ y.ak y.Ma.length y.aq] 114)) ZcR ⟨S.I.fr.box,S.I.op,afa.I.1⟩ (fun hHeld=> ?_);generalize A3.drew=V2 at *;refine zq9w 0 hHeld ?_;refine zq9w 1 hHeld ?_;refine zq9w 2 hHeld ?_;refine zq9w 4 hHeld ?_;refine zq9w 5 hHeld ?_;refine zq9w 7 hHeld ?_;refine zq9w 8 hHeld ?_;clear hHeld;have hbz:w.heap.size+3≤V2.heap.size:=S.I.fr.sz.2.1;have lW:=(J2.1 afa.I.1).1;have hS: ∀ W,B_ V2.heap.size V2 W→av W w.heap.size q∧oo W (w.heap.size+1) (8,N,M,s)∧W.heap[X]? =o_ (c_ #[i_ j_ y.id,i_ j_ y.max,s_ y.ak y.Ma.length y.aq] 114):=fun W hb=>⟨S.I.fr.box.below hb,(hb.block _ (by omega)).trans S.I.op,(hb.block _ lW).trans afa.I.1⟩
  have hil:y.Ma.length≤5:=by have h5:=(ji (o:=(8,N,M,s)) HR.I.1 HM.I.2.2).2.2.1; have h6:=uJ HR.I.1 (Lr.2 ⟨y,KA HM.I.1,rfl⟩); have h7:y.toci.Ma=y.Ma:=rfl; have h8:y.toci.max=y.max:=rfl; omega
  have wg:Hid (∀ (W:w_) (g:Nat),B_ V2.heap.size V2 W→W.heap[g]? =o_ (c_ #[] 9)→V2.heap.size≤g→ ∃ a5 c5 w5,(Builtin.append_ #[91,91] 91 #[s_ (o_ ⟨g,0,n_⟩) 0 0,s_ y.ak y.Ma.length y.aq]).run J3 W= .ok (s_ a5 y.Ma.length c5) w5∧w5.ownsRow V2.heap.size 9 1 (s_ a5 y.Ma.length c5) y.Ma.length (bT.flat y.Ma)∧B_ V2.heap.size V2 w5∧ ∀ h,V2.heap.size≤h→h≠g→h < W.heap.size→w5.heap[h]? =W.heap[h]?):=fun W g hb hg hge=>by
   obtain ⟨a5,c5,w5,hap,oe,A7,-⟩:=tO W V2.heap.size g hg hge y.ak y.Ma y.aq (lj (S.I.fr.own.below hb).at.2.2.2.2.1 HM.I.1) (by omega) hb.size;exact Zbg
  have afR: ∀ (W:w_) (c:Obj),B_ V2.heap.size V2 W→B_ V2.heap.size V2 (W.alloc c):=fun W c hb=>hb.alloc hb.size _
  refine KW (rs:= [3,9]) ZcR (by simp) ?_;refine KX rfl (fun K hK=> ?_) (KX rfl (fun K hK=> ?_) KY)
  focus
   have b1:B_ V2.heap.size V2 (V2.alloc (c_ #[] 9)):=afR _ _ (Kp _ _);simp only [KZ,K0,K1];rw [if_pos (by rfl)];go_wp2_with fail;refine hK.out _ _ (hS _ b1) (fun hHeld=> ?_);clear hK K hHeld
   try simp only [pt,sb,s0,s1]
   have b7:B_ V2.heap.size V2 ((V2.alloc (c_ #[] 9)).alloc (c_ #[t_ s] 9)):=afR _ _ b1;refine KW (rs:= [6,9]) (by kernel_rfl) (by simp) ?_;refine KX rfl (fun K hK=> ?_) (KX rfl (fun K hK=> ?_) KY)
   focus
    clear b7;obtain ⟨a5,c5,w5,hap,oe,iJ,-⟩:=wg.I _ _ b1 (Kj _ _) (Ki _);simp only [KZ,K0,K1];rw [if_pos (by rfl)];refine cM _ _ _ rfl _ _ _ w5 rfl rfl hap ?_;refine hK.out _ _ (hS _ iJ) (fun hHeld=> ?_);clear hK K hHeld
    try simp only [pt,sb,s0,s1]
    refine L7 9 (fun K hK=> ?_);go_wp2_with fail;refine hK.out _ _ (hS _ (afR _ _ iJ)) (fun hHeld=> ?_);clear hK K hHeld
    try simp only [pt,sb,s0,s1]
    have qJ:Hid ((w5.alloc (c_ #[t_ s] 9)).ownsRow V2.heap.size 9 1 (s_ a5 y.Ma.length c5) y.Ma.length (bT.flat y.Ma)∧(w5.alloc (c_ #[t_ s] 9)).heap[w5.heap.size]? =o_ (c_ #[t_ s] 9)∧B_ V2.heap.size V2 (w5.alloc (c_ #[t_ s] 9))):=⟨cR oe ((Kp _ _).alloc (Ki _) _),Kj _ _,afR _ _ iJ⟩
    clear hap oe iJ b1 afR hS;generalize w5.alloc (c_ #[t_ s] 9)=w6 at *;generalize w5.heap.size=gx at *
   rotate_left
   focus
    obtain ⟨a5,c5,w6,om,qH,jQ,zU⟩:=wg.I _ _ b7 ((PU (by simp)).trans (Kj _ _)) (Ki _);simp only [KZ,K0,K1];rw [if_pos (by rfl)];go_wp2_with fail;refine hK.out _ _ (hS _ b7) (fun hHeld=> ?_);clear hK K hHeld
    try simp only [pt,sb,s0,s1]
    refine L7 6 (fun K hK=> ?_);refine cM _ _ _ rfl _ _ _ w6 rfl rfl om ?_;refine hK.out _ _ (hS _ jQ) (fun hHeld=> ?_);clear hK K hHeld
    try simp only [pt,sb,s0,s1]
    have qJ:Hid (w6.ownsRow V2.heap.size 9 1 (s_ a5 y.Ma.length c5) y.Ma.length (bT.flat y.Ma)∧w6.heap[(V2.heap.size+1)]? =o_ (c_ #[t_ s] 9)∧B_ V2.heap.size V2 w6):=⟨qH,(zU _ (by omega) (by omega) (by simp <;> omega)).trans (by have h5:=Kj (V2.alloc (c_ #[] 9)) (c_ #[t_ s] 9); simpa using h5),jQ⟩
    clear om qH jQ zU b1 b7 afR hS
  rotate_left 2
  focus
   have b7:B_ V2.heap.size V2 (V2.alloc (c_ #[t_ s] 9)):=afR _ _ (Kp _ _);simp only [KZ,K0,K1];rw [if_pos (by rfl)];go_wp2_with fail;refine hK.out _ _ (hS _ b7) (fun hHeld=> ?_);clear hK K hHeld
   try simp only [pt,sb,s0,s1]
   have b1:B_ V2.heap.size V2 ((V2.alloc (c_ #[t_ s] 9)).alloc (c_ #[] 9)):=afR _ _ b7;refine L7 3 (fun K hK=> ?_);go_wp2_with fail;refine hK.out _ _ (hS _ b1) (fun hHeld=> ?_);clear hK K hHeld
   try simp only [pt,sb,s0,s1]
   obtain ⟨a5,c5,w6,om,qH,jQ,zU⟩:=wg.I ((V2.alloc (c_ #[t_ s] 9)).alloc (c_ #[] 9)) (V2.heap.size+1) b1 (Kq _ _ _) (by omega);refine L7 6 (fun K hK=> ?_);refine cM _ _ _ rfl _ _ _ w6 rfl rfl om ?_;refine hK.out _ _ (hS _ jQ) (fun hHeld=> ?_);clear hK K hHeld
   try simp only [pt,sb,s0,s1]
   have qJ:Hid (w6.ownsRow V2.heap.size 9 1 (s_ a5 y.Ma.length c5) y.Ma.length (bT.flat y.Ma)∧w6.heap[V2.heap.size]? =o_ (c_ #[t_ s] 9)∧B_ V2.heap.size V2 w6):=⟨qH,(zU _ (by omega) (by omega) (by simp <;> omega)).trans ((PU (by simp)).trans (Kj _ _)),jQ⟩
   clear om qH jQ zU b1 b7 afR hS
  all_goals
   obtain ⟨a7,c7,w7,gT,mP,xI,-⟩:=ou w6 V2.heap.size a5 c5 y.Ma qJ.I.1 _ [s] 1 (jO qJ.I.2.1) ZdV qJ.I.2.2.size;have mI:(y.Ma ++ [s]).length=y.Ma.length+1:=by rw [Lf]; rfl
   simp only [Lg,K4,Li] at gT mP;have gh:B_ V2.heap.size V2 w7:=qJ.I.2.2.grown xI qJ.I.2.2.size fun c e=>(cf qJ.I.1 (di e)).1
   rw [← mI] at gT mP;obtain ⟨s1,⟨u,c⟩,f⟩:=mB (n:=m) S.I.fr.own (aI.dI gh) HM.I.1 HG.I (cq mP S.I.low) (fun g hg=> .inr (cf mP hg).1);rw [mI] at gT s1;refine L7 10 (fun K hK=> ?_);refine cM _ _ _ rfl _ _ _ w7 rfl rfl gT ?_;refine hK.out _ _ ⟨S.I.fr.box.below gh,(gh.block _ (by omega)).trans S.I.op,(gh.block _ lW).trans afa.I.1⟩ (fun hHeld=> ?_);clear hK K hHeld
   try simp only [pt,sb]
   have wj:av w7 w.heap.size q∧oo w7 (w.heap.size+1) (8,N,M,s)∧w7.heap[X]? =o_ (c_ #[i_ j_ y.id,i_ j_ y.max,s_ y.ak y.Ma.length y.aq] 114):=⟨S.I.fr.box.below gh,(gh.block _ (by omega)).trans S.I.op,(gh.block _ lW).trans afa.I.1⟩
   replace S:=aA (S.I.call s1);clear gT mP xI gh qJ wg s1;refine zq9w 11 wj ?_;refine zq9w 12 wj ?_;refine KW (rs:= [13]) ZcR (by simp) ?_;refine KX rfl (fun K hK=> ?_) KY;have uQ:(w7.setCell ⟨Y5,m * 3+2,n_⟩ (s_ a7 (y.Ma.length+1) c7)).heap[X]? =o_ (c_ #[i_ j_ y.id,i_ j_ y.max,s_ y.ak y.Ma.length y.aq] 114):=(aH (fun e=> ?_)).trans wj.2.2;rotate_left
   ·have h5:=(S.I.fr.lo Y5 (gD (.inr <| .inr <| .inr <| .inr <| .inl <| (by rw [HG.I]; simp [blk])))).2; have:=afa.I.2; omega
   simp only [KZ,K0,K1];rw [if_pos (by rfl)];go_wp2_with fail;refine hK.out _ _ ⟨S.I.fr.box,S.I.op,uQ⟩ (fun hHeld=> ?_);clear hK K hHeld;refine K3 ZcR ?_ _;clear c f u wj uQ lW hbz;go_upto_region 13 with fail;generalize w7.setCell ⟨Y5,m * 3+2,n_⟩ (s_ a7 (y.Ma.length+1) c7)=C at *;have CK:Hid (∃ q1:af,q1= { q with ae:=q.ae.set m { y with Ma:=(y.Ma ++ [s]),ak:=a7,aq:=c7 } } ∧q1.pure=cV N (y.Ma ++ [s]) q.pure∧q1.cells=q.cells∧aQ q1.pure∧q1.L8[n]? =o_ x):=by
    have hq:({ q with ae:=q.ae.set m { y with Ma:=(y.Ma ++ [s]),ak:=a7,aq:=c7 } } :af).pure=cV N (y.Ma ++ [s]) q.pure:=oN HR.I.1.ae HM.I.1 HM.I.2.1;have hr2:aQ (cV N (y.Ma ++ [s]) q.pure):=by
     refine gN HR.I.1 (fun z hz hk=> ?_) (fun t0 ht=> ?_)
     ·have:=HN.I; have h5:=(ji (o:=(8,N,M,s)) HR.I.1 HM.I.2.2).2.2.1; have h7:y.toci.Ma=y.Ma:=rfl; have h8:y.toci.max=y.max:=rfl; rw [only HR.I.1.ae HM.I.2.2 hz hk,mI]; rw [h7] at h5; push_cast; omega
     ·exact (Kg.1 ht).elim (fun ht=>(ji (o:=(8,N,M,s)) HR.I.1 HM.I.2.2).2.2.2 t0 ht) (fun ht=>by simp only [Kt,Ku,or_false] at ht; rw [ht]; exact IB.I)
    exact Zbb
   obtain ⟨q1,hq1,hq⟩:=CK.I;rw [← hq1] at S;have HQ:=aA hq;clear hq1 hq CK;have Mb:=bB (n:=n) 0 S.I.fr.own S.I.low HQ.I.2.2.1 HQ.I.2.2.2 Zc0;rw [HQ.I.1,HQ.I.2.1] at Mb;go_wp2_with (refine eT 4 S.I.fr.box ?_);refine Mb.mono ?_;clear Mb;rintro e A2 ⟨q2,rfl,hp,ht⟩;replace S:=aA (S.I.call ht);have HP:Hid (q2.pure=_):=hp;clear hp ht;go_wp2_with (refine ec 8 74 q2.cells S.I.an ?_);refine gZ results106 S.I.an ?_;exact mi
 have HW:Hid (jl 6 N q.pure.L8=o_ v.toaD∧q.L8[i]? =o_ v∧v.Md=6):=⟨hw,hi,(ft hw).2.1⟩
 subst hz;have afO:decide ((i:Int)≥0)=true:=decide_eq_true (by omega);clear gV hw hi afa;have HE:Hid (lc (8,N,M,s) now x.id q.pure=bu 0 x.id (gF (lG s) q.pure v.toaD)):=by show lc (8,N,M,s) now x.id q.pure=_; unfold lc; rw [show cg (fun x:ci=>x.id) N q.pure.ae=o_ y.toci from HM.I.2.2]; dsimp only; rw [HW.I.1]
 obtain ⟨-,-,-,o3⟩:=S.I.op.cells;simp only at o3;obtain ⟨gp,l9,-⟩:=cn S.I.fr.own.at.1 HW.I.2.1;have m2:=S.I.fr.box.cells.2.2.1;have k1:(i:Int) < (q.L8.length:Int):=by have:=(Lj.1 HW.I.2.1).1; omega
 have k0:(0:Int)≤(i:Int):=by omega
 rw [l9] at m2;obtain ⟨s1,⟨u,c⟩,f⟩:=eY (n:=i) (j:=9) (v:=t_ s) (y:= { v with got:=s }) S.I.fr.own HW.I.2.1 l9 ⟨rfl,rfl,rfl⟩ (by decide) rfl;replace S:=aA (S.I.call s1);clear s1 l9;go_upto_region 10 with fail;generalize A3.setCell ⟨gp,i * 12+9,n_⟩ (t_ s)=E at *;clear m2 c f u k0 k1 afO o3;obtain ⟨afn,hqg,g1,g2,g3,g4⟩:=kg HR.I.1 HW.I.2.1 IB.I;rw [← hqg] at S;have Mb:=lP (n:=i) S.I.fr.own S.I.low g3 g4 (by show ¬ v.Md=0; rw [HW.I.2.2]; decide) (by rw [hqg]; have:=HR.I.2.2.2.1; show q.next≤_; omega);rw [g1,g2,show ({ v with got:=s } :ao).toaD=lG s v.toaD from rfl,Bz] at Mb;clear hqg g1 g2 g3 g4;go_wp2_with (refine eT 4 S.I.fr.box ?_);refine Mb.mono ?_;clear Mb;rintro e afP ⟨q2,rfl,hp,ht⟩;replace S:=aA (S.I.call ht);obtain ⟨hr2,x2,hx2,sw⟩:=qp HR.I.1 HR.I.2.1 HR.I.2.2.1 HW.I.2.1 Zc7 Zc7 (.inr ⟨_,IB.I,rfl⟩) Zdh hp;have S2:=aA S.I.put;go_upto_region 13 with (refine ec 4 59 q2.cells S.I.fr.box ?_);generalize afP.setRow w.heap.size q2.cells=afv at *;clear S;have S:=S2;clear S2;have Mb:=bB (n:=n) 0 S.I.fr.own S.I.low hr2 hx2 ZcZ;rw [show x2.id=x.id from congrArg aD.id sw,hp,← HE.I] at Mb;clear hp ht hr2 hx2 sw;go_wp2_with (refine eT 4 S.I.fr.box ?_);refine Mb.mono ?_;clear Mb;rintro e E32 ⟨q3,rfl,hp,ht⟩;replace S:=aA (S.I.call ht);have HP:Hid (q3.pure=_):=hp;clear hp ht;go_wp2_with (refine ec 8 74 q3.cells S.I.an ?_);refine gZ results106 S.I.an ?_;exact ⟨q3,rfl,HP.I,S.I.done _⟩
end
section
open Go.RowKit Go.Maps
def aZ.al (S:aZ) (o:Nat):List Nat:=o :: (S.boxes ++ S.kids)
section
variable {α:Type} {vs:α→Array v_} {num:α→Int} {T:T_}
theorem Shelf.far {w:w_} {base b g:Nat} {l:List (α × Nat)} {cs:Array v_} {abH:T_} (h:Shelf vs num T w base b l) (hg:w.heap[g]? =o_ (c_ cs abH)) (hT:T≠abH): ∀ c∈b :: l.map (·.2),c≠g:=fun c hc e=>by
 subst e;rcases Kt.1 hc with rfl | hc
 ·obtain ⟨es,clock,h5,-⟩:=h.map.1
  rw [hg] at h5;cases h5
 ·obtain ⟨p,hp,rfl⟩:=Lr.1 hc
  have h5:=h.box p hp;rw [hg] at h5;cases h5;exact hT rfl
theorem Shelf.onk {w:w_} {base b:Nat} {l:List (α × Nat)} (h:Shelf vs num T w base b l) {p p':α × Nat} (hp:p∈l) (hp':p'∈l) (e:num p.1=num p'.1):p=p':=by
 have hr:(RW num l).Pairwise (fun p q=>p.1 < q.1):=h.map.2;unfold RW at hr;rw [List.pairwise_map] at hr;obtain ⟨i,hi⟩:=List.mem_iff_getElem?.1 hp;obtain ⟨j,hj⟩:=List.mem_iff_getElem?.1 hp';obtain ⟨hi1,rfl⟩:=Lj.1 hi;obtain ⟨DS,rfl⟩:=Lj.1 hj;rw [P8] at hr;rcases P9 i j with hlt | heq | hgt
 ·have h7:=hr i j hi1 DS hlt
  simp only at h7;omega
 ·subst heq; rfl
 ·have h7:=hr j i DS hi1 hgt
  simp only at h7;omega
theorem agQ {β:Type} {f:α→β} {nb:β→Int} {l:List (α × Nat)} (hn: ∀ x,nb (f x)=num x) (k:Int):(cz (RW num l) k=n_∧cg nb k (l.map fun p=>f p.1)=n_)∨ ∃ x g,(x,g)∈l∧num x=k∧cz (RW num l) k=o_ g∧cg nb k (l.map fun p=>f p.1)=o_ (f x):=by
 unfold cz cg RW
 induction l with
 | nil=>exact .inl ⟨rfl,rfl⟩
 | cons y r ih=>
  simp only [Lt];by_cases e:num y.1=k
  ·refine .inr ⟨y.1,y.2,by simp,e,?_,?_⟩
   ·rw [aeC (by simp [e])]; rfl
   ·rw [aeC (by simp [hn,e])]
  ·rw [aeD (by simp [e]),aeD (by simp [hn,e])]
   rcases ih with h1 | ⟨x,g,h1,h2⟩
   ·exact .inl h1
   ·exact .inr ⟨x,g,LB _ h1,h2⟩
theorem Shelf.ah2 {β:Type} {f:α→β} {nb:β→Int} {w:w_} {base b c:Nat} {l:List (α × Nat)} {x x':α} {F:β→β} (h:Shelf vs num T w base b l) (hn: ∀ x,nb (f x)=num x) (hx:(x,c)∈l) (hf:f x'=F (f x)):((YtnlbiglljiopmaaGreatDoor.sU c (fun _=>x') l).map fun p=>f p.1)=jP nb (num x) F (l.map fun p=>f p.1):=by
 unfold YtnlbiglljiopmaaGreatDoor.sU jP;rw [Lv,Lv];refine Lw fun p hp=> ?_
 simp only [Ls,hn];by_cases e:p.2=c
 ·have:=h.one hp hx e
  subst this;rw [if_pos rfl,if_pos rfl];exact hf
 ·rw [if_neg e,if_neg fun e2=>e (by rw [h.onk hp hx e2])]
theorem aiO {c:Nat} {f:α→α} {l:List (α × Nat)} (h:c∉l.map (·.2)):sU c f l=l:=by
 unfold sU
 conv=>rhs; rw [← List.map_id l]
 refine Lw fun p hp=> ?_
 rw [if_neg fun e=>h (Lr.2 ⟨p,hp,e⟩)];rfl
theorem ah3 {c:Nat} {x x':α} {l:List (α × Nat)} (hx:(x,c)∈l) (hn:(l.map (·.2)).Nodup): ∃ A B,l=A ++ (x,c) :: B∧sU c (fun _=>x') l=A ++ (x',c) :: B:=by
 obtain ⟨A,B,rfl⟩:=List.append_of_mem hx;refine ⟨A,B,rfl,?_⟩;rw [Kl,Lt] at hn;have h1:=Kf.1 hn;have h2:=Lp.1 h1.2.1;have e1:sU c (fun _=>x') A=A:=aiO fun hm=>h1.2.2 c hm c (by simp) rfl
 have e2:sU c (fun _=>x') B=B:=aiO h2.1;unfold sU at e1 e2 ⊢;rw [Kl,Lt,e1,e2];simp
end
theorem ais {P Q Q' R:List Nat} (h:(P ++ (Q ++ R)).Nodup) (hq:Q'.Nodup) (hd: ∀ g∈Q',g∈Q∨(g∉P∧g∉R)):(P ++ (Q' ++ R)).Nodup:=by
 have h1:=Kf.1 h;have h2:=Kf.1 h1.2.1;refine Kf.2 ⟨h1.1,Kf.2 ⟨hq,h2.2.1,fun a ha b hb e=> ?_⟩,fun a ha b hb e=> ?_⟩
 ·subst e
  rcases hd a ha with h5 | h5
  ·exact h2.2.2 a h5 a hb rfl
  ·exact h5.2 hb
 ·subst e
  rcases Kg.1 hb with hb | hb
  ·rcases hd a hb with h5 | h5
   ·exact h1.2.2 a ha a (Lz _ h5) rfl
   ·exact h5.1 ha
  ·exact h1.2.2 a ha a (Ly _ hb) rfl
section
variable {w w':w_} {base o g:Nat} {S:aZ}
theorem aZ.ago {b:Nat} (h:b∈S.q.bp :: S.lp.map (·.2)):b∈S.boxes:=by unfold aZ.boxes; simp only [Kg]; exact .inl h
theorem aZ.ahS {b:Nat} (h:b∈S.q.bs :: S.ls.map (·.2)):b∈S.boxes:=by unfold aZ.boxes; simp only [Kg]; exact .inr (.inl h)
theorem aZ.agZ {b:Nat} (h:b∈S.q.be :: S.le.map (·.2)):b∈S.boxes:=by unfold aZ.boxes; simp only [Kg]; exact .inr (.inr (.inl h))
theorem aZ.ag0 {b:Nat} (h:b∈S.q.bb :: S.lb.map (·.2)):b∈S.boxes:=by unfold aZ.boxes; simp only [Kg]; exact .inr (.inr (.inr (.inl h)))
theorem aZ.F9 {b:Nat} (h:b∈S.q.bf :: S.lf.map (·.2)):b∈S.boxes:=by unfold aZ.boxes; simp only [Kg]; exact .inr (.inr (.inr (.inr (.inl h))))
theorem aZ.agV {b:Nat} (h:b∈S.q.bq :: S.lq.map (·.2)):b∈S.boxes:=by unfold aZ.boxes; simp only [Kg]; exact .inr (.inr (.inr (.inr (.inr (h)))))
theorem aZ.agr {b:Nat} (h:b∈S.boxes):b∈S.al o:=LB _ (Lz _ h)
theorem aZ.ag4 {b:Nat} (h:b∈S.kids):b∈S.al o:=LB _ (Ly _ h)
theorem cJ.apart (h:cJ w base o S) (hg:g∈S.boxes):o≠g∧ ∀ b∈S.kids,b≠g:=by
 have h1:=Lp.1 h.nodup;have h2:=(Kf.1 h1.2).2.2;exact ⟨fun e=>h1.1 (e ▸ Lz _ hg),fun b hb e=>h2 g hg b hb e.symm⟩
theorem cJ.sem {x x':bD} (h:cJ w base o S) (hx:(x,g)∈S.ls) (hb:w'.heap[g]? =o_ (c_ (eH x') 105)) (hid:x'.id=x.id) (hs: ∀ b∈S.al o,b≠g→w'.heap[b]? =w.heap[b]?):cJ w' base o { S with ls:=sU g (fun _=>x') S.ls } :=by
 have hg:=h.aj.box _ hx;have hgb:g∈S.boxes:=aZ.ahS (LB _ (Lr.2 ⟨_,hx,rfl⟩));have ha:=h.apart hgb;have kk: ∀ b∈S.kids,w'.heap[b]? =w.heap[b]? :=fun b hb2=>hs b (aZ.ag4 hb2) (ha.2 b hb2)
 have km: ∀ (b:Nat),(b∈kids aR S.lp∨b∈kids aC S.lf∨b∈kids aU S.lq)→b∈S.kids:=fun b hb=>by simp only [aZ.kids,Kg]; exact hb
 refine ⟨(hs o ZdO ha.1).trans h.opn,h.L8.same fun b hb2=>hs b (aZ.agr (aZ.ago hb2)) (h.L8.far hg (by decide) b hb2),h.aj.sU (f:=fun _=>x') (fun p hp e=>by rw [h.aj.one hp hx e]; exact hid) (fun _ _ _=>hb) (hs _ (aZ.agr (aZ.ahS (by simp))) (fun e=>(Lp.1 h.aj.nodup).1 (e ▸ Lr.2 ⟨_,hx,rfl⟩))) (fun b hb2 hne=>hs b (aZ.agr (aZ.ahS (LB _ hb2))) hne),h.L9.same fun b hb2=>hs b (aZ.agr (aZ.agZ hb2)) (h.L9.far hg (by decide) b hb2),h.ag.same fun b hb2=>hs b (aZ.agr (aZ.ag0 hb2)) (h.ag.far hg (by decide) b hb2),h.ae.same fun b hb2=>hs b (aZ.agr (aZ.F9 hb2)) (h.ae.far hg (by decide) b hb2),h.ai.same fun b hb2=>hs b (aZ.agr (aZ.agV hb2)) (h.ai.far hg (by decide) b hb2),fun p hp=>(h.eI p hp).same fun b hb2=>kk b (km b (.inl (Lq.2 ⟨p,hp,hb2⟩))),fun p hp=>(h.eE p hp).same fun b hb2=>kk b (km b (.inr (.inl (Lq.2 ⟨p,hp,hb2⟩)))),fun p hp=>(h.eR p hp).same fun b hb2=>kk b (km b (.inr (.inr (Lq.2 ⟨p,hp,hb2⟩)))),?_,h.low⟩;have e1:({ S with ls:=sU g (fun _=>x') S.ls } :aZ).boxes=S.boxes:=by simp only [aZ.boxes,qb]
 rw [e1];exact h.nodup
theorem cJ.event {x x':aB} (h:cJ w base o S) (hx:(x,g)∈S.le) (hb:w'.heap[g]? =o_ (c_ (cG x') 109)) (hid:x'.id=x.id) (hs: ∀ b∈S.al o,b≠g→w'.heap[b]? =w.heap[b]?):cJ w' base o { S with le:=sU g (fun _=>x') S.le } :=by
 have hg:=h.L9.box _ hx;have hgb:g∈S.boxes:=aZ.agZ (LB _ (Lr.2 ⟨_,hx,rfl⟩));have ha:=h.apart hgb;have kk: ∀ b∈S.kids,w'.heap[b]? =w.heap[b]? :=fun b hb2=>hs b (aZ.ag4 hb2) (ha.2 b hb2)
 have km: ∀ (b:Nat),(b∈kids aR S.lp∨b∈kids aC S.lf∨b∈kids aU S.lq)→b∈S.kids:=fun b hb=>by simp only [aZ.kids,Kg]; exact hb
 refine ⟨(hs o ZdO ha.1).trans h.opn,h.L8.same fun b hb2=>hs b (aZ.agr (aZ.ago hb2)) (h.L8.far hg (by decide) b hb2),h.aj.same fun b hb2=>hs b (aZ.agr (aZ.ahS hb2)) (h.aj.far hg (by decide) b hb2),h.L9.sU (f:=fun _=>x') (fun p hp e=>by rw [h.L9.one hp hx e]; exact hid) (fun _ _ _=>hb) (hs _ (aZ.agr (aZ.agZ (by simp))) (fun e=>(Lp.1 h.L9.nodup).1 (e ▸ Lr.2 ⟨_,hx,rfl⟩))) (fun b hb2 hne=>hs b (aZ.agr (aZ.agZ (LB _ hb2))) hne),h.ag.same fun b hb2=>hs b (aZ.agr (aZ.ag0 hb2)) (h.ag.far hg (by decide) b hb2),h.ae.same fun b hb2=>hs b (aZ.agr (aZ.F9 hb2)) (h.ae.far hg (by decide) b hb2),h.ai.same fun b hb2=>hs b (aZ.agr (aZ.agV hb2)) (h.ai.far hg (by decide) b hb2),fun p hp=>(h.eI p hp).same fun b hb2=>kk b (km b (.inl (Lq.2 ⟨p,hp,hb2⟩))),fun p hp=>(h.eE p hp).same fun b hb2=>kk b (km b (.inr (.inl (Lq.2 ⟨p,hp,hb2⟩)))),fun p hp=>(h.eR p hp).same fun b hb2=>kk b (km b (.inr (.inr (Lq.2 ⟨p,hp,hb2⟩)))),?_,h.low⟩;have e1:({ S with le:=sU g (fun _=>x') S.le } :aZ).boxes=S.boxes:=by simp only [aZ.boxes,qb]
 rw [e1];exact h.nodup
theorem cJ.ajl {x x':az} (h:cJ w base o S) (hx:(x,g)∈S.lb) (hb:w'.heap[g]? =o_ (c_ (cI x') 112)) (hid:x'.id=x.id) (hs: ∀ b∈S.al o,b≠g→w'.heap[b]? =w.heap[b]?):cJ w' base o { S with lb:=sU g (fun _=>x') S.lb } :=by
 have hg:=h.ag.box _ hx;have hgb:g∈S.boxes:=aZ.ag0 (LB _ (Lr.2 ⟨_,hx,rfl⟩));have ha:=h.apart hgb;have kk: ∀ b∈S.kids,w'.heap[b]? =w.heap[b]? :=fun b hb2=>hs b (aZ.ag4 hb2) (ha.2 b hb2)
 have km: ∀ (b:Nat),(b∈kids aR S.lp∨b∈kids aC S.lf∨b∈kids aU S.lq)→b∈S.kids:=fun b hb=>by simp only [aZ.kids,Kg]; exact hb
 refine ⟨(hs o ZdO ha.1).trans h.opn,h.L8.same fun b hb2=>hs b (aZ.agr (aZ.ago hb2)) (h.L8.far hg (by decide) b hb2),h.aj.same fun b hb2=>hs b (aZ.agr (aZ.ahS hb2)) (h.aj.far hg (by decide) b hb2),h.L9.same fun b hb2=>hs b (aZ.agr (aZ.agZ hb2)) (h.L9.far hg (by decide) b hb2),h.ag.sU (f:=fun _=>x') (fun p hp e=>by rw [h.ag.one hp hx e]; exact hid) (fun _ _ _=>hb) (hs _ (aZ.agr (aZ.ag0 (by simp))) (fun e=>(Lp.1 h.ag.nodup).1 (e ▸ Lr.2 ⟨_,hx,rfl⟩))) (fun b hb2 hne=>hs b (aZ.agr (aZ.ag0 (LB _ hb2))) hne),h.ae.same fun b hb2=>hs b (aZ.agr (aZ.F9 hb2)) (h.ae.far hg (by decide) b hb2),h.ai.same fun b hb2=>hs b (aZ.agr (aZ.agV hb2)) (h.ai.far hg (by decide) b hb2),fun p hp=>(h.eI p hp).same fun b hb2=>kk b (km b (.inl (Lq.2 ⟨p,hp,hb2⟩))),fun p hp=>(h.eE p hp).same fun b hb2=>kk b (km b (.inr (.inl (Lq.2 ⟨p,hp,hb2⟩)))),fun p hp=>(h.eR p hp).same fun b hb2=>kk b (km b (.inr (.inr (Lq.2 ⟨p,hp,hb2⟩)))),?_,h.low⟩;have e1:({ S with lb:=sU g (fun _=>x') S.lb } :aZ).boxes=S.boxes:=by simp only [aZ.boxes,qb]
 rw [e1];exact h.nodup
theorem cJ.buffer {x x':au} (h:cJ w base o S) (hx:(x,g)∈S.lf) (hb:w'.heap[g]? =o_ (c_ (bQ x') 114)) (hm:aC.cO w' base x') (hid:x'.id=x.id) (hs: ∀ b∈S.al o,b≠g→b∉blk x.ak→w'.heap[b]? =w.heap[b]?) (hk: ∀ b∈blk x'.ak,b∈blk x.ak∨b∉S.al o):
  cJ w' base o { S with lf:=sU g (fun _=>x') S.lf } ∧ ∀ b∈({ S with lf:=sU g (fun _=>x') S.lf } :aZ).al o,b∈S.al o∨b∈blk x'.ak:=by
 have hg:=h.ae.box _ hx;have hgb:g∈S.boxes:=aZ.F9 (LB _ (Lr.2 ⟨_,hx,rfl⟩));have ha:=h.apart hgb;obtain ⟨A,B,hl,hu⟩:=ah3 (x':=x') hx (Lp.1 h.ae.nodup).2;have adw: ∀ (z:au),kids aC (A ++ (z,g) :: B)=kids aC A ++ (blk z.ak ++ kids aC B):=fun z=>by
  have e:aC.bt z=z.ak.map (·.block):=rfl;unfold kids blk;rw [LW,LH];simp only [e];cases z.ak <;> simp
 obtain ⟨P,hP⟩: ∃ P,P=o :: (S.boxes ++ (kids aR S.lp ++ kids aC A)):=⟨_,rfl⟩
 obtain ⟨R,hR⟩: ∃ R,R=kids aC B ++ kids aU S.lq:=⟨_,rfl⟩
 have e1:S.al o=P ++ (blk x.ak ++ R):=by
  unfold aZ.al aZ.kids;rw [hP,hR]
  conv=>lhs; rw [hl,adw]
  simp [Lm]
 have eb:({ S with lf:=sU g (fun _=>x') S.lf } :aZ).boxes=S.boxes:=by simp only [aZ.boxes,qb]
 have e2:({ S with lf:=sU g (fun _=>x') S.lf } :aZ).al o=P ++ (blk x'.ak ++ R):=by
  exact Zb6
 have hn:(P ++ (blk x.ak ++ R)).Nodup:=by rw [← e1]; exact h.nodup
 have n1:=Kf.1 hn;have n2:=Kf.1 n1.2.1;have inP: ∀ b,b=o∨b∈S.boxes∨b∈kids aR S.lp∨b∈kids aC A→b∈P:=fun b hb'=>by rw [hP]; simp only [Kt,Kg]; exact hb'
 have aff: ∀ b∈blk x.ak,b∈S.kids:=fun b hb2=>by
  unfold aZ.kids;rw [hl,adw];simp [hb2]
 have bs: ∀ b∈S.boxes,b≠g→w'.heap[b]? =w.heap[b]? :=fun b hb2 hne=>hs b (aZ.agr hb2) hne fun hm2=>(h.apart hb2).2 b (aff b hm2) rfl
 have kk: ∀ b,b∈P∨b∈R→b∈S.kids→w'.heap[b]? =w.heap[b]? :=fun b hb2 hb3=>hs b (aZ.ag4 hb3) (ha.2 b hb3) fun hm2=>by
  exact ZbO
 have km: ∀ (b:Nat),(b∈kids aR S.lp∨b∈kids aC S.lf∨b∈kids aU S.lq)→b∈S.kids:=fun b hb=>by simp only [aZ.kids,Kg]; exact hb
 refine ⟨⟨(hs o ZdO ha.1 fun hm2=>(Lp.1 h.nodup).1 (Ly _ (aff o hm2))).trans h.opn,h.L8.same fun b hb2=>bs b (aZ.ago hb2) (h.L8.far hg (by decide) b hb2),h.aj.same fun b hb2=>bs b (aZ.ahS hb2) (h.aj.far hg (by decide) b hb2),h.L9.same fun b hb2=>bs b (aZ.agZ hb2) (h.L9.far hg (by decide) b hb2),h.ag.same fun b hb2=>bs b (aZ.ag0 hb2) (h.ag.far hg (by decide) b hb2),h.ae.sU (f:=fun _=>x') (fun p hp e=>by rw [h.ae.one hp hx e]; exact hid) (fun _ _ _=>hb) (bs _ (aZ.F9 (by simp)) (fun e=>(Lp.1 h.ae.nodup).1 (e ▸ Lr.2 ⟨_,hx,rfl⟩))) (fun b hb2 hne=>bs b (aZ.F9 (LB _ hb2)) hne),h.ai.same fun b hb2=>bs b (aZ.agV hb2) (h.ai.far hg (by decide) b hb2),fun p hp=>(h.eI p hp).same fun b hb2=>kk b (.inl (inP b (.inr (.inr (.inl (Lq.2 ⟨p,hp,hb2⟩)))))) (km b (.inl (Lq.2 ⟨p,hp,hb2⟩))),fun p hp=> ?_,fun p hp=>(h.eR p hp).same fun b hb2=>kk b (.inr (by rw [hR]; exact Ly _ (Lq.2 ⟨p,hp,hb2⟩))) (km b (.inr (.inr (Lq.2 ⟨p,hp,hb2⟩)))),?_,h.low⟩,fun b hb2=> ?_⟩
 ·have hp':p∈A ++ (x',g) :: B:=by rw [← hu]; exact hp
  rcases Kg.1 hp' with h5 | h5
  ·have h6:p∈S.lf:=by rw [hl]; exact Lz _ h5
   exact (h.eE p h6).same fun b hb2=>kk b (.inl (inP b (.inr (.inr (.inr (Lq.2 ⟨p,h5,hb2⟩)))))) (km b (.inr (.inl (Lq.2 ⟨p,h6,hb2⟩))))
  ·rcases Kt.1 h5 with rfl | h5
   ·exact hm
   ·have h6:p∈S.lf:=by rw [hl]; exact Ly _ (LB _ h5)
    exact (h.eE p h6).same fun b hb2=>kk b (.inr (by rw [hR]; exact Lz _ (Lq.2 ⟨p,h5,hb2⟩))) (km b (.inr (.inl (Lq.2 ⟨p,h6,hb2⟩))))
 ·show (({ S with lf:=sU g (fun _=>x') S.lf } :aZ).al o).Nodup
  exact ZaB
 ·exact Za9
theorem cJ.port {x x':aM} (h:cJ w base o S) (hx:(x,g)∈S.lq) (hb:w'.heap[g]? =o_ (c_ (cW x') 116)) (hm:aU.cO w' base x') (hid:x'.id=x.id) (hs: ∀ b∈S.al o,b≠g→b∉blk x.ak→w'.heap[b]? =w.heap[b]?) (hk: ∀ b∈blk x'.ak,b∈blk x.ak∨b∉S.al o):
  cJ w' base o { S with lq:=sU g (fun _=>x') S.lq } ∧ ∀ b∈({ S with lq:=sU g (fun _=>x') S.lq } :aZ).al o,b∈S.al o∨b∈blk x'.ak:=by
 have hg:=h.ai.box _ hx;have hgb:g∈S.boxes:=aZ.agV (LB _ (Lr.2 ⟨_,hx,rfl⟩));have ha:=h.apart hgb;obtain ⟨A,B,hl,hu⟩:=ah3 (x':=x') hx (Lp.1 h.ai.nodup).2;have adw: ∀ (z:aM),kids aU (A ++ (z,g) :: B)=kids aU A ++ (blk z.ak ++ kids aU B):=fun z=>by
  have e:aU.bt z=z.ak.map (·.block):=rfl;unfold kids blk;rw [LW,LH];simp only [e];cases z.ak <;> simp
 obtain ⟨P,hP⟩: ∃ P,P=o :: (S.boxes ++ (kids aR S.lp ++ (kids aC S.lf ++ kids aU A))):=⟨_,rfl⟩
 obtain ⟨R,hR⟩: ∃ R,R=kids aU B:=⟨_,rfl⟩
 have e1:S.al o=P ++ (blk x.ak ++ R):=by
  unfold aZ.al aZ.kids;rw [hP,hR]
  conv=>lhs; rw [hl,adw]
  simp [Lm]
 have eb:({ S with lq:=sU g (fun _=>x') S.lq } :aZ).boxes=S.boxes:=by simp only [aZ.boxes,qb]
 have e2:({ S with lq:=sU g (fun _=>x') S.lq } :aZ).al o=P ++ (blk x'.ak ++ R):=by
  exact Zb6
 have hn:(P ++ (blk x.ak ++ R)).Nodup:=by rw [← e1]; exact h.nodup
 have n1:=Kf.1 hn;have n2:=Kf.1 n1.2.1;have inP: ∀ b,b=o∨b∈S.boxes∨b∈kids aR S.lp∨b∈kids aC S.lf∨b∈kids aU A→b∈P:=fun b hb'=>by rw [hP]; simp only [Kt,Kg]; exact hb'
 have aff: ∀ b∈blk x.ak,b∈S.kids:=fun b hb2=>by
  unfold aZ.kids;rw [hl,adw];simp [hb2]
 have bs: ∀ b∈S.boxes,b≠g→w'.heap[b]? =w.heap[b]? :=fun b hb2 hne=>hs b (aZ.agr hb2) hne fun hm2=>(h.apart hb2).2 b (aff b hm2) rfl
 have kk: ∀ b,b∈P∨b∈R→b∈S.kids→w'.heap[b]? =w.heap[b]? :=fun b hb2 hb3=>hs b (aZ.ag4 hb3) (ha.2 b hb3) fun hm2=>by
  exact ZbO
 have km: ∀ (b:Nat),(b∈kids aR S.lp∨b∈kids aC S.lf∨b∈kids aU S.lq)→b∈S.kids:=fun b hb=>by simp only [aZ.kids,Kg]; exact hb
 refine ⟨⟨(hs o ZdO ha.1 fun hm2=>(Lp.1 h.nodup).1 (Ly _ (aff o hm2))).trans h.opn,h.L8.same fun b hb2=>bs b (aZ.ago hb2) (h.L8.far hg (by decide) b hb2),h.aj.same fun b hb2=>bs b (aZ.ahS hb2) (h.aj.far hg (by decide) b hb2),h.L9.same fun b hb2=>bs b (aZ.agZ hb2) (h.L9.far hg (by decide) b hb2),h.ag.same fun b hb2=>bs b (aZ.ag0 hb2) (h.ag.far hg (by decide) b hb2),h.ae.same fun b hb2=>bs b (aZ.F9 hb2) (h.ae.far hg (by decide) b hb2),h.ai.sU (f:=fun _=>x') (fun p hp e=>by rw [h.ai.one hp hx e]; exact hid) (fun _ _ _=>hb) (bs _ (aZ.agV (by simp)) (fun e=>(Lp.1 h.ai.nodup).1 (e ▸ Lr.2 ⟨_,hx,rfl⟩))) (fun b hb2 hne=>bs b (aZ.agV (LB _ hb2)) hne),fun p hp=>(h.eI p hp).same fun b hb2=>kk b (.inl (inP b (.inr (.inr (.inl (Lq.2 ⟨p,hp,hb2⟩)))))) (km b (.inl (Lq.2 ⟨p,hp,hb2⟩))),fun p hp=>(h.eE p hp).same fun b hb2=>kk b (.inl (inP b (.inr (.inr (.inr (.inl (Lq.2 ⟨p,hp,hb2⟩))))))) (km b (.inr (.inl (Lq.2 ⟨p,hp,hb2⟩)))),fun p hp=> ?_,?_,h.low⟩,fun b hb2=> ?_⟩
 ·have hp':p∈A ++ (x',g) :: B:=by rw [← hu]; exact hp
  rcases Kg.1 hp' with h5 | h5
  ·have h6:p∈S.lq:=by rw [hl]; exact Lz _ h5
   exact (h.eR p h6).same fun b hb2=>kk b (.inl (inP b (.inr (.inr (.inr (.inr (Lq.2 ⟨p,h5,hb2⟩))))))) (km b (.inr (.inr (Lq.2 ⟨p,h6,hb2⟩))))
  ·rcases Kt.1 h5 with rfl | h5
   ·exact hm
   ·have h6:p∈S.lq:=by rw [hl]; exact Ly _ (LB _ h5)
    exact (h.eR p h6).same fun b hb2=>kk b (.inr (by rw [hR]; exact Lq.2 ⟨p,h5,hb2⟩)) (km b (.inr (.inr (Lq.2 ⟨p,h6,hb2⟩))))
 ·show (({ S with lq:=sU g (fun _=>x') S.lq } :aZ).al o).Nodup
  exact ZaB
 ·exact Za9
end
end
section
open Go.RowKit Go.Maps
attribute [local go_sem ↓] Kc Kd
theorem yY (N:Int) (l k:List ByteArray) (p:aE):cV N l (cV N k p)=cV N l p:=by
 unfold cV jP;simp only [Lv]
 congr 1
 refine Lw fun z _=> ?_
 simp only [Ls];by_cases h:z.id=N <;> simp [h]
theorem Ig {W:w_} {base Y5 gp:Nat} {q:af} (h:ap W base q) (iE:q.am=o_ ⟨Y5,0,n_⟩) (l9:q.aN=o_ ⟨gp,0,n_⟩):Y5≠gp:=by
 have h1:=h.nodup;unfold af.Mc at h1;obtain ⟨-,-,h3⟩:=Kf.1 h1;exact fun e=>h3 gp (by rw [l9]; simp [blk]) Y5 (by simp only [Kg]; exact .inr (.inr (.inr (.inr (.inl (by rw [iE]; simp [blk])))))) e.symm
theorem C0 (q:af) (n base:Nat) (x:ao) (now:Int) (o:dN) (w:w_) (h:ap w base q) (hb:base≤w.heap.size) (hr:aQ q.pure) (hx:q.L8[n]? =o_ x) (hs:x.Md=1) (hn:q.next≤999999990) (eu:0≤now∧now≤1000000000) (ho:kc o=true) (hk:o.1=9):
  k_ J3 106 #[a_ q.cells,i_ j_ n,a_ (j9 o),i_ j_ now] w (jH w base q (ka o now x.id q.pure)):=by
 obtain ⟨-,f1,f2,f3,f4⟩:=dv ho;have hM:=bz.1 f2;obtain ⟨k,N,M,s⟩:=o;simp only at hk hM f1 f3 f4;subst hk;have HR:=aA (SD hr hx hs hn eu hM);have HF:=aA (dW hr);clear f2 hr hx hs hn eu hM ho;have S:=aA (Xf.start (o:=(9,N,M,s)) h hb);clear h hb
 go_enter func106,ntmps106
 go_upto_region 1 with fail;generalize ((w.alloc (c_ q.cells 38)).alloc (c_ (j9 (9,N,M,s)) 165)).alloc (c_ ar 38)=A at *;obtain ⟨-,o1,-,-⟩:=S.I.op.cells;simp only at o1;have hpf:=ef (num:=fun x:au=>x.id) N q.ae 0;have Mb:=lr q N A ZcY S.I.fr.own.at;generalize place (q.ae.map (fun x=>x.id)) N 0=z at *;go_wp2_with (refine eT 4 S.I.fr.box ?_);refine Mb.mono ?_;clear Mb;rintro e A2 ⟨rfl,hb2⟩;replace S:=aA (S.I.reads hb2);clear hb2 o1;have hfm:=lJ (num:=fun x:ci=>x.id) (je:=fun x:au=>x.id) (g:=fun x:au=>x.toci) (fun _=>rfl) (id:=N) q.ae;rcases hpf with ⟨hz,hf⟩ | ⟨m,y,hz,hm,hid,hf⟩
 ·subst hz
  rw [hf] at hfm;have HE:Hid (ka (9,N,M,s) now x.id q.pure=bu 3 x.id q.pure):=by show ka (9,N,M,s) now x.id q.pure=_; unfold ka; rw [show cg (fun x:ci=>x.id) N q.pure.ae=n_ from hfm]
  exact Zcm
 rw [hf] at hfm;rw [Li] at hz;subst hz;have afO:decide ((m:Int) < 0)=false:=decide_eq_false (by omega);have HM:Hid (q.ae[m]? =o_ y∧y.id=N∧cg (fun x:ci=>x.id) N q.pure.ae=o_ y.toci):=⟨hm,hid,hfm⟩
 have hml:=(Lj.1 hm).1;have j0:(0:Int)≤(m:Int):=by omega
 have j1:(m:Int) < (q.ae.length:Int):=by omega
 clear hm hid hf hfm hml;obtain ⟨Y5,iE,hat⟩:=iA S.I.fr.own.at.2.2.2.2.1 HM.I.1;have m6:=S.I.fr.box.cells.2.2.2.2.2.2.1;rw [iE] at m6;have d0:=hat.1;have d1:=hat.2.1;have d2:=hat.2.2;have HG:Hid (q.am=o_ ⟨Y5,0,n_⟩):=iE;clear hat iE;have h5:=(Kp A2.heap.size A2).alloc (Ki _) (c_ #[i_ j_ y.id,i_ j_ y.max,s_ y.ak y.Ma.length y.aq] 114);have afa:Hid ((A2.alloc (c_ #[i_ j_ y.id,i_ j_ y.max,s_ y.ak y.Ma.length y.aq] 114)).heap[A2.heap.size]? =o_ (c_ #[i_ j_ y.id,i_ j_ y.max,s_ y.ak y.Ma.length y.aq] 114)∧w.heap.size+3≤A2.heap.size):=⟨Kj _ _,S.I.fr.sz.2.1⟩
 replace S:=aA (S.I.reads h5);clear h5;go_upto_region 5 with fail;generalize A2.alloc (c_ #[i_ j_ y.id,i_ j_ y.max,s_ y.ak y.Ma.length y.aq] 114)=B at *;generalize A2.heap.size=X at *;clear m6 d0 d1 d2 afO;obtain ⟨o0,-,-,-⟩:=S.I.op.cells;simp only at o0;have x2:B.cell? ⟨X,2,n_⟩=o_ (s_ y.ak y.Ma.length y.aq):=by simp [World.cell?,afa.I.1]
 have HF4:=aA (f4 (by decide) (by decide) (by decide));clear f1 f3 f4;cases hit:y.Ma with
 | nil=>
  rw [hit] at x2;have HE:Hid (ka (9,N,M,s) now x.id q.pure=mX 6 (9,N,M,s) now x.id (ez rM x.id q.pure)):=by show ka (9,N,M,s) now x.id q.pure=_; unfold ka; rw [show cg (fun x:ci=>x.id) N q.pure.ae=o_ y.toci from HM.I.2.2]; dsimp only; rw [show y.toci.Ma= [] from hit]
  clear afa hit;go_upto_region 15 with fail;clear x2 o0;obtain ⟨gp,l9,-⟩:=cn S.I.fr.own.at.1 HR.I.2.1;have m2:=S.I.fr.box.cells.2.2.1;have k1:(n:Int) < (q.L8.length:Int):=by have:=(Lj.1 HR.I.2.1).1; omega
  have k0:(0:Int)≤(n:Int):=by omega
  rw [l9] at m2;obtain ⟨s1,⟨u,c⟩,f⟩:=eY (n:=n) (j:=9) (v:=t_ ⟨#[]⟩) (y:= { x with got:=rM }) S.I.fr.own HR.I.2.1 l9 ⟨rfl,rfl,rfl⟩ (by decide) rfl;replace S:=aA (S.I.call s1);clear s1 l9;go_upto_region 16 with fail;generalize B.setCell ⟨gp,n * 12+9,n_⟩ (t_ ⟨#[]⟩)=C at *;clear m2 c f u k0 k1;obtain ⟨q1,hq1,hq⟩:=kg HR.I.1 HR.I.2.1 jX;have HB:Hid (q1.next=q.next):=by rw [hq1]; exact rfl
  rw [← hq1] at S;have HQ:=aA hq;clear hq1 hq;have Mb:=oR q1 n base { x with got:=rM } 6 now (9,N,M,s) C S.I.fr.own S.I.low HQ.I.2.2.1 HQ.I.2.2.2 Zc2 (by have:=HR.I.2.2.2.1; rw [HB.I]; omega) HR.I.2.2.2.2.1 HR.I.2.2.2.2.2;rw [HQ.I.1,HQ.I.2.1] at Mb;go_wp2_with (first | (refine eT 4 S.I.fr.box ?_) | (refine LS rfl 165 (.tmp 6) rfl (w.heap.size+1) (by rfl) 165 (j9 (9,N,M,s)) (0,0) _ S.I.op underlying165 rfl ZcR ?_));refine Mb.mono ?_;clear Mb;rintro e A2 ⟨q2,rfl,hp,ht⟩;replace S:=aA (S.I.call ht);have HP:Hid (q2.pure=_):=hp;clear hp ht;go_wp2_with (refine ec 8 88 q2.cells S.I.an ?_);refine gZ results106 S.I.an ?_;exact mi
 | cons t0 r=>
  have tI:Hid (y.Ma=t0 :: r∧bw t0=true∧(∀ u∈r,bw u=true)∧y.Ma.length≤5∧(y.Ma.length:Int)≤y.max):=by
   have h5:=(ji (o:=(9,N,M,s)) HR.I.1 HM.I.2.2).2.2; have h6:=uJ HR.I.1 (Lr.2 ⟨y,KA HM.I.1,rfl⟩);have h7:y.toci.Ma=y.Ma:=rfl;have h8:y.toci.max=y.max:=rfl;rw [h7] at h5;exact ⟨hit,h5.2 t0 (by rw [hit]; simp),fun u hu=>h5.2 u (by rw [hit]; simp [hu]),by omega,by rw [← h8]; exact h5.1⟩
  have il:(0:Int) < (y.Ma.length:Int):=by rw [hit]; simp
  have il3:0 < y.Ma.length:=by rw [hit]; simp
  have il4: ¬ y.Ma.length=0:=by omega
  have il2:((y.Ma.length:Int) == 0)=false:=by rw [hit]; simp; omega
  clear hit;go_upto_region 17 with fail;clear x2 o0 il2;replace afa:Hid (B.drew.heap[X]? =o_ (c_ #[i_ j_ y.id,i_ j_ y.max,s_ y.ak y.Ma.length y.aq] 114)∧w.heap.size+3≤X):=afa.I;replace S:=aA (S.I.reads (Kp _ _).drew);refine eD (fun w1=>w1=B.drew) 9 ZcR rfl ?_;generalize B.drew=C at *;have HG1:=aA (kg HR.I.1 HR.I.2.1 tI.I.2.1);have x2:C.cell? ⟨X,2,n_⟩=o_ (s_ y.ak y.Ma.length y.aq):=by simp [World.cell?,afa.I.1]
  obtain ⟨abo,hgi,x3⟩:=zl (lj S.I.fr.own.at.2.2.2.2.1 HM.I.1) (show y.Ma[0]? =o_ t0 by rw [tI.I.1]; rfl);rw [hgi] at x2;obtain ⟨gp,l9,-⟩:=cn S.I.fr.own.at.1 HR.I.2.1;have m2:=S.I.fr.box.cells.2.2.1;have k1:(n:Int) < (q.L8.length:Int):=by have:=(Lj.1 HR.I.2.1).1; omega
  have k0:(0:Int)≤(n:Int):=by omega
  rw [l9] at m2;have ud:Hid (q.aN=o_ ⟨gp,0,n_⟩):=l9;obtain ⟨s1,⟨u,c⟩,f⟩:=eY (n:=n) (j:=9) (v:=t_ t0) (y:= { x with got:=t0 }) S.I.fr.own HR.I.2.1 l9 ⟨rfl,rfl,rfl⟩ (by decide) rfl;have lW:(C.setCell ⟨gp,n * 12+9,n_⟩ (t_ t0)).heap[X]? =o_ (c_ #[i_ j_ y.id,i_ j_ y.max,s_ y.ak y.Ma.length y.aq] 114):=(aH (fun e=>by have h5:=(S.I.fr.lo gp (gD (.inl (by rw [l9]; simp [blk])))).2; have:=afa.I.2; omega)).trans afa.I.1;replace S:=aA (S.I.call s1);replace afa:=aA (And.intro lW afa.I.2);clear s1 l9 hgi lW
  iterate 9 (refine ly 10 (v:= ?_) (o_ _) rfl rfl ZcR (fun _ _ _ h=>h) (bV ZcR ?_) ?_; rotate_left; (intro w0 hS0; subst hS0; go_simp; try with_reducible rfl); simp only [pt,sb,s0,s1])
  refine fL rfl ZcR ZcR ZcR ?_;intro w1 cm;rw [cm];clear cm w1
  go_simp
  generalize C.setCell ⟨gp,n * 12+9,n_⟩ (t_ t0)=D at *;clear m2 x2 x3 c f u k0 k1 il il3 il4;obtain ⟨q1,hq1,hq⟩:=HG1.I;have HB:Hid (q1.ae=q.ae∧q1.next=q.next∧q1.am=q.am∧q1.pure.ae=q.pure.ae∧q1.aN=q.aN):=by rw [hq1]; exact ⟨rfl,rfl,rfl,rfl,rfl⟩
  rw [← hq1] at S;have HQ:=aA hq;clear hq1 hq HG1;go_upto_region 18 with fail;replace S:=aA (S.I.reads (Kp _ _).drew);replace afa:Hid (D.drew.heap[X]? =o_ (c_ #[i_ j_ y.id,i_ j_ y.max,s_ y.ak y.Ma.length y.aq] 114)∧w.heap.size+3≤X):=afa.I;refine Kr (S:=fun w'=>av w' w.heap.size q∧w'.heap[X]? =o_ (c_ #[i_ j_ y.id,i_ j_ y.max,s_ y.ak y.Ma.length y.aq] 114)) ZcR ⟨S.I.fr.box,afa.I.1⟩ (fun hHeld=> ?_);generalize D.drew=V2 at *;have il:(1:Int)≤(y.Ma.length:Int):=by rw [tI.I.1]; simp; omega
  have af5:(y.Ma.length:Int)≤(y.aq:Int):=by have h5:y.Ma.length≤y.aq:=nV (S.I.fr.own.eE y (by rw [HB.I.1]; exact KA HM.I.1)); omega
  have ic2:(1:Int)≤(y.aq:Int):=by omega
  obtain ⟨afs,hTA⟩: ∃ afs:Option d_,(if y.aq=1 then y.ak else Option.map (fun x:d_=>(⟨x.block,x.off+1,n_⟩:d_)) y.ak)=afs:=⟨_,rfl⟩
  refine zq9w 0 hHeld ?_;refine zq9w 1 hHeld ?_;refine zq9w 2 hHeld ?_;refine zq9w 4 hHeld ?_;refine zq9w 5 hHeld ?_;refine zq9w 6 hHeld ?_;clear hHeld il af5 ic2;have GO:Hid (q1.ae[m]? =o_ y):=by rw [HB.I.1]; exact HM.I.1
  have lW:=(J2.1 afa.I.1).1;have hS: ∀ W,B_ V2.heap.size V2 W→av W w.heap.size q∧W.heap[X]? =o_ (c_ #[i_ j_ y.id,i_ j_ y.max,s_ y.ak y.Ma.length y.aq] 114):=fun W hb=>⟨S.I.fr.box.below hb,(hb.block _ lW).trans afa.I.1⟩
  have b1:B_ V2.heap.size V2 (V2.alloc (c_ #[] 9)):=(Kp _ _).alloc (Ki _) _;refine L7 3 (fun K hK=> ?_);go_wp2_with fail;refine hK.out _ _ (hS _ b1) (fun hHeld=> ?_);clear hK K hHeld
  try simp only [pt,sb,s0,s1]
  have hlr:y.Ma.length - 1=r.length:=by rw [tI.I.1]; rfl
  have pI:y.Ma.drop 1=r:=by rw [tI.I.1]; rfl
  have hsrc:=vg (c:=y.aq) (nV (S.I.fr.own.eE y (KA GO.I))) (lj (S.I.fr.own.below b1).at.2.2.2.2.1 GO.I);rw [hTA] at hsrc;obtain ⟨a7,c7,w7,hap,mP,xI,-⟩:=ou (V2.alloc (c_ #[] 9)) V2.heap.size (o_ ⟨V2.heap.size,0,n_⟩) 0 [] (i6 (Kj _ _) (Ki _)) afs (y.Ma.drop 1) (y.aq - 1) hsrc (by rw [Ql]; have:=tI.I.2.2.2.1; show 0+_≤_; omega) b1.size;clear hsrc hTA;have gh:B_ V2.heap.size V2 w7:=b1.grown xI b1.size fun c e=>by cases e; exact Ki _
  rw [Ql,hlr] at hap mP;simp only [K4,Li,List.nil_append,pI] at hap mP;rw [← hlr] at hap;obtain ⟨s1,⟨u,c⟩,f⟩:=mB (n:=m) S.I.fr.own (aI.dI gh) GO.I (HB.I.2.2.1.trans HG.I) (cq mP S.I.low) (fun g hg=> .inr (cf mP hg).1);rw [← hlr] at s1;have HLR:Hid (y.Ma.length - 1=r.length):=hlr;clear hlr;refine L7 7 (fun K hK=> ?_);refine cM _ _ _ rfl _ _ _ w7 rfl rfl hap ?_;refine hK.out _ _ ⟨S.I.fr.box.below gh,(gh.block _ lW).trans afa.I.1⟩ (fun hHeld=> ?_);clear hK K hHeld
  try simp only [pt,sb]
  have wj:av w7 w.heap.size q∧w7.heap[X]? =o_ (c_ #[i_ j_ y.id,i_ j_ y.max,s_ y.ak y.Ma.length y.aq] 114):=⟨S.I.fr.box.below gh,(gh.block _ lW).trans afa.I.1⟩
  replace S:=aA (S.I.call s1);clear hap mP xI gh s1 b1 hS;refine zq9w 8 wj ?_;refine zq9w 9 wj ?_;have uQ:(w7.setCell ⟨Y5,m * 3+2,n_⟩ (s_ a7 (y.Ma.length - 1) c7)).heap[X]? =o_ (c_ #[i_ j_ y.id,i_ j_ y.max,s_ y.ak y.Ma.length y.aq] 114):=(aH (fun e=>by have h5:=(S.I.fr.lo Y5 (gD (.inr <| .inr <| .inr <| .inr <| .inl <| by rw [HG.I]; simp [blk]))).2; have:=afa.I.2; omega)).trans wj.2;refine L7 10 (fun K hK=> ?_);go_wp2_with fail;refine hK.out _ _ ⟨S.I.fr.box,uQ⟩ (fun hHeld=> ?_);clear hK K hHeld;refine K3 ZcR ?_ _;clear c f u wj lW uQ;go_upto_region 19 with fail;generalize w7.setCell ⟨Y5,m * 3+2,n_⟩ (s_ a7 (y.Ma.length - 1) c7)=E at *;obtain ⟨y2,hy2⟩: ∃ y2:au,y2= { y with Ma:=r,ak:=a7,aq:=c7 } :=⟨_,rfl⟩
  obtain ⟨q2,pv⟩: ∃ q2:af,q2= { q1 with ae:=q1.ae.set m y2 } :=⟨_,rfl⟩
  have ky:Hid (q2.pure=cV N r (ez t0 x.id q.pure)∧q2.cells=q.cells∧aQ q2.pure∧q2.L8[n]? =o_ { x with got:=t0 } ∧q2.ae[m]? =o_ y2∧q2.am=o_ ⟨Y5,0,n_⟩∧q2.next=q.next∧q2.aN=o_ ⟨gp,0,n_⟩):=by
   have h5:q2.pure=cV N r q1.pure:=by rw [pv,hy2]; exact oN HQ.I.2.2.1.ae GO.I HM.I.2.1
   have h6:aQ (cV N r q1.pure):=gN HQ.I.2.2.1 (fun z hz hk=>by rw [HB.I.2.2.2.1] at hz; rw [only HR.I.1.ae HM.I.2.2 hz hk]; have h7:=tI.I.2.2.2.2; rw [tI.I.1] at h7; have h8:y.toci.max=y.max:=rfl; simp only [Lg] at h7; omega) tI.I.2.2.1;exact ⟨by rw [h5,HQ.I.1],by rw [pv]; exact Eq.trans (by unfold af.cells; simp) HQ.I.2.1,by rw [h5]; exact h6,by rw [pv]; exact HQ.I.2.2.2,by rw [pv]; show (q1.ae.set m y2)[m]? =_; rw [LU (Lj.1 GO.I).1],by rw [pv]; exact HB.I.2.2.1.trans HG.I,by rw [pv]; exact HB.I.2.1,by rw [pv]; exact HB.I.2.2.2.2.trans ud.I⟩
  rw [← hy2,← pv] at S;have HY2:Hid (y2.Ma=r∧y2.id=N∧y2.max=y.max):=by rw [hy2]; exact ⟨rfl,HM.I.2.1,rfl⟩
  clear pv hy2 HLR pI afa;have HU:Hid (ka (9,N,M,s) now x.id q.pure=match jl 5 N q2.pure.L8 with | none=>bu 0 x.id (cV N r (ez t0 x.id q.pure)) | some v=>bu 0 x.id (gF (fun y=>y) (cV N (r ++ [v.held]) (ez t0 x.id q.pure)) v)):=by show ka (9,N,M,s) now x.id q.pure=_; unfold ka; rw [show cg (fun x:ci=>x.id) N q.pure.ae=o_ y.toci from HM.I.2.2]; dsimp only; rw [show y.toci.Ma=t0 :: r from tI.I.1]; dsimp only; rw [show q2.pure.L8=(ez t0 x.id q.pure).L8 by rw [ky.I.1]; rfl]; split <;> rename_i h5 <;> rw [h5]
  have Mb:=ij q2 5 N E (by have:=(dW ky.I.2.2.1).1; omega) S.I.fr.own.at;rw [ky.I.2.1] at Mb;obtain ⟨-,o1,-,-⟩:=S.I.op.cells;simp only at o1;go_wp2_with (refine eT 4 S.I.fr.box ?_);refine Mb.mono ?_;clear Mb o1;rintro e afP ⟨⟨z,rfl,gV⟩,hb2⟩;replace S:=aA (S.I.reads hb2);clear hb2;rcases pp gV with ⟨hz,hw⟩ | ⟨i,v,hz,hi,hw⟩
  ·have HE:Hid (ka (9,N,M,s) now x.id q.pure=bu 0 x.id (cV N r (ez t0 x.id q.pure))):=by show ka (9,N,M,s) now x.id q.pure=_; rw [HU.I,hw]
   have afO:decide (z≥0)=false:=decide_eq_false (by omega);clear gV hz hw HU;have Mb:=bB (n:=n) 0 S.I.fr.own S.I.low ky.I.2.2.1 ky.I.2.2.2.1 Zc2;rw [ky.I.1,ky.I.2.1] at Mb;go_wp2_with (refine eT 4 S.I.fr.box ?_);refine Mb.mono ?_;clear Mb;rintro e A2 ⟨q3,rfl,hp,ht⟩;replace S:=aA (S.I.call ht);have HP:Hid (q3.pure=_):=hp;clear hp ht;go_wp2_with (refine ec 8 138 q3.cells S.I.an ?_);refine gZ results106 S.I.an ?_;exact ⟨q3,rfl,HP.I.trans HE.I.symm,S.I.done _⟩
  have HE:Hid (ka (9,N,M,s) now x.id q.pure=bu 0 x.id (gF (fun y=>y) (cV N (r ++ [v.held]) (ez t0 x.id q.pure)) v.toaD)):=by show ka (9,N,M,s) now x.id q.pure=_; rw [HU.I,hw]
  have HW:Hid (jl 5 N q2.pure.L8=o_ v.toaD∧q2.L8[i]? =o_ v∧v.Md=5):=⟨hw,hi,(ft hw).2.1⟩
  subst hz;have afO:decide ((i:Int)≥0)=true:=decide_eq_true (by omega);clear gV hw hi HU;go_upto_region 21 with fail;clear afO;replace S:=aA (S.I.reads (Kp _ _).drew);obtain ⟨g5,A7,hat⟩:=iA S.I.fr.own.at.2.2.2.2.1 ky.I.2.2.2.2.1;rw [ky.I.2.2.2.2.2.1] at A7;cases A7;obtain ⟨g6,hg6,hap⟩:=cn S.I.fr.own.at.1 HW.I.2.1;rw [ky.I.2.2.2.2.2.2.2] at hg6;cases hg6;have hS0:av afP.drew w.heap.size q∧afP.drew.cell? ⟨gp,i * 12+8,n_⟩=o_ (t_ v.held):=⟨S.I.fr.box,hap.2.2.2.2.2.2.2.2.1⟩
  have c8:afP.drew.cell? ⟨Y5,m * 3+2,n_⟩=o_ (s_ y2.ak y2.Ma.length y2.aq):=hat.2.2;clear hat hap;refine Kr (S:=fun w'=>av w' w.heap.size q∧w'.cell? ⟨gp,i * 12+8,n_⟩=o_ (t_ v.held)) ZcR hS0 (fun hHeld=> ?_);generalize afP.drew=V3 at *;have k1:(i:Int) < (q.L8.length:Int):=by have h5:=(Lj.1 HW.I.2.1).1; have h6:=congrArg (fun p:aE=>p.L8.length) ky.I.1; simp only [af.pure,List.length_map,cV,ez,ce] at h6; omega
  have k0:(0:Int)≤(i:Int):=by omega
  refine zq9w 0 hHeld ?_;refine zq9w 1 hHeld ?_;refine zq9w 2 hHeld ?_;refine zq9w 3 hHeld ?_;refine zq9w 4 hHeld ?_;refine zq9w 5 hHeld ?_;refine zq9w 6 hHeld ?_;refine zq9w 7 hHeld ?_;refine zq9w 9 hHeld ?_;refine zq9w 10 hHeld ?_;refine zq9w 11 hHeld ?_;refine zq9w 12 hHeld ?_;refine zq9w 13 hHeld ?_;refine zq9w 14 hHeld ?_;clear hHeld k0 k1;have b1:B_ V3.heap.size V3 (V3.alloc (c_ #[t_ v.held] 9)):=(Kp _ _).alloc (Ki _) _;have iE:=cf S.I.fr.own.ae (g:=Y5) (by rw [ky.I.2.2.2.2.2.1]; simp [blk]);have l9:=cf S.I.fr.own.L8 (g:=gp) (by rw [ky.I.2.2.2.2.2.2.2]; simp [blk]);have cm:av (V3.alloc (c_ #[t_ v.held] 9)) w.heap.size q∧(V3.alloc (c_ #[t_ v.held] 9)).cell? ⟨gp,i * 12+8,n_⟩=o_ (t_ v.held):=⟨S.I.fr.box.below b1,(b1.cell (p:=⟨gp,i * 12+8,n_⟩) l9.2).trans hS0.2⟩
  have c9:World.cell? (V3.alloc (c_ #[t_ v.held] 9)) ⟨Y5,m * 3+2,n_⟩=o_ (s_ y2.ak y2.Ma.length y2.aq):=(b1.cell (p:=⟨Y5,m * 3+2,n_⟩) iE.2).trans c8;refine KW (rs:= [8,15]) ZcR (by simp) ?_;refine KX rfl (fun K hK=> ?_) (KX rfl (fun K hK=> ?_) KY)
  focus
   simp only [KZ,K0,K1];rw [if_pos (by rfl)];go_wp2_with fail;refine hK.out _ _ hS0 (fun hHeld=> ?_);clear hK K hHeld
   try simp only [pt,sb,s0,s1]
   refine L7 15 (fun K hK=> ?_);go_wp2_with fail;refine hK.out _ _ cm (fun hHeld=> ?_);clear hK K hHeld
   try simp only [pt,sb,s0,s1]
  rotate_left
  focus
   simp only [KZ,K0,K1];rw [if_pos (by rfl)];go_wp2_with fail;refine hK.out _ _ cm (fun hHeld=> ?_);clear hK K hHeld
   try simp only [pt,sb,s0,s1]
   refine L7 8 (fun K hK=> ?_);go_wp2_with fail;refine hK.out _ _ cm (fun hHeld=> ?_);clear hK K hHeld
   try simp only [pt,sb,s0,s1]
  all_goals
   clear c8 c9;obtain ⟨a8,c8,w8,hap,ho8,hg8,yD⟩:=ou (V3.alloc (c_ #[t_ v.held] 9)) base y2.ak y2.aq y2.Ma ((S.I.fr.own.below b1).eE y2 (KA ky.I.2.2.2.2.1)) _ [v.held] 1 (jO (Kj _ _)) (by have h5:=tI.I.2.2.2.1; rw [tI.I.1] at h5; rw [HY2.I.1]; simp only [Lg,K4] at h5 ⊢; omega) (by have:=b1.size; have:=S.I.low; omega);have hkb:aI V3 w8 (blk y2.ak):=aI.grown b1 hg8;have hl8:(y2.Ma ++ [v.held]).length=y2.Ma.length+1:=by rw [Lf]; rfl
   simp only [Lg,K4,Li] at hap ho8;rw [← hl8] at hap ho8;obtain ⟨s1,⟨u,c⟩,f⟩:=mB (n:=m) S.I.fr.own hkb ky.I.2.2.2.2.1 ky.I.2.2.2.2.2.1 ho8 (fun g hg=>(yD g hg).imp_right fun e=>by rw [e]; exact b1.size);rw [hl8] at hap s1;have HL8:Hid ((y2.Ma ++ [v.held]).length=y2.Ma.length+1):=hl8;clear hl8;have iH: ∀ g,g∈blk y2.ak→g∈q2.Mc∧g≠Y5∧g≠gp∧Y5≠gp:=fun g hg=>IY S.I.fr.own ky.I.2.2.2.2.1 ky.I.2.2.2.2.2.1 ky.I.2.2.2.2.2.2.2 hg
   have hne:Y5≠gp:=Ig S.I.fr.own ky.I.2.2.2.2.2.1 ky.I.2.2.2.2.2.2.2;have hS8:av w8 w.heap.size q∧w8.cell? ⟨gp,i * 12+8,n_⟩=o_ (t_ v.held):=⟨(hkb.same _ (av.lt S.I.fr.box) fun hm=>S.I.fr.yO (Ki _) (by omega) (iH _ hm).1).trans S.I.fr.box,(J1 (a:=⟨gp,i * 12+8,n_⟩) (hkb.same gp l9.2 fun hm=>(iH _ hm).2.2.1 rfl)).trans hS0.2⟩
   refine L7 16 (fun K hK=> ?_);refine cM _ _ _ rfl _ _ _ w8 rfl rfl hap ?_;refine hK.out _ _ hS8 (fun hHeld=> ?_);clear hK K hHeld
   try simp only [pt,sb]
   replace S:=aA (S.I.call s1);clear hap ho8 hg8 yD hkb s1 b1 hS0 cm iH iE l9;refine zq9w 17 hS8 ?_;refine zq9w 18 hS8 ?_;have FW:(w8.setCell ⟨Y5,m * 3+2,n_⟩ (s_ a8 (y2.Ma.length+1) c8)).cell? ⟨gp,i * 12+8,n_⟩=o_ (t_ v.held):=(J1 (a:=⟨gp,i * 12+8,n_⟩) (aH hne.symm)).trans hS8.2;refine L7 19 (fun K hK=> ?_);go_wp2_with fail;refine hK.out _ _ ⟨S.I.fr.box,FW⟩ (fun hHeld=> ?_);clear hK K hHeld;refine K3 ZcR ?_ _;clear c f u hS8 FW hne;go_upto_region 22 with fail;generalize w8.setCell ⟨Y5,m * 3+2,n_⟩ (s_ a8 (y2.Ma.length+1) c8)=G at *;obtain ⟨q3,IJ⟩: ∃ q3:af,q3= { q2 with ae:=q2.ae.set m { y2 with Ma:=y2.Ma ++ [v.held],ak:=a8,aq:=c8 } } :=⟨_,rfl⟩
   have Ck:Hid (q3.pure=cV N (r ++ [v.held]) (ez t0 x.id q.pure)∧q3.cells=q.cells∧aQ q3.pure∧q3.L8[n]? =o_ { x with got:=t0 } ∧q3.L8[i]? =o_ v∧q3.next=q.next):=by
    have h5:q3.pure=cV N (r ++ [v.held]) q2.pure:=by rw [IJ,← HY2.I.1]; exact oN ky.I.2.2.1.ae ky.I.2.2.2.2.1 HY2.I.2.1
    have h6:cV N (r ++ [v.held]) q2.pure=cV N (r ++ [v.held]) (ez t0 x.id q.pure):=by rw [ky.I.1]; exact yY _ _ _ _
    have h7:aQ (cV N (r ++ [v.held]) (ez t0 x.id q.pure)):=by
     rw [← HQ.I.1];refine gN HQ.I.2.2.1 (fun z hz hk=> ?_) (fun u hu=> ?_)
     ·rw [HB.I.2.2.2.1] at hz; rw [only HR.I.1.ae HM.I.2.2 hz hk]; have h7:=tI.I.2.2.2.2; rw [tI.I.1] at h7; have h8:y.toci.max=y.max:=rfl; simp only [Lg,Lf,K4] at h7 ⊢; omega
     ·exact (Kg.1 hu).elim (fun hu=>tI.I.2.2.1 u hu) (fun hu=>by simp only [Kt,Ku,or_false] at hu; rw [hu]; have h8:=iF (ky.I.2.2.1.proc (iu HW.I.2.1)).2.1; unfold jY at h8; simp only [J7] at h8; exact h8.1.1.2)
    exact ⟨by rw [h5,h6],by rw [IJ]; exact Eq.trans (by unfold af.cells; simp) ky.I.2.1,by rw [h5,h6]; exact h7,by rw [IJ]; exact ky.I.2.2.2.1,by rw [IJ]; exact HW.I.2.1,by rw [IJ]; exact ky.I.2.2.2.2.2.2.1⟩
   rw [← IJ] at S;clear IJ HL8;have Mb:=lP (n:=i) S.I.fr.own S.I.low Ck.I.2.2.1 Ck.I.2.2.2.2.1 Zc7 (by rw [Ck.I.2.2.2.2.2]; have:=HR.I.2.2.2.1; omega);rw [Ck.I.1,Ck.I.2.1] at Mb;go_wp2_with (refine eT 4 S.I.fr.box ?_);refine Mb.mono ?_;clear Mb;rintro e G2 ⟨q4,rfl,hp,ht⟩;replace S:=aA (S.I.call ht);rw [← Ck.I.1] at hp;obtain ⟨hr4,x4,hx4,sw⟩:=qp Ck.I.2.2.1 Ck.I.2.2.2.1 HR.I.2.2.1 Ck.I.2.2.2.2.1 Zc7 Zc7 (.inl rfl) (by rw [Ck.I.2.2.2.2.2]; have:=HR.I.2.2.2.1; omega) hp;have S2:=aA S.I.put;go_upto_region 23 with (refine ec 4 135 q4.cells S.I.fr.box ?_);generalize G2.setRow w.heap.size q4.cells=G3 at *;clear S;have S:=S2;clear S2;have Mb:=bB (n:=n) 0 S.I.fr.own S.I.low hr4 hx4 (by rw [show x4.Md=x.Md by have h5:=congrArg aD.Md sw; exact h5,HR.I.2.2.1]; decide);rw [show x4.id=x.id by have h5:=congrArg aD.id sw; exact h5,hp,Ck.I.1,← HE.I] at Mb;clear hp ht hr4 hx4 sw;go_wp2_with (refine eT 4 S.I.fr.box ?_);refine Mb.mono ?_;clear Mb;rintro e G32 ⟨q5,rfl,hp,ht⟩;replace S:=aA (S.I.call ht);have HP:Hid (q5.pure=_):=hp;clear hp ht;go_wp2_with (refine ec 8 138 q5.cells S.I.an ?_);refine gZ results106 S.I.an ?_;exact ⟨q5,rfl,HP.I,S.I.done _⟩
theorem An {p:aE} {y:dS} (h:aQ p) (hy:y∈p.ai):y.max≤5:=by
 have h1:=(cK h.ai y hy).2;unfold dj at h1;simp only [J7] at h1;exact (bz.1 h1.1.1).2
theorem Av (q:af) (n base:Nat) (x:ao) (o:dN) (w:w_) (h:ap w base q) (hb:base≤w.heap.size) (hr:aQ q.pure) (hx:q.L8[n]? =o_ x) (hs:x.Md=1) (hn:q.next≤999999990) (ho:kc o=true) (hk:o.1=13):
  k_ J3 108 #[a_ q.cells,i_ j_ n,a_ (j9 o)] w (jH w base q (ig o x.id q.pure)):=by
 obtain ⟨-,f1,f2,f3,f4⟩:=dv ho;have hM:=bz.1 f2;obtain ⟨k,N,M,s⟩:=o;simp only at hk hM f1 f3 f4;subst hk;have HR:Hid (aQ q.pure∧q.L8[n]? =o_ x∧x.Md=1∧q.next≤999999990∧(-1≤M∧M≤1000)):=⟨hr,hx,hs,hn,hM⟩
 have HF:=aA (dW hr);clear f2 hr hx hs hn hM ho;have S:=aA (Xf.start (o:=(13,N,M,s)) h hb);clear h hb
 go_enter func108,ntmps108
 go_upto_region 1 with fail;generalize ((w.alloc (c_ q.cells 38)).alloc (c_ (j9 (13,N,M,s)) 165)).alloc (c_ ar 38)=A at *;obtain ⟨-,o1,-,-⟩:=S.I.op.cells;simp only at o1;have hpf:=ef (num:=fun x:aM=>x.id) N q.ai 0;have Mb:=uV q N A ZcY S.I.fr.own.at;generalize place (q.ai.map (fun x=>x.id)) N 0=z at *;go_wp2_with (refine eT 3 S.I.fr.box ?_);refine Mb.mono ?_;clear Mb;rintro e A2 ⟨rfl,hb2⟩;replace S:=aA (S.I.reads hb2);clear hb2 o1;have hfm:=lJ (num:=fun x:dS=>x.id) (je:=fun x:aM=>x.id) (g:=fun x:aM=>x.todS) (fun _=>rfl) (id:=N) q.ai;rcases hpf with ⟨hz,hf⟩ | ⟨m,y,hz,hm,hid,hf⟩
 ·subst hz
  rw [hf] at hfm;have HE:Hid (ig (13,N,M,s) x.id q.pure=bu 3 x.id q.pure):=by show ig (13,N,M,s) x.id q.pure=_; unfold ig; rw [show cg (fun x:dS=>x.id) N q.pure.ai=n_ from hfm]
  exact Zco
 rw [hf] at hfm;rw [Li] at hz;subst hz;have afO:decide ((m:Int) < 0)=false:=decide_eq_false (by omega);have HM:Hid (q.ai[m]? =o_ y∧y.id=N∧cg (fun x:dS=>x.id) N q.pure.ai=o_ y.todS):=⟨hm,hid,hfm⟩
 have hml:=(Lj.1 hm).1;have j0:(0:Int)≤(m:Int):=by omega
 have j1:(m:Int) < (q.ai.length:Int):=by omega
 clear hm hid hf hfm hml;go_upto_region 2 with fail;replace S:=aA (S.I.reads (Kp _ _).drew);refine aT (fun w1=>w1=A2.drew) ZcR rfl ?_;generalize A2.drew=B at *;obtain ⟨Y5,iE,hat⟩:=lm S.I.fr.own.at.2.2.2.2.2 HM.I.1;have m7:=S.I.fr.box.cells.2.2.2.2.2.2.2;rw [iE] at m7;have d0:=hat.1;have d1:=hat.2.1;have d2:=hat.2.2.1;have d3:=hat.2.2.2.1;have d4:=hat.2.2.2.2;have HG:Hid (q.aK=o_ ⟨Y5,0,n_⟩):=iE;clear hat iE;obtain ⟨o0,-,-,-⟩:=S.I.op.cells;simp only at o0
 iterate 14 (refine agj ?_)
 refine bk ZcR ?_ _;intro w1 cm;rw [cm];clear cm w1 afO;have IB:Hid (bw s=true):=f3;clear f1 f3 f4;have tI:Hid ((∀ u∈y.Ma,bw u=true)∧y.Ma.length≤5∧(y.Ma.length:Int)≤y.max∧1≤y.max):=by
  have h5:=nB (o:=(13,N,M,s)) HR.I.1 HM.I.2.2; have h6:=An HR.I.1 (Lr.2 ⟨y,KA HM.I.1,rfl⟩);exact Zbo
 cases hu:y.I
 ·rw [hu] at d1
  have HE:Hid (ig (13,N,M,s) x.id q.pure=bu 3 x.id q.pure):=by show ig (13,N,M,s) x.id q.pure=_; unfold ig; rw [show cg (fun x:dS=>x.id) N q.pure.ai=o_ y.todS from HM.I.2.2]; exact if_pos hu
  exact mt
 have HO:Hid (y.I=true):=hu;clear hu;rw [HO.I] at d1;have h5:=(Kp B.heap.size B).alloc (Ki _) (c_ #[i_ j_ y.id,b_ true,b_ y.Mf,i_ j_ y.max,s_ y.ak y.Ma.length y.aq] 116);have afa:Hid ((B.alloc (c_ #[i_ j_ y.id,b_ true,b_ y.Mf,i_ j_ y.max,s_ y.ak y.Ma.length y.aq] 116)).heap[B.heap.size]? =o_ (c_ #[i_ j_ y.id,b_ true,b_ y.Mf,i_ j_ y.max,s_ y.ak y.Ma.length y.aq] 116)∧w.heap.size+3≤B.heap.size):=⟨Kj _ _,S.I.fr.sz.2.1⟩
 replace S:=aA (S.I.reads h5);clear h5;go_upto_region 5 with fail;generalize B.alloc (c_ #[i_ j_ y.id,b_ true,b_ y.Mf,i_ j_ y.max,s_ y.ak y.Ma.length y.aq] 116)=C at *;generalize B.heap.size=X at *;clear m7 d0 d1 d2 d3 d4 o0;obtain ⟨o0,-,-,-⟩:=S.I.op.cells;simp only at o0;have x2:C.cell? ⟨X,2,n_⟩=o_ (b_ y.Mf):=by simp [World.cell?,afa.I.1]
 have x3:C.cell? ⟨X,3,n_⟩=o_ (i_ j_ y.max):=by simp [World.cell?,afa.I.1]
 have x4:C.cell? ⟨X,4,n_⟩=o_ (s_ y.ak y.Ma.length y.aq):=by simp [World.cell?,afa.I.1]
 cases nu:y.Mf
 ·rw [nu] at x2
  have HE:Hid (ig (13,N,M,s) x.id q.pure=bu 0 x.id (gU N [s] q.pure)):=by show ig (13,N,M,s) x.id q.pure=_; unfold ig; rw [show cg (fun x:dS=>x.id) N q.pure.ai=o_ y.todS from HM.I.2.2]; dsimp only; rw [if_neg (show ¬ y.I=false by rw [HO.I]; decide),if_pos nu]
  clear nu afa;go_upto_region 7 with fail;clear x2 x3 x4 o0;have m7:=S.I.fr.box.cells.2.2.2.2.2.2.2;rw [HG.I] at m7;obtain ⟨-,-,-,o3⟩:=S.I.op.cells;simp only at o3;have b1:B_ C.heap.size C (C.alloc (c_ #[t_ s] 9)):=(Kp _ _).alloc (Ki _) _;have mP:World.ownsRow (C.alloc (c_ #[t_ s] 9)) C.heap.size 9 1 (s_ (o_ ⟨C.heap.size,0,n_⟩) [s].length 1) [s].length (bT.flat [s]):=IN _ _;have afS:World.cell? (C.alloc (c_ #[t_ s] 9)) ⟨w.heap.size,7,n_⟩=o_ (s_ (o_ ⟨Y5,0,n_⟩) q.ai.length q.aV):=(b1.cell (p:=⟨w.heap.size,7,n_⟩) (av.lt S.I.fr.box)).trans m7;obtain ⟨s1,⟨u,c⟩,f⟩:=pg (n:=m) S.I.fr.own (aI.dI b1) HM.I.1 HG.I (cq mP S.I.low) (fun g hg=> .inr (cf mP hg).1);replace S:=aA (S.I.call s1);clear s1 mP;simp only [Lg,K4,Li] at S c f;go_upto_region 8 with fail;generalize World.setCell (C.alloc (c_ #[t_ s] 9)) ⟨Y5,m * 5+4,n_⟩ (s_ (o_ ⟨C.heap.size,0,n_⟩) 1 1)=E at *;clear m7 afS c f u o3 b1;generalize C.heap.size=gx at *;have CK:Hid (∃ q1:af,q1= { q with ai:=q.ai.set m { y with Ma:= [s],ak:=(o_ ⟨gx,0,n_⟩),aq:=1 } } ∧q1.pure=gU N [s] q.pure∧q1.cells=q.cells∧aQ q1.pure∧q1.L8[n]? =o_ x):=by
   have hq:({ q with ai:=q.ai.set m { y with Ma:= [s],ak:=(o_ ⟨gx,0,n_⟩),aq:=1 } } :af).pure=gU N [s] q.pure:=sq HR.I.1.ai HM.I.1 HM.I.2.1;have hr2:aQ (gU N [s] q.pure):=by
    refine jj HR.I.1 (fun z hz hk=> ?_) (fun t0 ht=> ?_)
    ·rw [only HR.I.1.ai HM.I.2.2 hz hk]; exact tI.I.2.2.2
    ·simp only [Kt,Ku,or_false] at ht; rw [ht]; exact IB.I
   exact Zbb
  obtain ⟨q1,hq1,hq⟩:=CK.I;rw [← hq1] at S;have HQ:=aA hq;clear hq1 hq CK;have Mb:=bB (n:=n) 0 S.I.fr.own S.I.low HQ.I.2.2.1 HQ.I.2.2.2 Zc0;rw [HQ.I.1,HQ.I.2.1] at Mb;go_wp2_with (refine eT 3 S.I.fr.box ?_);refine Mb.mono ?_;clear Mb;rintro e A2 ⟨q9,rfl,hp,ht⟩;replace S:=aA (S.I.call ht);have HP:Hid (q9.pure=_):=hp;clear hp ht;go_wp2_with (refine ec 6 51 q9.cells S.I.an ?_);exact y_
 rw [nu] at x2;have HU:Hid (ig (13,N,M,s) x.id q.pure=if (y.Ma.length:Int)=y.max then bu 1 x.id q.pure else bu 0 x.id (gU N (y.Ma ++ [s]) q.pure)):=by show ig (13,N,M,s) x.id q.pure=_; unfold ig; rw [show cg (fun x:dS=>x.id) N q.pure.ai=o_ y.todS from HM.I.2.2]; dsimp only; rw [if_neg (show ¬ y.I=false by rw [HO.I]; decide),if_neg (show ¬ y.Mf=false by rw [nu]; decide)]
 have CK:Hid (y.Mf=true):=nu;clear nu;by_cases hfl:(y.Ma.length:Int)=y.max
 ·have HE:Hid (ig (13,N,M,s) x.id q.pure=bu 1 x.id q.pure):=HU.I.trans (if_pos hfl)
  have e1:((y.Ma.length:Int) == y.max)=true:=by simp [hfl]
  clear hfl;have Mb:=bB (n:=n) 1 S.I.fr.own S.I.low HR.I.1 HR.I.2.1 Zc0;go_wp2_with (refine eT 3 S.I.fr.box ?_);refine Mb.mono ?_;clear Mb;rintro e A2 ⟨q9,rfl,hp,ht⟩;replace S:=aA (S.I.call ht);have HP:Hid (q9.pure=_):=hp;clear hp ht;go_wp2_with (refine ec 6 60 q9.cells S.I.an ?_);exact y_
 have HE:Hid (ig (13,N,M,s) x.id q.pure=bu 0 x.id (gU N (y.Ma ++ [s]) q.pure)):=HU.I.trans (if_neg hfl);have e1:((y.Ma.length:Int) == y.max)=false:=by simp [hfl]
 have HN:Hid (¬ (y.Ma.length:Int)=y.max):=hfl;clear hfl HU;go_upto_region 11 with fail;clear e1 x2 x3 x4 o0;replace S:=aA (S.I.reads (Kp _ _).drew);replace afa:Hid (C.drew.heap[X]? =o_ (c_ #[i_ j_ y.id,b_ true,b_ y.Mf,i_ j_ y.max,s_ y.ak y.Ma.length y.aq] 116)∧w.heap.size+3≤X):=afa.I;refine Kr (S:=fun w'=>av w' w.heap.size q∧oo w' (w.heap.size+1) (13,N,M,s)∧w'.heap[X]? =o_ (c_ #[i_ j_ y.id,b_ true,b_ y.Mf,i_ j_ y.max,s_ y.ak y.Ma.length y.aq] 116)) ZcR ⟨S.I.fr.box,S.I.op,afa.I.1⟩ (fun hHeld=> ?_);generalize C.drew=V2 at *;refine zq9w 0 hHeld ?_;refine zq9w 1 hHeld ?_;refine zq9w 2 hHeld ?_;refine zq9w 4 hHeld ?_;refine zq9w 5 hHeld ?_;refine zq9w 7 hHeld ?_;refine zq9w 8 hHeld ?_;clear hHeld;have hbz:w.heap.size+3≤V2.heap.size:=S.I.fr.sz.2.1;have lW:=(J2.1 afa.I.1).1;have hS: ∀ W,B_ V2.heap.size V2 W→av W w.heap.size q∧oo W (w.heap.size+1) (13,N,M,s)∧W.heap[X]? =o_ (c_ #[i_ j_ y.id,b_ true,b_ y.Mf,i_ j_ y.max,s_ y.ak y.Ma.length y.aq] 116):=fun W hb=>⟨S.I.fr.box.below hb,(hb.block _ (by omega)).trans S.I.op,(hb.block _ lW).trans afa.I.1⟩
 have hil:y.Ma.length≤5:=tI.I.2.1;have wg:Hid (∀ (W:w_) (g:Nat),B_ V2.heap.size V2 W→W.heap[g]? =o_ (c_ #[] 9)→V2.heap.size≤g→ ∃ a5 c5 w5,(Builtin.append_ #[91,91] 91 #[s_ (o_ ⟨g,0,n_⟩) 0 0,s_ y.ak y.Ma.length y.aq]).run J3 W= .ok (s_ a5 y.Ma.length c5) w5∧w5.ownsRow V2.heap.size 9 1 (s_ a5 y.Ma.length c5) y.Ma.length (bT.flat y.Ma)∧B_ V2.heap.size V2 w5∧ ∀ h,V2.heap.size≤h→h≠g→h < W.heap.size→w5.heap[h]? =W.heap[h]?):=fun W g hb hg hge=>by
  obtain ⟨a5,c5,w5,hap,oe,A7,-⟩:=tO W V2.heap.size g hg hge y.ak y.Ma y.aq (nJ (S.I.fr.own.below hb).at.2.2.2.2.2 HM.I.1) (by omega) hb.size;exact Zbg
 have afR: ∀ (W:w_) (c:Obj),B_ V2.heap.size V2 W→B_ V2.heap.size V2 (W.alloc c):=fun W c hb=>hb.alloc hb.size _
 refine KW (rs:= [3,9]) ZcR (by simp) ?_;refine KX rfl (fun K hK=> ?_) (KX rfl (fun K hK=> ?_) KY)
 focus
  have b1:B_ V2.heap.size V2 (V2.alloc (c_ #[] 9)):=afR _ _ (Kp _ _);simp only [KZ,K0,K1];rw [if_pos (by rfl)];go_wp2_with fail;refine hK.out _ _ (hS _ b1) (fun hHeld=> ?_);clear hK K hHeld
  try simp only [pt,sb,s0,s1]
  have b7:B_ V2.heap.size V2 ((V2.alloc (c_ #[] 9)).alloc (c_ #[t_ s] 9)):=afR _ _ b1;refine KW (rs:= [6,9]) (by kernel_rfl) (by simp) ?_;refine KX rfl (fun K hK=> ?_) (KX rfl (fun K hK=> ?_) KY)
  focus
   clear b7;obtain ⟨a5,c5,w5,hap,oe,iJ,-⟩:=wg.I _ _ b1 (Kj _ _) (Ki _);simp only [KZ,K0,K1];rw [if_pos (by rfl)];refine cM _ _ _ rfl _ _ _ w5 rfl rfl hap ?_;refine hK.out _ _ (hS _ iJ) (fun hHeld=> ?_);clear hK K hHeld
   try simp only [pt,sb,s0,s1]
   refine L7 9 (fun K hK=> ?_);go_wp2_with fail;refine hK.out _ _ (hS _ (afR _ _ iJ)) (fun hHeld=> ?_);clear hK K hHeld
   try simp only [pt,sb,s0,s1]
   have qJ:Hid ((w5.alloc (c_ #[t_ s] 9)).ownsRow V2.heap.size 9 1 (s_ a5 y.Ma.length c5) y.Ma.length (bT.flat y.Ma)∧(w5.alloc (c_ #[t_ s] 9)).heap[w5.heap.size]? =o_ (c_ #[t_ s] 9)∧B_ V2.heap.size V2 (w5.alloc (c_ #[t_ s] 9))):=⟨cR oe ((Kp _ _).alloc (Ki _) _),Kj _ _,afR _ _ iJ⟩
   clear hap oe iJ b1 afR hS;generalize w5.alloc (c_ #[t_ s] 9)=w6 at *;generalize w5.heap.size=gx at *
  rotate_left
  focus
   obtain ⟨a5,c5,w6,om,qH,jQ,zU⟩:=wg.I _ _ b7 ((PU (by simp)).trans (Kj _ _)) (Ki _);simp only [KZ,K0,K1];rw [if_pos (by rfl)];go_wp2_with fail;refine hK.out _ _ (hS _ b7) (fun hHeld=> ?_);clear hK K hHeld
   try simp only [pt,sb,s0,s1]
   refine L7 6 (fun K hK=> ?_);refine cM _ _ _ rfl _ _ _ w6 rfl rfl om ?_;refine hK.out _ _ (hS _ jQ) (fun hHeld=> ?_);clear hK K hHeld
   try simp only [pt,sb,s0,s1]
   have qJ:Hid (w6.ownsRow V2.heap.size 9 1 (s_ a5 y.Ma.length c5) y.Ma.length (bT.flat y.Ma)∧w6.heap[(V2.heap.size+1)]? =o_ (c_ #[t_ s] 9)∧B_ V2.heap.size V2 w6):=⟨qH,(zU _ (by omega) (by omega) (by simp <;> omega)).trans (by have h5:=Kj (V2.alloc (c_ #[] 9)) (c_ #[t_ s] 9); simpa using h5),jQ⟩
   clear om qH jQ zU b1 b7 afR hS
 rotate_left 2
 focus
  have b7:B_ V2.heap.size V2 (V2.alloc (c_ #[t_ s] 9)):=afR _ _ (Kp _ _);simp only [KZ,K0,K1];rw [if_pos (by rfl)];go_wp2_with fail;refine hK.out _ _ (hS _ b7) (fun hHeld=> ?_);clear hK K hHeld
  try simp only [pt,sb,s0,s1]
  have b1:B_ V2.heap.size V2 ((V2.alloc (c_ #[t_ s] 9)).alloc (c_ #[] 9)):=afR _ _ b7;refine L7 3 (fun K hK=> ?_);go_wp2_with fail;refine hK.out _ _ (hS _ b1) (fun hHeld=> ?_);clear hK K hHeld
  try simp only [pt,sb,s0,s1]
  obtain ⟨a5,c5,w6,om,qH,jQ,zU⟩:=wg.I ((V2.alloc (c_ #[t_ s] 9)).alloc (c_ #[] 9)) (V2.heap.size+1) b1 (Kq _ _ _) (by omega);refine L7 6 (fun K hK=> ?_);refine cM _ _ _ rfl _ _ _ w6 rfl rfl om ?_;refine hK.out _ _ (hS _ jQ) (fun hHeld=> ?_);clear hK K hHeld
  try simp only [pt,sb,s0,s1]
  have qJ:Hid (w6.ownsRow V2.heap.size 9 1 (s_ a5 y.Ma.length c5) y.Ma.length (bT.flat y.Ma)∧w6.heap[V2.heap.size]? =o_ (c_ #[t_ s] 9)∧B_ V2.heap.size V2 w6):=⟨qH,(zU _ (by omega) (by omega) (by simp <;> omega)).trans ((PU (by simp)).trans (Kj _ _)),jQ⟩
  clear om qH jQ zU b1 b7 afR hS
 all_goals
  obtain ⟨a7,c7,w7,gT,mP,xI,-⟩:=ou w6 V2.heap.size a5 c5 y.Ma qJ.I.1 _ [s] 1 (jO qJ.I.2.1) ZdV qJ.I.2.2.size;have mI:(y.Ma ++ [s]).length=y.Ma.length+1:=by rw [Lf]; rfl
  simp only [Lg,K4,Li] at gT mP;have gh:B_ V2.heap.size V2 w7:=qJ.I.2.2.grown xI qJ.I.2.2.size fun c e=>(cf qJ.I.1 (di e)).1
  rw [← mI] at gT mP;obtain ⟨s1,⟨u,c⟩,f⟩:=pg (n:=m) S.I.fr.own (aI.dI gh) HM.I.1 HG.I (cq mP S.I.low) (fun g hg=> .inr (cf mP hg).1);rw [mI] at gT s1;refine L7 10 (fun K hK=> ?_);refine cM _ _ _ rfl _ _ _ w7 rfl rfl gT ?_;refine hK.out _ _ ⟨S.I.fr.box.below gh,(gh.block _ (by omega)).trans S.I.op,(gh.block _ lW).trans afa.I.1⟩ (fun hHeld=> ?_);clear hK K hHeld
  try simp only [pt,sb]
  have wj:av w7 w.heap.size q∧oo w7 (w.heap.size+1) (13,N,M,s)∧w7.heap[X]? =o_ (c_ #[i_ j_ y.id,b_ true,b_ y.Mf,i_ j_ y.max,s_ y.ak y.Ma.length y.aq] 116):=⟨S.I.fr.box.below gh,(gh.block _ (by omega)).trans S.I.op,(gh.block _ lW).trans afa.I.1⟩
  replace S:=aA (S.I.call s1);clear gT mP xI gh qJ wg s1;refine zq9w 11 wj ?_;refine zq9w 12 wj ?_;refine KW (rs:= [13]) ZcR (by simp) ?_;refine KX rfl (fun K hK=> ?_) KY;have uQ:(w7.setCell ⟨Y5,m * 5+4,n_⟩ (s_ a7 (y.Ma.length+1) c7)).heap[X]? =o_ (c_ #[i_ j_ y.id,b_ true,b_ y.Mf,i_ j_ y.max,s_ y.ak y.Ma.length y.aq] 116):=(aH (fun e=> ?_)).trans wj.2.2;rotate_left
  ·have h5:=(S.I.fr.lo Y5 (gD (.inr <| .inr <| .inr <| .inr <| .inr <| (by rw [HG.I]; simp [blk])))).2; have:=afa.I.2; omega
  simp only [KZ,K0,K1];rw [if_pos (by rfl)];go_wp2_with fail;refine hK.out _ _ ⟨S.I.fr.box,S.I.op,uQ⟩ (fun hHeld=> ?_);clear hK K hHeld;refine K3 ZcR ?_ _;clear c f u wj uQ lW hbz;go_upto_region 12 with fail;generalize w7.setCell ⟨Y5,m * 5+4,n_⟩ (s_ a7 (y.Ma.length+1) c7)=C at *;have CK:Hid (∃ q1:af,q1= { q with ai:=q.ai.set m { y with Ma:=(y.Ma ++ [s]),ak:=a7,aq:=c7 } } ∧q1.pure=gU N (y.Ma ++ [s]) q.pure∧q1.cells=q.cells∧aQ q1.pure∧q1.L8[n]? =o_ x):=by
   have hq:({ q with ai:=q.ai.set m { y with Ma:=(y.Ma ++ [s]),ak:=a7,aq:=c7 } } :af).pure=gU N (y.Ma ++ [s]) q.pure:=sq HR.I.1.ai HM.I.1 HM.I.2.1;have hr2:aQ (gU N (y.Ma ++ [s]) q.pure):=by
    refine jj HR.I.1 (fun z hz hk=> ?_) (fun t0 ht=> ?_)
    ·rw [only HR.I.1.ai HM.I.2.2 hz hk,mI]; have:=HN.I; have h7:=tI.I.2.2.1; have h8:y.todS.max=y.max:=rfl; push_cast; omega
    ·exact (Kg.1 ht).elim (fun ht=>tI.I.1 t0 ht) (fun ht=>by simp only [Kt,Ku,or_false] at ht; rw [ht]; exact IB.I)
   exact Zbb
  obtain ⟨q1,hq1,hq⟩:=CK.I;rw [← hq1] at S;have HQ:=aA hq;clear hq1 hq CK;have Mb:=bB (n:=n) 0 S.I.fr.own S.I.low HQ.I.2.2.1 HQ.I.2.2.2 Zc0;rw [HQ.I.1,HQ.I.2.1] at Mb;go_wp2_with (refine eT 3 S.I.fr.box ?_);refine Mb.mono ?_;clear Mb;rintro e A2 ⟨q9,rfl,hp,ht⟩;replace S:=aA (S.I.call ht);have HP:Hid (q9.pure=_):=hp;clear hp ht;go_wp2_with (refine ec 6 76 q9.cells S.I.an ?_);exact y_
end
end Go.Proofs.YtnlbiglljiopmaaGreatDoor
