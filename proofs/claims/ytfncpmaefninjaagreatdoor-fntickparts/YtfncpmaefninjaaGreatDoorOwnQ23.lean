/- What the proof leans on, part 23. -/
import Derived.Test.YtfncpmaefninjaaGreatDoorOwnQ19
set_option linter.all false
set_option maxRecDepth 100000
set_option maxHeartbeats 8000000
open Go.Proofs.Tryz
open Go renaming World->w_,Value->v_,Calls->k_,Addr->d_,TypeId->T_
open Go.Ending renaming returned->r_
open Go.IntKind renaming i64->j_
open Go.Obj renaming cells->c_
open Go.RowKit renaming Below->B_,Hid->bN
open Go.Value renaming int->i_,slice->s_,bool->b_,string->t_,agg->a_,pointer->p_
open Option renaming some->o_,none->n_
open Function renaming comp_def->Ls
open Go renaming wp_at_succ->Kd,wp_at_zero->Kc
open Go.Proofs.Tryz renaming prog->J3
open List renaming getElem_cons_succ->K1,getElem_cons_zero->K0,getElem_toArray->KZ
open Option renaming map_some->J9

open Go.RowKit
namespace Go.Proofs.YtfncpmaefninjaaGreatDoor
open Go.Maps
attribute [local go_sem ↓] Kc Kd
variable {w:w_} {bj o d g:Nat} {E:d_ × d_ × d_} {S:aZ} {x:ao} {op:dN} {bC:Int}
def aiI (k:Int) (l m:List ByteArray) (p:aE):cV k l (cV k m p)=cV k l p:=by
 unfold cV jP;simp only [Lv]
 congr 1
 refine Lw fun y _=> ?_
 simp only [Ls];by_cases e:y.id=k
 .simp [e]
 .simp [e]
def aiT {w1 W3 T w4:w_} {S2 S3:aZ} {p2:aE} {r:List ByteArray} {y:ao} {cy:Nat} {k:Int} {h:ByteArray} (_m0:o4 o bj S w S2 w1) (h2:S2.pure=cV k r p2) (hk:afU g S S2) (hT:o4 o bj S w S2 T) (h3:o4 o bj S2 T S3 W3/\S3.pure=cV k (r ++ [h]) S2.pure/\S3.lp=S2.lp/\S3.q=S2.q) (hy:(y,cy)∈S2.lp) (hne: ¬ cy=g) (hr:aQ S2.pure) (hat:cJ w4 bj o (S3.ju cy (pF S3.q.next 0) (gf S3.q.next y.toaD))) (hkp:aI W3 w4 [cy,o]):
  o4 o bj S w (S3.ju cy (pF S3.q.next 0) (gf S3.q.next y.toaD)) w4/\(S3.ju cy (pF S3.q.next 0) (gf S3.q.next y.toaD)).pure=gF (fun y=>y) (cV k (r ++ [h]) p2) y.toaD/\afU g S (S3.ju cy (pF S3.q.next 0) (gf S3.q.next y.toaD)):=by
 have hy3:(y,cy)∈S3.lp:=by rw [h3.2.2.1]; exact hy
 have wu:S3.pure=cV k (r ++ [h]) p2:=by rw [h3.2.1,h2,aiI]
 have Sw:S3.pure.L8.Pairwise (fun x y=>x.id < y.id):=by
  have h5:S3.pure.L8=S2.pure.L8:=by rw [h3.2.1]; rfl
  rw [h5];exact hr.kW
 refine ⟨(hT.trans h3.1).trans ⟨hat,hkp.mono fun b hb=> ?_,fun b hb _=> ?_⟩,?_,(hk.trans (afU.of h3.2.2.1)).trans (afU.ju fun e=>absurd e hne)⟩
 .simp only [Kt,Ku,or_false] at hb
  rcases hb with rfl | rfl
  .exact aZ.agr (aZ.ago (LB _ (Lr.2 ⟨_,hy3,rfl⟩)))
  .simp [aZ.al]
 .rw [ahk (f:=pF S3.q.next 0) fun _=>rfl] at hb
  exact hb
 .refine (aZ.Sb (nx:=gf S3.q.next y.toaD) (f:=pF S3.q.next 0) (f':=iY S3.q.next 0) Sw (fun p hp hpg=>h3.1.at'.L8.one hp hy3 hpg) hy3 (fun _=>rfl)).trans ?_
  rw [wu];have h5:S3.q.next=(cV k (r ++ [h]) p2).next:=by rw [<- wu]; rfl
  rw [h5];rfl
def aju {b:au} {c:Nat} (h:aQ S.pure) (hb:(b,c)∈S.lf): ∀ s∈b.Ma,bw s=true:=by
 have h1:=(cK h.ae b.toci (Lr.2 ⟨_,hb,rfl⟩)).2;simp only [ct,J7] at h1;exact (lv.1 h1.2).2
def ajZ {b:au} {c:Nat} (J:Job w bj o d g E S x op bC) (hs:(b,c)∈S.lf) (hid:b.id=op.2.1):
  k_ J3 155 #[p_ (o_ ⟨d,0,n_⟩),p_ (o_ ⟨c,0,n_⟩)] w fun e w'=>agf E o bj g S (ag5 op.2.1 x.id S.pure b.toci) w e w':=by
 have hd:w.heap[c]? =o_ (c_ (bQ b) 96):=J.dg.at'.ae.box _ hs;obtain ⟨b0,b1,b2⟩:=ia hd;obtain ⟨-,c1,-⟩:=agb J.dg.box;have HJ:=aA J;have HB:=aA hs;have HM0: ∀ t:ByteArray,bN (o4 o bj S w (S.ju g (agF t) S.q.next) (w.drew.setCell ⟨g,9,n_⟩ (t_ t))/\(S.ju g (agF t) S.q.next).pure=ez t x.id S.pure):=fun t=>by
  exact Zam
 have GO:bN (o4 o bj S w (S.ju g (agF rM) S.q.next) (w.setCell ⟨g,9,n_⟩ (t_ rM))/\(S.ju g (agF rM) S.q.next).pure=ez rM x.id S.pure):=⟨o4.got J.dg.at' J.hx,agW J.dg.at' J.right J.hx⟩
 have YU:bN (w.drew.cell? ⟨g,9,n_⟩=o_ (t_ x.got)/\w.drew.frozen? ⟨g,9,n_⟩=false):=⟨(bo J.box).2.2.2.2.2.2.2.2.2.1,Ko _ _ _ _ _ J.box⟩
 have iJ:=aiK J.right hs;cases hit:b.Ma with
 | nil=>
  have hz:b.Ma.length=0:=by rw [hit]; rfl
  rw [hz] at b2;rw [show ag5 op.2.1 x.id S.pure b.toci=(ez rM x.id S.pure,16) by unfold ag5; rw [show b.toci.Ma= [] from hit]];have c9:=(bo J.box).2.2.2.2.2.2.2.2.2.1;have f9:w.frozen? ⟨g,9,n_⟩=false:=Ko _ _ _ _ _ J.box;clear J hs hd HM0 iJ hit hz
  go_enter func155,ntmps155
  exact ZbK
 | cons t r=>
  have hlen:b.Ma.length=r.length+1:=by rw [hit]; rfl
  obtain ⟨abo,hgi,h0⟩:=nP (J.dg.at'.eE _ hs) 0 (t_ t) ZcP;replace hgi:b.ak=o_ ⟨abo,0,n_⟩:=hgi;have HGI:=aA hgi;have HM:=HM0 t;have hS:w.drew.heap[d]? =o_ (c_ (dgV o g op bC) 142)/\w.drew.heap[c]? =o_ (c_ (bQ b) 96)/\w.drew.cell? ⟨abo,0,n_⟩=o_ (t_ t):=⟨J.dg.box,hd,h0⟩
  have y5:(w.drew.setCell ⟨g,9,n_⟩ (t_ t)).heap[d]? =o_ (c_ (dgV o g op bC) 142)/\(w.drew.setCell ⟨g,9,n_⟩ (t_ t)).heap[c]? =o_ (c_ (bQ b) 96)/\(w.drew.setCell ⟨g,9,n_⟩ (t_ t)).cell? ⟨abo,0,n_⟩=o_ (t_ t):=by
   obtain ⟨g2,hg2,h2⟩:=nP (HM.I.1.at'.eE _ hs) 0 (t_ t) ZcP;have hg2:b.ak=o_ ⟨g2,0,n_⟩:=hg2;rw [hgi] at hg2;obtain rfl:abo=g2:=by simpa using hg2
   exact ⟨(J.dg.move HM.I.1).box,HM.I.1.at'.ae.box _ hs,h2⟩
  rw [hgi] at b2;have i0:(b.Ma.length == 0)=false:=by rw [hlen]; rfl
  have qE:((b.Ma.length:Int) == 0)=false:=by rw [hlen]; simp; omega
  have i1:0 < b.Ma.length:=zo
  have HI:bN (b.Ma.length=r.length+1/\b.Ma=t :: r/\b.Ma.length<=1000):=⟨hlen,hit,zo⟩
  have k2:=(ia (HM.I.1.at'.ae.box _ hs)).2.2;have Mb:=adJ b.ak b.aq 1 bj b.Ma _ zo zo (HM.I.1.at'.eE _ hs);have HP:bN (aQ (cV b.id r (ez t x.id S.pure))):=by
   have h5:=aju J.right hs;have h6: ∀ s∈b.Ma,bw s=true:=h5;rw [hit] at h6;refine gN (iQ J.right (h6 t zw)) (fun b' hb' e=> ?_) fun s hs'=>h6 s (by simp [hs'])
   obtain ⟨q,hq,rfl⟩:=Lr.1 (show b'∈S.lf.map (·.1.toci) from hb');have h7:q=(b,c):=J.dg.at'.ae.onk hq hs e;rw [h7]
   show (r.length:Int)<=b.max
   omega
  clear J hs hd HM0 iJ hit hlen hgi h0
  go_enter func155,ntmps155
  go_wp2_with fail;refine Kr (S:=fun W=>W.heap[d]? =o_ (c_ (dgV o g op bC) 142)/\W.heap[c]? =o_ (c_ (bQ b) 96)/\W.cell? ⟨abo,0,n_⟩=o_ (t_ t)) Zcq hS (fun _=> ?_)
  revert hS y5 YU HM k2 Mb
  generalize w.drew=V;intro YU HM hS y5 k2 Mb;refine tt 0 hS ?_;refine tt 1 hS ?_;refine tt 2 hS ?_;refine afJ 3 hS ?_;refine tt 4 hS ?_;refine tt 5 hS ?_;refine tt 6 hS ?_;refine tt 7 hS ?_ (hy:=fun w0 hS0=>by have b0:=(ia hS0.2.1).2.2; rw [HGI.I] at b0; go_simp; try with_reducible rfl);refine tt 8 hS ?_;refine afJ 9 hS ?_;refine tt 10 hS ?_;refine tt 11 hS ?_;obtain ⟨c9,f9⟩:=YU.I;refine L7 12 (fun K hK=> ?_);go_wp2_with fail;refine hK.out _ _ y5 (fun _=> ?_);clear hK K
  try simp only [pt,sb,s0,s1]
  refine K3 Zcq ?_ _;clear hS y5 c9 f9 YU;go_wp2_with fail;refine Mb.mono ?_;clear Mb;rintro e w2 ⟨rfl,DU,hk2⟩;have hlr:b.Ma.length - 1=r.length:=by have:=HI.I.1; omega
  have pI:b.Ma.drop 1=r:=by rw [HI.I.2.1]; rfl
  rw [hlr,pI] at DU;obtain ⟨⟨S2,m1,m2,m3,m4,m5⟩,hb2⟩:=agR HM.I.1.at' HB.I hk2 DU (fun b' hb'=> .inl hb');have wx:=(ia hb2).2.2;have afE:w2.frozen? ⟨c,2,n_⟩=false:=Ko _ _ _ _ _ hb2;have hx2:(agF t x,g)∈S2.lp:=by rw [m3]; exact yy.2 ⟨(x,g),HJ.I.hx,by simp⟩
  have HE:bN (o4 o bj S w S2 (w2.setCell ⟨c,2,n_⟩ (s_ b.ak r.length b.aq))/\S2.pure=cV b.id r (ez t x.id S.pure)/\afU g S S2/\(({ b with Ma:=r,ak:=b.ak,aq:=b.aq } :au),c)∈S2.lf/\aij g S2 5):=⟨HM.I.1.trans m1,by rw [m2,HM.I.2],afU.trans (S1:=S.ju g (agF t) S.q.next) (afU.ju fun _ _=>⟨rfl,rfl,rfl,rfl⟩) (afU.of m3),m5,⟨by rw [m2,HM.I.2]; exact HP.I,by rw [m4]; have:=HJ.I.room; show S.q.next+1<=_; omega,by decide,fun y hy=>by rw [show y=agF t x from congrArg Prod.fst (m1.at'.L8.one hy hx2 rfl)]; exact HJ.I.up⟩⟩
  rw [hlr];clear DU hk2 m1 m2 m3 m4 m5 hb2 pI k2 hx2;have HD:=aA (HJ.I.dg.move HE.I.1);have Mb:=agK o d g bj S2 op bC 5 _ HD.I (iB HE.I.2.2.2.2.right);go_wp2_with fail;refine Mb.mono ?_;clear Mb wx afE;rintro e w3 ⟨rfl,hb3⟩;have HW0:bN (o4 o bj S w S2 w3/\afb w3 bj o d g S2 op bC):=⟨HE.I.1.trans (o4.below HE.I.1.at' hb3),HD.I.move (o4.below HE.I.1.at' hb3)⟩
  have hpr:S2.pure.L8=(ez t x.id S.pure).L8:=by rw [HE.I.2.1]; rfl
  rcases HE.I.2.2.2.2.best (on:=op.2.1) with ⟨n1,n2,n3⟩ | ⟨y,cy,n1,n2,n3,hy,hcy,hpc,hl⟩
  .rw [hpr] at n3
   have HN:=aA n3;have d0:decide (0 < (age 5 op.2.1 S2.lp).length)=false:=decide_eq_false zo;rw [d0,n1];clear d0 n1 n2 n3 hb3 HD hpr;simp only [qz,Option.map_none];go_wp2;go_ret;rw [show ag5 op.2.1 x.id S.pure b.toci=(cV op.2.1 r (ez t x.id S.pure),0) by unfold ag5; rw [show b.toci.Ma=t :: r from HI.I.2.1]; simp only; rw [HN.I]];rw [<- hid];exact ⟨S2,rfl,HW0.I.1,HE.I.2.1,.inr HE.I.2.2.1⟩
  .rw [hpr] at n3
   have HY:bN (jl 5 op.2.1 (ez t x.id S.pure).L8=o_ y.toaD/\(y,cy)∈S2.lp/\ ¬ cy=g/\(0<=y.pc/\y.pc < y.prog.length)/\y.prog.length<=1048576):=⟨n3,hy,hcy,hpc,hl⟩
   have d0:decide (0 < (age 5 op.2.1 S2.lp).length)=true:=decide_eq_true n2;have HT:bN (afb w3.drew bj o d g S2 op bC):=HW0.I.2.move (o4.below HW0.I.2.at' (Kp _ w3).drew);have HW:bN (o4 o bj S w S2 w3.drew):=HW0.I.1.trans (o4.below HW0.I.1.at' (Kp _ w3).drew);have hS:w3.drew.heap[cy]? =o_ (c_ (aX y) 41)/\w3.drew.heap[c]? =o_ (c_ (bQ { b with Ma:=r,ak:=b.ak,aq:=b.aq }) 96):=⟨HT.I.at'.L8.box _ hy,HT.I.at'.ae.box _ HE.I.2.2.2.1⟩
   rw [d0,n1];clear d0 n1 n2 n3 hb3 HD hpr hy hcy hpc hl HW0;simp only [qz,dt,J9];go_wp2_with fail;refine Kr (S:=fun W=>W.heap[cy]? =o_ (c_ (aX y) 41)) Zcq hS.1 (fun _=> ?_)
   revert HT HW hS
   generalize w3.drew=T;intro HT HW hS;refine afJ 0 hS.1 ?_;refine afJ 1 hS.1 ?_;refine afJ 2 hS.1 ?_;refine afJ 3 hS.1 ?_;refine afJ 5 hS.1 ?_;refine afJ 6 hS.1 ?_;refine afJ 7 hS.1 ?_;refine afJ 8 hS.1 ?_;have hz:B_ T.heap.size T (T.alloc (c_ #[t_ y.held] 9)):=(Kp _ _).alloc (Ki _) _;have y5:(T.alloc (c_ #[t_ y.held] 9)).heap[cy]? =o_ (c_ (aX y) 41)/\(T.alloc (c_ #[t_ y.held] 9)).heap[c]? =o_ (c_ (bQ { b with Ma:=r,ak:=b.ak,aq:=b.aq }) 96):=⟨(hz.block _ (J2.1 hS.1).1).trans hS.1,(hz.block _ (J2.1 hS.2).1).trans hS.2⟩
   have af2:T.cell? ⟨c,2,n_⟩=o_ (s_ b.ak r.length b.aq):=(ia hS.2).2.2;have afy:(T.alloc (c_ #[t_ y.held] 9)).cell? ⟨c,2,n_⟩=o_ (s_ b.ak r.length b.aq):=(ia y5.2).2.2;refine KW (rs:= [4,9]) Zcq zw ?_;refine KX rfl (fun K hK=> ?_) (KX rfl (fun K hK=> ?_) KY)
   .simp only [KZ,K0,K1]
    rw [if_pos (by rfl)];go_wp2_with fail;refine hK.out _ _ hS.1 (fun _=> ?_);clear hK K
    try simp only [pt,sb,s0,s1]
    refine L7 9 (fun K hK=> ?_);exact g_
   .simp only [KZ,K0,K1]
    rw [if_pos (by rfl)];go_wp2_with fail;refine hK.out _ _ y5.1 (fun _=> ?_);clear hK K
    try simp only [pt,sb,s0,s1]
    refine L7 4 (fun K hK=> ?_);exact g_
end Go.Proofs.YtfncpmaefninjaaGreatDoor

namespace Go.Proofs.YtfncpmaefninjaaGreatDoor
open Go.Maps
attribute [local go_sem ↓] Kc Kd
variable {w:w_} {bj o d g H fn b:Nat} {E:d_ × d_ × d_} {S:aZ} {x:ao} {op:dN} {bC m n:Int}
abbrev agn (fn d:Nat):v_:= .func (.func fn) #[p_ (o_ ⟨d,0,n_⟩)] #[]
abbrev ahD (H:Nat):Array v_:= #[p_ (o_ ⟨H,0,n_⟩),p_ (o_ ⟨H+1,0,n_⟩),p_ (o_ ⟨H+1+1,0,n_⟩)]
structure ag1 (w:w_) (H b:Nat) (n:Int) (v:v_):Prop where
 sh:w.cell? ⟨H,1,n_⟩=o_ (.map (o_ b))
 id:w.cell? ⟨H+1,0,n_⟩=o_ (i_ j_ n)
 fn:w.cell? ⟨H+1+1,0,n_⟩=o_ v
abbrev wbW (w:w_) (m n:Int) (b:Nat) (v:v_) (t1 t2 t3:T_):w_:=((w.alloc (c_ #[i_ j_ m,.map (o_ b)] t1)).alloc (c_ #[i_ j_ n] t2)).alloc (c_ #[v] t3)
def agm (w:w_) (m n:Int) (b:Nat) (v:v_) (t1 t2 t3:T_):ag1 (wbW w m n b v t1 t2 t3) w.heap.size b n v/\B_ w.heap.size w (wbW w m n b v t1 t2 t3):=by
 refine ⟨⟨?_,?_,?_⟩,(((Kp _ _).alloc (Ki _) _).alloc zw _).alloc Zcr _⟩
 .rw [World.cell?_alloc_lt _ _ _ Zcr,World.cell?_alloc_lt _ _ _ zw,World.cell?_alloc_at _ _ _ _ zw]
  rfl
 .rw [World.cell?_alloc_lt _ _ _ zw,World.cell?_alloc_at _ _ _ _ zw]
  rfl
 .rw [World.cell?_alloc_at _ _ _ _ zw]
  rfl
def ahV:k_ J3 146 #[a_ #[i_ j_ m,.map (o_ b)],i_ j_ n,agn fn d] w fun e w'=>e=r_ (.func (.func 183) #[] (ahD w.heap.size))/\w'=wbW w m n b (agn fn d) 72 2 215:=by
 go_enter func146,ntmps146
 go_wp2;go_ret;exact ⟨rfl,rfl⟩
def ahF {f:bD->aE × Int} (J:Job w bj o d g E S x op bC) (hB:ag1 w H S.q.bs op.2.1 (agn fn d)) (hk: ¬ op.1=17) (hF: ∀ args W,(callFunc fn args).run J3 W= .ok (.enter fn args) W) (hX: ∀ s c,(s,c)∈S.ls->s.id=op.2.1->k_ J3 fn #[p_ (o_ ⟨d,0,n_⟩),p_ (o_ ⟨c,0,n_⟩)] w fun e w'=>agf E o bj g S (f s) w e w'):
  k_ J3 183 (ahD H) w fun e w'=>agf E o bj g S (agh S.pure (cg (·.id) op.2.1 S.pure.aj) f) w e w':=by
 obtain ⟨c1,c2,c3⟩:=hB;have gn:=J.er.non;have hlk:=J.dg.at'.aj.map.look underlying70 Zcq (xX (bz.2 ((dv J.ok).2.1 hk))) true;have HJ:=aA J;rcases agQ (l:=S.ls) (num:=fun x:bD=>x.id) (f:=fun x:bD=>x) (nb:=fun y:bD=>y.id) (fun _=>rfl) op.2.1 with ⟨h1,h2⟩ | ⟨s,c,h3,h4,h1,h2⟩
 .have h2:cg (·.id) op.2.1 S.pure.aj=n_:=h2
  rw [h1] at hlk;rw [h2];clear h1 h2 hX J hF;simp only [agh]
  go_enter func183,ntmps183
  exact V_
 .have h2:cg (·.id) op.2.1 S.pure.aj=o_ s:=h2
  rw [h1] at hlk;rw [h2];simp only [qz,dt] at hlk;have HX:=aA (hX s c h3 h4);clear h1 h2 h3 h4 hX J gn;simp only [agh]
  go_enter func183,ntmps183
  exact rt
def ag3:k_ J3 149 #[a_ #[i_ j_ m,.map (o_ b)],i_ j_ n,agn fn d] w fun e w'=>e=r_ (.func (.func 185) #[] (ahD w.heap.size))/\w'=wbW w m n b (agn fn d) 75 2 217:=by
 go_enter func149,ntmps149
 go_wp2;go_ret;exact ⟨rfl,rfl⟩
def agY {f:aB->aE × Int} (J:Job w bj o d g E S x op bC) (hB:ag1 w H S.q.be op.2.1 (agn fn d)) (hk: ¬ op.1=17) (hF: ∀ args W,(callFunc fn args).run J3 W= .ok (.enter fn args) W) (hX: ∀ s c,(s,c)∈S.le->s.id=op.2.1->k_ J3 fn #[p_ (o_ ⟨d,0,n_⟩),p_ (o_ ⟨c,0,n_⟩)] w fun e w'=>agf E o bj g S (f s) w e w'):
  k_ J3 185 (ahD H) w fun e w'=>agf E o bj g S (agh S.pure (cg (·.id) op.2.1 S.pure.L9) f) w e w':=by
 obtain ⟨c1,c2,c3⟩:=hB;have gn:=J.er.non;have hlk:=J.dg.at'.L9.map.look underlying73 Zcq (xX (bz.2 ((dv J.ok).2.1 hk))) true;have HJ:=aA J;rcases agQ (l:=S.le) (num:=fun x:aB=>x.id) (f:=fun x:aB=>x) (nb:=fun y:aB=>y.id) (fun _=>rfl) op.2.1 with ⟨h1,h2⟩ | ⟨s,c,h3,h4,h1,h2⟩
 .have h2:cg (·.id) op.2.1 S.pure.L9=n_:=h2
  rw [h1] at hlk;rw [h2];clear h1 h2 hX J hF;simp only [agh]
  go_enter func185,ntmps185
  exact V_
 .have h2:cg (·.id) op.2.1 S.pure.L9=o_ s:=h2
  rw [h1] at hlk;rw [h2];simp only [qz,dt] at hlk;have HX:=aA (hX s c h3 h4);clear h1 h2 h3 h4 hX J gn;simp only [agh]
  go_enter func185,ntmps185
  exact rt
def ag2:k_ J3 156 #[a_ #[i_ j_ m,.map (o_ b)],i_ j_ n,agn fn d] w fun e w'=>e=r_ (.func (.func 191) #[] (ahD w.heap.size))/\w'=wbW w m n b (agn fn d) 78 2 221:=by
 go_enter func156,ntmps156
 go_wp2;go_ret;exact ⟨rfl,rfl⟩
def agX {f:az->aE × Int} (J:Job w bj o d g E S x op bC) (hB:ag1 w H S.q.bb op.2.1 (agn fn d)) (hk: ¬ op.1=17) (hF: ∀ args W,(callFunc fn args).run J3 W= .ok (.enter fn args) W) (hX: ∀ s c,(s,c)∈S.lb->s.id=op.2.1->k_ J3 fn #[p_ (o_ ⟨d,0,n_⟩),p_ (o_ ⟨c,0,n_⟩)] w fun e w'=>agf E o bj g S (f s) w e w'):
  k_ J3 191 (ahD H) w fun e w'=>agf E o bj g S (agh S.pure (cg (·.id) op.2.1 S.pure.ag) f) w e w':=by
 obtain ⟨c1,c2,c3⟩:=hB;have gn:=J.er.non;have hlk:=J.dg.at'.ag.map.look underlying76 Zcq (xX (bz.2 ((dv J.ok).2.1 hk))) true;have HJ:=aA J;rcases agQ (l:=S.lb) (num:=fun x:az=>x.id) (f:=fun x:az=>x) (nb:=fun y:az=>y.id) (fun _=>rfl) op.2.1 with ⟨h1,h2⟩ | ⟨s,c,h3,h4,h1,h2⟩
 .have h2:cg (·.id) op.2.1 S.pure.ag=n_:=h2
  rw [h1] at hlk;rw [h2];clear h1 h2 hX J hF;simp only [agh]
  go_enter func191,ntmps191
  exact V_
 .have h2:cg (·.id) op.2.1 S.pure.ag=o_ s:=h2
  rw [h1] at hlk;rw [h2];simp only [qz,dt] at hlk;have HX:=aA (hX s c h3 h4);clear h1 h2 h3 h4 hX J gn;simp only [agh]
  go_enter func191,ntmps191
  exact rt
def ahj:k_ J3 153 #[a_ #[i_ j_ m,.map (o_ b)],i_ j_ n,agn fn d] w fun e w'=>e=r_ (.func (.func 186) #[] (ahD w.heap.size))/\w'=wbW w m n b (agn fn d) 81 2 219:=by
 go_enter func153,ntmps153
 go_wp2;go_ret;exact ⟨rfl,rfl⟩
def ahb {f:ci->aE × Int} (J:Job w bj o d g E S x op bC) (hB:ag1 w H S.q.bf op.2.1 (agn fn d)) (hk: ¬ op.1=17) (hF: ∀ args W,(callFunc fn args).run J3 W= .ok (.enter fn args) W) (hX: ∀ s c,(s,c)∈S.lf->s.id=op.2.1->k_ J3 fn #[p_ (o_ ⟨d,0,n_⟩),p_ (o_ ⟨c,0,n_⟩)] w fun e w'=>agf E o bj g S (f s.toci) w e w'):
  k_ J3 186 (ahD H) w fun e w'=>agf E o bj g S (agh S.pure (cg (·.id) op.2.1 S.pure.ae) f) w e w':=by
 obtain ⟨c1,c2,c3⟩:=hB;have gn:=J.er.non;have hlk:=J.dg.at'.ae.map.look underlying79 Zcq (xX (bz.2 ((dv J.ok).2.1 hk))) true;have HJ:=aA J;rcases agQ (l:=S.lf) (num:=fun x:au=>x.id) (f:=fun x:au=>x.toci) (nb:=fun y:ci=>y.id) (fun _=>rfl) op.2.1 with ⟨h1,h2⟩ | ⟨s,c,h3,h4,h1,h2⟩
 .have h2:cg (·.id) op.2.1 S.pure.ae=n_:=h2
  rw [h1] at hlk;rw [h2];clear h1 h2 hX J hF;simp only [agh]
  go_enter func186,ntmps186
  exact V_
 .have h2:cg (·.id) op.2.1 S.pure.ae=o_ s.toci:=h2
  rw [h1] at hlk;rw [h2];simp only [qz,dt] at hlk;have HX:=aA (hX s c h3 h4);clear h1 h2 h3 h4 hX J gn;simp only [agh]
  go_enter func186,ntmps186
  exact rt
def ahy:k_ J3 160 #[a_ #[i_ j_ m,.map (o_ b)],i_ j_ n,agn fn d] w fun e w'=>e=r_ (.func (.func 192) #[] (ahD w.heap.size))/\w'=wbW w m n b (agn fn d) 84 2 223:=by
 go_enter func160,ntmps160
 go_wp2;go_ret;exact ⟨rfl,rfl⟩
def ahn {f:dS->aE × Int} (J:Job w bj o d g E S x op bC) (hB:ag1 w H S.q.bq op.2.1 (agn fn d)) (hk: ¬ op.1=17) (hF: ∀ args W,(callFunc fn args).run J3 W= .ok (.enter fn args) W) (hX: ∀ s c,(s,c)∈S.lq->s.id=op.2.1->k_ J3 fn #[p_ (o_ ⟨d,0,n_⟩),p_ (o_ ⟨c,0,n_⟩)] w fun e w'=>agf E o bj g S (f s.todS) w e w'):
  k_ J3 192 (ahD H) w fun e w'=>agf E o bj g S (agh S.pure (cg (·.id) op.2.1 S.pure.ai) f) w e w':=by
 obtain ⟨c1,c2,c3⟩:=hB;have gn:=J.er.non;have hlk:=J.dg.at'.ai.map.look underlying82 Zcq (xX (bz.2 ((dv J.ok).2.1 hk))) true;have HJ:=aA J;rcases agQ (l:=S.lq) (num:=fun x:aM=>x.id) (f:=fun x:aM=>x.todS) (nb:=fun y:dS=>y.id) (fun _=>rfl) op.2.1 with ⟨h1,h2⟩ | ⟨s,c,h3,h4,h1,h2⟩
 .have h2:cg (·.id) op.2.1 S.pure.ai=n_:=h2
  rw [h1] at hlk;rw [h2];clear h1 h2 hX J hF;simp only [agh]
  go_enter func192,ntmps192
  exact V_
 .have h2:cg (·.id) op.2.1 S.pure.ai=o_ s.todS:=h2
  rw [h1] at hlk;rw [h2];simp only [qz,dt] at hlk;have HX:=aA (hX s c h3 h4);clear h1 h2 h3 h4 hX J gn;simp only [agh]
  go_enter func192,ntmps192
  exact rt
def ahE:k_ J3 163 #[a_ #[i_ j_ m,.map (o_ b)],i_ j_ n,agn fn d] w fun e w'=>e=r_ (.func (.func 193) #[] (ahD w.heap.size))/\w'=wbW w m n b (agn fn d) 69 2 225:=by
 go_enter func163,ntmps163
 go_wp2;go_ret;exact ⟨rfl,rfl⟩
def ahm {f:aD->aE × Int} (J:Job w bj o d g E S x op bC) (hB:ag1 w H S.q.bp op.2.1 (agn fn d)) (hk: ¬ op.1=17) (hF: ∀ args W,(callFunc fn args).run J3 W= .ok (.enter fn args) W) (hX: ∀ s c,(s,c)∈S.lp->s.id=op.2.1->k_ J3 fn #[p_ (o_ ⟨d,0,n_⟩),p_ (o_ ⟨c,0,n_⟩)] w fun e w'=>agf E o bj g S (f s.toaD) w e w'):
  k_ J3 193 (ahD H) w fun e w'=>agf E o bj g S (agh S.pure (cg (·.id) op.2.1 S.pure.L8) f) w e w':=by
 obtain ⟨c1,c2,c3⟩:=hB;have gn:=J.er.non;have hlk:=J.dg.at'.L8.map.look underlying67 Zcq (xX (bz.2 ((dv J.ok).2.1 hk))) true;have HJ:=aA J;rcases agQ (l:=S.lp) (num:=fun x:ao=>x.id) (f:=fun x:ao=>x.toaD) (nb:=fun y:aD=>y.id) (fun _=>rfl) op.2.1 with ⟨h1,h2⟩ | ⟨s,c,h3,h4,h1,h2⟩
 .have h2:cg (·.id) op.2.1 S.pure.L8=n_:=h2
  rw [h1] at hlk;rw [h2];clear h1 h2 hX J hF;simp only [agh]
  go_enter func193,ntmps193
  exact V_
 .have h2:cg (·.id) op.2.1 S.pure.L8=o_ s.toaD:=h2
  rw [h1] at hlk;rw [h2];simp only [qz,dt] at hlk;have HX:=aA (hX s c h3 h4);clear h1 h2 h3 h4 hX J gn;simp only [agh]
  go_enter func193,ntmps193
  exact rt
end Go.Proofs.YtfncpmaefninjaaGreatDoor

namespace Go.Proofs.YtfncpmaefninjaaGreatDoor
open Go.Maps
attribute [local go_sem ↓] Kc Kd
structure aiC (f:aD->aD) (st on:Int) (tgt:aE) (o bj g:Nat) (afH:aZ) (w:w_) (k:Nat) (S:aZ) (wr:w_):Prop where
 mv:o4 o bj afH w S wr
 VO:afU g afH S
 right:aQ S.pure
 same:ff f st on S.pure=tgt
 cnt:(S.pure.L8.filter (ie st on)).length=k
 room:S.q.next+k<=999999997
section
variable {w w1 w2:w_} {bj o d g k:Nat} {E:d_ × d_ × d_} {S S1 S2:aZ} {x:ao} {op:dN} {bC st on:Int} {f:aD->aD} {tgt:aE} {y:aD}
def aiC.ok (h:aiC f st on tgt o bj g S w k S1 w1) (hs: ¬ st=0/\ ¬ st=1) (J:Job w bj o d g E S x op bC):aij g S1 st:=
 ⟨h.right,by have:=h.room; omega,hs,fun y hy=>by
  obtain ⟨x',hx',-,-,-,h5⟩:=h.VO x J.hx;rw [show y=x' from congrArg Prod.fst (h.mv.at'.L8.one hy hx' rfl),h5];exact J.up⟩
def aiC.step (h:aiC f st on tgt o bj g S w k S1 w1) (hs: ¬ st=0/\ ¬ st=1) (hf:f=(fun y=>y)\/ ∃ t,bw t=true/\f=lG t) (hb:jl st on S1.pure.L8=o_ y) (hm:o4 o bj S1 w1 S2 w2) (hp:S2.pure=gF f S1.pure y) (hk:afU g S1 S2):aiC f st on tgt o bj g S w (k - 1) S2 w2/\k - 1 < k:=by
 have h1:=zC (f:=f) h.right hs hb;have h2:=ft hb;have h3:=h.room;have h4:S1.pure.next=S1.q.next:=rfl;have h5:S2.pure.next=S2.q.next:=rfl;have h6:S2.pure.next=gf S1.q.next y:=by rw [hp]; rfl
 have h7:=mU S1.q.next y;have h8:=h.cnt;refine ⟨⟨h.mv.trans hm,h.VO.trans hk,?_,?_,?_,?_⟩,zo⟩
 .rw [hp]
  exact i9 h.right h2.1 (by rw [h2.2.1]; exact hs.1) hf zo
 .rw [hp,<- h1.1]
  exact h.same
 .rw [hp]
  omega
 .omega
end
variable {w:w_} {bj o d g:Nat} {E:d_ × d_ × d_} {S:aZ} {x:ao} {op:dN} {bC:Int}
def aiv {p:aE} {st on:Int} (h:aQ p):(p.L8.filter (ie st on)).length<=6:=LG (Qq _ _) h.dl
def akk {e0:aB} {c:Nat} (J:Job w bj o d g E S x op bC) (hs:(e0,c)∈S.le) (hid:e0.id=op.2.1):
  k_ J3 150 #[p_ (o_ ⟨d,0,n_⟩),p_ (o_ ⟨c,0,n_⟩)] w fun e w'=>agf E o bj g S (aks op.2.1 S.pure e0) w e w':=by
 have hb:=J.dg.at'.L9.box _ hs;have c1:=(kF hb).2;have f1:w.frozen? ⟨c,1,n_⟩=false:=Ko _ _ _ _ _ hb;obtain ⟨S',h5,h6,h7,h8⟩:=o4.event (x':= { e0 with up:=true }) (fun y=> { y with up:=true }) J.dg.at' hs (cx (i:=1) (v:=b_ true) hb) rfl rfl aI.cell;rw [hid] at h6;have hr:aQ S'.pure:=by rw [h6]; exact kw (b:=true) J.right
 obtain ⟨afL,hK0⟩: ∃ afL,afL=(S'.pure.L8.filter (ie 4 op.2.1)).length:=⟨_,rfl⟩
 have HK:bN (aiC (fun y=>y) 4 op.2.1 (ff (fun y=>y) 4 op.2.1 (gL op.2.1 true S.pure)) o bj g S w afL S' (w.setCell ⟨c,1,n_⟩ (b_ true))):=⟨h5,afU.of h7,hr,by rw [h6]; rfl,hK0.symm,by have:=J.room; have:=aiv (st:=4) (on:=op.2.1) hr; rw [h8]; omega⟩
 have HJ:=aA J;unfold aks;clear hb J h5 h6 h7 h8 hr hK0
 go_enter func150,ntmps150
 go_wp2_with fail;clear c1 f1
 go_loopg [] (afL:Nat) (fun k wr=> ∃ S1:aZ,bN (aiC (fun y=>y) 4 op.2.1 (ff (fun y=>y) 4 op.2.1 (gL op.2.1 true S.pure)) o bj g S w k S1 wr))
 case atStart=>exact ⟨_,HK.I⟩
 case round=>
  obtain ⟨S1,HO⟩:=hrel;go_wp2_with fail;refine (ahv o d g bj S1 op bC 4 wr (HJ.I.dg.move HO.I.mv) (HO.I.ok (by decide) HJ.I)).mono ?_;rintro e w2 (⟨b1,rfl,hb2⟩ | ⟨y,S2,b1,rfl,hm,hp,hkp⟩)
  .have HB:bN (B_ wr.heap.size wr w2/\S1.pure=ff (fun y=>y) 4 op.2.1 (gL op.2.1 true S.pure)):=⟨hb2,by rw [<- HO.I.same]; exact (qO b1).symm⟩
   exact Zbs
  .have HB:=aA (HO.I.step (by decide) (.inl rfl) b1 hm hp hkp)
   exact Zbq
def aP {c:Nat} {b:az} (h:w.heap[c]? =o_ (c_ (cI b) 93)):w.cell? ⟨c,1,n_⟩=o_ (b_ b.shown)/\w.cell? ⟨c,2,n_⟩=o_ (t_ b.text):=by simp [World.cell?,h,cI]
def aj1 {b:az} {c:Nat} (J:Job w bj o d g E S x op bC) (hs:(b,c)∈S.lb) (hid:b.id=op.2.1):
  k_ J3 157 #[p_ (o_ ⟨d,0,n_⟩),p_ (o_ ⟨c,0,n_⟩)] w fun e w'=>agf E o bj g S (ajf op.2.1 op.2.2.2 S.pure b) w e w':=by
 have hb:=J.dg.at'.ag.box _ hs;have c1:=(aP hb).1;have f1:w.frozen? ⟨c,1,n_⟩=false:=Ko _ _ _ _ _ hb;have hb2:(w.setCell ⟨c,1,n_⟩ (b_ true)).heap[c]? =o_ (c_ (cI { b with shown:=true }) 93):=cx (i:=1) (v:=b_ true) hb;have c2:=(aP hb2).2;have f2:(w.setCell ⟨c,1,n_⟩ (b_ true)).frozen? ⟨c,2,n_⟩=false:=Ko _ _ _ _ _ hb2;have c5:=(agb J.dg.box).2.2.2.2.2.1;obtain ⟨S',h5,h6,h7,h8⟩:=o4.ajl (x':= { b with shown:=true,text:=op.2.2.2 }) (fun y=> { y with shown:=true,text:=op.2.2.2 }) J.dg.at' hs (cx (i:=2) (v:=t_ op.2.2.2) hb2) rfl rfl (aI.cell.trans aI.cell);rw [hid] at h6;have hpl:=(dv J.ok).2.2.2.1;have hr:aQ S'.pure:=by rw [h6]; exact kA (b:=true) J.right hpl (.inl rfl)
 obtain ⟨afL,hK0⟩: ∃ afL,afL=(S'.pure.L8.filter (ie 7 op.2.1)).length:=⟨_,rfl⟩
 have HK:bN (aiC (lG op.2.2.2) 7 op.2.1 (ff (lG op.2.2.2) 7 op.2.1 (ib op.2.1 true op.2.2.2 S.pure)) o bj g S w afL S' ((w.setCell ⟨c,1,n_⟩ (b_ true)).setCell ⟨c,2,n_⟩ (t_ op.2.2.2))):=⟨h5,afU.of h7,hr,by rw [h6]; rfl,hK0.symm,by have:=J.room; have:=aiv (st:=7) (on:=op.2.1) hr; rw [h8]; omega⟩
 have HP:=aA hpl;have HJ:=aA J;unfold ajf;clear hb J h5 h6 h7 h8 hr hK0 hb2 hpl
 go_enter func157,ntmps157
 go_wp2_with fail;clear c1 f1 c2 f2 c5
 go_loopg [] (afL:Nat) (fun k wr=> ∃ S1:aZ,bN (aiC (lG op.2.2.2) 7 op.2.1 (ff (lG op.2.2.2) 7 op.2.1 (ib op.2.1 true op.2.2.2 S.pure)) o bj g S w k S1 wr))
 case atStart=>exact ⟨_,HK.I⟩
 case round=>
  obtain ⟨S1,HO⟩:=hrel;go_wp2_with fail;refine (ahA o d g bj S1 op bC 7 wr (HJ.I.dg.move HO.I.mv) (HO.I.ok (by decide) HJ.I)).mono ?_;rintro e w2 (⟨b1,rfl,hb2⟩ | ⟨y,S2,b1,rfl,hm,hp,hkp⟩)
  .have HB:bN (B_ wr.heap.size wr w2/\S1.pure=ff (lG op.2.2.2) 7 op.2.1 (ib op.2.1 true op.2.2.2 S.pure)):=⟨hb2,by rw [<- HO.I.same]; exact (qO b1).symm⟩
   exact Zbs
  .have HB:=aA (HO.I.step (by decide) (.inr ⟨_,HP.I,rfl⟩) b1 hm hp hkp)
   exact Zbq
def ajB {b:az} {c:Nat} (J:Job w bj o d g E S x op bC) (hs:(b,c)∈S.lb) (hid:b.id=op.2.1):
  k_ J3 158 #[p_ (o_ ⟨d,0,n_⟩),p_ (o_ ⟨c,0,n_⟩)] w fun e w'=>agf E o bj g S (aiG op.2.1 S.pure b) w e w':=by
 have hb:=J.dg.at'.ag.box _ hs;have c1:=(aP hb).1;have f1:w.frozen? ⟨c,1,n_⟩=false:=Ko _ _ _ _ _ hb;have hb2:(w.setCell ⟨c,1,n_⟩ (b_ false)).heap[c]? =o_ (c_ (cI { b with shown:=false }) 93):=cx (i:=1) (v:=b_ false) hb;have c2:=(aP hb2).2;have f2:(w.setCell ⟨c,1,n_⟩ (b_ false)).frozen? ⟨c,2,n_⟩=false:=Ko _ _ _ _ _ hb2;have HE:=aA (o4.ajl (x':= { b with shown:=false,text:=rM }) (fun y=> { y with shown:=false,text:=rM }) J.dg.at' hs (cx (i:=2) (v:=t_ rM) hb2) rfl rfl (aI.cell.trans aI.cell));rw [hid] at HE;unfold aiG;clear hb hb2 J
 go_enter func158,ntmps158
 exact ZaE
def ajG {b:az} {c:Nat} (J:Job w bj o d g E S x op bC) (hs:(b,c)∈S.lb):
  k_ J3 159 #[p_ (o_ ⟨d,0,n_⟩),p_ (o_ ⟨c,0,n_⟩)] w fun e w'=>agf E o bj g S (ain x.id S.pure b) w e w':=by
 have hb:=J.dg.at'.ag.box _ hs;have c2:=(aP hb).2;have c1:=(agb J.dg.box).2.1;have YU:bN (w.drew.cell? ⟨g,9,n_⟩=o_ (t_ x.got)/\w.drew.frozen? ⟨g,9,n_⟩=false):=⟨(bo J.box).2.2.2.2.2.2.2.2.2.1,Ko _ _ _ _ _ J.box⟩
 have HM:bN (o4 o bj S w (S.ju g (agF b.text) S.q.next) (w.drew.setCell ⟨g,9,n_⟩ (t_ b.text))/\(S.ju g (agF b.text) S.q.next).pure=ez b.text x.id S.pure):=by
  exact Zam
 have k1:=(aP (HM.I.1.at'.ag.box _ hs)).1;unfold ain;clear hb J hs
 revert k1
 cases b.shown with
 | true=>
  exact wl
 | false=>
  exact wl
end Go.Proofs.YtfncpmaefninjaaGreatDoor

namespace Go.Proofs.YtfncpmaefninjaaGreatDoor
open Go.Maps
attribute [local go_sem ↓] Kc Kd
variable {w:w_} {bj o d g:Nat} {E:d_ × d_ × d_} {S:aZ} {x:ao} {op:dN} {bC:Int}
def ahi (v:Int) (y:ao):ao:=⟨aiA v y.toaD,y.aY,y.bH⟩
def akl (J:Job w bj o d g E S x op bC) (hk:op.1=1):
  k_ J3 144 #[p_ (o_ ⟨d,0,n_⟩)] w fun e w'=>agf E o bj g S (runT x.toaD op S.pure) w e w':=by
 obtain ⟨-,c1,-,c3,-,-,-⟩:=agb J.dg.box;have c5:=(bo J.box).2.2.2.2.2.1;have f5:w.frozen? ⟨g,5,n_⟩=false:=Ko _ _ _ _ _ J.box;have hn:=(dv J.ok).2.1 zo;obtain ⟨n0,n1⟩:=hn;have hr:=(aia (J.right.proc (Lr.2 ⟨_,J.hx,rfl⟩)).2.1 J.up).2.2;rw [<- J.op] at hr;have hr:=hr hk;have l0:0<=x.left:=hr.1;have l1:x.left < op.2.1:=hr.2;have gp:=J.er.past;have HJ:bN (Job w bj o d g E S x op bC):=J;have H1:=fun v:v_=>cx (i:=5) (v:=v) J.box
 have HE: ∀ v:Int,∀ w1:w_,w1.heap[g]? =o_ (c_ (aX (ahi v x)) 41)->aI w w1 [g] ->bN (o4 o bj S w (S.ju g (ahi v) S.q.next) w1/\(S.ju g (ahi v) S.q.next).pure= { S.pure with L8:=ce x.id (aiA v) S.pure.L8 }):=fun v w1 h1 h2=>
  HJ.I.ju (f:=ahi v) (f':=aiA v) (nx:=S.q.next) (fun _=>rfl) (fun _=>⟨rfl,rfl⟩) h1 ((h2.same o (HJ.I.dg.at'.lt o zw) (by simpa using HJ.I.ae9)).trans HJ.I.dg.at'.opn) (h2.mono zw)
 clear hr;by_cases hl:x.left=0
 .have e0:(x.left == 0)=true:=by simp [hl]
  have c5b:(w.setCell ⟨g,5,n_⟩ (i_ j_ op.2.1)).cell? ⟨g,5,n_⟩=o_ (i_ j_ op.2.1):=(bo (x:=ahi op.2.1 x) (H1 (i_ j_ op.2.1))).2.2.2.2.2.1;have f5b:(w.setCell ⟨g,5,n_⟩ (i_ j_ op.2.1)).frozen? ⟨g,5,n_⟩=false:=Ko _ _ _ _ _ (H1 (i_ j_ op.2.1));have k2:((w.setCell ⟨g,5,n_⟩ (i_ j_ op.2.1)).setCell ⟨g,5,n_⟩ (i_ j_ (op.2.1 - 1))).heap[g]? =o_ (c_ (aX (ahi (op.2.1 - 1) x)) 41 (0,0)):=cx (i:=5) (v:=i_ j_ (op.2.1 - 1)) (H1 (i_ j_ op.2.1));have HF:=HE (op.2.1 - 1) _ k2 (aI.cell.trans aI.cell);have gpb:=(J.er.below (HF.I.1.cd J.dg.at' J.dg.low)).past;have hv:agO x.toaD op=op.2.1:=by unfold agO; rw [if_pos (show x.toaD.left=0 from hl)]
  have c5c:((w.setCell ⟨g,5,n_⟩ (i_ j_ op.2.1)).setCell ⟨g,5,n_⟩ (i_ j_ (op.2.1 - 1))).cell? ⟨g,5,n_⟩=o_ (i_ j_ (op.2.1 - 1)):=(bo k2).2.2.2.2.2.1;unfold runT;rw [hv];clear k2 hv HE H1 J gp;by_cases h1:op.2.1=1
  .rw [if_pos h1]
   have p1: ¬ 0 < op.2.1 - 1:=zo
   clear h1
   go_enter func144,ntmps144
   go_wp2;go_ret;exact ⟨S.ju g (ahi (op.2.1 - 1)) S.q.next,rfl,HF.I.1,HF.I.2,.inr (afU.ju fun _ _=>⟨rfl,rfl,rfl,rfl⟩)⟩
  .rw [if_neg h1]
   have p1:0 < op.2.1 - 1:=zo
   clear h1
   go_enter func144,ntmps144
   go_wp2;go_ret;exact ⟨S.ju g (ahi (op.2.1 - 1)) S.q.next,rfl,HF.I.1,HF.I.2,.inl ⟨rfl,agG HJ.I.hx⟩⟩
 .have e0:(x.left == 0)=false:=by simp [hl]
  have k2:(w.setCell ⟨g,5,n_⟩ (i_ j_ (x.left - 1))).heap[g]? =o_ (c_ (aX (ahi (x.left - 1) x)) 41 (0,0)):=H1 (i_ j_ (x.left - 1));have c5c:(w.setCell ⟨g,5,n_⟩ (i_ j_ (x.left - 1))).cell? ⟨g,5,n_⟩=o_ (i_ j_ (x.left - 1)):=(bo k2).2.2.2.2.2.1;have HF:=HE (x.left - 1) _ k2 aI.cell;have gpb:=(J.er.below (HF.I.1.cd J.dg.at' J.dg.low)).past;have hv:agO x.toaD op=x.left:=by unfold agO; rw [if_neg (show ¬ x.toaD.left=0 from hl)]
  unfold runT;rw [hv];clear k2 hv HE H1 J gp;by_cases h1:x.left=1
  .rw [if_pos h1]
   have p1: ¬ 0 < x.left - 1:=zo
   clear h1
   go_enter func144,ntmps144
   go_wp2;go_ret;exact ⟨S.ju g (ahi (x.left - 1)) S.q.next,rfl,HF.I.1,HF.I.2,.inr (afU.ju fun _ _=>⟨rfl,rfl,rfl,rfl⟩)⟩
  .rw [if_neg h1]
   have p1:0 < x.left - 1:=zo
   clear h1
   go_enter func144,ntmps144
   go_wp2;go_ret;exact ⟨S.ju g (ahi (x.left - 1)) S.q.next,rfl,HF.I.1,HF.I.2,.inl ⟨rfl,agG HJ.I.hx⟩⟩
def B5 {s:bD} {c:Nat} (J:Job w bj o d g E S x op bC) (hs:(s,c)∈S.ls) (hid:s.id=op.2.1):
  k_ J3 147 #[p_ (o_ ⟨d,0,n_⟩),p_ (o_ ⟨c,0,n_⟩)] w fun e w'=>agf E o bj g S (aiw op.2.1 S.pure s) w e w':=by
 have hb:=J.dg.at'.aj.box _ hs;have c1:w.cell? ⟨c,1,n_⟩=o_ (i_ j_ s.n):=by simp [World.cell?,hb,eH]
 have f1:w.frozen? ⟨c,1,n_⟩=false:=Ko _ _ _ _ _ hb;have hsr:=(cK J.right.aj s (Lr.2 ⟨_,hs,rfl⟩)).2;simp only [gw,J7] at hsr;obtain ⟨m0,m1⟩:=bz.1 hsr.1;obtain ⟨n0,n1⟩:=bz.1 hsr.2;have HE:bN (∃ S',o4 o bj S w S' (w.setCell ⟨c,1,n_⟩ (i_ j_ (s.n - 1)))/\S'.pure= { S.pure with aj:=jP (·.id) s.id (fun y=> { y with n:=y.n+ -1 }) S.pure.aj } /\S'.lp=S.lp/\S'.q=S.q):=o4.sem (fun y=> { y with n:=y.n+ -1 }) J.dg.at' hs (x':= { s with n:=s.n+ -1 }) (cx (i:=1) (v:=i_ j_ (s.n - 1)) hb) rfl rfl aI.cell;have HM:=aA (o4.refl J.dg.at');rw [hid] at HE;unfold aiw;clear hb J hsr
 go_enter func147,ntmps147
 by_cases h0:s.n=0
 .have e0:(s.n == 0)=true:=by simp [h0]
  rw [if_pos h0];clear h0;go_wp2;go_ret;exact ⟨_,rfl,HM.I,rfl,.inr afU.refl⟩
 .have e0:(s.n == 0)=false:=by simp [h0]
  rw [if_neg h0];exact ZaE
end Go.Proofs.YtfncpmaefninjaaGreatDoor

namespace Go.Proofs.YtfncpmaefninjaaGreatDoor
open Go.Maps
attribute [local go_sem ↓] Kc Kd
structure WkJ (bC:Int) (bj:Nat) (w:w_) (afH:aZ) (o k:Nat) (S:aZ) (wr:w_):Prop where
 at':cJ wr bj o S
 fits:S.Fits
 wk:af9 bC S.pure
 same:gj bC S.pure=gj bC afH.pure
 cnt:(lF bC S.pure.L8).length=k
 short: ∀ p∈S.lp,p.1.prog.length<=1048576
 mv:o4 o bj afH w S wr
def WdEnd (o bj:Nat) (S:aZ) (bC:Int) (w:w_) (e:Ending) (w':w_):Prop:= ∃ S2:aZ,e=r_ (b_ (cv bC 0 1000000000 && decide (S.q.next<=999999980)))/\S2.Fits/\((cv bC 0 1000000000 && decide (S.q.next<=999999980))=true->S2.pure=gj bC S.pure)/\o4 o bj S w S2 w'
def aiS {w w':w_} {bj o g:Nat} {S:aZ} {x:ao} {nx c n:Int} (hx:(x,g)∈S.lp) (h:cJ w' bj o (S.ju g (pF nx c) n)) (hk:aI w w' [g,o]):o4 o bj S w (S.ju g (pF nx c) n) w':=by
 refine ⟨h,hk.mono fun b hb=> ?_,fun b hb _=> ?_⟩
 .simp only [Kt,Ku,or_false] at hb
  rcases hb with rfl | rfl
  .exact aZ.agr (aZ.ago (LB _ (Lr.2 ⟨_,hx,rfl⟩)))
  .simp [aZ.al]
 .rw [ahk (f:=pF nx c) fun _=>rfl] at hb
  exact hb
def ajo (o bj:Nat) (S:aZ) (bC:Int) (w:w_) (h:cJ w bj o S) (lY:bj<=w.heap.size) (hf:S.Fits) (hr:aQ S.pure):
  k_ J3 32 #[p_ (o_ ⟨o,0,n_⟩),i_ j_ bC] w fun e w'=>WdEnd o bj S bC w e w':=by
 have c1:w.cell? ⟨o,1,n_⟩=o_ (i_ j_ S.q.next):=h.opn.cell 1;have H:bN (cJ w bj o S/\S.Fits/\aQ S.pure/\bj<=w.heap.size):=⟨h,hf,hr,lY⟩
 clear h hf hr lY
 go_enter func32,ntmps32
 by_cases h1:bC < 0
 .skip
  exact R_
 by_cases h2:1000000000 < bC
 .skip
  exact R_
 by_cases h3:999999980 < S.q.next
 .skip
  have HV:bN ((cv bC 0 1000000000 && decide (S.q.next<=999999980))=false):=by show _=_; rw [decide_eq_false zo,PP]
  go_wp2;go_ret;exact ⟨S,al HV.I.symm,H.I.2.1,(fun e=>by rw [HV.I] at e; cases e),o4.refl H.I.1⟩
 have HV:bN ((cv bC 0 1000000000 && decide (S.q.next<=999999980))=true):=by show _=_; rw [bz.2 ⟨zo,zo⟩,decide_eq_true zo]; rfl
 have HK:bN (WkJ bC bj w S o (lF bC S.pure.L8).length S w):=⟨H.I.1,H.I.2.1,af9.of H.I.2.2.1 (by show S.q.next<=_; omega),rfl,rfl,fun p hp=>St H.I.2.2.1 hp,o4.refl H.I.1⟩
 go_wp2_with fail;clear c1 h1 h2 h3
 go_loopg [] (lF bC S.pure.L8).length (fun k wr=> ∃ S1:aZ,bN (WkJ bC bj w S o k S1 wr))
 case atStart=>exact ⟨S,HK.I⟩
 case round=>
  obtain ⟨S1,HO⟩:=hrel;have hlq:S1.lp.length<=6:=by have h5:=HO.I.wk.low; simpa [aZ.pure] using h5
  have HL:bN (S1.lp.length<=1048576/\(Qx bC S1.lp).length<=1048576):=⟨zo,LG (Qq _ _) zo⟩
  clear hlq;go_wp2_with fail;refine (Sz o S1.q S1.lp bC bj wr HO.I.at'.opn HO.I.at'.L8 HL.I.1 HO.I.fits.Jl).mono ?_;rintro e w2 ⟨⟨a,cap,rfl,hrw⟩,hb2⟩;have HB:bN (Row w2 a ((Qx bC S1.lp).map fun p=>dt p.2)/\B_ wr.heap.size wr w2):=⟨hrw,hb2⟩
  clear hrw hb2;go_wp2_with fail;refine (Sd a (Qx bC S1.lp) cap w2 HL.I.2 HB.I.1 (fun p hp=>(HO.I.at'.L8.below HB.I.2).box p (L2.1 hp).1)).mono ?_;rintro e w3 ⟨rfl,hb3⟩;have H3:bN (B_ wr.heap.size wr w3):=HB.I.2.trans (hb3.mono HB.I.2.size);have HN:bN ((oa RY (Qx bC S1.lp)).map (fun p=>p.1.toaD)=lZ bC S1.pure.L8):=Sy HO.I.wk.kW;clear hb3 HB;cases hbd:oa RY (Qx bC S1.lp) with
  | none=>
   have e0:(Qx bC S1.lp).length=0:=by rw [CZ RY hbd]; rfl
   have HD:bN (lZ bC S1.pure.L8=n_):=by have h5:=HN.I; rw [hbd] at h5; exact h5.symm
   have d0:decide (0 < (Qx bC S1.lp).length)=false:=decide_eq_false zo;rw [d0];clear hbd e0 d0;simp only [qz,Option.map_none];go_wp2;go_ret;exact ⟨S1,al HV.I.symm,HO.I.fits,fun _=>by rw [<- HO.I.same]; exact (Co HD.I).symm,HO.I.mv.trans (o4.below HO.I.at' H3.I)⟩
  | some r=>
   obtain ⟨x,g⟩:=r;have hmd:=Fg RY hbd;have hm:(x,g)∈S1.lp/\og bC x.toaD=true:=L2.1 hmd;have d0:decide (0 < (Qx bC S1.lp).length)=true:=decide_eq_true (List.length_pos_of_mem hmd);have HD:bN (lZ bC S1.pure.L8=o_ x.toaD/\(x,g)∈S1.lp):=⟨by have h5:=HN.I; rw [hbd] at h5; exact h5.symm,hm.1⟩
   have hst:=(RZ.1 hm.2).1;have hop:=HO.I.wk.op x.toaD (Lr.2 ⟨(x,g),hm.1,rfl⟩) hst;have hro:=HO.I.wk.room;have ai2:=HO.I.at'.below H3.I;have s3:=(bo (ai2.L8.box (x,g) hm.1)).2.2.2.1;have hbs:bj<=w3.heap.size:=by have:=HO.I.mv.kept.size; have:=H3.I.size; have:=H.I.2.2.2; omega
   have Mb:=fun code=>ahO o g bj S1 x code w3 ai2 hbs hm.1 (by have h5:S1.pure.next=S1.q.next:=rfl; omega) (by have h5:S1.pure.next=S1.q.next:=rfl; omega) hop (HO.I.short _ hm.1)
   rw [d0];clear hbd hmd hm d0 hst hop hro ai2 hbs HN;simp only [qz,dt,J9];cases e2:(x.Md == 2)
   .skip
    replace Mb:=Mb 2;have HCO:bN (mL x.toaD=2):=by show mL x.toaD=_; unfold mL; rw [if_neg (by simpa using e2)]
    go_wp2_with fail;clear s3 e2;refine Mb.mono ?_;clear Mb;rintro e w4 ⟨rfl,Ss,hb4⟩;have HP:bN ((S1.ju g (pF S1.q.next 2) (gf S1.q.next x.toaD)).pure=gu S1.pure x.toaD):=by
     have h5:=aZ.Sb (nx:=gf S1.q.next x.toaD) (f:=pF S1.q.next 2) (f':=iY S1.q.next 2) HO.I.wk.kW (fun p hp hpg=>HO.I.at'.L8.one hp HD.I.2 hpg) HD.I.2 (fun _=>rfl);refine h5.trans ?_;unfold gu;rw [HCO.I];rfl
    have HI:bN (WkJ bC bj w S o (lF bC (S1.ju g (pF S1.q.next 2) (gf S1.q.next x.toaD)).pure.L8).length (S1.ju g (pF S1.q.next 2) (gf S1.q.next x.toaD)) w4/\(lF bC (S1.ju g (pF S1.q.next 2) (gf S1.q.next x.toaD)).pure.L8).length < gk):=by
     exact AM
    clear Ss hb4;go_wp2_with fail
    go_roundg (lF bC (S1.ju g (pF S1.q.next 2) (gf S1.q.next x.toaD)).pure.L8).length
    case rel=>exact ⟨_,HI.I.1⟩
    case measure=>exact HI.I.2
   .skip
    replace Mb:=Mb 0;have HCO:bN (mL x.toaD=0):=by show mL x.toaD=_; unfold mL; rw [if_pos (by simpa using e2)]
    go_wp2_with fail;clear s3 e2;refine Mb.mono ?_;clear Mb;rintro e w4 ⟨rfl,Ss,hb4⟩;have HP:bN ((S1.ju g (pF S1.q.next 0) (gf S1.q.next x.toaD)).pure=gu S1.pure x.toaD):=by
     have h5:=aZ.Sb (nx:=gf S1.q.next x.toaD) (f:=pF S1.q.next 0) (f':=iY S1.q.next 0) HO.I.wk.kW (fun p hp hpg=>HO.I.at'.L8.one hp HD.I.2 hpg) HD.I.2 (fun _=>rfl);refine h5.trans ?_;unfold gu;rw [HCO.I];rfl
    have HI:bN (WkJ bC bj w S o (lF bC (S1.ju g (pF S1.q.next 0) (gf S1.q.next x.toaD)).pure.L8).length (S1.ju g (pF S1.q.next 0) (gf S1.q.next x.toaD)) w4/\(lF bC (S1.ju g (pF S1.q.next 0) (gf S1.q.next x.toaD)).pure.L8).length < gk):=by
     exact AM
    clear Ss hb4;go_wp2_with fail
    go_roundg (lF bC (S1.ju g (pF S1.q.next 0) (gf S1.q.next x.toaD)).pure.L8).length
    case rel=>exact ⟨_,HI.I.1⟩
    case measure=>exact HI.I.2
end Go.Proofs.YtfncpmaefninjaaGreatDoor
