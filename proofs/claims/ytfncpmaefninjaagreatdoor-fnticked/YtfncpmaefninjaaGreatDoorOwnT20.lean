/- What the proof leans on, part 20. -/
import Derived.Test.YtfncpmaefninjaaGreatDoorOwnT16
import Derived.Test.YtfncpmaefninjaaGreatDoorOwnT17
import Derived.Test.YtfncpmaefninjaaGreatDoorOwnT18
set_option linter.all false
set_option maxRecDepth 100000
set_option maxHeartbeats 8000000
open Go.Proofs.Tryz
open Go renaming World->w_,Calls->k_,Addr->d_,below_setRow->q_
open Go.IntKind renaming i64->j_
open Go.Obj renaming cells->c_
open Go.RowKit renaming Below->B_,Hid->bE
open Go.Value renaming int->i_,slice->s_,bool->b_,string->t_,agg->a_
open Option renaming some->o_,none->n_
open Function renaming comp_def->Ls
open Go renaming wp_at_succ->Kd,wp_at_zero->Kc
open Go.Proofs.Tryz renaming prog->J3
open List renaming getElem_cons_succ->K1,getElem_cons_zero->K0,getElem_toArray->KZ,length_cons->Lg,length_nil->K4,nil_append->Ll

open Go.RowKit
namespace Go.Proofs.YtfncpmaefninjaaGreatDoor
open Go.Maps
attribute [local go_sem ↓] Kc Kd
theorem yY (N:Int) (l k:List ByteArray) (p:aE):cV N l (cV N k p)=cV N l p:=by
 unfold cV jP;simp only [Lv]
 congr 1
 refine Lw fun z _=> ?_
 simp only [Ls];by_cases h:z.id=N <;> simp [h]
theorem Ig {W:w_} {bj Y5 gp:Nat} {q:af} (h:ap W bj q) (iE:q.am=o_ ⟨Y5,0,n_⟩) (l9:q.aN=o_ ⟨gp,0,n_⟩):Y5≠gp:=by
 have h1:=h.nodup;unfold af.Mc at h1;obtain ⟨-,-,h3⟩:=Kf.1 h1;exact fun e=>h3 gp (by rw [l9]; simp [blk]) Y5 (by simp only [Kg]; exact .inr (.inr (.inr (.inr (.inl (by rw [iE]; simp [blk])))))) e.symm
theorem C0 (q:af) (n bj:Nat) (x:ao) (bA:Int) (o:dN) (w:w_) (h:ap w bj q) (hb:bj<=w.heap.size) (hr:aQ q.pure) (hx:q.L8[n]? =o_ x) (hs:x.Md=1) (hn:q.next<=999999990) (eu:0<=bA/\bA<=1000000000) (ho:kc o=true) (hk:o.1=9):
  k_ J3 90 #[a_ q.cells,i_ j_ n,a_ (j9 o),i_ j_ bA] w (jH w bj q (ka o bA x.id q.pure)):=by
 obtain ⟨-,f1,f2,f3,f4⟩:=dv ho;have hM:=bz.1 f2;obtain ⟨k,N,M,s⟩:=o;simp only at hk hM f1 f3 f4;subst hk;have HR:=aA (SD hr hx hs hn eu hM);have HF:=aA (dW hr);clear f2 hr hx hs hn eu hM ho;have S:=aA (Xf.start (o:=(9,N,M,s)) h hb);clear h hb
 go_enter func90,ntmps90
 go_upto_region 1 with fail;generalize ((w.alloc (c_ q.cells 31)).alloc (c_ (j9 (9,N,M,s)) 45)).alloc (c_ ar 31)=A at *;obtain ⟨-,o1,-,-⟩:=S.I.op.cells;simp only at o1;have hpf:=ef (num:=fun x:au=>x.id) N q.ae 0;have Mb:=lr q N A ZcL S.I.fr.own.at;generalize place (q.ae.map (fun x=>x.id)) N 0=z at *;go_wp2_with (refine eT 4 S.I.fr.box ?_);refine Mb.mono ?_;clear Mb;rintro e A2 ⟨rfl,hb2⟩;replace S:=aA (S.I.reads hb2);clear hb2 o1;have hfm:=lJ (num:=fun x:ci=>x.id) (je:=fun x:au=>x.id) (g:=fun x:au=>x.toci) (fun _=>rfl) (id:=N) q.ae;rcases hpf with ⟨hz,hf⟩ | ⟨m,y,hz,hm,hid,hf⟩
 .subst hz
  rw [hf] at hfm;have HE:bE (ka (9,N,M,s) bA x.id q.pure=bu 3 x.id q.pure):=by show ka (9,N,M,s) bA x.id q.pure=_; unfold ka; rw [show cg (fun x:ci=>x.id) N q.pure.ae=n_ from hfm]
  exact Zcf
 rw [hf] at hfm;rw [Li] at hz;subst hz;have afO:decide ((m:Int) < 0)=false:=decide_eq_false zo;have HM:bE (q.ae[m]? =o_ y/\y.id=N/\cg (fun x:ci=>x.id) N q.pure.ae=o_ y.toci):=⟨hm,hid,hfm⟩
 have hml:=(Lj.1 hm).1;have j0:(0:Int)<=(m:Int):=zo
 have j1:(m:Int) < (q.ae.length:Int):=zo
 clear hm hid hf hfm hml;obtain ⟨Y5,iE,hat⟩:=iA S.I.fr.own.at.2.2.2.2.1 HM.I.1;have m6:=S.I.fr.box.cells.2.2.2.2.2.2.1;rw [iE] at m6;have d0:=hat.1;have d1:=hat.2.1;have d2:=hat.2.2;have HG:bE (q.am=o_ ⟨Y5,0,n_⟩):=iE;clear hat iE;have h5:=(Kp A2.heap.size A2).alloc (Ki _) (c_ #[i_ j_ y.id,i_ j_ y.max,s_ y.ak y.Ma.length y.aq] 96);have afa:bE ((A2.alloc (c_ #[i_ j_ y.id,i_ j_ y.max,s_ y.ak y.Ma.length y.aq] 96)).heap[A2.heap.size]? =o_ (c_ #[i_ j_ y.id,i_ j_ y.max,s_ y.ak y.Ma.length y.aq] 96)/\w.heap.size+3<=A2.heap.size):=⟨Kj _ _,S.I.fr.sz.2.1⟩
 replace S:=aA (S.I.reads h5);clear h5;go_upto_region 5 with fail;generalize A2.alloc (c_ #[i_ j_ y.id,i_ j_ y.max,s_ y.ak y.Ma.length y.aq] 96)=B at *;generalize A2.heap.size=X at *;clear m6 d0 d1 d2 afO;obtain ⟨o0,-,-,-⟩:=S.I.op.cells;simp only at o0;have x2:B.cell? ⟨X,2,n_⟩=o_ (s_ y.ak y.Ma.length y.aq):=by simp [World.cell?,afa.I.1]
 have HF4:=aA (f4 (by decide) (by decide) (by decide));clear f1 f3 f4;cases hit:y.Ma with
 | nil=>
  rw [hit] at x2;have HE:bE (ka (9,N,M,s) bA x.id q.pure=mX 6 (9,N,M,s) bA x.id (ez rM x.id q.pure)):=by show ka (9,N,M,s) bA x.id q.pure=_; unfold ka; rw [show cg (fun x:ci=>x.id) N q.pure.ae=o_ y.toci from HM.I.2.2]; dsimp only; rw [show y.toci.Ma= [] from hit]
  clear afa hit;go_upto_region 15 with fail;clear x2 o0;obtain ⟨gp,l9,-⟩:=cn S.I.fr.own.at.1 HR.I.2.1;have m2:=S.I.fr.box.cells.2.2.1;have k1:(n:Int) < (q.L8.length:Int):=by have:=(Lj.1 HR.I.2.1).1; omega
  have k0:(0:Int)<=(n:Int):=zo
  rw [l9] at m2;obtain ⟨s1,⟨u,c⟩,f⟩:=eY (n:=n) (j:=9) (v:=t_ ⟨#[]⟩) (y:= { x with got:=rM }) S.I.fr.own HR.I.2.1 l9 ⟨rfl,rfl,rfl⟩ (by decide) rfl;replace S:=aA (S.I.call s1);clear s1 l9;go_upto_region 16 with fail;generalize B.setCell ⟨gp,n * 12+9,n_⟩ (t_ ⟨#[]⟩)=C at *;clear m2 c f u k0 k1;obtain ⟨q1,hq1,hq⟩:=kg HR.I.1 HR.I.2.1 jX;have HB:bE (q1.next=q.next):=by rw [hq1]; exact rfl
  rw [<- hq1] at S;have HQ:=aA hq;clear hq1 hq;have Mb:=oR q1 n bj { x with got:=rM } 6 bA (9,N,M,s) C S.I.fr.own S.I.low HQ.I.2.2.1 HQ.I.2.2.2 ZcS (by have:=HR.I.2.2.2.1; rw [HB.I]; omega) HR.I.2.2.2.2.1 HR.I.2.2.2.2.2;rw [HQ.I.1,HQ.I.2.1] at Mb;go_wp2_with (first | (refine eT 4 S.I.fr.box ?_) | (refine LS rfl 45 (.tmp 6) rfl (w.heap.size+1) (by rfl) 45 (j9 (9,N,M,s)) (0,0) _ S.I.op underlying45 rfl ZcE ?_));refine Mb.mono ?_;clear Mb;rintro e A2 ⟨q2,rfl,hp,ht⟩;replace S:=aA (S.I.call ht);have HP:bE (q2.pure=_):=hp;clear hp ht;go_wp2_with (refine ec 8 88 q2.cells S.I.an ?_);refine gZ results90 S.I.an ?_;exact jp
 | cons t0 r=>
  have tI:bE (y.Ma=t0 :: r/\bw t0=true/\(∀ u∈r,bw u=true)/\y.Ma.length<=5/\(y.Ma.length:Int)<=y.max):=by
   have h5:=(ji (o:=(9,N,M,s)) HR.I.1 HM.I.2.2).2.2; have h6:=uJ HR.I.1 (Lr.2 ⟨y,KA HM.I.1,rfl⟩);have h7:y.toci.Ma=y.Ma:=rfl;have h8:y.toci.max=y.max:=rfl;rw [h7] at h5;exact ⟨hit,h5.2 t0 (by rw [hit]; simp),fun u hu=>h5.2 u (by rw [hit]; simp [hu]),zo,by rw [<- h8]; exact h5.1⟩
  have il:(0:Int) < (y.Ma.length:Int):=by rw [hit]; simp
  have il3:0 < y.Ma.length:=by rw [hit]; simp
  have il4: ¬ y.Ma.length=0:=zo
  have il2:((y.Ma.length:Int) == 0)=false:=by rw [hit]; simp; omega
  clear hit;go_upto_region 17 with fail;clear x2 o0 il2;replace afa:bE (B.drew.heap[X]? =o_ (c_ #[i_ j_ y.id,i_ j_ y.max,s_ y.ak y.Ma.length y.aq] 96)/\w.heap.size+3<=X):=afa.I;replace S:=aA (S.I.reads (Kp _ _).drew);refine eD (fun w1=>w1=B.drew) 9 ZcE rfl ?_;generalize B.drew=C at *;have HG1:=aA (kg HR.I.1 HR.I.2.1 tI.I.2.1);have x2:C.cell? ⟨X,2,n_⟩=o_ (s_ y.ak y.Ma.length y.aq):=by simp [World.cell?,afa.I.1]
  obtain ⟨abo,hgi,x3⟩:=zl (lj S.I.fr.own.at.2.2.2.2.1 HM.I.1) (show y.Ma[0]? =o_ t0 by rw [tI.I.1]; rfl);rw [hgi] at x2;obtain ⟨gp,l9,-⟩:=cn S.I.fr.own.at.1 HR.I.2.1;have m2:=S.I.fr.box.cells.2.2.1;have k1:(n:Int) < (q.L8.length:Int):=by have:=(Lj.1 HR.I.2.1).1; omega
  have k0:(0:Int)<=(n:Int):=zo
  rw [l9] at m2;have ud:bE (q.aN=o_ ⟨gp,0,n_⟩):=l9;obtain ⟨s1,⟨u,c⟩,f⟩:=eY (n:=n) (j:=9) (v:=t_ t0) (y:= { x with got:=t0 }) S.I.fr.own HR.I.2.1 l9 ⟨rfl,rfl,rfl⟩ (by decide) rfl;have lW:(C.setCell ⟨gp,n * 12+9,n_⟩ (t_ t0)).heap[X]? =o_ (c_ #[i_ j_ y.id,i_ j_ y.max,s_ y.ak y.Ma.length y.aq] 96):=(aH (fun e=>by have h5:=(S.I.fr.lo gp (gD (.inl (by rw [l9]; simp [blk])))).2; have:=afa.I.2; omega)).trans afa.I.1;replace S:=aA (S.I.call s1);replace afa:=aA (And.intro lW afa.I.2);clear s1 l9 hgi lW
  iterate 9 (refine ly 10 (v:= ?_) (o_ _) rfl rfl ZcE (fun _ _ _ h=>h) (bV ZcE ?_) ?_; rotate_left; (intro w0 hS0; subst hS0; go_simp; try with_reducible rfl); simp only [pt,sb,s0,s1])
  refine fL rfl ZcE ZcE ZcE ?_;intro w1 cm;rw [cm];clear cm w1
  go_simp
  generalize C.setCell ⟨gp,n * 12+9,n_⟩ (t_ t0)=D at *;clear m2 x2 x3 c f u k0 k1 il il3 il4;obtain ⟨q1,hq1,hq⟩:=HG1.I;have HB:bE (q1.ae=q.ae/\q1.next=q.next/\q1.am=q.am/\q1.pure.ae=q.pure.ae/\q1.aN=q.aN):=by rw [hq1]; exact ⟨rfl,rfl,rfl,rfl,rfl⟩
  rw [<- hq1] at S;have HQ:=aA hq;clear hq1 hq HG1;go_upto_region 18 with fail;replace S:=aA (S.I.reads (Kp _ _).drew);replace afa:bE (D.drew.heap[X]? =o_ (c_ #[i_ j_ y.id,i_ j_ y.max,s_ y.ak y.Ma.length y.aq] 96)/\w.heap.size+3<=X):=afa.I;refine Kr (S:=fun w'=>av w' w.heap.size q/\w'.heap[X]? =o_ (c_ #[i_ j_ y.id,i_ j_ y.max,s_ y.ak y.Ma.length y.aq] 96)) ZcE ⟨S.I.fr.box,afa.I.1⟩ (fun bC=> ?_);generalize D.drew=V2 at *;have il:(1:Int)<=(y.Ma.length:Int):=by rw [tI.I.1]; simp; omega
  have af5:(y.Ma.length:Int)<=(y.aq:Int):=by have h5:y.Ma.length<=y.aq:=nV (S.I.fr.own.eE y (by rw [HB.I.1]; exact KA HM.I.1)); omega
  have ic2:(1:Int)<=(y.aq:Int):=zo
  obtain ⟨afs,hTA⟩: ∃ afs:Option d_,(if y.aq=1 then y.ak else Option.map (fun x:d_=>(⟨x.block,x.off+1,n_⟩:d_)) y.ak)=afs:=⟨_,rfl⟩
  refine agi 0 bC ?_;refine agi 1 bC ?_;refine agi 2 bC ?_;refine agi 4 bC ?_;refine agi 5 bC ?_;refine agi 6 bC ?_;clear bC il af5 ic2;have GO:bE (q1.ae[m]? =o_ y):=by rw [HB.I.1]; exact HM.I.1
  have lW:=(J2.1 afa.I.1).1;have hS: ∀ W,B_ V2.heap.size V2 W->av W w.heap.size q/\W.heap[X]? =o_ (c_ #[i_ j_ y.id,i_ j_ y.max,s_ y.ak y.Ma.length y.aq] 96):=fun W hb=>⟨S.I.fr.box.below hb,(hb.block _ lW).trans afa.I.1⟩
  have b1:B_ V2.heap.size V2 (V2.alloc (c_ #[] 9)):=(Kp _ _).alloc (Ki _) _;refine L7 3 (fun K hK=> ?_);go_wp2_with fail;refine hK.out _ _ (hS _ b1) (fun bC=> ?_);clear hK K bC
  try simp only [pt,sb,s0,s1]
  have hlr:y.Ma.length - 1=r.length:=by rw [tI.I.1]; rfl
  have pI:y.Ma.drop 1=r:=by rw [tI.I.1]; rfl
  have hsrc:=vg (c:=y.aq) (nV (S.I.fr.own.eE y (KA GO.I))) (lj (S.I.fr.own.below b1).at.2.2.2.2.1 GO.I);rw [hTA] at hsrc;obtain ⟨a7,c7,w7,hap,mP,xI,-⟩:=ou (V2.alloc (c_ #[] 9)) V2.heap.size (o_ ⟨V2.heap.size,0,n_⟩) 0 [] (i6 (Kj _ _) (Ki _)) afs (y.Ma.drop 1) (y.aq - 1) hsrc (by rw [Ql]; have:=tI.I.2.2.2.1; show 0+_<=_; omega) b1.size;clear hsrc hTA;have gh:B_ V2.heap.size V2 w7:=b1.grown xI b1.size fun c e=>by cases e; exact Ki _
  rw [Ql,hlr] at hap mP;simp only [K4,Li,Ll,pI] at hap mP;rw [<- hlr] at hap;obtain ⟨s1,⟨u,c⟩,f⟩:=mB (n:=m) S.I.fr.own (aI.dI gh) GO.I (HB.I.2.2.1.trans HG.I) (cq mP S.I.low) (fun g hg=> .inr (cf mP hg).1);rw [<- hlr] at s1;have HLR:bE (y.Ma.length - 1=r.length):=hlr;clear hlr;refine L7 7 (fun K hK=> ?_);refine cM _ _ _ rfl _ _ _ w7 rfl rfl hap ?_;refine hK.out _ _ ⟨S.I.fr.box.below gh,(gh.block _ lW).trans afa.I.1⟩ (fun bC=> ?_);clear hK K bC
  try simp only [pt,sb]
  have wj:av w7 w.heap.size q/\w7.heap[X]? =o_ (c_ #[i_ j_ y.id,i_ j_ y.max,s_ y.ak y.Ma.length y.aq] 96):=⟨S.I.fr.box.below gh,(gh.block _ lW).trans afa.I.1⟩
  replace S:=aA (S.I.call s1);clear hap mP xI gh s1 b1 hS;refine agi 8 wj ?_;refine agi 9 wj ?_;have uQ:(w7.setCell ⟨Y5,m * 3+2,n_⟩ (s_ a7 (y.Ma.length - 1) c7)).heap[X]? =o_ (c_ #[i_ j_ y.id,i_ j_ y.max,s_ y.ak y.Ma.length y.aq] 96):=(aH (fun e=>by have h5:=(S.I.fr.lo Y5 (gD (.inr <| .inr <| .inr <| .inr <| .inl <| by rw [HG.I]; simp [blk]))).2; have:=afa.I.2; omega)).trans wj.2;refine L7 10 (fun K hK=> ?_);go_wp2_with fail;refine hK.out _ _ ⟨S.I.fr.box,uQ⟩ (fun bC=> ?_);clear hK K bC;refine K3 ZcE ?_ _;clear c f u wj lW uQ;go_upto_region 19 with fail;generalize w7.setCell ⟨Y5,m * 3+2,n_⟩ (s_ a7 (y.Ma.length - 1) c7)=E at *;obtain ⟨y2,hy2⟩: ∃ y2:au,y2= { y with Ma:=r,ak:=a7,aq:=c7 } :=⟨_,rfl⟩
  obtain ⟨q2,pv⟩: ∃ q2:af,q2= { q1 with ae:=q1.ae.set m y2 } :=⟨_,rfl⟩
  have ky:bE (q2.pure=cV N r (ez t0 x.id q.pure)/\q2.cells=q.cells/\aQ q2.pure/\q2.L8[n]? =o_ { x with got:=t0 } /\q2.ae[m]? =o_ y2/\q2.am=o_ ⟨Y5,0,n_⟩/\q2.next=q.next/\q2.aN=o_ ⟨gp,0,n_⟩):=by
   have h5:q2.pure=cV N r q1.pure:=by rw [pv,hy2]; exact oN HQ.I.2.2.1.ae GO.I HM.I.2.1
   have h6:aQ (cV N r q1.pure):=gN HQ.I.2.2.1 (fun z hz hk=>by rw [HB.I.2.2.2.1] at hz; rw [only HR.I.1.ae HM.I.2.2 hz hk]; have h7:=tI.I.2.2.2.2; rw [tI.I.1] at h7; have h8:y.toci.max=y.max:=rfl; simp only [Lg] at h7; omega) tI.I.2.2.1;exact ⟨by rw [h5,HQ.I.1],by rw [pv]; exact Eq.trans (by unfold af.cells; simp) HQ.I.2.1,by rw [h5]; exact h6,by rw [pv]; exact HQ.I.2.2.2,by rw [pv]; show (q1.ae.set m y2)[m]? =_; rw [LU (Lj.1 GO.I).1],by rw [pv]; exact HB.I.2.2.1.trans HG.I,by rw [pv]; exact HB.I.2.1,by rw [pv]; exact HB.I.2.2.2.2.trans ud.I⟩
  rw [<- hy2,<- pv] at S;have HY2:bE (y2.Ma=r/\y2.id=N/\y2.max=y.max):=by rw [hy2]; exact ⟨rfl,HM.I.2.1,rfl⟩
  clear pv hy2 HLR pI afa;have HU:bE (ka (9,N,M,s) bA x.id q.pure=match jl 5 N q2.pure.L8 with | none=>bu 0 x.id (cV N r (ez t0 x.id q.pure)) | some v=>bu 0 x.id (gF (fun y=>y) (cV N (r ++ [v.held]) (ez t0 x.id q.pure)) v)):=by show ka (9,N,M,s) bA x.id q.pure=_; unfold ka; rw [show cg (fun x:ci=>x.id) N q.pure.ae=o_ y.toci from HM.I.2.2]; dsimp only; rw [show y.toci.Ma=t0 :: r from tI.I.1]; dsimp only; rw [show q2.pure.L8=(ez t0 x.id q.pure).L8 by rw [ky.I.1]; rfl]; split <;> rename_i h5 <;> rw [h5]
  have Mb:=ij q2 5 N E (by have:=(dW ky.I.2.2.1).1; omega) S.I.fr.own.at;rw [ky.I.2.1] at Mb;obtain ⟨-,o1,-,-⟩:=S.I.op.cells;simp only at o1;go_wp2_with (refine eT 4 S.I.fr.box ?_);refine Mb.mono ?_;clear Mb o1;rintro e afP ⟨⟨z,rfl,gV⟩,hb2⟩;replace S:=aA (S.I.reads hb2);clear hb2;rcases pp gV with ⟨hz,hw⟩ | ⟨i,v,hz,hi,hw⟩
  .have HE:bE (ka (9,N,M,s) bA x.id q.pure=bu 0 x.id (cV N r (ez t0 x.id q.pure))):=by show ka (9,N,M,s) bA x.id q.pure=_; rw [HU.I,hw]
   have afO:decide (z>=0)=false:=decide_eq_false zo;clear gV hz hw HU;have Mb:=bB (n:=n) 0 S.I.fr.own S.I.low ky.I.2.2.1 ky.I.2.2.2.1 ZcS;rw [ky.I.1,ky.I.2.1] at Mb;go_wp2_with (refine eT 4 S.I.fr.box ?_);refine Mb.mono ?_;clear Mb;rintro e A2 ⟨q3,rfl,hp,ht⟩;replace S:=aA (S.I.call ht);have HP:bE (q3.pure=_):=hp;clear hp ht;go_wp2_with (refine ec 8 138 q3.cells S.I.an ?_);refine gZ results90 S.I.an ?_;exact ⟨q3,rfl,HP.I.trans HE.I.symm,S.I.done _⟩
  have HE:bE (ka (9,N,M,s) bA x.id q.pure=bu 0 x.id (gF (fun y=>y) (cV N (r ++ [v.held]) (ez t0 x.id q.pure)) v.toaD)):=by show ka (9,N,M,s) bA x.id q.pure=_; rw [HU.I,hw]
  have HW:bE (jl 5 N q2.pure.L8=o_ v.toaD/\q2.L8[i]? =o_ v/\v.Md=5):=⟨hw,hi,(ft hw).2.1⟩
  subst hz;have afO:decide ((i:Int)>=0)=true:=decide_eq_true zo;clear gV hw hi HU;go_upto_region 21 with fail;clear afO;replace S:=aA (S.I.reads (Kp _ _).drew);obtain ⟨g5,A7,hat⟩:=iA S.I.fr.own.at.2.2.2.2.1 ky.I.2.2.2.2.1;rw [ky.I.2.2.2.2.2.1] at A7;cases A7;obtain ⟨g6,hg6,hap⟩:=cn S.I.fr.own.at.1 HW.I.2.1;rw [ky.I.2.2.2.2.2.2.2] at hg6;cases hg6;have hS0:av afP.drew w.heap.size q/\afP.drew.cell? ⟨gp,i * 12+8,n_⟩=o_ (t_ v.held):=⟨S.I.fr.box,hap.2.2.2.2.2.2.2.2.1⟩
  have c8:afP.drew.cell? ⟨Y5,m * 3+2,n_⟩=o_ (s_ y2.ak y2.Ma.length y2.aq):=hat.2.2;clear hat hap;refine Kr (S:=fun w'=>av w' w.heap.size q/\w'.cell? ⟨gp,i * 12+8,n_⟩=o_ (t_ v.held)) ZcE hS0 (fun bC=> ?_);generalize afP.drew=V3 at *;have k1:(i:Int) < (q.L8.length:Int):=by have h5:=(Lj.1 HW.I.2.1).1; have h6:=congrArg (fun p:aE=>p.L8.length) ky.I.1; simp only [af.pure,KG,cV,ez,ce] at h6; omega
  have k0:(0:Int)<=(i:Int):=zo
  refine agi 0 bC ?_;refine agi 1 bC ?_;refine agi 2 bC ?_;refine agi 3 bC ?_;refine agi 4 bC ?_;refine agi 5 bC ?_;refine agi 6 bC ?_;refine agi 7 bC ?_;refine agi 9 bC ?_;refine agi 10 bC ?_;refine agi 11 bC ?_;refine agi 12 bC ?_;refine agi 13 bC ?_;refine agi 14 bC ?_;clear bC k0 k1;have b1:B_ V3.heap.size V3 (V3.alloc (c_ #[t_ v.held] 9)):=(Kp _ _).alloc (Ki _) _;have iE:=cf S.I.fr.own.ae (g:=Y5) (by rw [ky.I.2.2.2.2.2.1]; simp [blk]);have l9:=cf S.I.fr.own.L8 (g:=gp) (by rw [ky.I.2.2.2.2.2.2.2]; simp [blk]);have cm:av (V3.alloc (c_ #[t_ v.held] 9)) w.heap.size q/\(V3.alloc (c_ #[t_ v.held] 9)).cell? ⟨gp,i * 12+8,n_⟩=o_ (t_ v.held):=⟨S.I.fr.box.below b1,(b1.cell (p:=⟨gp,i * 12+8,n_⟩) l9.2).trans hS0.2⟩
  have c9:World.cell? (V3.alloc (c_ #[t_ v.held] 9)) ⟨Y5,m * 3+2,n_⟩=o_ (s_ y2.ak y2.Ma.length y2.aq):=(b1.cell (p:=⟨Y5,m * 3+2,n_⟩) iE.2).trans c8;refine KW (rs:= [8,15]) ZcE zw ?_;refine KX rfl (fun K hK=> ?_) (KX rfl (fun K hK=> ?_) KY)
  focus
   simp only [KZ,K0,K1];rw [if_pos (by rfl)];go_wp2_with fail;refine hK.out _ _ hS0 (fun bC=> ?_);clear hK K bC
   try simp only [pt,sb,s0,s1]
   refine L7 15 (fun K hK=> ?_);go_wp2_with fail;refine hK.out _ _ cm (fun bC=> ?_);clear hK K bC
   try simp only [pt,sb,s0,s1]
  rotate_left
  focus
   simp only [KZ,K0,K1];rw [if_pos (by rfl)];go_wp2_with fail;refine hK.out _ _ cm (fun bC=> ?_);clear hK K bC
   try simp only [pt,sb,s0,s1]
   refine L7 8 (fun K hK=> ?_);go_wp2_with fail;refine hK.out _ _ cm (fun bC=> ?_);clear hK K bC
   try simp only [pt,sb,s0,s1]
  all_goals
   clear c8 c9;obtain ⟨a8,c8,w8,hap,ho8,hg8,yD⟩:=ou (V3.alloc (c_ #[t_ v.held] 9)) bj y2.ak y2.aq y2.Ma ((S.I.fr.own.below b1).eE y2 (KA ky.I.2.2.2.2.1)) _ [v.held] 1 (jO (Kj _ _)) (by have h5:=tI.I.2.2.2.1; rw [tI.I.1] at h5; rw [HY2.I.1]; simp only [Lg,K4] at h5 ⊢; omega) (by have:=b1.size; have:=S.I.low; omega);have hkb:aI V3 w8 (blk y2.ak):=aI.grown b1 hg8;have hl8:(y2.Ma ++ [v.held]).length=y2.Ma.length+1:=by rw [Lf]; rfl
   simp only [Lg,K4,Li] at hap ho8;rw [<- hl8] at hap ho8;obtain ⟨s1,⟨u,c⟩,f⟩:=mB (n:=m) S.I.fr.own hkb ky.I.2.2.2.2.1 ky.I.2.2.2.2.2.1 ho8 (fun g hg=>(yD g hg).imp_right fun e=>by rw [e]; exact b1.size);rw [hl8] at hap s1;have HL8:bE ((y2.Ma ++ [v.held]).length=y2.Ma.length+1):=hl8;clear hl8;have iH: ∀ g,g∈blk y2.ak->g∈q2.Mc/\g≠Y5/\g≠gp/\Y5≠gp:=fun g hg=>IY S.I.fr.own ky.I.2.2.2.2.1 ky.I.2.2.2.2.2.1 ky.I.2.2.2.2.2.2.2 hg
   have hne:Y5≠gp:=Ig S.I.fr.own ky.I.2.2.2.2.2.1 ky.I.2.2.2.2.2.2.2;have hS8:av w8 w.heap.size q/\w8.cell? ⟨gp,i * 12+8,n_⟩=o_ (t_ v.held):=⟨(hkb.same _ (av.lt S.I.fr.box) fun hm=>S.I.fr.yO (Ki _) zo (iH _ hm).1).trans S.I.fr.box,(J1 (a:=⟨gp,i * 12+8,n_⟩) (hkb.same gp l9.2 fun hm=>(iH _ hm).2.2.1 rfl)).trans hS0.2⟩
   refine L7 16 (fun K hK=> ?_);refine cM _ _ _ rfl _ _ _ w8 rfl rfl hap ?_;refine hK.out _ _ hS8 (fun bC=> ?_);clear hK K bC
   try simp only [pt,sb]
   replace S:=aA (S.I.call s1);clear hap ho8 hg8 yD hkb s1 b1 hS0 cm iH iE l9;refine agi 17 hS8 ?_;refine agi 18 hS8 ?_;have FW:(w8.setCell ⟨Y5,m * 3+2,n_⟩ (s_ a8 (y2.Ma.length+1) c8)).cell? ⟨gp,i * 12+8,n_⟩=o_ (t_ v.held):=(J1 (a:=⟨gp,i * 12+8,n_⟩) (aH hne.symm)).trans hS8.2;refine L7 19 (fun K hK=> ?_);go_wp2_with fail;refine hK.out _ _ ⟨S.I.fr.box,FW⟩ (fun bC=> ?_);clear hK K bC;refine K3 ZcE ?_ _;clear c f u hS8 FW hne;go_upto_region 22 with fail;generalize w8.setCell ⟨Y5,m * 3+2,n_⟩ (s_ a8 (y2.Ma.length+1) c8)=G at *;obtain ⟨q3,IJ⟩: ∃ q3:af,q3= { q2 with ae:=q2.ae.set m { y2 with Ma:=y2.Ma ++ [v.held],ak:=a8,aq:=c8 } } :=⟨_,rfl⟩
   have Ck:bE (q3.pure=cV N (r ++ [v.held]) (ez t0 x.id q.pure)/\q3.cells=q.cells/\aQ q3.pure/\q3.L8[n]? =o_ { x with got:=t0 } /\q3.L8[i]? =o_ v/\q3.next=q.next):=by
    have h5:q3.pure=cV N (r ++ [v.held]) q2.pure:=by rw [IJ,<- HY2.I.1]; exact oN ky.I.2.2.1.ae ky.I.2.2.2.2.1 HY2.I.2.1
    have h6:cV N (r ++ [v.held]) q2.pure=cV N (r ++ [v.held]) (ez t0 x.id q.pure):=by rw [ky.I.1]; exact yY _ _ _ _
    have h7:aQ (cV N (r ++ [v.held]) (ez t0 x.id q.pure)):=by
     rw [<- HQ.I.1];refine gN HQ.I.2.2.1 (fun z hz hk=> ?_) (fun u hu=> ?_)
     .rw [HB.I.2.2.2.1] at hz; rw [only HR.I.1.ae HM.I.2.2 hz hk]; have h7:=tI.I.2.2.2.2; rw [tI.I.1] at h7; have h8:y.toci.max=y.max:=rfl; simp only [Lg,Lf,K4] at h7 ⊢; omega
     .exact (Kg.1 hu).elim (fun hu=>tI.I.2.2.1 u hu) (fun hu=>by simp only [Kt,Ku,or_false] at hu; rw [hu]; have h8:=iF (ky.I.2.2.1.proc (iu HW.I.2.1)).2.1; unfold jY at h8; simp only [J7] at h8; exact h8.1.1.2)
    exact ⟨by rw [h5,h6],by rw [IJ]; exact Eq.trans (by unfold af.cells; simp) ky.I.2.1,by rw [h5,h6]; exact h7,by rw [IJ]; exact ky.I.2.2.2.1,by rw [IJ]; exact HW.I.2.1,by rw [IJ]; exact ky.I.2.2.2.2.2.2.1⟩
   rw [<- IJ] at S;clear IJ HL8;have Mb:=lP (n:=i) S.I.fr.own S.I.low Ck.I.2.2.1 Ck.I.2.2.2.2.1 ZcX (by rw [Ck.I.2.2.2.2.2]; have:=HR.I.2.2.2.1; omega);rw [Ck.I.1,Ck.I.2.1] at Mb;go_wp2_with (refine eT 4 S.I.fr.box ?_);refine Mb.mono ?_;clear Mb;rintro e G2 ⟨q4,rfl,hp,ht⟩;replace S:=aA (S.I.call ht);rw [<- Ck.I.1] at hp;obtain ⟨hr4,x4,hx4,sw⟩:=qp Ck.I.2.2.1 Ck.I.2.2.2.1 HR.I.2.2.1 Ck.I.2.2.2.2.1 ZcX ZcX (.inl rfl) (by rw [Ck.I.2.2.2.2.2]; have:=HR.I.2.2.2.1; omega) hp;have S2:=aA S.I.put;go_upto_region 23 with (refine ec 4 135 q4.cells S.I.fr.box ?_);generalize G2.setRow w.heap.size q4.cells=G3 at *;clear S;have S:=S2;clear S2;have Mb:=bB (n:=n) 0 S.I.fr.own S.I.low hr4 hx4 (by rw [show x4.Md=x.Md by have h5:=congrArg aD.Md sw; exact h5,HR.I.2.2.1]; decide);rw [show x4.id=x.id by have h5:=congrArg aD.id sw; exact h5,hp,Ck.I.1,<- HE.I] at Mb;clear hp ht hr4 hx4 sw;go_wp2_with (refine eT 4 S.I.fr.box ?_);refine Mb.mono ?_;clear Mb;rintro e G32 ⟨q5,rfl,hp,ht⟩;replace S:=aA (S.I.call ht);have HP:bE (q5.pure=_):=hp;clear hp ht;go_wp2_with (refine ec 8 138 q5.cells S.I.an ?_);refine gZ results90 S.I.an ?_;exact ⟨q5,rfl,HP.I,S.I.done _⟩
end Go.Proofs.YtfncpmaefninjaaGreatDoor

namespace Go.Proofs.YtfncpmaefninjaaGreatDoor
open Go.Maps
attribute [local go_sem ↓] Kc Kd
theorem BE (q:af) (n bj:Nat) (x:ao) (bA:Int) (o:dN) (w:w_) (h:ap w bj q) (hb:bj<=w.heap.size) (hr:aQ q.pure) (hx:q.L8[n]? =o_ x) (hs:x.Md=1) (hn:q.next<=999999990) (eu:0<=bA/\bA<=1000000000) (ho:kc o=true) (hk:o.1=7):
  k_ J3 89 #[a_ q.cells,i_ j_ n,a_ (j9 o),i_ j_ bA] w (jH w bj q (dE o bA x.id q.pure)):=by
 obtain ⟨-,f1,f2,f3,f4⟩:=dv ho;have hM:=bz.1 f2;obtain ⟨k,N,M,s⟩:=o;simp only at hk hM f1 f3 f4;subst hk;have HR:=aA (SD hr hx hs hn eu hM);have HF:=aA (dW hr);clear f2 hr hx hs hn eu hM ho;have S:=aA (Xf.start (o:=(7,N,M,s)) h hb);clear h hb
 go_enter func89,ntmps89
 go_upto_region 1 with fail;generalize ((w.alloc (c_ q.cells 31)).alloc (c_ (j9 (7,N,M,s)) 45)).alloc (c_ ar 31)=A at *;obtain ⟨-,o1,-,-⟩:=S.I.op.cells;simp only at o1;have Mb:=lw q N A ZcL S.I.fr.own.at;go_wp2_with (refine eT 4 S.I.fr.box ?_);refine Mb.mono ?_;clear Mb;rintro e A2 ⟨rfl,hb2⟩;replace S:=aA (S.I.reads hb2);clear hb2 o1;generalize place (q.aj.map (fun x=>x.id)) N 0=z0 at *;obtain ⟨o0,o1,-,-⟩:=S.I.op.cells;simp only at o0 o1;have hpf:=ef (num:=fun x:aB=>x.id) N q.L9 0;have Mb:=ml q N A2 ZcL S.I.fr.own.at;generalize place (q.L9.map (fun x=>x.id)) N 0=z at *;go_wp2_with (refine eT 4 S.I.fr.box ?_);refine Mb.mono ?_;clear Mb;rintro e A3 ⟨rfl,hb2⟩;replace S:=aA (S.I.reads hb2);clear hb2 o0 o1;obtain ⟨o0,-,-,-⟩:=S.I.op.cells;simp only at o0;rcases hpf with ⟨hz,hf⟩ | ⟨m,y,hz,hm,hid,hf⟩
 .subst hz
  have HE:bE (dE (7,N,M,s) bA x.id q.pure=bu 3 x.id q.pure):=by show dE (7,N,M,s) bA x.id q.pure=_; unfold dE; rw [show cg (fun x:aB=>x.id) N q.pure.L9=n_ from hf]
  exact gc
 rw [Li] at hz;subst hz;have afO:decide ((m:Int) < 0)=false:=decide_eq_false zo;have HM:bE (q.L9[m]? =o_ y/\y.id=N/\cg (fun x:aB=>x.id) N q.L9=o_ y):=⟨hm,hid,hf⟩
 have hml:=(Lj.1 hm).1;have j0:(0:Int)<=(m:Int):=zo
 have j1:(m:Int) < (q.L9.length:Int):=zo
 obtain ⟨Y5,iE,hat⟩:=j4 S.I.fr.own.at.2.2.1 hm;have m4:=S.I.fr.box.cells.2.2.2.2.1;rw [iE] at m4;have HG:bE (q.ay=o_ ⟨Y5,0,n_⟩):=iE;have d1:=hat.2;clear hm hid hf hml hat iE;cases hu:y.up
 .rw [hu] at d1
  have HE:bE (dE (7,N,M,s) bA x.id q.pure=mX 4 (7,N,M,s) bA x.id q.pure):=by show dE (7,N,M,s) bA x.id q.pure=_; unfold dE; rw [show cg (fun x:aB=>x.id) N q.pure.L9=o_ y from HM.I.2.2]; simp [hu]
  clear hu;have Mb:=oR q n bj x 4 bA (7,N,M,s) A3 S.I.fr.own S.I.low HR.I.1 HR.I.2.1 ZcN Zc9 HR.I.2.2.2.2.1 HR.I.2.2.2.2.2;go_wp2_with (first | (refine eT 4 S.I.fr.box ?_) | (refine LS rfl 45 (.tmp 6) rfl (w.heap.size+1) (by rfl) 45 (j9 (7,N,M,s)) (0,0) _ S.I.op underlying45 rfl ZcE ?_));refine Mb.mono ?_;clear Mb;rintro e A2 ⟨q2,rfl,hp,ht⟩;replace S:=aA (S.I.call ht);have HP:bE (q2.pure=_):=hp;clear hp ht;go_wp2_with (refine ec 8 142 q2.cells S.I.an ?_);refine gZ results89 S.I.an ?_;exact jp
 .rw [hu] at d1
  have HE:bE (dE (7,N,M,s) bA x.id q.pure=bu 0 x.id q.pure):=by show dE (7,N,M,s) bA x.id q.pure=_; unfold dE; rw [show cg (fun x:aB=>x.id) N q.pure.L9=o_ y from HM.I.2.2]; simp [hu]
  clear hu;have Mb:=bB (n:=n) 0 S.I.fr.own S.I.low HR.I.1 HR.I.2.1 ZcN;exact Zcb
theorem Ab (q:af) (n bj:Nat) (x:ao) (bA:Int) (o:dN) (w:w_) (h:ap w bj q) (hb:bj<=w.heap.size) (hr:aQ q.pure) (hx:q.L8[n]? =o_ x) (hs:x.Md=1) (hn:q.next<=999999990) (eu:0<=bA/\bA<=1000000000) (ho:kc o=true) (hk:o.1=6):
  k_ J3 89 #[a_ q.cells,i_ j_ n,a_ (j9 o),i_ j_ bA] w (jH w bj q (dE o bA x.id q.pure)):=by
 obtain ⟨-,f1,f2,f3,f4⟩:=dv ho;have hM:=bz.1 f2;obtain ⟨k,N,M,s⟩:=o;simp only at hk hM f1 f3 f4;subst hk;have HR:=aA (SD hr hx hs hn eu hM);have HF:=aA (dW hr);clear f2 hr hx hs hn eu hM ho;have S:=aA (Xf.start (o:=(6,N,M,s)) h hb);clear h hb
 go_enter func89,ntmps89
 go_upto_region 1 with fail;generalize ((w.alloc (c_ q.cells 31)).alloc (c_ (j9 (6,N,M,s)) 45)).alloc (c_ ar 31)=A at *;obtain ⟨-,o1,-,-⟩:=S.I.op.cells;simp only at o1;have Mb:=lw q N A ZcL S.I.fr.own.at;go_wp2_with (refine eT 4 S.I.fr.box ?_);refine Mb.mono ?_;clear Mb;rintro e A2 ⟨rfl,hb2⟩;replace S:=aA (S.I.reads hb2);clear hb2 o1;generalize place (q.aj.map (fun x=>x.id)) N 0=z0 at *;obtain ⟨o0,o1,-,-⟩:=S.I.op.cells;simp only at o0 o1;have hpf:=ef (num:=fun x:aB=>x.id) N q.L9 0;have Mb:=ml q N A2 ZcL S.I.fr.own.at;generalize place (q.L9.map (fun x=>x.id)) N 0=z at *;go_wp2_with (refine eT 4 S.I.fr.box ?_);refine Mb.mono ?_;clear Mb;rintro e A3 ⟨rfl,hb2⟩;replace S:=aA (S.I.reads hb2);clear hb2 o0 o1;obtain ⟨o0,-,-,-⟩:=S.I.op.cells;simp only at o0;rcases hpf with ⟨hz,hf⟩ | ⟨m,y,hz,hm,hid,hf⟩
 .subst hz
  have HE:bE (dE (6,N,M,s) bA x.id q.pure=bu 3 x.id q.pure):=by show dE (6,N,M,s) bA x.id q.pure=_; unfold dE; rw [show cg (fun x:aB=>x.id) N q.pure.L9=n_ from hf]
  exact gc
 rw [Li] at hz;subst hz;have afO:decide ((m:Int) < 0)=false:=decide_eq_false zo;have HM:bE (q.L9[m]? =o_ y/\y.id=N/\cg (fun x:aB=>x.id) N q.L9=o_ y):=⟨hm,hid,hf⟩
 have hml:=(Lj.1 hm).1;have j0:(0:Int)<=(m:Int):=zo
 have j1:(m:Int) < (q.L9.length:Int):=zo
 obtain ⟨Y5,iE,hat⟩:=j4 S.I.fr.own.at.2.2.1 hm;have m4:=S.I.fr.box.cells.2.2.2.2.1;rw [iE] at m4;have HG:bE (q.ay=o_ ⟨Y5,0,n_⟩):=iE;have HE:bE (dE (6,N,M,s) bA x.id q.pure=bu 0 x.id (gL N false q.pure)):=by show dE (6,N,M,s) bA x.id q.pure=_; unfold dE; rw [show cg (fun x:aB=>x.id) N q.pure.L9=o_ y from HM.I.2.2]; rfl
 clear hm hid hf hml hat iE;obtain ⟨s1,⟨u,c⟩,f⟩:=rv (n:=m) (j:=1) (v:=b_ false) (y:= { y with up:=false }) S.I.fr.own HM.I.1 HG.I (by decide) rfl;replace S:=aA (S.I.call s1);clear s1;go_upto_region 29 with fail;generalize A3.setCell ⟨Y5,m * 2+1,n_⟩ (b_ false)=C at *;clear m4 c f u afO j0 j1 o0;have hq:({ q with L9:=q.L9.set m { y with up:=false } } :af).pure=gL N false q.pure:=by show ({ q.pure with L9:=q.L9.set m { y with up:=false } } :aE)=_; unfold gL; rw [jF (num:=fun x:aB=>x.id) (db HR.I.1.L9).2 HM.I.1 HM.I.2.1]; rfl
 have Hv:af.cells ({ q with L9:=q.L9.set m { y with up:=false } } :af)=q.cells:=by unfold af.cells; simp
 have hr2:aQ (gL N false q.pure):=kw HR.I.1;rw [<- hq] at hr2;have Mb:=bB (n:=n) 0 S.I.fr.own S.I.low hr2 HR.I.2.1 ZcN;rw [hq,Hv] at Mb;clear hq Hv hr2;exact Zcb
theorem Ey (q:af) (n bj:Nat) (x:ao) (bA:Int) (o:dN) (w:w_) (h:ap w bj q) (hb:bj<=w.heap.size) (hr:aQ q.pure) (hx:q.L8[n]? =o_ x) (hs:x.Md=1) (hn:q.next<=999999990) (eu:0<=bA/\bA<=1000000000) (ho:kc o=true) (hk:o.1=5):
  k_ J3 89 #[a_ q.cells,i_ j_ n,a_ (j9 o),i_ j_ bA] w (jH w bj q (dE o bA x.id q.pure)):=by
 obtain ⟨-,f1,f2,f3,f4⟩:=dv ho;have hM:=bz.1 f2;obtain ⟨k,N,M,s⟩:=o;simp only at hk hM f1 f3 f4;subst hk;have HR:=aA (SD hr hx hs hn eu hM);have HF:=aA (dW hr);clear f2 hr hx hs hn eu hM ho;have S:=aA (Xf.start (o:=(5,N,M,s)) h hb);clear h hb
 go_enter func89,ntmps89
 go_upto_region 1 with fail;generalize ((w.alloc (c_ q.cells 31)).alloc (c_ (j9 (5,N,M,s)) 45)).alloc (c_ ar 31)=A at *;obtain ⟨-,o1,-,-⟩:=S.I.op.cells;simp only at o1;have Mb:=lw q N A ZcL S.I.fr.own.at;go_wp2_with (refine eT 4 S.I.fr.box ?_);refine Mb.mono ?_;clear Mb;rintro e A2 ⟨rfl,hb2⟩;replace S:=aA (S.I.reads hb2);clear hb2 o1;generalize place (q.aj.map (fun x=>x.id)) N 0=z0 at *;obtain ⟨o0,o1,-,-⟩:=S.I.op.cells;simp only at o0 o1;have hpf:=ef (num:=fun x:aB=>x.id) N q.L9 0;have Mb:=ml q N A2 ZcL S.I.fr.own.at;generalize place (q.L9.map (fun x=>x.id)) N 0=z at *;go_wp2_with (refine eT 4 S.I.fr.box ?_);refine Mb.mono ?_;clear Mb;rintro e A3 ⟨rfl,hb2⟩;replace S:=aA (S.I.reads hb2);clear hb2 o0 o1;obtain ⟨o0,o1,-,-⟩:=S.I.op.cells;simp only at o0 o1;rcases hpf with ⟨hz,hf⟩ | ⟨m,y,hz,hm,hid,hf⟩
 .subst hz
  have HE:bE (dE (5,N,M,s) bA x.id q.pure=bu 3 x.id q.pure):=by show dE (5,N,M,s) bA x.id q.pure=_; unfold dE; rw [show cg (fun x:aB=>x.id) N q.pure.L9=n_ from hf]
  exact gc
 rw [Li] at hz;subst hz;have afO:decide ((m:Int) < 0)=false:=decide_eq_false zo;have HM:bE (q.L9[m]? =o_ y/\y.id=N/\cg (fun x:aB=>x.id) N q.L9=o_ y):=⟨hm,hid,hf⟩
 have hml:=(Lj.1 hm).1;have j0:(0:Int)<=(m:Int):=zo
 have j1:(m:Int) < (q.L9.length:Int):=zo
 obtain ⟨Y5,iE,hat⟩:=j4 S.I.fr.own.at.2.2.1 hm;have m4:=S.I.fr.box.cells.2.2.2.2.1;rw [iE] at m4;have HG:bE (q.ay=o_ ⟨Y5,0,n_⟩):=iE;have HE:bE (dE (5,N,M,s) bA x.id q.pure=bu 0 x.id (ff (fun y=>y) 4 N (gL N true q.pure))):=by show dE (5,N,M,s) bA x.id q.pure=_; unfold dE; rw [show cg (fun x:aB=>x.id) N q.pure.L9=o_ y from HM.I.2.2]; rfl
 clear o1;clear hm hid hf hml hat iE;obtain ⟨s1,⟨u,c⟩,f⟩:=rv (n:=m) (j:=1) (v:=b_ true) (y:= { y with up:=true }) S.I.fr.own HM.I.1 HG.I (by decide) rfl;replace S:=aA (S.I.call s1);clear s1;go_upto_region 20 with fail;generalize A3.setCell ⟨Y5,m * 2+1,n_⟩ (b_ true)=C at *;clear m4 c f u afO j0 j1 o0;have hq:({ q with L9:=q.L9.set m { y with up:=true } } :af).pure=gL N true q.pure:=by show ({ q.pure with L9:=q.L9.set m { y with up:=true } } :aE)=_; unfold gL; rw [jF (num:=fun x:aB=>x.id) (db HR.I.1.L9).2 HM.I.1 HM.I.2.1]; rfl
 have Hv:af.cells ({ q with L9:=q.L9.set m { y with up:=true } } :af)=q.cells:=by unfold af.cells; simp
 have hr2:aQ (gL N true q.pure):=kw HR.I.1;obtain ⟨q1,hq1⟩: ∃ q1:af,q1= { q with L9:=q.L9.set m { y with up:=true } } :=⟨_,rfl⟩
 rw [<- hq1] at hq Hv S;rw [<- hq] at hr2;have HQ:bE (q1.pure=gL N true q.pure/\q1.cells=q.cells/\aQ q1.pure/\q1.L8[n]? =o_ x/\q1.next<=999999990):=⟨hq,Hv,hr2,by rw [hq1]; exact HR.I.2.1,by rw [hq1]; exact HR.I.2.2.2.1⟩
 have Mb:=ij q1 4 N C (by have:=(dW HQ.I.2.2.1).1; omega) S.I.fr.own.at;rw [Hv] at Mb;clear hq Hv hr2 hq1;obtain ⟨-,o1,-,-⟩:=S.I.op.cells;simp only at o1;go_wp2_with (refine eT 4 S.I.fr.box ?_);refine Mb.mono ?_;clear Mb o1;rintro e afl ⟨⟨z,rfl,gV⟩,hb2⟩;replace S:=aA (S.I.reads hb2);clear hb2;have afW:bE (Xf w bj q q1 q1 (5,N,M,s) afl):=⟨⟨by have h5:=S.I.fr.box; unfold av at h5 ⊢; exact h5.trans (congrArg (fun c=>o_ (Obj.cells c 31 (0,0))) HQ.I.2.1.symm),S.I.fr.own,S.I.fr.kept,S.I.fr.far,S.I.fr.lo,S.I.fr.sz⟩,S.I.op,S.I.an⟩
 have HI:=aA (If.start (f:=fun y=>y) (n:=n) (x:=x.toaD) HQ.I.2.2.1 (mj HQ.I.2.2.2.1) HQ.I.2.2.2.2 gV);rw [HQ.I.1] at HI;clear gV S;go_wp2_with fail
 go_loopg [11] ((gL N true q.pure).L8.filter (ie 4 N)).length (fun k b wr=> ∃ (qk:af) (z:Int),b=i_ j_ z/\bE (If (fun y=>y) 4 N (ff (fun y=>y) 4 N (gL N true q.pure)) n x.toaD k qk z/\Xf w bj q qk qk (5,N,M,s) wr))
 case atStart=>exact ⟨q1,z,rfl,HI.I,afW.I⟩
 case round=>
  obtain ⟨qk,z,rfl,HK⟩:=hrel;have S:=aA HK.I.2;rcases pp HK.I.1.best with ⟨hz,hw⟩ | ⟨i,v,hz,hi,hw⟩
  .have afO:decide (z>=0)=false:=decide_eq_false zo
   obtain ⟨x2,hx2,sw⟩:=tQ HK.I.1.pos;have HT:bE (bu 0 x2.id qk.pure=dE (5,N,M,s) bA x.id q.pure):=by show bu 0 x2.id qk.pure=_; rw [HE.I,<- HK.I.1.same,qO hw,show x2.id=x.id from congrArg aD.id sw]
   have Mb:=bB (n:=n) 0 S.I.fr.own S.I.low HK.I.1.r hx2 ZcM;clear hz hw hx2 sw;go_wp2_with (refine eT 4 S.I.fr.box ?_);refine Mb.mono ?_;clear Mb;rintro e A2 ⟨q2,rfl,hp,ht⟩;replace S:=aA (S.I.call ht);have HP:bE (q2.pure=_):=hp;clear hp ht;go_wp2_with (refine ec 8 145 q2.cells S.I.an ?_);refine gZ results89 S.I.an ?_;exact ⟨q2,rfl,HP.I.trans HT.I,S.I.done _⟩
  subst hz;have afO:decide ((i:Int)>=0)=true:=decide_eq_true zo;have HW:bE (jl 4 N qk.pure.L8=o_ v.toaD/\qk.L8[i]? =o_ v/\v.Md=4):=⟨hw,hi,(ft hw).2.1⟩
  clear hw hi;have Mb:=lP (n:=i) S.I.fr.own S.I.low HK.I.1.r HW.I.2.1 ZcX (by have:=HK.I.1.nx; omega);go_wp2_with (refine eT 4 S.I.fr.box ?_);refine Mb.mono ?_;clear Mb afO;rintro e D ⟨q2,rfl,hp,ht⟩;replace S:=aA (S.I.call ht);have HJ:=aA (HK.I.1.step (q2:=q2) HR.I.2.2.1 ⟨by decide,by decide⟩ (.inl rfl) HW.I.1 hp);clear hp ht;have S2:=aA S.I.put;go_upto_region 22 with (refine ec 4 121 q2.cells S.I.fr.box ?_);generalize D.setRow w.heap.size q2.cells=af3 at *;clear S;have S:=S2;clear S2;obtain ⟨-,o1,-,-⟩:=S.I.op.cells;simp only at o1;have Mb:=ij q2 4 N af3 (by have:=(dW HJ.I.2.2.1).1; omega) S.I.fr.own.at;go_wp2_with (refine eT 4 S.I.fr.box ?_);refine Mb.mono ?_;clear Mb o1;rintro e afY ⟨⟨z2,rfl,gV⟩,hb2⟩;exact ZaB
end Go.Proofs.YtfncpmaefninjaaGreatDoor

namespace Go.Proofs.YtfncpmaefninjaaGreatDoor
open Go.Maps
attribute [local go_sem ↓] Kc Kd
theorem tF (p:af) (z:bD) (w:w_) (b0:Nat) (hwf:(Lit.int j_ z.id).wf=true) (qY:p.pure.Small) (h:ap w b0 p):
  k_ J3 73 #[a_ p.cells,a_ #[i_ j_ z.id,i_ j_ z.n,i_ j_ z.max]] w fun e w'=>gI w (cB p.pure { p.pure with aj:=cA (·.id) z p.pure.aj }) e w':=by
 have HB:bE (av (((w.alloc (c_ p.cells 31)).alloc (c_ #[i_ j_ z.id,i_ j_ z.n,i_ j_ z.max] 89)).alloc (c_ ar 31)) w.heap.size p/\ap (((w.alloc (c_ p.cells 31)).alloc (c_ #[i_ j_ z.id,i_ j_ z.n,i_ j_ z.max] 89)).alloc (c_ ar 31)) b0 p/\B_ w.heap.size w (((w.alloc (c_ p.cells 31)).alloc (c_ #[i_ j_ z.id,i_ j_ z.n,i_ j_ z.max] 89)).alloc (c_ ar 31))/\(((w.alloc (c_ p.cells 31)).alloc (c_ #[i_ j_ z.id,i_ j_ z.n,i_ j_ z.max] 89)).alloc (c_ ar 31)).heap[w.heap.size+1+1]? =o_ (c_ ar 31)):=by
  have b1:B_ w.heap.size w (((w.alloc (c_ p.cells 31)).alloc (c_ #[i_ j_ z.id,i_ j_ z.n,i_ j_ z.max] 89)).alloc (c_ ar 31)):=fg _ _ _ _;have h3:=dR w (c_ p.cells 31) (c_ #[i_ j_ z.id,i_ j_ z.n,i_ j_ z.max] 89) (c_ ar 31);exact ⟨h3.1,h.below b1,b1,h3.2.2.1⟩
 have Cj:bE ((((w.alloc (c_ p.cells 31)).alloc (c_ #[i_ j_ z.id,i_ j_ z.n,i_ j_ z.max] 89)).alloc (c_ ar 31)).heap[w.heap.size+1]? =o_ (c_ #[i_ j_ z.id,i_ j_ z.n,i_ j_ z.max] 89)):=(dR _ _ _ _).2.1;have fl:bE (p.Fit/\(∀ x∈p.L8,x.dX)/\p.pure.Small/\(Lit.int j_ z.id).wf=true):=⟨dV qY,fun x hx=>(cY qY hx).1,qY,hwf⟩
 have hpl:=fl.I.1.short.aj;have hcap:p.aj.length<=p.bF:=nV h.aj;have pd: ∀ g∈p.Mc,g < w.heap.size:=fun g hg=>(h.lt g hg).2
 clear h qY hwf;obtain ⟨m0,m1,m2,m3,m4,m5,m6,m7⟩:=HB.I.1.cells;unfold af.cells at *
 go_enter func73,ntmps73
 go_wp2_with fail;generalize ((w.alloc (c_ p.row 31)).alloc (c_ #[i_ j_ z.id,i_ j_ z.n,i_ j_ z.max] 89)).alloc (c_ ar 31)=W at *;clear m0 m1 m2 m3 m4 m5 m6 m7;refine (fR p W fl.I.1 fl.I.2.1 HB.I.2.1.at).mono ?_;rintro e W1 ⟨q,rfl,hown,gn,hb1⟩;have hb2:B_ W1.heap.size W1 (W1.alloc (c_ q.cells 31)):=(Kp _ _).alloc (Ki _) _;have hlt:w.heap.size+1+1 < W.heap.size:=(J2.1 HB.I.2.2.2).1;have hb3:B_ W.heap.size W (W1.alloc (c_ q.cells 31)):=hb1.trans (hb2.mono hb1.size);have hq1: ∀ g∈q.Mc,g < W1.heap.size:=fun g hg=>(hown.lt g hg).2
 have HQ:bE (av (W1.alloc (c_ q.cells 31)) W1.heap.size q/\ap (W1.alloc (c_ q.cells 31)) W.heap.size q/\q.pure=p.pure/\(∀ g∈q.Mc,g < W1.heap.size)/\W.heap.size<=W1.heap.size/\w.heap.size+1+1 < W.heap.size/\W1.heap.size < (W1.alloc (c_ q.cells 31)).heap.size):=⟨Kj _ _,hown.below hb2,gn,hq1,hb1.size,hlt,by simp⟩
 replace HB:bE (av (W1.alloc (c_ q.cells 31)) w.heap.size p/\ap (W1.alloc (c_ q.cells 31)) b0 p/\B_ w.heap.size w (W1.alloc (c_ q.cells 31))/\(W1.alloc (c_ q.cells 31)).heap[w.heap.size+1+1]? =o_ (c_ ar 31)):=⟨HB.I.1.below hb3,HB.I.2.1.below hb3,HB.I.2.2.1.trans (hb3.mono HB.I.2.2.1.size),(hb3.block _ hlt).trans HB.I.2.2.2⟩
 replace Cj:bE ((W1.alloc (c_ q.cells 31)).heap[w.heap.size+1]? =o_ (c_ #[i_ j_ z.id,i_ j_ z.n,i_ j_ z.max] 89)):=(hb3.block _ zo).trans Cj.I;have Au:bE (∀ g∈p.Mc,g < w.heap.size):=fun g hg=>pd g hg
 clear hown gn hb1 hb2 hb3 hq1 hlt pd;obtain ⟨m0,m1,m2,m3,m4,m5,m6,m7⟩:=HB.I.1.cells;unfold af.cells at *;go_wp2_with fail;generalize W1.alloc (c_ q.row 31)=W2 at *;clear m0 m1 m2 m4 m5 m6 m7;generalize W1.heap.size=o at *;clear m3
 go_loopw [7] (fun i wr=> ∃ k:Nat,k<=p.aj.length/\i=i_ j_ k/\bE (∀ y∈p.aj.take k,y.id < z.id)/\bE (B_ W2.heap.size W2 wr)) (fun i _=>p.aj.length - (Go.RowKit.intOf i).toNat)
 case atStart=>exact ⟨0,Ky _,rfl,fun y hy=>by simp at hy,Kp _ _⟩
 case round=>
  obtain ⟨k,hk,rfl,HA,Ez⟩:=hrel;have hbr:B_ W2.heap.size W2 wr.drew.drew:=Ez.I.drew.drew;have hsz:=hbr.size;replace Ez:bE (B_ W2.heap.size W2 wr.drew):=Ez.I.drew;have hq:=HQ.I;have hzl:w.heap.size+1 < W2.heap.size:=zo
  replace HB:bE (av wr.drew.drew w.heap.size p/\ap wr.drew.drew b0 p/\B_ w.heap.size w wr.drew.drew/\wr.drew.drew.heap[w.heap.size+1+1]? =o_ (c_ ar 31)):=⟨HB.I.1.below hbr,HB.I.2.1.below hbr,HB.I.2.2.1.trans (hbr.mono HB.I.2.2.1.size),(hbr.block _ zo).trans HB.I.2.2.2⟩
  replace HQ:bE (av wr.drew.drew o q/\ap wr.drew.drew W.heap.size q/\q.pure=p.pure/\(∀ g∈q.Mc,g < o)/\W.heap.size<=o/\w.heap.size+1+1 < W.heap.size/\o < wr.drew.drew.heap.size):=⟨hq.1.below hbr,hq.2.1.below hbr,hq.2.2.1,hq.2.2.2.1,hq.2.2.2.2.1,hq.2.2.2.2.2.1,zo⟩
  replace Cj:bE (wr.drew.drew.heap[w.heap.size+1]? =o_ (c_ #[i_ j_ z.id,i_ j_ z.n,i_ j_ z.max] 89)):=(hbr.block _ hzl).trans Cj.I;clear hbr hsz hq hzl;have m:wr.drew.cell? ⟨w.heap.size,3,n_⟩=o_ (s_ p.bc p.aj.length p.bF):=HB.I.1.cells.2.2.2.1;have z0:wr.drew.cell? ⟨w.heap.size+1,0,n_⟩=o_ (i_ j_ z.id):=(gm (x:=z) Cj.I).1;have i0:(0:Int)<=(k:Int):=zo
  have icap:(k:Int)<=(p.bF:Int):=zo
  have i2:(k:Int)<=(p.aj.length:Int):=zo
  rcases zm (fun y:bD=>y.id) z.id p.aj k with ⟨x,hx,hc,hlt⟩ | ⟨x,hx,hc,hlt⟩ | hlt
  .have HT:bE (∀ y∈p.aj.take (k+1),y.id < z.id):=nE hx HA.I hc
   have i1:(k:Int) < (p.aj.length:Int):=zo
   have d1:decide ((k:Int) < (p.aj.length:Int))=true:=decide_eq_true i1;have d2:decide (x.id < z.id)=true:=decide_eq_true hc;obtain ⟨g,ha,hat⟩:=lQ HB.I.2.1.at.2.1 hx;have c0:wr.drew.cell? ⟨g,k * 3,n_⟩=o_ (i_ j_ x.id):=hat.1;have m2:=m;rw [ha] at m2;clear hat hx ha hc;clear m;go_wp2_with fail;refine aT (fun w'=>w'=wr.drew) ZcE rfl ?_
   iterate 16 (refine PI ?_ (hy:=fun w0 hS0=>by subst hS0; go_simp; try with_reducible rfl))
   refine bk ZcE ?_ _;intro w1 cm;subst cm;go_wp2;go_roundw
   case rel=>exact ⟨k+1,zo,by go_num,HT.I,Ez.I⟩
   case measure=>simp [Go.RowKit.intOf]; omega
  focus
   have HX:bE (∀ y,p.aj[k]? =o_ y-> ¬ y.id < z.id):=fun y hy e=>by rw [hx] at hy; cases hy; exact hc e
   have i1:(k:Int) < (p.aj.length:Int):=zo
   have d1:decide ((k:Int) < (p.aj.length:Int))=true:=decide_eq_true i1;have d2:decide (x.id < z.id)=false:=decide_eq_false hc;obtain ⟨g,ha,hat⟩:=lQ HB.I.2.1.at.2.1 hx;have c0:wr.drew.cell? ⟨g,k * 3,n_⟩=o_ (i_ j_ x.id):=hat.1;have m2:=m;rw [ha] at m2;clear hat hx ha hc;clear m;go_wp2_with fail;refine aT (fun w'=>w'=wr.drew) ZcE rfl ?_
   iterate 16 (refine PI ?_ (hy:=fun w0 hS0=>by subst hS0; go_simp; try with_reducible rfl))
   refine bk ZcE ?_ _;intro w1 cm;subst cm;clear i1 d1 d2 c0 m2
  rotate_left
  focus
   have HX:bE (∀ y,p.aj[k]? =o_ y-> ¬ y.id < z.id):=fun y hy=>absurd (Lj.1 hy).1 hlt
   have d1:decide ((k:Int) < (p.aj.length:Int))=false:=decide_eq_false zo;go_wp2_with fail;refine aT (fun w'=>w'=wr.drew) ZcE rfl ?_
   iterate 6 (refine PI ?_ (hy:=fun w0 hS0=>by subst hS0; go_simp; try with_reducible rfl))
   iterate 9 (refine nl ?_; simp only [pt,sb,s0,s1])
   (refine PI ?_ (hy:=fun w0 hS0=>by subst hS0; go_simp; try with_reducible rfl))
   refine bk ZcE ?_ _;intro w1 cm;subst cm;clear d1 m
  all_goals
   clear hlt z0 Ez;go_wp2_with fail;refine Kr (S:=fun w'=>av w' w.heap.size p/\w'.heap[w.heap.size+1]? =o_ (c_ #[i_ j_ z.id,i_ j_ z.n,i_ j_ z.max] 89)) ZcE ⟨HB.I.1,Cj.I⟩ (fun bC=> ?_);generalize wr.drew.drew=V2 at *;refine tt 1 bC ?_ (hy:=fun w0 hS0=>by have q0:w0.cell? ⟨w.heap.size,3,n_⟩=o_ (s_ p.bc p.aj.length p.bF):=hS0.1.cells.2.2.2.1; obtain ⟨q1,q2,q3⟩:=gm (x:=z) hS0.2; go_simp; try with_reducible rfl);refine tt 2 bC ?_ (hy:=fun w0 hS0=>by have q0:w0.cell? ⟨w.heap.size,3,n_⟩=o_ (s_ p.bc p.aj.length p.bF):=hS0.1.cells.2.2.2.1; obtain ⟨q1,q2,q3⟩:=gm (x:=z) hS0.2; go_simp; try with_reducible rfl);refine tt 3 bC ?_ (hy:=fun w0 hS0=>by have q0:w0.cell? ⟨w.heap.size,3,n_⟩=o_ (s_ p.bc p.aj.length p.bF):=hS0.1.cells.2.2.2.1; obtain ⟨q1,q2,q3⟩:=gm (x:=z) hS0.2; go_simp; try with_reducible rfl);refine tt 4 bC ?_ (hy:=fun w0 hS0=>by have q0:w0.cell? ⟨w.heap.size,3,n_⟩=o_ (s_ p.bc p.aj.length p.bF):=hS0.1.cells.2.2.2.1; obtain ⟨q1,q2,q3⟩:=gm (x:=z) hS0.2; go_simp; try with_reducible rfl);refine tt 6 bC ?_ (hy:=fun w0 hS0=>by have q0:w0.cell? ⟨w.heap.size,3,n_⟩=o_ (s_ p.bc p.aj.length p.bF):=hS0.1.cells.2.2.2.1; obtain ⟨q1,q2,q3⟩:=gm (x:=z) hS0.2; go_simp; try with_reducible rfl);clear bC;have hkl:(p.aj.take k).length=k:=by rw [Lk]; omega
   have hq:=HQ.I;have hS: ∀ W,B_ V2.heap.size V2 W->av W w.heap.size p/\W.heap[w.heap.size+1]? =o_ (c_ #[i_ j_ z.id,i_ j_ z.n,i_ j_ z.max] 89):=fun W hb=>⟨(hb.block _ zo).trans HB.I.1,(hb.block _ zo).trans Cj.I⟩
   have wg:bE (∀ (W:w_) (g:Nat),B_ V2.heap.size V2 W->W.heap[g]? =o_ (c_ #[] 89)->V2.heap.size<=g-> ∃ a5 c5 w5,(Builtin.append_ #[25,25] 25 #[s_ (o_ ⟨g,0,n_⟩) 0 0,s_ p.bc k p.bF]).run J3 W= .ok (s_ a5 k c5) w5/\w5.ownsRow V2.heap.size 89 3 (s_ a5 k c5) k (dm.flat (p.aj.take k))/\B_ V2.heap.size V2 w5/\B_ V2.heap.size V2 w5/\ ∀ h,V2.heap.size<=h->h≠g->h < W.heap.size->w5.heap[h]? =W.heap[h]?):=fun W g hb hg hge=>by
    obtain ⟨a5,c5,w5,hap,oe,A7,-⟩:=uI W V2.heap.size (o_ ⟨g,0,n_⟩) 0 [] (i6 hg hge) p.bc (p.aj.take k) p.bF (uM k (HB.I.2.1.below hb).at.2.1.1) ZdG hb.size;rw [hkl] at hap oe;simp only [K4,Li,Ll] at hap oe;have iJ:B_ V2.heap.size V2 w5:=hb.grown A7 hb.size fun c e=>by cases e; exact hge
    exact ⟨a5,c5,w5,hap,oe,iJ,iJ,fun h _ hn hl=>A7.block h hl (fun e=>hn (by cases e; rfl))⟩
   have afR: ∀ (W:w_) (c:Obj),B_ V2.heap.size V2 W->B_ V2.heap.size V2 (W.alloc c):=fun W c hb=>hb.alloc hb.size _
   refine KW (rs:= [0,7]) ZcE zw ?_;refine KX rfl (fun K hK=> ?_) (KX rfl (fun K hK=> ?_) KY)
   focus
    have b1:B_ V2.heap.size V2 (V2.alloc (c_ #[] 89)):=afR _ _ (Kp _ _);simp only [KZ,K0];rw [if_pos (by rfl)];go_wp2_with fail;refine hK.out _ _ (hS _ b1) (fun bC=> ?_);clear hK K bC
    try simp only [pt,sb,s0,s1]
    have b7:B_ V2.heap.size V2 ((V2.alloc (c_ #[] 89)).alloc (c_ #[i_ j_ z.id,i_ j_ z.n,i_ j_ z.max] 89)):=afR _ _ b1;refine KW (rs:= [5,7]) ZcE zw ?_;refine KX rfl (fun K hK=> ?_) (KX rfl (fun K hK=> ?_) KY)
    focus
     clear b7;obtain ⟨a5,c5,w5,hap,oe,iJ,-,-⟩:=wg.I _ _ b1 (Kj _ _) (Ki _);simp only [KZ,K0,K1];rw [if_pos (by rfl)];refine cM _ _ _ rfl _ _ _ w5 rfl rfl hap ?_;refine hK.out _ _ (hS _ iJ) (fun bC=> ?_);clear hK K bC
     try simp only [pt,sb,s0,s1]
     refine L7 7 (fun K hK=> ?_);go_wp2_with fail;refine hK.out _ _ (hS _ (afR _ _ iJ)) (fun bC=> ?_);clear hK K bC
     try simp only [pt,sb,s0,s1]
     have qJ:bE ((w5.alloc (c_ #[i_ j_ z.id,i_ j_ z.n,i_ j_ z.max] 89)).ownsRow V2.heap.size 89 3 (s_ a5 k c5) k (dm.flat (p.aj.take k))/\(w5.alloc (c_ #[i_ j_ z.id,i_ j_ z.n,i_ j_ z.max] 89)).heap[w5.heap.size]? =o_ (c_ #[i_ j_ z.id,i_ j_ z.n,i_ j_ z.max] 89)/\B_ V2.heap.size V2 (w5.alloc (c_ #[i_ j_ z.id,i_ j_ z.n,i_ j_ z.max] 89))):=⟨cR oe ((Kp _ _).alloc (Ki _) _),Kj _ _,afR _ _ iJ⟩
     clear hap oe iJ b1 afR hS;generalize w5.alloc (c_ #[i_ j_ z.id,i_ j_ z.n,i_ j_ z.max] 89)=w6 at *;generalize w5.heap.size=gx at *
    rotate_left
    focus
     obtain ⟨a5,c5,w6,om,qH,jQ,-,zU⟩:=wg.I _ _ b7 ((PU zw).trans (Kj _ _)) (Ki _);simp only [KZ,K0,K1];rw [if_pos (by rfl)];go_wp2_with fail;refine hK.out _ _ (hS _ b7) (fun bC=> ?_);clear hK K bC
     try simp only [pt,sb,s0,s1]
     refine L7 5 (fun K hK=> ?_);refine cM _ _ _ rfl _ _ _ w6 rfl rfl om ?_;refine hK.out _ _ (hS _ jQ) (fun bC=> ?_);clear hK K bC
     try simp only [pt,sb,s0,s1]
     have qJ:bE (w6.ownsRow V2.heap.size 89 3 (s_ a5 k c5) k (dm.flat (p.aj.take k))/\w6.heap[(V2.heap.size+1)]? =o_ (c_ #[i_ j_ z.id,i_ j_ z.n,i_ j_ z.max] 89)/\B_ V2.heap.size V2 w6):=⟨qH,(zU _ zo zo Zdl).trans (by have h5:=Kj (V2.alloc (c_ #[] 89)) (c_ #[i_ j_ z.id,i_ j_ z.n,i_ j_ z.max] 89); simpa using h5),jQ⟩
     clear om qH jQ zU b1 b7 afR hS
   rotate_left 2
   focus
    have b7:B_ V2.heap.size V2 (V2.alloc (c_ #[i_ j_ z.id,i_ j_ z.n,i_ j_ z.max] 89)):=afR _ _ (Kp _ _);simp only [KZ,K0,K1];rw [if_pos (by rfl)];go_wp2_with fail;refine hK.out _ _ (hS _ b7) (fun bC=> ?_);clear hK K bC
    try simp only [pt,sb,s0,s1]
    have b1:B_ V2.heap.size V2 ((V2.alloc (c_ #[i_ j_ z.id,i_ j_ z.n,i_ j_ z.max] 89)).alloc (c_ #[] 89)):=afR _ _ b7;refine L7 0 (fun K hK=> ?_);go_wp2_with fail;refine hK.out _ _ (hS _ b1) (fun bC=> ?_);clear hK K bC
    try simp only [pt,sb,s0,s1]
    obtain ⟨a5,c5,w6,om,qH,jQ,-,zU⟩:=wg.I ((V2.alloc (c_ #[i_ j_ z.id,i_ j_ z.n,i_ j_ z.max] 89)).alloc (c_ #[] 89)) (V2.heap.size+1) b1 (Kq _ _ _) zo;refine L7 5 (fun K hK=> ?_);refine cM _ _ _ rfl _ _ _ w6 rfl rfl om ?_;refine hK.out _ _ (hS _ jQ) (fun bC=> ?_);clear hK K bC
    try simp only [pt,sb,s0,s1]
    have qJ:bE (w6.ownsRow V2.heap.size 89 3 (s_ a5 k c5) k (dm.flat (p.aj.take k))/\w6.heap[V2.heap.size]? =o_ (c_ #[i_ j_ z.id,i_ j_ z.n,i_ j_ z.max] 89)/\B_ V2.heap.size V2 w6):=⟨qH,(zU _ zo zo Zdl).trans ((PU zw).trans (Kj _ _)),jQ⟩
    clear om qH jQ zU b1 b7 afR hS
   all_goals
    have qH:w6.ownsRow V2.heap.size 89 3 (s_ a5 (p.aj.take k).length c5) (p.aj.take k).length (dm.flat (p.aj.take k)):=by rw [hkl]; exact qJ.I.1
    obtain ⟨a7,c7,w7,gT,mP,xI,-⟩:=uI w6 V2.heap.size a5 c5 (p.aj.take k) qH _ [z] 1 (jO qJ.I.2.1) ZdF qJ.I.2.2.size;have mI:(p.aj.take k ++ [z]).length=k+1:=by rw [Lf,hkl]; rfl
    rw [hkl] at gT mP;simp only [Lg,K4,Li] at gT mP;have gh:B_ V2.heap.size V2 w7:=qJ.I.2.2.grown xI qJ.I.2.2.size fun c e=>(cf qJ.I.1 (di e)).1
    have Em:bE (w7.ownsRow V2.heap.size 89 3 (s_ a7 (k+1) c7) (k+1) (dm.flat (p.aj.take k ++ [z]))/\B_ V2.heap.size V2 w7/\(p.aj.take k ++ [z]).length=k+1):=⟨mP,gh,mI⟩
    refine L7 8 (fun K hK=> ?_);refine cM _ _ _ rfl _ _ _ w7 rfl rfl gT ?_;refine hK.out _ _ ⟨(gh.block _ zo).trans HB.I.1,(gh.block _ zo).trans Cj.I⟩ (fun bC=> ?_);clear hK K bC
    try simp only [pt,sb,s0,s1]
    have H8:bE (((av (w7.setCell ⟨o,3,n_⟩ (s_ a7 (k+1) c7)) w.heap.size p/\ap (w7.setCell ⟨o,3,n_⟩ (s_ a7 (k+1) c7)) b0 p/\B_ w.heap.size w (w7.setCell ⟨o,3,n_⟩ (s_ a7 (k+1) c7))/\(w7.setCell ⟨o,3,n_⟩ (s_ a7 (k+1) c7)).heap[w.heap.size+1+1]? =o_ (c_ ar 31))/\(w7.setCell ⟨o,3,n_⟩ (s_ a7 (k+1) c7)).heap[o]? =o_ (c_ #[i_ j_ q.id,i_ j_ q.next,s_ q.aN q.L8.length q.aW,s_ a7 (k+1) c7,s_ q.ay q.L9.length q.aO,s_ q.ax q.ag.length q.aP,s_ q.am q.ae.length q.aG,s_ q.aK q.ai.length q.aV] 31)/\ap (w7.setCell ⟨o,3,n_⟩ (s_ a7 (k+1) c7)) W.heap.size q)/\(w7.setCell ⟨o,3,n_⟩ (s_ a7 (k+1) c7)).ownsRow V2.heap.size 89 3 (s_ a7 (k+1) c7) (k+1) (dm.flat (p.aj.take k ++ [z]))/\V2.heap.size<=(w7.setCell ⟨o,3,n_⟩ (s_ a7 (k+1) c7)).heap.size):=by
     exact mi
    have HX8:bE ((w7.setCell ⟨o,3,n_⟩ (s_ a7 (k+1) c7)).heap[w.heap.size+1]? =o_ (c_ #[i_ j_ z.id,i_ j_ z.n,i_ j_ z.max] 89)):=(aH zo).trans ((gh.block _ zo).trans Cj.I);obtain ⟨⟨u,co⟩,fo⟩:(∃ u,w7.cell? ⟨o,3,n_⟩=o_ u)/\w7.frozen? ⟨o,3,n_⟩=false:=⟨⟨_,(HQ.I.1.below gh).cells.2.2.2.1⟩,Ko _ _ _ _ _ (HQ.I.1.below gh)⟩
    have wj:av w7 w.heap.size p/\w7.heap[w.heap.size+1]? =o_ (c_ #[i_ j_ z.id,i_ j_ z.n,i_ j_ z.max] 89):=⟨(gh.block _ zo).trans HB.I.1,(gh.block _ zo).trans Cj.I⟩
    clear qH gT mP xI gh mI qJ wg;refine tt 9 wj ?_;refine L7 10 (fun K hK=> ?_);go_wp2_with fail;refine hK.out _ _ ⟨H8.I.1.1.1,HX8.I⟩ (fun bC=> ?_);clear hK K bC
    try simp only [pt,sb,s0,s1]
    refine K3 ZcE ?_ _;clear co fo wj hq HX8 Cj;go_wp2_with fail;generalize w7.setCell ⟨o,3,n_⟩ (s_ a7 (k+1) c7)=W8 at *;have HS:bE (W8.cell? ⟨w.heap.size,3,n_⟩=o_ (s_ p.bc p.aj.length p.bF)):=H8.I.1.1.1.cells.2.2.2.1;have co8:W8.drew.cell? ⟨o,3,n_⟩=o_ (s_ a7 (k+1) c7):=by rw [K5 _ _ _ _ _ _ (show W8.drew.heap[o]? =_ from H8.I.1.2.1)]; rfl
    obtain ⟨u6,Jx⟩: ∃ u6,(if p.bF=k then p.bc else Option.map (fun x=>x.add (k * 3)) p.bc)=u6:=⟨_,rfl⟩
    refine Kr (S:=fun w'=>w'.cell? ⟨w.heap.size,3,n_⟩=o_ (s_ p.bc p.aj.length p.bF)) ZcE HS.I (fun bC=> ?_);refine tt 0 bC ?_ (hy:=fun w0 hS0=>by have cm:=hS0; go_simp; try with_reducible rfl);refine tt 2 bC ?_ (hy:=fun w0 hS0=>by have cm:=hS0; go_simp; try with_reducible rfl);refine tt 3 bC ?_ (hy:=fun w0 hS0=>by have cm:=hS0; go_simp; try with_reducible rfl);refine tt 4 bC ?_ (hy:=fun w0 hS0=>by have cm:=hS0; go_simp; try with_reducible rfl);refine tt 5 bC ?_ (hy:=fun w0 hS0=>by have cm:=hS0; go_simp; try with_reducible rfl);refine L7 1 (fun K hK=> ?_);go_wp2_with fail;refine hK.out _ _ HS.I (fun bC=> ?_);clear hK K
    try simp only [pt,sb,s0,s1]
    have hbd:B_ W8.heap.size W8 W8.drew:=(Kp _ _).drew;have mI:=Em.I.2.2;have hkd:(p.aj.drop k).length=p.aj.length - k:=Ql;obtain ⟨a9,c9,w9,hr,xj,FW,-⟩:=uI W8.drew V2.heap.size a7 c7 (p.aj.take k ++ [z]) ZdB u6 (p.aj.drop k) (p.bF - k) (by rw [<- Jx]; exact qK hcap (H8.I.1.1.2.1.below hbd).at.2.1.1) (by rw [mI,hkd]; omega) H8.I.2.2;rw [mI,hkd] at hr xj;have kN:B_ V2.heap.size W8.drew w9:=(Kp _ _).grown (a:=W8.drew) FW H8.I.2.2 fun c e=>(cf H8.I.2.1 (di e)).1
    have hq:=HQ.I;have h8:=H8.I;have p7:o < V2.heap.size:=hq.2.2.2.2.2.2;have hwl:w.heap.size+1 < o:=zo
    have lV:w9.heap[o]? =o_ (c_ #[i_ j_ q.id,i_ j_ q.next,s_ q.aN q.L8.length q.aW,s_ a7 (k+1) c7,s_ q.ay q.L9.length q.aO,s_ q.ax q.ag.length q.aP,s_ q.am q.ae.length q.aG,s_ q.aK q.ai.length q.aV] 31):=(kN.block _ p7).trans h8.1.2.1;have YU:bE (w9.cell? ⟨w.heap.size,3,n_⟩=o_ (s_ p.bc p.aj.length p.bF)/\(w9.setCell ⟨o,3,n_⟩ (s_ a9 (k+1+(p.aj.length - k)) c9)).cell? ⟨w.heap.size,3,n_⟩=o_ (s_ p.bc p.aj.length p.bF)):=by
     have e1:w9.cell? ⟨w.heap.size,3,n_⟩=o_ (s_ p.bc p.aj.length p.bF):=(J1 (kN.block _ ZdI)).trans HS.I;exact Zbq
    have sR:((p.aj.take k ++ [z]) ++ p.aj.drop k).length=k+1+(p.aj.length - k):=by rw [Lf,mI,hkd]
    have gn:({ q with aj:=(p.aj.take k ++ [z]) ++ p.aj.drop k,bc:=a9,bF:=c9 } :af).pure= { p.pure with aj:=cA (·.id) z p.pure.aj } :=by
     have e1:(p.aj.take k ++ [z]) ++ p.aj.drop k=cA (·.id) z p.pure.aj:=by
      rw [Lm];exact tP HA.I (fun y hy=>by have h5:=HX.I y hy; show ¬ y.id < z.id; omega)
     have e2:=HQ.I.2.2.1
     show ({ q.pure with aj:=(p.aj.take k ++ [z]) ++ p.aj.drop k } :aE)=_
     rw [e1,e2]
    have eX:bE (av (w9.setCell ⟨o,3,n_⟩ (s_ a9 (k+1+(p.aj.length - k)) c9)) w.heap.size p/\ap (w9.setCell ⟨o,3,n_⟩ (s_ a9 (k+1+(p.aj.length - k)) c9)) b0 p/\B_ w.heap.size w (w9.setCell ⟨o,3,n_⟩ (s_ a9 (k+1+(p.aj.length - k)) c9))/\(w9.setCell ⟨o,3,n_⟩ (s_ a9 (k+1+(p.aj.length - k)) c9)).heap[w.heap.size+1+1]? =o_ (c_ ar 31)/\av (w9.setCell ⟨o,3,n_⟩ (s_ a9 (k+1+(p.aj.length - k)) c9)) o ({ q with aj:=(p.aj.take k ++ [z]) ++ p.aj.drop k,bc:=a9,bF:=c9 } :af)/\ap (w9.setCell ⟨o,3,n_⟩ (s_ a9 (k+1+(p.aj.length - k)) c9)) W.heap.size ({ q with aj:=(p.aj.take k ++ [z]) ++ p.aj.drop k,bc:=a9,bF:=c9 } :af)/\({ q with aj:=(p.aj.take k ++ [z]) ++ p.aj.drop k,bc:=a9,bF:=c9 } :af).pure= { p.pure with aj:=cA (·.id) z p.pure.aj }):=by
     have hpb: ∀ g∈p.Mc,g < w.heap.size:=Au.I;have nW: ∀ g∈q.Mc,g < o:=hq.2.2.2.1;have sm: ∀ g,g < V2.heap.size->g≠o->(w9.setCell ⟨o,3,n_⟩ (s_ a9 (k+1+(p.aj.length - k)) c9)).heap[g]? =W8.heap[g]? :=fun g hg hne=>(aH hne).trans (kN.block _ hg)
     have lY:B_ w.heap.size w (w9.setCell ⟨o,3,n_⟩ (s_ a9 (k+1+(p.aj.length - k)) c9)):=bP (h8.1.1.2.2.1.drew.trans (kN.mono zo)) zo;refine ⟨(sm _ zo zo).trans h8.1.1.1,h8.1.1.2.1.same fun g hg=>sm g ZcQ ZcQ,lY,(sm _ zo zo).trans h8.1.1.2.2.2,?_,?_,gn⟩
     .have h5:=cx (i:=3) (v:=s_ a9 (k+1+(p.aj.length - k)) c9) lV
      unfold av;simp only [sR];exact h5
     .refine h8.1.2.2.newSem (B:=V2.heap.size) zo (fun g hg=>by have:=nW g hg; omega) (fun g hg=>sm g ZcT ZcT) ?_
      exact Zbw
    refine L7 6 (fun K hK=> ?_);refine cM _ _ _ rfl _ _ _ w9 rfl rfl hr ?_;refine hK.out _ _ YU.I.1 (fun bC=> ?_);clear hK K
    try simp only [pt,sb,s0,s1]
    obtain ⟨⟨u,co⟩,fo⟩:(∃ u,w9.cell? ⟨o,3,n_⟩=o_ u)/\w9.frozen? ⟨o,3,n_⟩=false:=⟨⟨_,by rw [K5 _ _ _ _ _ _ lV]; rfl⟩,Ko _ _ _ _ _ lV⟩
    clear hr xj FW kN hq h8 p7 hwl lV hbd;refine tt 7 bC ?_ (hy:=fun w0 hS0=>by have cm:=hS0; go_simp; try with_reducible rfl);refine L7 8 (fun K hK=> ?_);go_wp2_with fail;refine hK.out _ _ YU.I.2 (fun bC=> ?_);clear hK K
    try simp only [pt,sb,s0,s1]
    refine K3 ZcE ?_ _;clear bC co fo YU HS co8;generalize w9.setCell ⟨o,3,n_⟩ (s_ a9 (k+1+(p.aj.length - k)) c9)=W10 at *;have Mb:=fi p ({ q with aj:=(p.aj.take k ++ [z]) ++ p.aj.drop k,bc:=a9,bF:=c9 } :af) W10 ⟨fl.I.1,fl.I.2.1,eX.I.2.1.at⟩ (fun hr=>by
     have h5:aE.Small ({ q with aj:=(p.aj.take k ++ [z]) ++ p.aj.drop k,bc:=a9,bF:=c9 } :af).pure:=by rw [eX.I.2.2.2.2.2.2]; exact yN fl.I.2.2.1 hr fl.I.2.2.2
     exact ⟨dV h5,fun x hx=>(cY h5 hx).1,eX.I.2.2.2.2.2.1.at⟩)
    obtain ⟨m0,m1,m2,m3,m4,m5,m6,m7⟩:=eX.I.1.cells;obtain ⟨k0,k1,k2,k3,k4,k5,k6,k7⟩:=eX.I.2.2.2.2.1.cells;unfold af.cells at Mb;simp only [sR] at Mb k0 k1 k2 k3 k4 k5 k6 k7;have DM:bE (((p.aj.take k ++ [z]) ++ p.aj.drop k).length=k+1+(p.aj.length - k)):=sR;clear sR mI hkd Jx gn;go_wp2_with fail;refine Mb.mono ?_;clear Mb m0 m1 m2 m3 m4 m5 m6 m7 k0 k1 k2 k3 k4 k5 k6 k7;rintro e ow ⟨gy,hok⟩;have hq:=HQ.I.2.2.2.2;have HZ:bE (B_ w.heap.size w ow/\ow.heap[w.heap.size+1+1]? =o_ (c_ ar 31)/\ap ow W.heap.size ({ q with aj:=(p.aj.take k ++ [z]) ++ p.aj.drop k,bc:=a9,bF:=c9 } :af)/\w.heap.size+1+1 < W.heap.size):=⟨eX.I.2.2.1.trans (gy.mono eX.I.2.2.1.size),(gy.block _ (J2.1 eX.I.2.2.2.1).1).trans eX.I.2.2.2.1,eX.I.2.2.2.2.2.1.below gy,hq.2.1⟩
    clear gy hq;rw [eX.I.2.2.2.2.2.2] at hok;rcases hok with ⟨hok,rfl⟩ | ⟨hok,rfl⟩
    .have HN:bE (cB p.pure { p.pure with aj:=cA (·.id) z p.pure.aj } =o_ { p.pure with aj:=cA (·.id) z p.pure.aj }):=jS hok
     clear hok;go_wp2_with (refine ec 4 49 #[i_ j_ q.id,i_ j_ q.next,s_ q.aN q.L8.length q.aW,s_ a9 (k+1+(p.aj.length - k)) c9,s_ q.ay q.L9.length q.aO,s_ q.ax q.ag.length q.aP,s_ q.am q.ae.length q.aG,s_ q.aK q.ai.length q.aV] HZ.I.2.1 ?_);refine mG results73 (b_ true) HZ.I.2.1 ?_;have hl:=HZ.I.2.2.2;rw [HN.I];refine ⟨({ q with aj:=(p.aj.take k ++ [z]) ++ p.aj.drop k,bc:=a9,bF:=c9 } :af),by unfold af.cells; simp only [DM.I]; rfl,(HZ.I.2.2.1.lower zo).same fun g hg=>KH _ _ _ _ ZcO,eX.I.2.2.2.2.2.2,q_ HZ.I.1 zo _⟩
    .have HN:bE (cB p.pure { p.pure with aj:=cA (·.id) z p.pure.aj } =n_):=jh hok
     clear hok;go_wp2_with (refine ec 4 49 ar HZ.I.2.1 ?_);refine mG results73 (b_ false) HZ.I.2.1 ?_;exact X_
end Go.Proofs.YtfncpmaefninjaaGreatDoor

namespace Go.Proofs.YtfncpmaefninjaaGreatDoor
open Go.Maps
attribute [local go_sem ↓] Kc Kd
theorem ra (p:af) (id:Int) (w:w_) (b0:Nat) (hwf:(Lit.int j_ id).wf=true) (qY:p.pure.Small) (h:ap w b0 p):
  k_ J3 75 #[a_ p.cells,i_ j_ id] w fun e w'=>gI w (cB p.pure { p.pure with ag:=cA (·.id) (⟨id,false,⟨#[]⟩⟩:az) p.pure.ag }) e w':=by
 have HB:bE (av ((w.alloc (c_ p.row 31)).alloc (c_ ar 31)) w.heap.size p/\ap ((w.alloc (c_ p.row 31)).alloc (c_ ar 31)) b0 p/\B_ w.heap.size w ((w.alloc (c_ p.row 31)).alloc (c_ ar 31))/\((w.alloc (c_ p.row 31)).alloc (c_ ar 31)).heap[w.heap.size+1]? =o_ (c_ ar 31)):=by
  exact Q1
 have fl:bE (p.Fit/\(∀ x∈p.L8,x.dX)/\p.pure.Small/\(Lit.int j_ id).wf=true):=⟨dV qY,fun x hx=>(cY qY hx).1,qY,hwf⟩
 have hpl:=fl.I.1.short.ag;have hcap:p.ag.length<=p.aP:=nV h.ag;have pd: ∀ g∈p.Mc,g < w.heap.size:=fun g hg=>(h.lt g hg).2
 clear h qY hwf;obtain ⟨m0,m1,m2,m3,m4,m5,m6,m7⟩:=HB.I.1.cells;unfold af.cells
 go_enter func75,ntmps75
 go_wp2_with fail;generalize (w.alloc (c_ p.row 31)).alloc (c_ ar 31)=W at *;clear m0 m1 m2 m3 m4 m5 m6 m7;refine (fR p W fl.I.1 fl.I.2.1 HB.I.2.1.at).mono ?_;rintro e W1 ⟨q,rfl,hown,gn,hb1⟩;have hb2:B_ W1.heap.size W1 (W1.alloc (c_ q.row 31)):=(Kp _ _).alloc (Ki _) _;have hlt:w.heap.size+1 < W.heap.size:=(J2.1 HB.I.2.2.2).1;have hb3:B_ W.heap.size W (W1.alloc (c_ q.row 31)):=hb1.trans (hb2.mono hb1.size);have hq1: ∀ g∈q.Mc,g < W1.heap.size:=fun g hg=>(hown.lt g hg).2
 have HQ:bE (av (W1.alloc (c_ q.row 31)) W1.heap.size q/\ap (W1.alloc (c_ q.row 31)) W.heap.size q/\q.pure=p.pure/\(∀ g∈q.Mc,g < W1.heap.size)/\W.heap.size<=W1.heap.size/\w.heap.size+1 < W.heap.size/\W1.heap.size < (W1.alloc (c_ q.row 31)).heap.size):=⟨Kj _ _,hown.below hb2,gn,hq1,hb1.size,hlt,by simp⟩
 replace HB:bE (av (W1.alloc (c_ q.row 31)) w.heap.size p/\ap (W1.alloc (c_ q.row 31)) b0 p/\B_ w.heap.size w (W1.alloc (c_ q.row 31))/\(W1.alloc (c_ q.row 31)).heap[w.heap.size+1]? =o_ (c_ ar 31)):=⟨HB.I.1.below hb3,HB.I.2.1.below hb3,HB.I.2.2.1.trans (hb3.mono HB.I.2.2.1.size),(hb3.block _ hlt).trans HB.I.2.2.2⟩
 have Au:bE (∀ g∈p.Mc,g < w.heap.size):=fun g hg=>pd g hg
 clear hown gn hb1 hb2 hb3 hq1 hlt pd;obtain ⟨m0,m1,m2,m3,m4,m5,m6,m7⟩:=HB.I.1.cells;unfold af.cells;go_wp2_with fail;generalize W1.alloc (c_ q.row 31)=W2 at *;clear m0 m1 m2 m3 m4 m6 m7;generalize W1.heap.size=o at *
 go_loop [7] (fun i=> ∃ k:Nat,k<=p.ag.length/\i=i_ j_ k/\bE (∀ y∈p.ag.take k,y.id < id)) (fun i=>p.ag.length - (Go.RowKit.intOf i).toNat)
 case atStart=>exact ⟨0,Ky _,rfl,fun y hy=>by simp at hy⟩
 case round=>
  obtain ⟨k,hk,rfl,HA⟩:=hrel;have i0:(0:Int)<=(k:Int):=zo
  have icap:(k:Int)<=(p.aP:Int):=zo
  have i2:(k:Int)<=(p.ag.length:Int):=zo
  rcases zm (fun y:az=>y.id) id p.ag k with ⟨x,hx,hc,hlt⟩ | ⟨x,hx,hc,hlt⟩ | hlt
  .have HT:bE (∀ y∈p.ag.take (k+1),y.id < id):=nE hx HA.I hc
   have i1:(k:Int) < (p.ag.length:Int):=zo
   obtain ⟨g,ha,hat⟩:=jr HB.I.2.1.at.2.2.2.1 hx;have c0:=hat.1;have m:=m5;rw [ha] at m;clear m5 hat hx;exact ZbA
  focus
   have HX:bE (∀ y,p.ag[k]? =o_ y-> ¬ y.id < id):=fun y hy e=>by rw [hx] at hy; cases hy; exact hc e
   have i1:(k:Int) < (p.ag.length:Int):=zo
   obtain ⟨g,ha,hat⟩:=jr HB.I.2.1.at.2.2.2.1 hx;have c0:=hat.1;have m:=m5;rw [ha] at m;clear m5 hat hx ha
  rotate_left
  focus
   have HX:bE (∀ y,p.ag[k]? =o_ y-> ¬ y.id < id):=fun y hy=>absurd (Lj.1 hy).1 hlt
   have i1: ¬ (k:Int) < (p.ag.length:Int):=zo
   have m:=m5;clear m5
  all_goals
   have hkl:(p.ag.take k).length=k:=by rw [Lk]; omega
   have hb3:B_ W2.heap.size W2 (W2.alloc (c_ #[] 93)):=(Kp _ _).alloc (Ki _) _;obtain ⟨a5,c5,w5,hap,oe,A7,-⟩:=pX (W2.alloc (c_ #[] 93)) W2.heap.size (o_ ⟨W2.heap.size,0,n_⟩) 0 [] (i6 (Kj _ _) (Ki _)) p.ax (p.ag.take k) p.aP (uM k (HB.I.2.1.below hb3).at.2.2.2.1.1) ZdG hb3.size;rw [hkl] at hap oe;simp only [K4,Li,Ll] at hap oe;have iJ:B_ W2.heap.size W2 w5:=hb3.grown A7 hb3.size fun c e=>by cases e; exact Ki _
   have jQ:B_ w5.heap.size w5 (w5.alloc (c_ #[i_ j_ id,b_ false,t_ ⟨#[]⟩] 93)):=(Kp _ _).alloc (Ki _) _;have yJ:B_ W2.heap.size W2 (w5.alloc (c_ #[i_ j_ id,b_ false,t_ ⟨#[]⟩] 93)):=iJ.trans (jQ.mono iJ.size);have qH:(w5.alloc (c_ #[i_ j_ id,b_ false,t_ ⟨#[]⟩] 93)).ownsRow W2.heap.size 93 3 (s_ a5 (p.ag.take k).length c5) (p.ag.take k).length (bG.flat (p.ag.take k)):=by rw [hkl]; exact cR oe jQ
   obtain ⟨a7,c7,w7,gT,mP,xI,-⟩:=pX (w5.alloc (c_ #[i_ j_ id,b_ false,t_ ⟨#[]⟩] 93)) W2.heap.size a5 c5 (p.ag.take k) qH (o_ ⟨w5.heap.size,0,n_⟩) [(⟨id,false,⟨#[]⟩⟩:az)] 1 (jO (Kj _ _)) ZdF yJ.size;have mI:(p.ag.take k ++ [(⟨id,false,⟨#[]⟩⟩:az)]).length=k+1:=by rw [Lf,hkl]; rfl
   rw [hkl] at gT mP;simp only [Lg,K4,Li] at gT mP;have gh:B_ W2.heap.size W2 w7:=yJ.grown xI yJ.size fun c e=>(cf oe (di e)).1
   have Em:bE (w7.ownsRow W2.heap.size 93 3 (s_ a7 (k+1) c7) (k+1) (bG.flat (p.ag.take k ++ [(⟨id,false,⟨#[]⟩⟩:az)]))/\B_ W2.heap.size W2 w7/\(p.ag.take k ++ [(⟨id,false,⟨#[]⟩⟩:az)]).length=k+1):=⟨mP,gh,mI⟩
   have m2:(W2.alloc (c_ #[] 93)).cell? ⟨w.heap.size,5,n_⟩=o_ (s_ p.ax p.ag.length p.aP):=(HB.I.1.below hb3).cells.2.2.2.2.2.1;have hbo:W2.heap.size<=w7.heap.size:=gh.size;obtain ⟨⟨u,co⟩,fo⟩:(∃ u,w7.cell? ⟨o,5,n_⟩=o_ u)/\w7.frozen? ⟨o,5,n_⟩=false:=⟨⟨_,(HQ.I.1.below gh).cells.2.2.2.2.2.1⟩,Ko _ _ _ _ _ (HQ.I.1.below gh)⟩
   clear oe A7 iJ jQ yJ qH mP xI gh hb3 mI;go_wp2_with (at_builtin; first | (refine br _ rfl _ _ 27 rfl _ _ _ _ rfl rfl hap ?_; clear hap) | (refine br _ rfl _ _ 27 rfl _ _ _ _ rfl rfl gT ?_; clear gT));have H8:bE (((av (w7.setCell ⟨o,5,n_⟩ (s_ a7 (k+1) c7)) w.heap.size p/\ap (w7.setCell ⟨o,5,n_⟩ (s_ a7 (k+1) c7)) b0 p/\B_ w.heap.size w (w7.setCell ⟨o,5,n_⟩ (s_ a7 (k+1) c7))/\(w7.setCell ⟨o,5,n_⟩ (s_ a7 (k+1) c7)).heap[w.heap.size+1]? =o_ (c_ ar 31))/\(w7.setCell ⟨o,5,n_⟩ (s_ a7 (k+1) c7)).heap[o]? =o_ (c_ #[i_ j_ q.id,i_ j_ q.next,s_ q.aN q.L8.length q.aW,s_ q.bc q.aj.length q.bF,s_ q.ay q.L9.length q.aO,s_ a7 (k+1) c7,s_ q.am q.ae.length q.aG,s_ q.aK q.ai.length q.aV] 31)/\ap (w7.setCell ⟨o,5,n_⟩ (s_ a7 (k+1) c7)) W.heap.size q)/\(w7.setCell ⟨o,5,n_⟩ (s_ a7 (k+1) c7)).ownsRow W2.heap.size 93 3 (s_ a7 (k+1) c7) (k+1) (bG.flat (p.ag.take k ++ [(⟨id,false,⟨#[]⟩⟩:az)]))/\W2.heap.size<=(w7.setCell ⟨o,5,n_⟩ (s_ a7 (k+1) c7)).heap.size):=by
    have gh:=Em.I.2.1;have hq:=HQ.I;exact mi
   generalize w7.setCell ⟨o,5,n_⟩ (s_ a7 (k+1) c7)=W8 at *;have HS:bE (W8.cell? ⟨w.heap.size,5,n_⟩=o_ (s_ p.ax p.ag.length p.aP)):=H8.I.1.1.1.cells.2.2.2.2.2.1;have co8:W8.drew.cell? ⟨o,5,n_⟩=o_ (s_ a7 (k+1) c7):=by rw [K5 _ _ _ _ _ _ (show W8.drew.heap[o]? =_ from H8.I.1.2.1)]; rfl
   clear m m2 co fo hbo i1 hlt;obtain ⟨u6,Jx⟩: ∃ u6,(if p.aP=k then p.ax else Option.map (fun x=>x.add (k * 3)) p.ax)=u6:=⟨_,rfl⟩
   refine Kr (S:=fun w'=>w'.cell? ⟨w.heap.size,5,n_⟩=o_ (s_ p.ax p.ag.length p.aP)) ZcE HS.I (fun bC=> ?_);refine tt 0 bC ?_ (hy:=fun w0 hS0=>by have cm:=hS0; go_simp; try with_reducible rfl);refine tt 2 bC ?_ (hy:=fun w0 hS0=>by have cm:=hS0; go_simp; try with_reducible rfl);refine tt 3 bC ?_ (hy:=fun w0 hS0=>by have cm:=hS0; go_simp; try with_reducible rfl);refine tt 4 bC ?_ (hy:=fun w0 hS0=>by have cm:=hS0; go_simp; try with_reducible rfl);refine tt 5 bC ?_ (hy:=fun w0 hS0=>by have cm:=hS0; go_simp; try with_reducible rfl);refine L7 1 (fun K hK=> ?_);go_wp2_with fail;refine hK.out _ _ HS.I (fun bC=> ?_);clear hK K
   try simp only [pt,sb,s0,s1]
   have hbd:B_ W8.heap.size W8 W8.drew:=(Kp _ _).drew;have mI:=Em.I.2.2;have hkd:(p.ag.drop k).length=p.ag.length - k:=Ql;obtain ⟨a9,c9,w9,hr,xj,FW,-⟩:=pX W8.drew W2.heap.size a7 c7 (p.ag.take k ++ [(⟨id,false,⟨#[]⟩⟩:az)]) ZdB u6 (p.ag.drop k) (p.aP - k) (by rw [<- Jx]; exact qK hcap (H8.I.1.1.2.1.below hbd).at.2.2.2.1.1) (by rw [mI,hkd]; omega) H8.I.2.2;rw [mI,hkd] at hr xj;have kN:B_ W2.heap.size W8.drew w9:=(Kp _ _).grown (a:=W8.drew) FW H8.I.2.2 fun c e=>(cf H8.I.2.1 (di e)).1
   have hq:=HQ.I;have h8:=H8.I;have p7:o < W2.heap.size:=hq.2.2.2.2.2.2;have hwl:w.heap.size+1 < o:=zo
   have lV:w9.heap[o]? =o_ (c_ #[i_ j_ q.id,i_ j_ q.next,s_ q.aN q.L8.length q.aW,s_ q.bc q.aj.length q.bF,s_ q.ay q.L9.length q.aO,s_ a7 (k+1) c7,s_ q.am q.ae.length q.aG,s_ q.aK q.ai.length q.aV] 31):=(kN.block _ p7).trans h8.1.2.1;have YU:bE (w9.cell? ⟨w.heap.size,5,n_⟩=o_ (s_ p.ax p.ag.length p.aP)/\(w9.setCell ⟨o,5,n_⟩ (s_ a9 (k+1+(p.ag.length - k)) c9)).cell? ⟨w.heap.size,5,n_⟩=o_ (s_ p.ax p.ag.length p.aP)):=by
    have e1:w9.cell? ⟨w.heap.size,5,n_⟩=o_ (s_ p.ax p.ag.length p.aP):=(J1 (kN.block _ ZdI)).trans HS.I;exact Zbq
   have sR:((p.ag.take k ++ [(⟨id,false,⟨#[]⟩⟩:az)]) ++ p.ag.drop k).length=k+1+(p.ag.length - k):=by rw [Lf,mI,hkd]
   have gn:({ q with ag:=(p.ag.take k ++ [(⟨id,false,⟨#[]⟩⟩:az)]) ++ p.ag.drop k,ax:=a9,aP:=c9 } :af).pure= { p.pure with ag:=cA (·.id) (⟨id,false,⟨#[]⟩⟩:az) p.pure.ag } :=by
    have e1:(p.ag.take k ++ [(⟨id,false,⟨#[]⟩⟩:az)]) ++ p.ag.drop k=cA (·.id) (⟨id,false,⟨#[]⟩⟩:az) p.pure.ag:=by
     rw [Lm];exact Zb9
    have e2:=HQ.I.2.2.1
    show ({ q.pure with ag:=(p.ag.take k ++ [(⟨id,false,⟨#[]⟩⟩:az)]) ++ p.ag.drop k } :aE)=_
    rw [e1,e2]
   have eX:bE (av (w9.setCell ⟨o,5,n_⟩ (s_ a9 (k+1+(p.ag.length - k)) c9)) w.heap.size p/\ap (w9.setCell ⟨o,5,n_⟩ (s_ a9 (k+1+(p.ag.length - k)) c9)) b0 p/\B_ w.heap.size w (w9.setCell ⟨o,5,n_⟩ (s_ a9 (k+1+(p.ag.length - k)) c9))/\(w9.setCell ⟨o,5,n_⟩ (s_ a9 (k+1+(p.ag.length - k)) c9)).heap[w.heap.size+1]? =o_ (c_ ar 31)/\av (w9.setCell ⟨o,5,n_⟩ (s_ a9 (k+1+(p.ag.length - k)) c9)) o ({ q with ag:=(p.ag.take k ++ [(⟨id,false,⟨#[]⟩⟩:az)]) ++ p.ag.drop k,ax:=a9,aP:=c9 } :af)/\ap (w9.setCell ⟨o,5,n_⟩ (s_ a9 (k+1+(p.ag.length - k)) c9)) W.heap.size ({ q with ag:=(p.ag.take k ++ [(⟨id,false,⟨#[]⟩⟩:az)]) ++ p.ag.drop k,ax:=a9,aP:=c9 } :af)/\({ q with ag:=(p.ag.take k ++ [(⟨id,false,⟨#[]⟩⟩:az)]) ++ p.ag.drop k,ax:=a9,aP:=c9 } :af).pure= { p.pure with ag:=cA (·.id) (⟨id,false,⟨#[]⟩⟩:az) p.pure.ag }):=by
    have hpb: ∀ g∈p.Mc,g < w.heap.size:=Au.I;have nW: ∀ g∈q.Mc,g < o:=hq.2.2.2.1;have sm: ∀ g,g < W2.heap.size->g≠o->(w9.setCell ⟨o,5,n_⟩ (s_ a9 (k+1+(p.ag.length - k)) c9)).heap[g]? =W8.heap[g]? :=fun g hg hne=>(aH hne).trans (kN.block _ hg)
    have lY:B_ w.heap.size w (w9.setCell ⟨o,5,n_⟩ (s_ a9 (k+1+(p.ag.length - k)) c9)):=bP (h8.1.1.2.2.1.drew.trans (kN.mono zo)) zo;refine ⟨(sm _ zo zo).trans h8.1.1.1,h8.1.1.2.1.same fun g hg=>sm g ZcQ ZcQ,lY,(sm _ zo zo).trans h8.1.1.2.2.2,?_,?_,gn⟩
    .have h5:=cx (i:=5) (v:=s_ a9 (k+1+(p.ag.length - k)) c9) lV
     unfold av;simp only [sR];exact h5
    .refine h8.1.2.2.GV (B:=W2.heap.size) zo (fun g hg=>by have:=nW g hg; omega) (fun g hg=>sm g ZcT ZcT) ?_
     exact Zbw
   refine L7 6 (fun K hK=> ?_);refine cM _ _ _ rfl _ _ _ w9 rfl rfl hr ?_;refine hK.out _ _ YU.I.1 (fun bC=> ?_);clear hK K
   try simp only [pt,sb,s0,s1]
   obtain ⟨⟨u,co⟩,fo⟩:(∃ u,w9.cell? ⟨o,5,n_⟩=o_ u)/\w9.frozen? ⟨o,5,n_⟩=false:=⟨⟨_,by rw [K5 _ _ _ _ _ _ lV]; rfl⟩,Ko _ _ _ _ _ lV⟩
   clear hr xj FW kN hq h8 p7 hwl lV hbd;refine tt 7 bC ?_ (hy:=fun w0 hS0=>by have cm:=hS0; go_simp; try with_reducible rfl);refine L7 8 (fun K hK=> ?_);go_wp2_with fail;refine hK.out _ _ YU.I.2 (fun bC=> ?_);clear hK K
   try simp only [pt,sb,s0,s1]
   refine K3 ZcE ?_ _;clear bC co fo YU HS co8;generalize w9.setCell ⟨o,5,n_⟩ (s_ a9 (k+1+(p.ag.length - k)) c9)=W10 at *;have Mb:=fi p ({ q with ag:=(p.ag.take k ++ [(⟨id,false,⟨#[]⟩⟩:az)]) ++ p.ag.drop k,ax:=a9,aP:=c9 } :af) W10 ⟨fl.I.1,fl.I.2.1,eX.I.2.1.at⟩ (fun hr=>by
    have h5:aE.Small ({ q with ag:=(p.ag.take k ++ [(⟨id,false,⟨#[]⟩⟩:az)]) ++ p.ag.drop k,ax:=a9,aP:=c9 } :af).pure:=by rw [eX.I.2.2.2.2.2.2]; exact vR fl.I.2.2.1 hr ⟨fl.I.2.2.2,Ky _⟩
    exact ⟨dV h5,fun x hx=>(cY h5 hx).1,eX.I.2.2.2.2.2.1.at⟩)
   obtain ⟨m0,m1,m2,m3,m4,m5,m6,m7⟩:=eX.I.1.cells;obtain ⟨k0,k1,k2,k3,k4,k5,k6,k7⟩:=eX.I.2.2.2.2.1.cells;unfold af.cells at Mb;simp only [sR] at Mb k0 k1 k2 k3 k4 k5 k6 k7;have DM:bE (((p.ag.take k ++ [(⟨id,false,⟨#[]⟩⟩:az)]) ++ p.ag.drop k).length=k+1+(p.ag.length - k)):=sR;clear sR mI hkd Jx gn;go_wp2_with fail;refine Mb.mono ?_;clear Mb m0 m1 m2 m3 m4 m5 m6 m7 k0 k1 k2 k3 k4 k5 k6 k7;rintro e ow ⟨gy,hok⟩;have hq:=HQ.I.2.2.2.2;have HZ:bE (B_ w.heap.size w ow/\ow.heap[w.heap.size+1]? =o_ (c_ ar 31)/\ap ow W.heap.size ({ q with ag:=(p.ag.take k ++ [(⟨id,false,⟨#[]⟩⟩:az)]) ++ p.ag.drop k,ax:=a9,aP:=c9 } :af)/\w.heap.size+1 < W.heap.size):=⟨eX.I.2.2.1.trans (gy.mono eX.I.2.2.1.size),(gy.block _ (J2.1 eX.I.2.2.2.1).1).trans eX.I.2.2.2.1,eX.I.2.2.2.2.2.1.below gy,hq.2.1⟩
   clear gy hq;rw [eX.I.2.2.2.2.2.2] at hok;rcases hok with ⟨hok,rfl⟩ | ⟨hok,rfl⟩
   .have HN:bE (cB p.pure { p.pure with ag:=cA (·.id) (⟨id,false,⟨#[]⟩⟩:az) p.pure.ag } =o_ { p.pure with ag:=cA (·.id) (⟨id,false,⟨#[]⟩⟩:az) p.pure.ag }):=jS hok
    clear hok;go_wp2_with (refine ec 4 49 #[i_ j_ q.id,i_ j_ q.next,s_ q.aN q.L8.length q.aW,s_ q.bc q.aj.length q.bF,s_ q.ay q.L9.length q.aO,s_ a9 (k+1+(p.ag.length - k)) c9,s_ q.am q.ae.length q.aG,s_ q.aK q.ai.length q.aV] HZ.I.2.1 ?_);refine mG results75 (b_ true) HZ.I.2.1 ?_;have hl:=HZ.I.2.2.2;rw [HN.I];refine ⟨({ q with ag:=(p.ag.take k ++ [(⟨id,false,⟨#[]⟩⟩:az)]) ++ p.ag.drop k,ax:=a9,aP:=c9 } :af),by unfold af.cells; simp only [DM.I]; rfl,(HZ.I.2.2.1.lower zo).same fun g hg=>KH _ _ _ _ ZcO,eX.I.2.2.2.2.2.2,q_ HZ.I.1 zo _⟩
   .have HN:bE (cB p.pure { p.pure with ag:=cA (·.id) (⟨id,false,⟨#[]⟩⟩:az) p.pure.ag } =n_):=jh hok
    clear hok;go_wp2_with (refine ec 4 49 ar HZ.I.2.1 ?_);refine mG results75 (b_ false) HZ.I.2.1 ?_;exact X_
end Go.Proofs.YtfncpmaefninjaaGreatDoor
