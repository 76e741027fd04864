/- What the proof leans on, part 15. -/
import Derived.Test.YtfncpmaefninjaaGreatDoorOwnT10
set_option linter.all false
set_option maxRecDepth 100000
set_option maxHeartbeats 8000000
open Go.Proofs.Tryz
open Go renaming World->w_,Calls->k_,Addr->d_,below_setRow->q_
open Go.Ending renaming returned->r_
open Go.IntKind renaming i64->j_
open Go.Obj renaming cells->c_
open Go.RowKit renaming Below->B_,Hid->bE
open Go.Value renaming int->i_,slice->s_,bool->b_,string->t_,agg->a_,pointer->p_,tuple->u_
open Option renaming some->o_,none->n_
open Function renaming comp_def->Ls
open Go renaming wp_at_succ->Kd,wp_at_zero->Kc
open Go.Proofs.Tryz renaming prog->J3
open Option renaming map_some->J9

open Go.RowKit
namespace Go.Proofs.YtfncpmaefninjaaGreatDoor
open Go.Maps
attribute [local go_sem ↓] Kc Kd
def Qz (a b:aD):Bool:=if a.Mg=b.Mg then decide (a.id < b.id) else decide (a.Mg < b.Mg)
def RY (a b:ao × Nat):Bool:=Qz a.1.toaD b.1.toaD
def Qx (bA:Int) (l:List (ao × Nat)):List (ao × Nat):=l.filter fun p=>og bA p.1.toaD
def RZ {bA:Int} {x:aD} :og bA x=true↔2<=x.Md/\1<=x.Mg/\x.Mg<=bA:=by
 unfold og;rw [J7,decide_eq_true_eq,bz]
def R2 (bA:Int) (l:List (ao × Nat)) (p:ao × Nat):Qx bA (l ++ [p])=Qx bA l ++ (if og bA p.1.toaD=true then [p] else []):=by
 unfold Qx;rw [QN];by_cases h:og bA p.1.toaD=true <;> simp [h]
def Sn {α:Type} (afM:α->α->Bool) {l:List α} {k:Nat} (h:0 < k) (hk:k<=l.length): ∃ y,oa afM (l.take k)=o_ y/\y∈l:=by
 cases hb:oa afM (l.take k) with
 | none=>
  have h1:=congrArg List.length (CZ afM hb);rw [Lk,List.length_nil] at h1;omega
 | some y=>exact ⟨y,rfl,RK (Fg afM hb)⟩
def Sq {α β:Type} {afM:β->β->Bool} (f:α->β) (l:List α):oa afM (l.map f)=(oa (fun x y=>afM (f x) (f y)) l).map f:=by
 have key: ∀ (l:List α) (r:Option α),(l.map f).foldl (qV afM) (r.map f)=(l.foldl (qV fun x y=>afM (f x) (f y)) r).map f:=by
  intro l
  induction l with
  | nil=>intro r; rfl
  | cons x l ih=>
   intro r;simp only [List.foldl_cons,Lt,<- ih]
   congr 1
   cases r with
   | none=>rfl
   | some b=>
    simp only [qV,J9]
    split <;> rfl
 exact key l n_
def fold_congr {α:Type} {afM ah':α->α->Bool} : ∀ (l l0:List α) (r:Option α),(∀ b,r=o_ b->b∈l0)->(∀ b∈l0,∀ x∈l,afM x b=ah' x b)->l.Pairwise (fun b x=>afM x b=ah' x b)->l.foldl (qV afM) r=l.foldl (qV ah') r
 | [],_,_,_,_,_=>rfl
 | x :: l,l0,r,hr,h1,h2=>by
  rw [LM] at h2;have e:qV afM r x=qV ah' r x:=by
   cases r with
   | none=>rfl
   | some b=>simp only [qV,h1 b (hr b rfl) x zw]
  simp only [List.foldl_cons,e];refine fold_congr l (x :: l0) _ (fun b hb=> ?_) (fun b hb y hy=> ?_) h2.2
  .rcases EO ah' hb with h3 | h3
   .simp [h3]
   .exact LB _ (hr b h3)
  .rcases Kt.1 hb with rfl | hb
   .exact h2.1 y hy
   .exact h1 b hb y Zdx
def Sy {bA:Int} {lp:List (ao × Nat)} (h:(lp.map fun p=>p.1.toaD).Pairwise (fun x y=>x.id < y.id)):(oa RY (Qx bA lp)).map (fun p=>p.1.toaD)=lZ bA (lp.map fun p=>p.1.toaD):=by
 have e1:lF bA (lp.map fun p=>p.1.toaD)=(Qx bA lp).map fun p=>p.1.toaD:=by
  unfold lF Qx;rw [List.filter_map];rfl
 unfold lZ;rw [e1];have e2:oa l8 ((Qx bA lp).map fun p=>p.1.toaD)=oa Qz ((Qx bA lp).map fun p=>p.1.toaD):=by
  refine fold_congr _ [] n_ (fun b hb=>by cases hb) (fun b hb=>by cases hb) ?_;have h2:((Qx bA lp).map fun p=>p.1.toaD).Pairwise (fun x y=>x.id < y.id):=by
   rw [<- e1];exact h.sublist List.filter_sublist
  refine h2.imp fun {b x} lW=> ?_
  unfold l8 Qz;by_cases hw:x.Mg=b.Mg
  .rw [if_pos hw,decide_eq_false zo,decide_eq_false zo]
  .rw [if_neg hw]
 rw [e2,Sq];rfl
def R9 (A B:Nat) (a b:ao) (w:w_) (ha:w.heap[A]? =o_ (c_ (aX a) 41)) (hb:w.heap[B]? =o_ (c_ (aX b) 41)):
  k_ J3 61 #[p_ (o_ ⟨A,0,n_⟩),p_ (o_ ⟨B,0,n_⟩)] w fun e w'=>e=r_ (b_ (Qz a.toaD b.toaD))/\B_ w.heap.size w w':=by
 obtain ⟨a0,-,-,-,-,-,a6,-⟩:=bo ha;obtain ⟨b0,-,-,-,-,-,b6,-⟩:=bo hb;clear ha hb
 go_enter func61,ntmps61
 by_cases hp:a.Mg=b.Mg
 .have e1:(a.Mg != b.Mg)=false:=by simp [hp]
  by_cases hs:a.id < b.id
  .have ds:decide (a.id < b.id)=true:=decide_eq_true hs
   have HV:bE (Qz a.toaD b.toaD=true):=by show Qz _ _=_; unfold Qz; rw [if_pos hp]; exact ds
   exact ac
  .have ds:decide (a.id < b.id)=false:=decide_eq_false hs
   have HV:bE (Qz a.toaD b.toaD=false):=by show Qz _ _=_; unfold Qz; rw [if_pos hp]; exact ds
   exact ac
 .have e1:(a.Mg != b.Mg)=true:=by simp [hp]
  by_cases hs:a.Mg < b.Mg
  .have ds:decide (a.Mg < b.Mg)=true:=decide_eq_true hs
   have HV:bE (Qz a.toaD b.toaD=true):=by show Qz _ _=_; unfold Qz; rw [if_neg hp]; exact ds
   exact ac
  .have ds:decide (a.Mg < b.Mg)=false:=decide_eq_false hs
   have HV:bE (Qz a.toaD b.toaD=false):=by show Qz _ _=_; unfold Qz; rw [if_neg hp]; exact ds
   exact ac
def Sd (a:Option d_) (l:List (ao × Nat)) (cap:Nat) (w:w_) (hl:l.length<=1048576) (hr:Row w a (l.map fun p=>dt p.2)) (hb: ∀ p∈l,w.heap[p.2]? =o_ (c_ (aX p.1) 41)):
  k_ J3 59 #[s_ a l.length cap,.func (.func 61) #[] #[]] w fun e w'=>e=r_ (u_ #[qz ((oa RY l).map (·.2)),b_ (decide (0 < l.length))])/\B_ w.heap.size w w':=by
 have H:bE (Row w a (l.map fun p=>dt p.2)/\ ∀ p∈l,w.heap[p.2]? =o_ (c_ (aX p.1) 41)):=⟨hr,hb⟩
 clear hr hb
 go_enter func59,ntmps59
 go_wp2_with fail
 go_loopw [6,11] (fun b i wr=> ∃ (k:Nat) (r:Option (ao × Nat)),k<=l.length/\i=i_ j_ k/\b=qz (r.map (·.2))/\bE (r=oa RY (l.take k)/\B_ w.heap.size w wr)) (fun _ i _=>l.length - (intOf i).toNat)
 case atStart=>exact ⟨0,n_,Ky _,rfl,rfl,⟨by simp [oa],Kp _ _⟩⟩
 case round=>
  obtain ⟨k,r,hk,rfl,rfl,HA⟩:=hrel;by_cases hlt:k < l.length
  .have i0:(0:Int)<=(k:Int):=zo
   have i1:(k:Int) < (l.length:Int):=zo
   obtain ⟨p,hp⟩: ∃ p,l[k]? =o_ p:=⟨_,Kz hlt⟩
   obtain ⟨g,ha,hc⟩:=(H.I.1.below HA.I.2) k (dt p.2) Zdg;subst ha;unfold dt at hc;have HP:bE (l[k]? =o_ p/\p∈l):=⟨hp,KA hp⟩
   clear hp;by_cases hk0:k=0
   .have e0:((k:Int) == 0)=true:=by simp [hk0]
    have HS:bE (o_ p=oa RY (l.take (k+1))):=by show _=_; rw [cj HP.I.1,qy,hk0]; rfl
    exact Zbe
   .have e0:((k:Int) == 0)=false:=by simp [hk0]
    obtain ⟨y,hy,hym⟩:=Sn RY (l:=l) (by omega:0 < k) hk;have hry:r=o_ y:=HA.I.1.trans hy;subst hry;have HQ:bE (oa RY (l.take k)=o_ y/\y∈l):=⟨hy,hym⟩
    clear hk0 hy hym;simp only [qz,dt,J9];go_wp2_with fail;refine (R9 p.2 y.2 p.1 y.1 wr ((HA.I.2.block _ (J2.1 (H.I.2 p HP.I.2)).1).trans (H.I.2 p HP.I.2)) ((HA.I.2.block _ (J2.1 (H.I.2 y HQ.I.2)).1).trans (H.I.2 y HQ.I.2))).mono ?_;rintro e w4 ⟨rfl,hb4⟩;have HB4:bE (B_ w.heap.size w w4):=HA.I.2.trans (hb4.mono HA.I.2.size);clear hb4;cases FT:Qz p.1.toaD y.1.toaD with
    | true=>
     have HS:bE (o_ p=oa RY (l.take (k+1))):=by show _=_; rw [cj HP.I.1,qy,HQ.I.1]; simp [qV,RY,FT]
     exact Zbf
    | false=>
     have HS:bE (o_ y=oa RY (l.take (k+1))):=by show _=_; rw [cj HP.I.1,qy,HQ.I.1]; simp [qV,RY,FT]
     exact Zbg
  .have i1: ¬ (k:Int) < (l.length:Int):=zo
   have HE:bE (r=oa RY l):=by have h5:=HA.I.1; rwa [KF zo] at h5
   go_wp2;go_ret2;refine ⟨?_,HA.I.2⟩;rw [HE.I];simp
def Sz (o:Nat) (q:ol) (lp:List (ao × Nat)) (bA:Int) (bj:Nat) (w:w_) (hop:fa w o q) (hsh:Shelf aX (fun x:ao=>x.id) 41 w bj q.bp lp) (hl:lp.length<=1048576) (hwf: ∀ p∈RW (fun x:ao=>x.id) lp,(Lit.int j_ p.1).wf=true):
  k_ J3 60 #[p_ (o_ ⟨o,0,n_⟩),i_ j_ bA] w fun e w'=>(∃ a cap,e=r_ (s_ a (Qx bA lp).length cap)/\Row w' a ((Qx bA lp).map fun p=>dt p.2))/\B_ w.heap.size w w':=by
 obtain ⟨i0,hi,e0⟩:=Kw.1 sQ;simp only [Kx] at e0;have HI:bE (Tryz.prog.info? 64=o_ i0/\i0.zero=o_ (p_ n_)/\i0.size=1/\i0.bytes=8):=⟨hi,e0⟩
 have H:bE (Shelf aX (fun x:ao=>x.id) 41 w bj q.bp lp/\ ∀ p∈RW (fun x:ao=>x.id) lp,(Lit.int j_ p.1).wf=true):=⟨hsh,hwf⟩
 have c2:w.cell? ⟨o,2,n_⟩=o_ (i_ j_ 6):=hop.cell 2;have c3:w.cell? ⟨o,3,n_⟩=o_ (.map (o_ q.bp)):=hop.cell 3;have HK:bE ((RW (fun x:ao=>x.id) lp).length=lp.length):=bZ lp;clear hop hsh hwf hi e0
 go_enter func60,ntmps60
 go_wp2_with fail;refine (mq 6 q.bp (RW (fun x:ao=>x.id) lp) w H.I.1.map ZcV H.I.2).mono ?_;rintro e w2 ⟨a,cap,rfl,hown,hb2⟩;obtain ⟨a',cap',hv,hrow⟩:=cr hown;cases hv;have HR:bE (Row w2 a ((RW (fun x:ao=>x.id) lp).map fun p=>dt p.2)):=hrow;have HO:bE (Shelf aX (fun x:ao=>x.id) 41 w2 bj q.bp lp/\B_ w.heap.size w w2):=⟨H.I.1.below hb2,hb2⟩
 rw [HK.I];clear hown hrow hb2 c2 c3;go_wp2_with fail
 go_loopw [5,14] (fun l i wr=> ∃ (k n:Nat),k<=lp.length/\n<=k/\i=i_ j_ k/\ ∃ a' cap',l=s_ a' n cap'/\bE (n=(Qx bA (lp.take k)).length/\wr.ownsRow w2.heap.size 64 1 (s_ a' n cap') n ((Qx bA (lp.take k)).map fun p=>dt p.2)/\B_ w2.heap.size w2 wr)) (fun _ i _=>lp.length - (intOf i).toNat)
 case atStart=>exact ⟨0,0,Ky _,Ki _,rfl,n_,0,rfl,⟨rfl,Ke _ _ _ _,Kp _ _⟩⟩
 case round=>
  obtain ⟨k,n,hk,hn,rfl,a',cap',rfl,HA⟩:=hrel;by_cases hlt:k < lp.length
  .have qE:(0:Int)<=(k:Int):=zo
   have i1:(k:Int) < (lp.length:Int):=zo
   obtain ⟨p,hp⟩: ∃ p,lp[k]? =o_ p:=⟨_,Kz hlt⟩
   obtain ⟨g,ha,hc⟩:=(HR.I.below HA.I.2.2) k (dt p.2) ZcZ;subst ha;unfold dt at hc;have HP:bE (lp[k]? =o_ p):=hp;have lW:wr.heap[p.2]? =o_ (c_ (aX p.1) 41):=(HO.I.1.below HA.I.2.2).box p (KA hp);obtain ⟨-,-,-,s3,-,-,s6,-⟩:=bo lW;have kT:=HA.I.2.2.size;clear hp lW;by_cases h1:2<=p.1.Md;rotate_left
   .skip
    exact rg
   by_cases h2:1<=p.1.Mg;rotate_left
   .skip
    exact rg
   by_cases h3:p.1.Mg<=bA;rotate_left
   .skip
    exact rg
   have SC:bE ((Qx bA (lp.take (k+1)))=(Qx bA (lp.take k)) ++ [p]):=by show _=_; rw [cj HP.I,R2,if_pos (by rw [RZ]; exact ⟨h1,h2,h3⟩)]
   go_wp2_with (at_builtin; refine KD _ rfl _ _ 130 rfl w2.heap.size 64 i0 (p_ n_) 1 8 underlying130 HI.I.1 HI.I.2.1 HI.I.2.2.1 HI.I.2.2.2 rfl (by decide) (s_ a' n cap') n ((Qx bA (lp.take k)).map fun p=>dt p.2) rfl (HA.I.2.1.alloc _) ⟨wr.heap.size,0,n_⟩ 1 1 [p_ (o_ ⟨p.2,0,n_⟩)] (by rfl) rfl (KE (cs:= #[p_ (o_ ⟨p.2,0,n_⟩)]) (t:=64) (fr:=(0,0)) (Kj wr _)) ZcP ZcI zo ZcF ?_; intro v' w5 hown' hgrow hnil jV; obtain ⟨a5,im,rfl,-⟩:=cr hown'; have HN:bE (n+1=(Qx bA (lp.take (k+1))).length/\w5.ownsRow w2.heap.size 64 1 (s_ a5 (n+1) im) (n+1) ((Qx bA (lp.take (k+1))).map fun p=>dt p.2)/\B_ w2.heap.size w2 w5):=⟨by rw [SC.I,Lf,<- HA.I.1]; rfl,by rw [SC.I,Kl]; exact hown',(HA.I.2.2.alloc kT _).grown hgrow ZcF (fun q hq=>(HA.I.2.1.lt q hq).1)⟩; clear hown' hgrow hnil jV);exact Zao
  .have i1: ¬ (k:Int) < (lp.length:Int):=zo
   have HE:bE (n=(Qx bA lp).length/\Row wr a' ((Qx bA lp).map fun p=>dt p.2)):=by
    have h5:=HA.I;rw [KF zo] at h5;exact Zbk
   exact Zbu
end Go.Proofs.YtfncpmaefninjaaGreatDoor

namespace Go.Proofs.YtfncpmaefninjaaGreatDoor
open Go.Maps
attribute [local go_sem ↓] Kc Kd
def kD (p:aE) (id:Int):Option aE:=hU p id (fun y=>decide (y.Md=0) && !decide (p.next=1000000000)) (fun y=> { y with Md:=1,RU:=p.next }) (p.next+1)
def Bk (q:af) (n bj:Nat) (x:ao) (w:w_) (h:ap w bj q) (hb:bj<=w.heap.size) (hx:q.L8[n]? =o_ x) (hn:0<=q.next/\q.next<=1000000000):
  k_ J3 118 #[a_ q.cells,i_ j_ n] w fun e w'=> ∃ q2:af,e=r_ (a_ q2.cells)/\q2= { q with next:=q.next+1,L8:=q.L8.set n { x with RU:=q.next } } /\ap w' bj q2/\B_ bj w w':=by
 obtain ⟨gs,ha,hat⟩:=cn h.at.1 hx;have hb1:B_ w.heap.size w ((w.alloc (c_ (q.L6 gs) 31)).alloc (c_ ar 31)):=((Kp _ _).alloc (Ki _) _).alloc zw _;have hnl:n < q.L8.length:=(Lj.1 hx).1;have HB:bE (av ((w.alloc (c_ (q.L6 gs) 31)).alloc (c_ ar 31)) w.heap.size q/\ap ((w.alloc (c_ (q.L6 gs) 31)).alloc (c_ ar 31)) bj q/\B_ w.heap.size w ((w.alloc (c_ (q.L6 gs) 31)).alloc (c_ ar 31))/\((w.alloc (c_ (q.L6 gs) 31)).alloc (c_ ar 31)).heap[w.heap.size+1]? =o_ (c_ ar 31)/\q.L8[n]? =o_ x/\q.aN=o_ ⟨gs,0,n_⟩/\bj<=w.heap.size/\gs < w.heap.size/\bj<=gs):=by
  have h5:=cf h.L8 (g:=gs) Zdi;exact ⟨by unfold av; rw [ha]; exact (PU zw).trans (Kj _ _),h.below hb1,hb1,Kq _ _ _,hx,ha,hb,h5.2,h5.1⟩
 obtain ⟨m0,m1,m2,m3,m4,m5,m6,m7⟩:=HB.I.1.cells;rw [ha] at m2;obtain ⟨⟨u,pe⟩,f11⟩:(∃ u,((w.alloc (c_ (q.L6 gs) 31)).alloc (c_ ar 31)).cell? ⟨gs,n * 12+11,n_⟩=o_ u)/\((w.alloc (c_ (q.L6 gs) 31)).alloc (c_ ar 31)).frozen? ⟨gs,n * 12+11,n_⟩=false:=by
  obtain ⟨g,hg,hrow⟩:=bl.fX (K:=bg) HB.I.2.1.L8 zo;exact Zbx
 have j0:(0:Int)<=(n:Int):=zo
 have j1:(n:Int) < (q.L8.length:Int):=zo
 obtain ⟨hn0,hn1⟩:=hn;have h5:=HB.I.2.1.kB (n:=n) (j:=11) (x:=x) (y:= { x with RU:=q.next }) (vs:= [i_ j_ q.next]) hx ha ⟨rfl,rfl,rfl⟩ (by show 11+1<=12; omega) (fun r hr=>by match r,hr with | 0,_=>rfl) (fun r hr hn=>by match r,hr,hn with | 0,_,_=>rfl | 1,_,_=>rfl | 2,_,_=>rfl | 3,_,_=>rfl | 4,_,_=>rfl | 5,_,_=>rfl | 6,_,_=>rfl | 7,_,_=>rfl | 8,_,_=>rfl | 9,_,_=>rfl | 10,_,_=>rfl | 11,_,hn=>exact absurd ⟨zo,by show 11 < 11+1; omega⟩ hn);simp only [bn] at h5;have HS:bE (ap (((w.alloc (c_ (q.L6 gs) 31)).alloc (c_ ar 31)).setCell ⟨gs,n * 12+11,n_⟩ (i_ j_ q.next)) bj ({ q with L8:=q.L8.set n { x with RU:=q.next } } :af)/\B_ bj w (((w.alloc (c_ (q.L6 gs) 31)).alloc (c_ ar 31)).setCell ⟨gs,n * 12+11,n_⟩ (i_ j_ q.next))/\av (((w.alloc (c_ (q.L6 gs) 31)).alloc (c_ ar 31)).setCell ⟨gs,n * 12+11,n_⟩ (i_ j_ q.next)) w.heap.size q/\(((w.alloc (c_ (q.L6 gs) 31)).alloc (c_ ar 31)).setCell ⟨gs,n * 12+11,n_⟩ (i_ j_ q.next)).heap[w.heap.size+1]? =o_ (c_ ar 31)):=by
  have hg:=HB.I.2.2.2.2.2.2;refine ⟨h5.1,(hb1.mono hb).trans (h5.2.1.below (by have:=hb1.size; omega) ZcF),(aH zo).trans HB.I.1,(aH zo).trans HB.I.2.2.2.1⟩
 have hq8:(af.cells q)=(q.L6 gs):=by unfold af.cells; rw [ha]
 rw [hq8];have hbks:=h5.2.2;have hlt0: ∀ g∈q.Mc,g < w.heap.size:=fun g hg=>(h.lt g hg).2
 have HBK:bE (∀ g∈({ q with L8:=q.L8.set n { x with RU:=q.next } } :af).Mc,g < w.heap.size):=fun g hg=>hlt0 g (by rw [<- hbks]; exact hg)
 have k1:(((w.alloc (c_ (q.L6 gs) 31)).alloc (c_ ar 31)).setCell ⟨gs,n * 12+11,n_⟩ (i_ j_ q.next)).cell? ⟨w.heap.size,1,n_⟩=o_ (i_ j_ q.next):=by have h6:=HS.I.2.2.1; unfold av at h6; simp only [World.cell?,h6]; rfl
 have k1f:(((w.alloc (c_ (q.L6 gs) 31)).alloc (c_ ar 31)).setCell ⟨gs,n * 12+11,n_⟩ (i_ j_ q.next)).frozen? ⟨w.heap.size,1,n_⟩=false:=Ko _ _ _ _ _ HS.I.2.2.1;clear h hb hx hb1 h5 hat ha hq8
 go_enter func118,ntmps118
 have HT:bE (((((w.alloc (c_ (q.L6 gs) 31)).alloc (c_ ar 31)).setCell ⟨gs,n * 12+11,n_⟩ (i_ j_ q.next)).setCell ⟨w.heap.size,1,n_⟩ (i_ j_ (q.next+1))).heap[w.heap.size+1]? =o_ (c_ ar 31)/\ap ((((w.alloc (c_ (q.L6 gs) 31)).alloc (c_ ar 31)).setCell ⟨gs,n * 12+11,n_⟩ (i_ j_ q.next)).setCell ⟨w.heap.size,1,n_⟩ (i_ j_ (q.next+1))) bj ({ q with L8:=q.L8.set n { x with RU:=q.next } } :af)/\B_ bj w ((((w.alloc (c_ (q.L6 gs) 31)).alloc (c_ ar 31)).setCell ⟨gs,n * 12+11,n_⟩ (i_ j_ q.next)).setCell ⟨w.heap.size,1,n_⟩ (i_ j_ (q.next+1)))):=by
  have hg:=HB.I.2.2.2.2.2.2;have hbl: ∀ g∈({ q with L8:=q.L8.set n { x with RU:=q.next } } :af).Mc,g≠w.heap.size:=fun g hg2 e=>by rw [hbks] at hg2; have:=hlt0 g hg2; omega
  exact ⟨(aH zo).trans HS.I.2.2.2,HS.I.1.same fun g hg2=>aH (hbl g hg2),bP HS.I.2.1 zo⟩
 clear hbks hlt0;go_wp2_with (refine ec 4 16 #[i_ j_ q.id,i_ j_ (q.next+1),s_ (o_ ⟨gs,0,n_⟩) q.L8.length q.aW,s_ q.bc q.aj.length q.bF,s_ q.ay q.L9.length q.aO,s_ q.ax q.ag.length q.aP,s_ q.am q.ae.length q.aG,s_ q.aK q.ai.length q.aV] HT.I.1 ?_);refine gZ results118 HT.I.1 ?_;have hg:=HB.I.2.2.2.2.2.2;have rN: ∀ g∈({ q with L8:=q.L8.set n { x with RU:=q.next } } :af).Mc,g≠w.heap.size+1:=fun g hg2 e=>by have:=HBK.I g hg2; omega
 have ho:=HT.I.2.1.same (w':=((((w.alloc (c_ (q.L6 gs) 31)).alloc (c_ ar 31)).setCell ⟨gs,n * 12+11,n_⟩ (i_ j_ q.next)).setCell ⟨w.heap.size,1,n_⟩ (i_ j_ (q.next+1))).setRow (w.heap.size+1) #[i_ j_ q.id,i_ j_ (q.next+1),s_ (o_ ⟨gs,0,n_⟩) q.L8.length q.aW,s_ q.bc q.aj.length q.bF,s_ q.ay q.L9.length q.aO,s_ q.ax q.ag.length q.aP,s_ q.am q.ae.length q.aG,s_ q.aK q.ai.length q.aV]) fun g hg2=>KH _ _ _ _ (rN g hg2)
 refine ⟨_,?_,rfl,⟨ho.L8,ho.aj,ho.L9,ho.ag,ho.ae,ho.ai,ho.eI,ho.eE,ho.eR,ho.nodup⟩,q_ HT.I.2.2 zo _⟩;simp only [af.cells,LI,HB.I.2.2.2.2.2.1]
def tK (p:af) (id:Int) (w:w_) (hf:p.Fit) (hs: ∀ x∈p.L8,x.dX) (h:af.At w p):
  k_ J3 80 #[a_ p.cells,i_ j_ id] w fun e w'=>gI w (kD p.pure id) e w':=by
 have HB:bE (av ((w.alloc (c_ p.row 31)).alloc (c_ ar 31)) w.heap.size p/\af.At ((w.alloc (c_ p.row 31)).alloc (c_ ar 31)) p/\B_ w.heap.size w ((w.alloc (c_ p.row 31)).alloc (c_ ar 31))/\((w.alloc (c_ p.row 31)).alloc (c_ ar 31)).heap[w.heap.size+1]? =o_ (c_ ar 31)):=by
  exact Q1
 have fl:bE (p.Fit/\ ∀ x∈p.L8,x.dX):=⟨hf,hs⟩
 have hpl:=hf.short.L8;clear h hf hs;obtain ⟨m0,m1,m2,m3,m4,m5,m6,m7⟩:=HB.I.1.cells;unfold af.cells
 go_enter func80,ntmps80
 go_wp2_with fail;generalize (w.alloc (c_ p.row 31)).alloc (c_ ar 31)=W at *;clear m0 m1 m2 m3 m4 m5 m6 m7;refine (lS p id W hpl HB.I.2.1).mono ?_;rintro e W1 ⟨rfl,hb⟩;replace HB:bE (av W1 w.heap.size p/\af.At W1 p/\B_ w.heap.size w W1/\W1.heap[w.heap.size+1]? =o_ (c_ ar 31)):=⟨HB.I.1.below hb,HB.I.2.1.below hb,HB.I.2.2.1.trans (hb.mono HB.I.2.2.1.size),(hb.block _ (J2.1 HB.I.2.2.2).1).trans HB.I.2.2.2⟩
 clear hb;obtain ⟨m0,m1,m2,m3,m4,m5,m6,m7⟩:=HB.I.1.cells;have hpf:=nK id p.pure.L8 0;rw [show p.pure.L8.map (·.id)=p.L8.map (·.id) by simp [af.pure,Ls]] at hpf;have Gh:bE (_):=hpf;clear hpf;generalize place (p.L8.map (·.id)) id 0=z at *;go_wp2_with fail;clear m0 m1 m2 m3 m4 m5 m6 m7;refine (eV p W1 fl.I.1 fl.I.2 HB.I.2.1).mono ?_;rintro e W2 ⟨rfl,hb⟩;replace HB:bE (av W2 w.heap.size p/\af.At W2 p/\B_ w.heap.size w W2/\W2.heap[w.heap.size+1]? =o_ (c_ ar 31)):=⟨HB.I.1.below hb,HB.I.2.1.below hb,HB.I.2.2.1.trans (hb.mono HB.I.2.2.1.size),(hb.block _ (J2.1 HB.I.2.2.2).1).trans HB.I.2.2.2⟩
 clear hb;obtain ⟨m0,m1,m2,m3,m4,m5,m6,m7⟩:=HB.I.1.cells;cases h4:bK p.pure
 .have HN:bE (kD p.pure id=n_):=vO h4
  clear h4;exact G_
 have H4:bE (bK p.pure=true):=h4;clear h4;rcases Gh.I with ⟨hz,hnf⟩ | ⟨n,y0,hz,hn,Dc⟩
 .have HN:bE (kD p.pure id=n_):=tg hnf
  subst hz;clear hnf Gh;exact G_
 rw [Li] at hz;subst hz;have hnl:n < p.L8.length:=by have h5:=(Lj.1 hn).1; simpa [af.pure] using h5
 have afO:decide ((n:Int) < 0)=false:=decide_eq_false zo;obtain ⟨x0,hx0,hxy⟩: ∃ x,p.L8[n]? =o_ x/\x.toaD=y0:=by
  have h5:(p.L8.map (·.toaD))[n]? =o_ y0:=hn;rw [Kk,Kw] at h5;exact h5
 subst hxy;have HY:bE (p.pure.L8[n]? =o_ x0.toaD/\p.pure.L8.find? (fun x=>decide (x.id=id))=o_ x0.toaD):=⟨hn,Dc⟩
 obtain ⟨gp,hap,Gn⟩:=cn HB.I.2.1.1 hx0;rw [hap] at m2;have wg:bE (p.aN=o_ ⟨gp,0,n_⟩):=hap;have d3:=Gn.2.2.2.1;clear hn Dc Gh hx0 Gn hap;have j0:(0:Int)<=(n:Int):=zo
 have j1:(n:Int) < (p.L8.length:Int):=zo
 by_cases hst:x0.Md=0
 .by_cases hnx:p.next=1000000000
  .have HN:bE (kD p.pure id=n_):=sx HY.I.2 (by have e:p.pure.next=1000000000:=hnx; simp [e])
   have e1:(x0.Md != 0)=false:=by simp [hst]
   have e2:(p.next == 1000000000)=true:=by simp [hnx]
   clear hst hnx;exact G_
  have HN:bE (kD p.pure id=o_ { p.pure with next:=p.next+1,L8:=ce id (fun y:aD=> { y with Md:=1,RU:=p.next }) p.pure.L8 }):=tT H4.I HY.I.2 (by have e:x0.toaD.Md=0:=hst; have e2: ¬ p.pure.next=1000000000:=hnx; simp [e,e2]);have e1:(x0.Md != 0)=false:=by simp [hst]
  have e2:(p.next == 1000000000)=false:=by simp [hnx]
  clear hst hnx;go_wp2_with fail;clear m0 m1 m2 m3 m4 m5 m6 m7 d3 e1 e2;have Mb:=fR p W2 fl.I.1 fl.I.2 HB.I.2.1;rw [show af.cells p=(p.L6 gp) by unfold af.cells; rw [wg.I]] at Mb;refine Mb.mono ?_;clear Mb;rintro e W3 ⟨q,rfl,hown,gn,hb3⟩;obtain ⟨x,hx,hxy⟩: ∃ x,q.L8[n]? =o_ x/\x.toaD=x0.toaD:=by
   have h5:(q.L8.map (·.toaD))[n]? =o_ x0.toaD:=by have h6:=HY.I.1; rw [<- gn] at h6; exact h6
   rw [Kk,Kw] at h5;exact h5
  obtain ⟨gs,ha,hat⟩:=cn hown.at.1 hx;have hnq:n < q.L8.length:=(Lj.1 hx).1;have hgs:=cf hown.L8 (g:=gs) Zdi;have hb4:B_ W3.heap.size W3 (W3.alloc (c_ (q.L6 gs) 31)):=(Kp _ _).alloc (Ki _) _;obtain ⟨⟨u,c3⟩,f3⟩:(∃ u,(W3.alloc (c_ (q.L6 gs) 31)).cell? ⟨gs,n * 12+3,n_⟩=o_ u)/\(W3.alloc (c_ (q.L6 gs) 31)).frozen? ⟨gs,n * 12+3,n_⟩=false:=by
   obtain ⟨g,hg,hrow⟩:=bl.fX (K:=bg) (hown.below hb4).L8 zo;rw [ha] at hg;cases hg;exact ⟨⟨_,(hrow.cell hx (r:=3) (by decide)).1⟩,(hrow.cell hx (r:=3) (by decide)).2⟩
  have h5:=(hown.below hb4).kB (n:=n) (j:=3) (x:=x) (y:= { x with Md:=1 }) (vs:= [i_ j_ 1]) hx ha ⟨rfl,rfl,rfl⟩ (by decide) (fun r hr=>by match r,hr with | 0,_=>rfl) (fun r hr hn=>by match r,hr,hn with | 0,_,_=>rfl | 1,_,_=>rfl | 2,_,_=>rfl | 3,_,hn=>exact absurd ⟨zo,by decide⟩ hn | 4,_,_=>rfl | 5,_,_=>rfl | 6,_,_=>rfl | 7,_,_=>rfl | 8,_,_=>rfl | 9,_,_=>rfl | 10,_,_=>rfl | 11,_,_=>rfl);simp only [bn] at h5;have oX:w.heap.size+1 < W2.heap.size:=(J2.1 HB.I.2.2.2).1;have Ix:=hb3.size;have HS:bE (ap ((W3.alloc (c_ (q.L6 gs) 31)).setCell ⟨gs,n * 12+3,n_⟩ (i_ j_ 1)) W2.heap.size ({ q with L8:=q.L8.set n { x with Md:=1 } } :af)/\av ((W3.alloc (c_ (q.L6 gs) 31)).setCell ⟨gs,n * 12+3,n_⟩ (i_ j_ 1)) W3.heap.size q/\B_ w.heap.size w ((W3.alloc (c_ (q.L6 gs) 31)).setCell ⟨gs,n * 12+3,n_⟩ (i_ j_ 1))/\((W3.alloc (c_ (q.L6 gs) 31)).setCell ⟨gs,n * 12+3,n_⟩ (i_ j_ 1)).heap[w.heap.size+1]? =o_ (c_ ar 31)/\({ q with L8:=q.L8.set n { x with Md:=1 } } :af).L8[n]? =o_ { x with Md:=1 } /\af.cells ({ q with L8:=q.L8.set n { x with Md:=1 } } :af)=(q.L6 gs)/\W2.heap.size<=((W3.alloc (c_ (q.L6 gs) 31)).setCell ⟨gs,n * 12+3,n_⟩ (i_ j_ 1)).heap.size/\q.pure=p.pure/\x.toaD=x0.toaD):=by
   refine ⟨h5.1,?_,?_,?_,by simp [hnq],by simp only [af.cells,LI,ha],?_,gn,hxy⟩
   .refine (aH zo).trans ?_
    rw [ha];exact Kj _ _
   .exact bP (HB.I.2.2.1.trans ((hb3.alloc Ix _).mono HB.I.2.2.1.size)) zo
   .exact (aH zo).trans ((hb4.block _ zo).trans ((hb3.block _ oX).trans HB.I.2.2.2))
   .have:=hb4.size; rw [show (((W3.alloc (c_ (q.L6 gs) 31)).setCell ⟨gs,n * 12+3,n_⟩ (i_ j_ 1))).heap.size=_ from fH [_]]; omega
  obtain ⟨k0,k1,k2,k3,k4,k5,k6,k7⟩:=HS.I.2.1.cells;rw [ha] at k2;have u4:(n:Int) < (q.L8.length:Int):=zo
  rw [show af.cells q=(q.L6 gs) by unfold af.cells; rw [ha]];clear hown gn hb3 hx hxy ha hat hgs hb4 h5 Ix;go_wp2_with fail;clear k0 k1 k2 k3 k4 k5 k6 k7 c3 f3;generalize (W3.alloc (c_ (q.L6 gs) 31)).setCell ⟨gs,n * 12+3,n_⟩ (i_ j_ 1)=W5 at *;have hnx:0<=q.next/\q.next<=1000000000:=by have h6:=bz.1 ((ch _).1 H4.I).next; rw [<- HS.I.2.2.2.2.2.2.2.1] at h6; have h7:q.pure.next=q.next:=rfl; omega
  have Mb:=Bk ({ q with L8:=q.L8.set n { x with Md:=1 } } :af) n W2.heap.size { x with Md:=1 } W5 HS.I.1 HS.I.2.2.2.2.2.2.1 HS.I.2.2.2.2.1 hnx;rw [HS.I.2.2.2.2.2.1] at Mb;refine Mb.mono ?_;clear Mb;rintro e W6 ⟨q2,rfl,pv,DU,jQ⟩;have H6:bE (ap W6 W2.heap.size q2/\B_ w.heap.size w W6/\W6.heap[w.heap.size+1]? =o_ (c_ ar 31)/\q2.pure= { p.pure with next:=p.next+1,L8:=ce id (fun y:aD=> { y with Md:=1,RU:=p.next }) p.pure.L8 } /\w.heap.size+1 < W2.heap.size):=by
   refine ⟨DU,HS.I.2.2.1.trans (jQ.mono zo),(jQ.block _ oX).trans HS.I.2.2.2.1,?_,oX⟩;have hpp:=HS.I.2.2.2.2.2.2.2.1;have hid:x0.toaD.id=id:=by have h7:=List.find?_some HY.I.2; simpa using h7
   rw [rp (sc H4.I) HY.I.1 hid];have hnn:q.next=p.next:=congrArg aE.next hpp;have hpr:q.L8.map (·.toaD)=p.pure.L8:=congrArg aE.L8 hpp;have hxx:=HS.I.2.2.2.2.2.2.2.2;subst pv
   show ({ q.pure with next:=q.next+1,L8:=((q.L8.set n { x with Md:=1 }).set n { { x with Md:=1 } with RU:=q.next }).map (·.toaD) } :aE)=_
   rw [PV,PN,hpr,hpp,hnn,<- hxx]
  clear pv DU jQ HS hnx;go_wp2_with (refine ec 4 42 (af.cells q2) H6.I.2.2.1 ?_);refine mG results80 (b_ true) H6.I.2.2.1 ?_;rw [HN.I];have hl:=H6.I.2.2.2.2;exact ⟨q2,rfl,(H6.I.1.lower zo).same fun g hg=>KH _ _ _ _ (by have:=(H6.I.1.lt g hg).1; omega),H6.I.2.2.2.1,q_ H6.I.2.1 zo _⟩
 .have HN:bE (kD p.pure id=n_):=sx HY.I.2 (by have e: ¬ x0.toaD.Md=0:=hst; simp [e])
  have e1:(x0.Md != 0)=true:=by simp [hst]
  clear hst;exact G_
end Go.Proofs.YtfncpmaefninjaaGreatDoor

namespace Go.Proofs.YtfncpmaefninjaaGreatDoor
open Go.Maps
attribute [local go_sem ↓] Kc Kd
def N4 (t:ByteArray) (x:aD):ByteArray:=t ++ ⟨#[112,114,111,99,32]⟩ ++ Ij x.id ++ ⟨#[32]⟩ ++ Ij x.RX ++ ⟨#[32]⟩ ++ Ij x.Md ++ ⟨#[32]⟩ ++ Ij x.pc ++ ⟨#[32]⟩ ++ Ij x.left ++ ⟨#[32]⟩ ++ Ij x.Mg ++ ⟨#[32]⟩ ++ Ij x.on ++ ⟨#[32]⟩ ++ Ij x.code ++ ⟨#[32]⟩ ++ Ij x.RU ++ ⟨#[32,59]⟩ ++ x.held ++ ⟨#[59]⟩ ++ x.got ++ ⟨#[59]⟩ ++ NQ x.prog ++ ⟨#[10]⟩
def OT (t:ByteArray) (x:bD):ByteArray:=t ++ ⟨#[115,101,109,32]⟩ ++ Ij x.id ++ ⟨#[32]⟩ ++ Ij x.n ++ ⟨#[32]⟩ ++ Ij x.max ++ ⟨#[10]⟩
def NE (t:ByteArray) (x:aB):ByteArray:=t ++ ⟨#[101,118,101,110,116,32]⟩ ++ Ij x.id ++ ⟨#[32]⟩ ++ Ij (MJ x.up) ++ ⟨#[10]⟩
def NJ (t:ByteArray) (x:az):ByteArray:=t ++ ⟨#[98,111,97,114,100,32]⟩ ++ Ij x.id ++ ⟨#[32]⟩ ++ Ij (MJ x.shown) ++ ⟨#[32]⟩ ++ x.text ++ ⟨#[10]⟩
def Nm (t:ByteArray) (x:ci):ByteArray:=t ++ ⟨#[98,117,102,102,101,114,32]⟩ ++ Ij x.id ++ ⟨#[32]⟩ ++ Ij x.max ++ MI x.Ma ++ ⟨#[10]⟩
def N5 (t:ByteArray) (x:dS):ByteArray:=t ++ ⟨#[112,111,114,116,32]⟩ ++ Ij x.id ++ ⟨#[32]⟩ ++ Ij (MJ x.I) ++ ⟨#[32]⟩ ++ Ij (MJ x.Mf) ++ ⟨#[32]⟩ ++ Ij x.max ++ MI x.Ma ++ ⟨#[10]⟩
def Pu (p:aE):ByteArray:=⟨#[112,97,114,116,32]⟩ ++ Ij p.id ++ ⟨#[32]⟩ ++ Ij p.next ++ ⟨#[10]⟩
def NF (p:aE):ByteArray:=if bK p=true then p.ai.foldl N5 (p.ae.foldl Nm (p.ag.foldl NJ (p.L9.foldl NE (p.aj.foldl OT (p.L8.foldl N4 (Pu p)))))) else ⟨#[]⟩
def M4 {α:Type} {F:ByteArray->α->ByteArray} {l:List α} {k:Nat} {x:α} {c:ByteArray} (h:l[k]? =o_ x):(l.take (k+1)).foldl F c=F ((l.take k).foldl F c) x:=by
 have hk:=(Lj.1 h).1;rw [QE hk,List.foldl_append,(Lj.1 h).2];rfl
structure MQ (w:w_) (B:Nat) (p:af) (W:w_):Prop where
 box:av W B p
 MT:af.At W p
 low:B_ w.heap.size w W
def MQ.below {w W W2:w_} {B:Nat} {p:af} (h:MQ w B p W) (hb:B_ W.heap.size W W2):MQ w B p W2:=⟨h.box.below hb,h.MT.below hb,h.low.trans (hb.mono h.low.size)⟩
def afO {n:Int} (h: -9999999999<=n/\n<=9999999999):(Ij n).size<=2000000000000:=by
 have:=MD h.1 h.2
 omega
def Mw {l:List ByteArray} (h:l.length<=1048576) (hs: ∀ x∈l,x.size<=1048576):(MI l).size<=2000000000000:=by
 have h1:=Nf (f:=NS) (l:=l) (m:=1048577) fun y hy=>by have:=hs y hy; rw [Ny]; omega
 have h2:=Nat.mul_le_mul_left 1048577 h;unfold MI;omega
def MQ.sem {w W:w_} {B gs k:Nat} {p:af} {x:bD} (h:MQ w B p W) (ha:p.bc=o_ ⟨gs,0,n_⟩) (hx:p.aj[k]? =o_ x):bD.At W gs k x:=by
 obtain ⟨g,h1,h2⟩:=lQ h.MT.2.1 hx;exact Zbt
def MQ.event {w W:w_} {B gs k:Nat} {p:af} {x:aB} (h:MQ w B p W) (ha:p.ay=o_ ⟨gs,0,n_⟩) (hx:p.L9[k]? =o_ x):aB.At W gs k x:=by
 obtain ⟨g,h1,h2⟩:=j4 h.MT.2.2.1 hx;exact Zbt
def MQ.ajl {w W:w_} {B gs k:Nat} {p:af} {x:az} (h:MQ w B p W) (ha:p.ax=o_ ⟨gs,0,n_⟩) (hx:p.ag[k]? =o_ x):az.At W gs k x:=by
 obtain ⟨g,h1,h2⟩:=jr h.MT.2.2.2.1 hx;exact Zbt
def MQ.buffer {w W:w_} {B gs k:Nat} {p:af} {x:au} (h:MQ w B p W) (ha:p.am=o_ ⟨gs,0,n_⟩) (hx:p.ae[k]? =o_ x):au.At W gs k x:=by
 obtain ⟨g,h1,h2⟩:=iA h.MT.2.2.2.2.1 hx;exact Zbt
def MQ.port {w W:w_} {B gs k:Nat} {p:af} {x:aM} (h:MQ w B p W) (ha:p.aK=o_ ⟨gs,0,n_⟩) (hx:p.ai[k]? =o_ x):aM.At W gs k x:=by
 obtain ⟨g,h1,h2⟩:=lm h.MT.2.2.2.2.2 hx;exact Zbt
def MQ.proc {w W:w_} {B gs k:Nat} {p:af} {x:ao} (h:MQ w B p W) (ha:p.aN=o_ ⟨gs,0,n_⟩) (hx:p.L8[k]? =o_ x):ao.At W gs k x:=by
 obtain ⟨g,h1,h2⟩:=cn h.MT.1 hx;exact Zbt
def MS (p:af) (w:w_) (hf:p.Fit) (hs: ∀ x∈p.L8,x.dX) (h:af.At w p):
  k_ J3 30 #[a_ p.cells] w fun e w'=>e=r_ (t_ (NF p.pure))/\B_ w.heap.size w w':=by
 have S:bE (MQ w w.heap.size p (w.alloc (c_ p.cells 31))):=⟨Kj _ _,h.below ((Kp _ _).alloc (Ki _) _),(Kp _ _).alloc (Ki _) _⟩
 have HF:bE (p.Fit/\ ∀ x∈p.L8,x.dX):=⟨hf,hs⟩
 clear h hf hs
 go_enter func30,ntmps30
 go_upto_region 1 with fail;generalize w.alloc (c_ p.cells 31)=A at *;have Mb:=eV p A HF.I.1 HF.I.2 S.I.MT;go_wp2_with (refine eT 1 S.I.box ?_);refine Mb.mono ?_;clear Mb;rintro e af8 ⟨rfl,hb⟩;replace S:=aA (S.I.below hb);clear hb;cases hr:bK p.pure
 .have HT:bE (NF p.pure=⟨#[]⟩):=if_neg (by rw [hr]; decide)
  clear hr;exact Fd
 have HR:=aA ((ch _).1 hr);have HT:=aA (show NF p.pure=_ from if_pos hr);clear hr;have bi: -9999999999<=p.id/\p.id<=9999999999:=by have:=bz.1 HR.I.id; simp only [af.pure] at this; omega
 have Ml: -9999999999<=p.next/\p.next<=9999999999:=by have:=bz.1 HR.I.next; simp only [af.pure] at this; omega
 go_upto_region 3 with fail;refine aT (fun W=>bE (MQ w w.heap.size p W)) ZcE (S.I.below (Kp _ _).drew) ?_
 iterate 2 (refine PI ?_ (hy:=fun w0 hS0=>by obtain ⟨q0,q1,-,-,-,-,-,-⟩:=hS0.I.box.cells; go_simp; try with_reducible rfl))
 refine b9 (Ij p.id) 46 #[i_ j_ p.id] (fun w0 h0=>(MC _ bi.1 bi.2 w0).mono fun e w1 h=>⟨h.1,h0.I.below h.2⟩) ?_;refine ad (u:=⟨#[112,97,114,116,32]⟩) 1 (by decide) (afO bi) (fun c1 e1 z1=> ?_);refine y7 _ z1 (fun c2 e2 z2=> ?_)
 iterate 2 (refine PI ?_ (hy:=fun w0 hS0=>by obtain ⟨q0,q1,-,-,-,-,-,-⟩:=hS0.I.box.cells; go_simp; try with_reducible rfl))
 refine b9 (Ij p.next) 46 #[i_ j_ p.next] (fun w0 h0=>(MC _ Ml.1 Ml.2 w0).mono fun e w1 h=>⟨h.1,h0.I.below h.2⟩) ?_;refine ad _ z2 (afO Ml) (fun c3 e3 z3=> ?_);refine y7 _ z3 (fun Mn e4 Mj=> ?_);refine PI ?_ (hy:=fun w0 hS0=>by obtain ⟨q0,q1,-,-,-,-,-,-⟩:=hS0.I.box.cells; go_simp; try with_reducible rfl);refine bk ZcE (fun A2 y5=> ?_) _;have Mh:bE (Mn=Pu p.pure):=by show _=_; rw [e4.I,e3.I,e2.I,e1.I]; rfl
 clear e4 e3 e2 e1 z1 z2 z3 S bi Ml;have S:=y5;clear y5;go_wp2_with fail;have hlProc:p.L8.length<=6:=by have:=HR.I.dl; simp only [af.pure,KG] at this; exact this
 go_loopw [3,4] (fun s i wr=> ∃ (k:Nat) (c:ByteArray),k<=p.L8.length/\i=i_ j_ k/\s=t_ c/\c.size<=2000000000000 * (10+25 * k)/\bE (c=(p.L8.take k).foldl (fun t x=>N4 t x.toaD) Mn/\MQ w w.heap.size p wr)) (fun _ i _=>p.L8.length - (Go.RowKit.intOf i).toNat)
 case atStart=>exact ⟨0,Mn,Ky _,rfl,rfl,zo,rfl,S.I⟩
 case round=>
  clear S;obtain ⟨k,c,hk,rfl,rfl,z0,HA⟩:=hrel;by_cases hlt:k < p.L8.length
  .as_aux_lemma=>
    have i0:(0:Int)<=(k:Int):=zo
    have i1:(k:Int) < (p.L8.length:Int):=zo
    obtain ⟨x,hx⟩: ∃ x,p.L8[k]? =o_ x:=⟨_,Kz hlt⟩
    obtain ⟨gs,ha,hat⟩:=cn HA.I.2.MT.1 hx;have HL:=aA (Oy HR.I (x:=x) (Lr.2 ⟨x,KA hx,rfl⟩) (lA HA.I.2.MT.1 hx));have HX:bE (p.aN=o_ ⟨gs,0,n_⟩/\p.L8[k]? =o_ x):=⟨ha,hx⟩
    have Nv:=HL.I.1 x.id zw;have OM:=HL.I.1 x.RX zw;have Oe:=HL.I.1 x.Md zw;have bpc:=HL.I.1 x.pc zw;have O7:=HL.I.1 x.left zw;have OW:=HL.I.1 x.Mg zw;have bon:=HL.I.1 x.on zw;have O9:=HL.I.1 x.code zw;have Og:=HL.I.1 x.RU zw;obtain ⟨d0,d1,d2,d3,d4,d5,d6,d7,d8,d9,tH,tS⟩:=hat;obtain ⟨-,-,m2,-,-,-,-,-⟩:=HA.I.2.box.cells;rw [ha] at m2;clear hx ha;have HS:bE (MQ w w.heap.size p (wr.alloc (c_ x.row 41))/\(wr.alloc (c_ x.row 41)).heap[wr.heap.size]? =o_ (c_ x.row 41)):=⟨HA.I.2.below ((Kp _ _).alloc (Ki _) _),Kj _ _⟩
    go_upto_region 8 with fail;generalize wr.alloc (c_ x.row 41)=V at *;generalize wr.heap.size=X at *;clear d0 d1 d2 d3 d4 d5 d6 d7 d8 d9 tH tS m2;have NR:bE (∀ W W2:w_,bE (MQ w w.heap.size p W/\W.heap[X]? =o_ (c_ x.row 41))->B_ W.heap.size W W2->bE (MQ w w.heap.size p W2/\W2.heap[X]? =o_ (c_ x.row 41))):=fun W W2 h hb=>⟨h.I.1.below hb,(hb.block _ (J2.1 h.I.2).1).trans h.I.2⟩
    refine aT (fun W=>bE (MQ w w.heap.size p W/\W.heap[X]? =o_ (c_ x.row 41))) ZcE (NR.I _ _ HS (Kp _ _).drew) ?_;refine PI ?_ (hy:=fun w0 hS0=>by obtain ⟨q0,q1,q2,q3,q4,q5,q6,q7,q8,q9,kY,kV⟩:=bo hS0.I.2; go_simp; try with_reducible rfl);refine y7 _ z0 (fun c1 e1 z1=> ?_)
    iterate 2 (refine PI ?_ (hy:=fun w0 hS0=>by obtain ⟨q0,q1,q2,q3,q4,q5,q6,q7,q8,q9,kY,kV⟩:=bo hS0.I.2; go_simp; try with_reducible rfl))
    refine b9 (Ij x.id) 46 #[i_ j_ x.id] (fun w0 h0=>(MC _ Nv.1 Nv.2 w0).mono fun e w1 h=>⟨h.1,NR.I _ _ h0 h.2⟩) ?_;refine ad _ z1 (afO Nv) (fun c2 e2 z2=> ?_);refine y7 _ z2 (fun c3 e3 z3=> ?_)
    iterate 2 (refine PI ?_ (hy:=fun w0 hS0=>by obtain ⟨q0,q1,q2,q3,q4,q5,q6,q7,q8,q9,kY,kV⟩:=bo hS0.I.2; go_simp; try with_reducible rfl))
    refine b9 (Ij x.RX) 46 #[i_ j_ x.RX] (fun w0 h0=>(MC _ OM.1 OM.2 w0).mono fun e w1 h=>⟨h.1,NR.I _ _ h0 h.2⟩) ?_;refine ad _ z3 (afO OM) (fun c4 e4 z4=> ?_);refine y7 _ z4 (fun c5 e5 z5=> ?_)
    iterate 2 (refine PI ?_ (hy:=fun w0 hS0=>by obtain ⟨q0,q1,q2,q3,q4,q5,q6,q7,q8,q9,kY,kV⟩:=bo hS0.I.2; go_simp; try with_reducible rfl))
    refine b9 (Ij x.Md) 46 #[i_ j_ x.Md] (fun w0 h0=>(MC _ Oe.1 Oe.2 w0).mono fun e w1 h=>⟨h.1,NR.I _ _ h0 h.2⟩) ?_;refine ad _ z5 (afO Oe) (fun c6 e6 z6=> ?_);refine y7 _ z6 (fun c7 e7 z7=> ?_)
    iterate 2 (refine PI ?_ (hy:=fun w0 hS0=>by obtain ⟨q0,q1,q2,q3,q4,q5,q6,q7,q8,q9,kY,kV⟩:=bo hS0.I.2; go_simp; try with_reducible rfl))
    refine b9 (Ij x.pc) 46 #[i_ j_ x.pc] (fun w0 h0=>(MC _ bpc.1 bpc.2 w0).mono fun e w1 h=>⟨h.1,NR.I _ _ h0 h.2⟩) ?_;refine ad _ z7 (afO bpc) (fun c8 e8 KI=> ?_);refine y7 _ KI (fun c9 e9 z9=> ?_)
    iterate 2 (refine PI ?_ (hy:=fun w0 hS0=>by obtain ⟨q0,q1,q2,q3,q4,q5,q6,q7,q8,q9,kY,kV⟩:=bo hS0.I.2; go_simp; try with_reducible rfl))
    refine b9 (Ij x.left) 46 #[i_ j_ x.left] (fun w0 h0=>(MC _ O7.1 O7.2 w0).mono fun e w1 h=>⟨h.1,NR.I _ _ h0 h.2⟩) ?_;refine ad _ z9 (afO O7) (fun qF Pn z10=> ?_);refine y7 _ z10 (fun pe e11 z11=> ?_)
    iterate 2 (refine PI ?_ (hy:=fun w0 hS0=>by obtain ⟨q0,q1,q2,q3,q4,q5,q6,q7,q8,q9,kY,kV⟩:=bo hS0.I.2; go_simp; try with_reducible rfl))
    refine b9 (Ij x.Mg) 46 #[i_ j_ x.Mg] (fun w0 h0=>(MC _ OW.1 OW.2 w0).mono fun e w1 h=>⟨h.1,NR.I _ _ h0 h.2⟩) ?_;refine ad _ z11 (afO OW) (fun c12 PF z12=> ?_);refine y7 _ z12 (fun c13 PG z13=> ?_)
    iterate 2 (refine PI ?_ (hy:=fun w0 hS0=>by obtain ⟨q0,q1,q2,q3,q4,q5,q6,q7,q8,q9,kY,kV⟩:=bo hS0.I.2; go_simp; try with_reducible rfl))
    refine b9 (Ij x.on) 46 #[i_ j_ x.on] (fun w0 h0=>(MC _ bon.1 bon.2 w0).mono fun e w1 h=>⟨h.1,NR.I _ _ h0 h.2⟩) ?_;refine ad _ z13 (afO bon) (fun c14 e14 z14=> ?_);refine y7 _ z14 (fun c15 e15 z15=> ?_)
    iterate 2 (refine PI ?_ (hy:=fun w0 hS0=>by obtain ⟨q0,q1,q2,q3,q4,q5,q6,q7,q8,q9,kY,kV⟩:=bo hS0.I.2; go_simp; try with_reducible rfl))
    refine b9 (Ij x.code) 46 #[i_ j_ x.code] (fun w0 h0=>(MC _ O9.1 O9.2 w0).mono fun e w1 h=>⟨h.1,NR.I _ _ h0 h.2⟩) ?_;refine ad _ z15 (afO O9) (fun c16 e16 z16=> ?_);refine y7 _ z16 (fun c17 PH z17=> ?_)
    iterate 2 (refine PI ?_ (hy:=fun w0 hS0=>by obtain ⟨q0,q1,q2,q3,q4,q5,q6,q7,q8,q9,kY,kV⟩:=bo hS0.I.2; go_simp; try with_reducible rfl))
    refine b9 (Ij x.RU) 46 #[i_ j_ x.RU] (fun w0 h0=>(MC _ Og.1 Og.2 w0).mono fun e w1 h=>⟨h.1,NR.I _ _ h0 h.2⟩) ?_;refine ad _ z17 (afO Og) (fun c18 e18 z18=> ?_);refine y7 _ z18 (fun c19 e19 z19=> ?_)
    iterate 2 (refine PI ?_ (hy:=fun w0 hS0=>by obtain ⟨q0,q1,q2,q3,q4,q5,q6,q7,q8,q9,kY,kV⟩:=bo hS0.I.2; go_simp; try with_reducible rfl))
    refine ad _ z19 (show x.held.size<=2000000000000 by have:=HL.I.2.2.1.held; omega) (fun c20 e20 z20=> ?_);refine y7 _ z20 (fun c21 e21 z21=> ?_)
    iterate 2 (refine PI ?_ (hy:=fun w0 hS0=>by obtain ⟨q0,q1,q2,q3,q4,q5,q6,q7,q8,q9,kY,kV⟩:=bo hS0.I.2; go_simp; try with_reducible rfl))
    refine ad _ z21 (show x.got.size<=2000000000000 by have:=HL.I.2.2.1.got; omega) (fun c22 e22 z22=> ?_);refine y7 _ z22 (fun c23 e23 z23=> ?_)
    iterate 2 (refine PI ?_ (hy:=fun w0 hS0=>by obtain ⟨q0,q1,q2,q3,q4,q5,q6,q7,q8,q9,kY,kV⟩:=bo hS0.I.2; go_simp; try with_reducible rfl))
    refine b9 (NQ x.prog) 47 #[s_ x.aY x.prog.length x.bH] (fun w0 h0=>(NP _ _ _ w0 HL.I.2.1 HL.I.2.2.1.prog HL.I.2.2.1.ops (lA h0.I.1.MT.1 HX.I.2)).mono fun e w1 h=>⟨h.1,NR.I _ _ h0 h.2⟩) ?_;refine ad _ z23 (show (NQ x.prog).size<=2000000000000 by have:=N8 x.prog; omega) (fun c24 e24 z24=> ?_);refine y7 _ z24 (fun c25 e25 z25=> ?_);refine PI ?_ (hy:=fun w0 hS0=>by obtain ⟨q0,q1,q2,q3,q4,q5,q6,q7,q8,q9,kY,kV⟩:=bo hS0.I.2; go_simp; try with_reducible rfl);refine bk ZcE (fun A3 NO=> ?_) _;have HE:bE (c25=(p.L8.take (k+1)).foldl (fun t x=>N4 t x.toaD) Mn):=by
     show _=_
     rw [M4 HX.I.2,<- HA.I.1,e25.I,e24.I,e23.I,e22.I,e21.I,e20.I,e19.I,e18.I,PH.I,e16.I,e15.I,e14.I,PG.I,PF.I,e11.I,Pn.I,e9.I,e8.I,e7.I,e6.I,e5.I,e4.I,e3.I,e2.I,e1.I];rfl
    clear e1 e2 e3 e4 e5 e6 e7 e8 e9 Pn e11 PF PG e14 e15 e16 PH e18 e19 e20 e21 e22 e23 e24 e25 z1 z2 z3 z4 z5 z6 z7 KI z9 z10 z11 z12 z13 z14 z15 z16 z17 z18 z19 z20 z21 z22 z23 z24;go_wp2;go_roundw
    case rel=>exact ⟨k+1,c25,zo,by go_num,rfl,zo,HE.I,NO.I.1⟩
    case measure=>simp [Go.RowKit.intOf]; omega
  have i1: ¬ (k:Int) < (p.L8.length:Int):=zo
  have ek:k=p.L8.length:=zo
  obtain ⟨NH,NA⟩: ∃ t,bE (t=c/\c=p.L8.foldl (fun t x=>N4 t x.toaD) Mn):=⟨c,rfl,by have:=HA.I.1; rwa [ek,LQ] at this⟩
  have yProc:NH.size<=2000000000000 * 160:=by rw [NA.I.1]; omega
  have S:bE (MQ w w.heap.size p wr):=HA.I.2;have Mi:=NA.I.1;replace NA:bE (NH=p.L8.foldl (fun t x=>N4 t x.toaD) Mn):=NA.I.1.trans NA.I.2;rw [<- Mi];clear Mi HA z0 ek;obtain ⟨wproc,Pc⟩: ∃ W:w_,W=wr:=⟨_,rfl⟩
  rw [<- Pc] at S ⊢;clear Pc;obtain ⟨-,-,m2,-,-,-,-,-⟩:=S.I.box.cells;go_wp2_with fail;clear m2 i1;have hlSem:p.aj.length<=5:=by have:=HR.I.fx; simp only [af.pure] at this; exact this
  go_loopw [3,6] (fun s i wr=> ∃ (k:Nat) (c:ByteArray),k<=p.aj.length/\i=i_ j_ k/\s=t_ c/\c.size<=2000000000000 * (160+7 * k)/\bE (c=(p.aj.take k).foldl (fun t x=>OT t x) NH/\MQ w w.heap.size p wr)) (fun _ i _=>p.aj.length - (Go.RowKit.intOf i).toNat)
  case atStart=>exact ⟨0,NH,Ky _,rfl,rfl,zo,rfl,S.I⟩
  case round=>
   clear S;obtain ⟨k,c,hk,rfl,rfl,z0,HA⟩:=hrel;by_cases hlt:k < p.aj.length
   .as_aux_lemma=>
     have i0:(0:Int)<=(k:Int):=zo
     have i1:(k:Int) < (p.aj.length:Int):=zo
     obtain ⟨x,hx⟩: ∃ x,p.aj[k]? =o_ x:=⟨_,Kz hlt⟩
     obtain ⟨gs,ha,hat⟩:=lQ HA.I.2.MT.2.1 hx;have HL:=aA (O2 HR.I wr (x:=x) (KA hx));have HX:bE (p.bc=o_ ⟨gs,0,n_⟩/\p.aj[k]? =o_ x):=⟨ha,hx⟩
     have Nv:=HL.I x.id zw;have Ml:=HL.I x.n zw;have Nz:=HL.I x.max zw;have HC:bE (∀ W,MQ w w.heap.size p W->W.cell? ⟨w.heap.size,3,n_⟩=o_ (s_ (o_ ⟨gs,0,n_⟩) p.aj.length p.bF)/\bD.At W gs k x):=fun W h=>⟨by obtain ⟨-,-,-,m,-,-,-,-⟩:=h.box.cells; rw [<- HX.I.1]; exact m,h.sem HX.I.1 HX.I.2⟩
     obtain ⟨-,-,-,m3,-,-,-,-⟩:=HA.I.2.box.cells;clear hx ha hat;go_upto_region 12 with fail;clear m3;refine aT (fun W=>bE (MQ w w.heap.size p W)) ZcE (HA.I.2.below (Kp _ _).drew) ?_;refine PI ?_ (hy:=fun w0 hS0=>by obtain ⟨m,q0,q1,q2⟩:=HC.I w0 hS0.I; go_simp; try with_reducible rfl);refine y7 _ z0 (fun c1 e1 z1=> ?_)
     iterate 6 (refine PI ?_ (hy:=fun w0 hS0=>by obtain ⟨m,q0,q1,q2⟩:=HC.I w0 hS0.I; go_simp; try with_reducible rfl))
     refine b9 (Ij x.id) 46 #[i_ j_ x.id] (fun w0 h0=>(MC _ Nv.1 Nv.2 w0).mono fun e w1 h=>⟨h.1,h0.I.below h.2⟩) ?_;refine ad _ z1 (afO Nv) (fun c2 e2 z2=> ?_);refine y7 _ z2 (fun c3 e3 z3=> ?_)
     iterate 6 (refine PI ?_ (hy:=fun w0 hS0=>by obtain ⟨m,q0,q1,q2⟩:=HC.I w0 hS0.I; go_simp; try with_reducible rfl))
     refine b9 (Ij x.n) 46 #[i_ j_ x.n] (fun w0 h0=>(MC _ Ml.1 Ml.2 w0).mono fun e w1 h=>⟨h.1,h0.I.below h.2⟩) ?_;refine ad _ z3 (afO Ml) (fun c4 e4 z4=> ?_);refine y7 _ z4 (fun c5 e5 z5=> ?_)
     iterate 6 (refine PI ?_ (hy:=fun w0 hS0=>by obtain ⟨m,q0,q1,q2⟩:=HC.I w0 hS0.I; go_simp; try with_reducible rfl))
     refine b9 (Ij x.max) 46 #[i_ j_ x.max] (fun w0 h0=>(MC _ Nz.1 Nz.2 w0).mono fun e w1 h=>⟨h.1,h0.I.below h.2⟩) ?_;refine ad _ z5 (afO Nz) (fun c6 e6 z6=> ?_);refine y7 _ z6 (fun c7 e7 z7=> ?_);refine PI ?_ (hy:=fun w0 hS0=>by obtain ⟨m,q0,q1,q2⟩:=HC.I w0 hS0.I; go_simp; try with_reducible rfl);refine bk ZcE (fun A3 NO=> ?_) _;have HE:bE (c7=(p.aj.take (k+1)).foldl (fun t x=>OT t x) NH):=by
      exact Zb8
     exact ZaH
   have i1: ¬ (k:Int) < (p.aj.length:Int):=zo
   have ek:k=p.aj.length:=zo
   obtain ⟨N7,Oh⟩: ∃ t,bE (t=c/\c=p.aj.foldl (fun t x=>OT t x) NH):=⟨c,rfl,by have:=HA.I.1; rwa [ek,LQ] at this⟩
   have ySem:N7.size<=2000000000000 * 195:=by rw [Oh.I.1]; omega
   have S:bE (MQ w w.heap.size p wr):=HA.I.2;have Mi:=Oh.I.1;replace Oh:bE (N7=p.aj.foldl (fun t x=>OT t x) NH):=Oh.I.1.trans Oh.I.2;rw [<- Mi];clear Mi HA z0 ek;obtain ⟨wsem,Pr⟩: ∃ W:w_,W=wr:=⟨_,rfl⟩
   rw [<- Pr] at S ⊢;clear Pr;obtain ⟨-,-,-,m3,-,-,-,-⟩:=S.I.box.cells;go_wp2_with fail;clear m3 i1;have hlEvent:p.L9.length<=5:=by have:=HR.I.cD; simp only [af.pure] at this; exact this
   go_loopw [3,7] (fun s i wr=> ∃ (k:Nat) (c:ByteArray),k<=p.L9.length/\i=i_ j_ k/\s=t_ c/\c.size<=2000000000000 * (195+5 * k)/\bE (c=(p.L9.take k).foldl (fun t x=>NE t x) N7/\MQ w w.heap.size p wr)) (fun _ i _=>p.L9.length - (Go.RowKit.intOf i).toNat)
   case atStart=>exact ⟨0,N7,Ky _,rfl,rfl,zo,rfl,S.I⟩
   case round=>
    clear S;obtain ⟨k,c,hk,rfl,rfl,z0,HA⟩:=hrel;by_cases hlt:k < p.L9.length
    .as_aux_lemma=>
      have i0:(0:Int)<=(k:Int):=zo
      have i1:(k:Int) < (p.L9.length:Int):=zo
      obtain ⟨x,hx⟩: ∃ x,p.L9[k]? =o_ x:=⟨_,Kz hlt⟩
      obtain ⟨gs,ha,hat⟩:=j4 HA.I.2.MT.2.2.1 hx;have HL:=aA (Oi HR.I wr (x:=x) (KA hx));have HX:bE (p.ay=o_ ⟨gs,0,n_⟩/\p.L9[k]? =o_ x):=⟨ha,hx⟩
      have Nv:=HL.I x.id zw;have HC:bE (∀ W,MQ w w.heap.size p W->W.cell? ⟨w.heap.size,4,n_⟩=o_ (s_ (o_ ⟨gs,0,n_⟩) p.L9.length p.aO)/\aB.At W gs k x):=fun W h=>⟨by obtain ⟨-,-,-,-,m,-,-,-⟩:=h.box.cells; rw [<- HX.I.1]; exact m,h.event HX.I.1 HX.I.2⟩
      obtain ⟨-,-,-,-,m4,-,-,-⟩:=HA.I.2.box.cells;clear hx ha hat;go_upto_region 16 with fail;clear m4;refine aT (fun W=>bE (MQ w w.heap.size p W)) ZcE (HA.I.2.below (Kp _ _).drew) ?_;refine PI ?_ (hy:=fun w0 hS0=>by obtain ⟨m,q0,q1⟩:=HC.I w0 hS0.I; go_simp; try with_reducible rfl);refine y7 _ z0 (fun c1 e1 z1=> ?_)
      iterate 6 (refine PI ?_ (hy:=fun w0 hS0=>by obtain ⟨m,q0,q1⟩:=HC.I w0 hS0.I; go_simp; try with_reducible rfl))
      refine b9 (Ij x.id) 46 #[i_ j_ x.id] (fun w0 h0=>(MC _ Nv.1 Nv.2 w0).mono fun e w1 h=>⟨h.1,h0.I.below h.2⟩) ?_;refine ad _ z1 (afO Nv) (fun c2 e2 z2=> ?_);refine y7 _ z2 (fun c3 e3 z3=> ?_)
      iterate 6 (refine PI ?_ (hy:=fun w0 hS0=>by obtain ⟨m,q0,q1⟩:=HC.I w0 hS0.I; go_simp; try with_reducible rfl))
      refine b9 (Ij (MJ x.up)) 48 #[b_ x.up] (fun w0 h0=>(MX _ w0).mono fun e w1 h=>⟨h.1,by rw [h.2]; exact h0⟩) ?_;refine ad _ z3 (afO (MM _)) (fun c4 e4 z4=> ?_);refine y7 _ z4 (fun c5 e5 z5=> ?_);refine PI ?_ (hy:=fun w0 hS0=>by obtain ⟨m,q0,q1⟩:=HC.I w0 hS0.I; go_simp; try with_reducible rfl);refine bk ZcE (fun A3 NO=> ?_) _;have HE:bE (c5=(p.L9.take (k+1)).foldl (fun t x=>NE t x) N7):=by
       show _=_
       rw [M4 HX.I.2,<- HA.I.1,e5.I,e4.I,e3.I,e2.I,e1.I];rfl
      clear e1 e2 e3 e4 e5 z1 z2 z3 z4;go_wp2;go_roundw
      case rel=>exact ⟨k+1,c5,zo,by go_num,rfl,zo,HE.I,NO.I⟩
      case measure=>simp [Go.RowKit.intOf]; omega
    have i1: ¬ (k:Int) < (p.L9.length:Int):=zo
    have ek:k=p.L9.length:=zo
    obtain ⟨Ni,Ng⟩: ∃ t,bE (t=c/\c=p.L9.foldl (fun t x=>NE t x) N7):=⟨c,rfl,by have:=HA.I.1; rwa [ek,LQ] at this⟩
    have yEvent:Ni.size<=2000000000000 * 220:=by rw [Ng.I.1]; omega
    have S:bE (MQ w w.heap.size p wr):=HA.I.2;have Mi:=Ng.I.1;replace Ng:bE (Ni=p.L9.foldl (fun t x=>NE t x) N7):=Ng.I.1.trans Ng.I.2;rw [<- Mi];clear Mi HA z0 ek;obtain ⟨wevent,Ol⟩: ∃ W:w_,W=wr:=⟨_,rfl⟩
    rw [<- Ol] at S ⊢;clear Ol;obtain ⟨-,-,-,-,m4,-,-,-⟩:=S.I.box.cells;go_wp2_with fail;clear m4 i1;have hlBoard:p.ag.length<=5:=by have:=HR.I.cC; simp only [af.pure] at this; exact this
    go_loopw [3,8] (fun s i wr=> ∃ (k:Nat) (c:ByteArray),k<=p.ag.length/\i=i_ j_ k/\s=t_ c/\c.size<=2000000000000 * (220+7 * k)/\bE (c=(p.ag.take k).foldl (fun t x=>NJ t x) Ni/\MQ w w.heap.size p wr)) (fun _ i _=>p.ag.length - (Go.RowKit.intOf i).toNat)
    case atStart=>exact ⟨0,Ni,Ky _,rfl,rfl,zo,rfl,S.I⟩
    case round=>
     clear S;obtain ⟨k,c,hk,rfl,rfl,z0,HA⟩:=hrel;by_cases hlt:k < p.ag.length
     .as_aux_lemma=>
       have i0:(0:Int)<=(k:Int):=zo
       have i1:(k:Int) < (p.ag.length:Int):=zo
       obtain ⟨x,hx⟩: ∃ x,p.ag[k]? =o_ x:=⟨_,Kz hlt⟩
       obtain ⟨gs,ha,hat⟩:=jr HA.I.2.MT.2.2.2.1 hx;have HL:=aA (N9 HR.I wr (x:=x) (KA hx));have HX:bE (p.ax=o_ ⟨gs,0,n_⟩/\p.ag[k]? =o_ x):=⟨ha,hx⟩
       have Nv:=HL.I.1 x.id zw;have HC:bE (∀ W,MQ w w.heap.size p W->W.cell? ⟨w.heap.size,5,n_⟩=o_ (s_ (o_ ⟨gs,0,n_⟩) p.ag.length p.aP)/\az.At W gs k x):=fun W h=>⟨by obtain ⟨-,-,-,-,-,m,-,-⟩:=h.box.cells; rw [<- HX.I.1]; exact m,h.ajl HX.I.1 HX.I.2⟩
       obtain ⟨-,-,-,-,-,m5,-,-⟩:=HA.I.2.box.cells;clear hx ha hat;go_upto_region 20 with fail;clear m5;refine aT (fun W=>bE (MQ w w.heap.size p W)) ZcE (HA.I.2.below (Kp _ _).drew) ?_;refine PI ?_ (hy:=fun w0 hS0=>by obtain ⟨m,q0,q1,q2⟩:=HC.I w0 hS0.I; go_simp; try with_reducible rfl);refine y7 _ z0 (fun c1 e1 z1=> ?_)
       iterate 6 (refine PI ?_ (hy:=fun w0 hS0=>by obtain ⟨m,q0,q1,q2⟩:=HC.I w0 hS0.I; go_simp; try with_reducible rfl))
       refine b9 (Ij x.id) 46 #[i_ j_ x.id] (fun w0 h0=>(MC _ Nv.1 Nv.2 w0).mono fun e w1 h=>⟨h.1,h0.I.below h.2⟩) ?_;refine ad _ z1 (afO Nv) (fun c2 e2 z2=> ?_);refine y7 _ z2 (fun c3 e3 z3=> ?_)
       iterate 6 (refine PI ?_ (hy:=fun w0 hS0=>by obtain ⟨m,q0,q1,q2⟩:=HC.I w0 hS0.I; go_simp; try with_reducible rfl))
       refine b9 (Ij (MJ x.shown)) 48 #[b_ x.shown] (fun w0 h0=>(MX _ w0).mono fun e w1 h=>⟨h.1,by rw [h.2]; exact h0⟩) ?_;refine ad _ z3 (afO (MM _)) (fun c4 e4 z4=> ?_);refine y7 _ z4 (fun c5 e5 z5=> ?_)
       iterate 6 (refine PI ?_ (hy:=fun w0 hS0=>by obtain ⟨m,q0,q1,q2⟩:=HC.I w0 hS0.I; go_simp; try with_reducible rfl))
       refine ad _ z5 (show x.text.size<=2000000000000 by have:=HL.I.2; omega) (fun c6 e6 z6=> ?_);refine y7 _ z6 (fun c7 e7 z7=> ?_);refine PI ?_ (hy:=fun w0 hS0=>by obtain ⟨m,q0,q1,q2⟩:=HC.I w0 hS0.I; go_simp; try with_reducible rfl);refine bk ZcE (fun A3 NO=> ?_) _;have HE:bE (c7=(p.ag.take (k+1)).foldl (fun t x=>NJ t x) Ni):=by
        exact Zb8
       exact ZaH
     have i1: ¬ (k:Int) < (p.ag.length:Int):=zo
     have ek:k=p.ag.length:=zo
     obtain ⟨Nd,Nc⟩: ∃ t,bE (t=c/\c=p.ag.foldl (fun t x=>NJ t x) Ni):=⟨c,rfl,by have:=HA.I.1; rwa [ek,LQ] at this⟩
     have yBoard:Nd.size<=2000000000000 * 255:=by rw [Nc.I.1]; omega
     have S:bE (MQ w w.heap.size p wr):=HA.I.2;have Mi:=Nc.I.1;replace Nc:bE (Nd=p.ag.foldl (fun t x=>NJ t x) Ni):=Nc.I.1.trans Nc.I.2;rw [<- Mi];clear Mi HA z0 ek;obtain ⟨wboard,Om⟩: ∃ W:w_,W=wr:=⟨_,rfl⟩
     rw [<- Om] at S ⊢;clear Om;obtain ⟨-,-,-,-,-,m5,-,-⟩:=S.I.box.cells;go_wp2_with fail;clear m5 i1;have hlBuffer:p.ae.length<=5:=by have:=HR.I.cb; simp only [af.pure,KG] at this; exact this
     go_loopw [3,9] (fun s i wr=> ∃ (k:Nat) (c:ByteArray),k<=p.ae.length/\i=i_ j_ k/\s=t_ c/\c.size<=2000000000000 * (255+6 * k)/\bE (c=(p.ae.take k).foldl (fun t x=>Nm t x.toci) Nd/\MQ w w.heap.size p wr)) (fun _ i _=>p.ae.length - (Go.RowKit.intOf i).toNat)
     case atStart=>exact ⟨0,Nd,Ky _,rfl,rfl,zo,rfl,S.I⟩
     case round=>
      clear S;obtain ⟨k,c,hk,rfl,rfl,z0,HA⟩:=hrel;by_cases hlt:k < p.ae.length
      .as_aux_lemma=>
        have i0:(0:Int)<=(k:Int):=zo
        have i1:(k:Int) < (p.ae.length:Int):=zo
        obtain ⟨x,hx⟩: ∃ x,p.ae[k]? =o_ x:=⟨_,Kz hlt⟩
        obtain ⟨gs,ha,hat⟩:=iA HA.I.2.MT.2.2.2.2.1 hx;have HL:=aA (N3 HR.I (x:=x) (Lr.2 ⟨x,KA hx,rfl⟩) (lj HA.I.2.MT.2.2.2.2.1 hx));have HX:bE (p.am=o_ ⟨gs,0,n_⟩/\p.ae[k]? =o_ x):=⟨ha,hx⟩
        have Nv:=HL.I.1 x.id zw;have Nz:=HL.I.1 x.max zw;have HC:bE (∀ W,MQ w w.heap.size p W->W.cell? ⟨w.heap.size,6,n_⟩=o_ (s_ (o_ ⟨gs,0,n_⟩) p.ae.length p.aG)/\au.At W gs k x):=fun W h=>⟨by obtain ⟨-,-,-,-,-,-,m,-⟩:=h.box.cells; rw [<- HX.I.1]; exact m,h.buffer HX.I.1 HX.I.2⟩
        obtain ⟨-,-,-,-,-,-,m6,-⟩:=HA.I.2.box.cells;clear hx ha hat;go_upto_region 24 with fail;clear m6;refine aT (fun W=>bE (MQ w w.heap.size p W)) ZcE (HA.I.2.below (Kp _ _).drew) ?_;refine PI ?_ (hy:=fun w0 hS0=>by obtain ⟨m,q0,q1,q2⟩:=HC.I w0 hS0.I; go_simp; try with_reducible rfl);refine y7 _ z0 (fun c1 e1 z1=> ?_)
        iterate 6 (refine PI ?_ (hy:=fun w0 hS0=>by obtain ⟨m,q0,q1,q2⟩:=HC.I w0 hS0.I; go_simp; try with_reducible rfl))
        refine b9 (Ij x.id) 46 #[i_ j_ x.id] (fun w0 h0=>(MC _ Nv.1 Nv.2 w0).mono fun e w1 h=>⟨h.1,h0.I.below h.2⟩) ?_;refine ad _ z1 (afO Nv) (fun c2 e2 z2=> ?_);refine y7 _ z2 (fun c3 e3 z3=> ?_)
        iterate 6 (refine PI ?_ (hy:=fun w0 hS0=>by obtain ⟨m,q0,q1,q2⟩:=HC.I w0 hS0.I; go_simp; try with_reducible rfl))
        refine b9 (Ij x.max) 46 #[i_ j_ x.max] (fun w0 h0=>(MC _ Nz.1 Nz.2 w0).mono fun e w1 h=>⟨h.1,h0.I.below h.2⟩) ?_;refine ad _ z3 (afO Nz) (fun c4 e4 z4=> ?_)
        iterate 6 (refine PI ?_ (hy:=fun w0 hS0=>by obtain ⟨m,q0,q1,q2⟩:=HC.I w0 hS0.I; go_simp; try with_reducible rfl))
        refine b9 (MI x.Ma) 49 #[s_ x.ak x.Ma.length x.aq] (fun w0 h0=>(Nx _ _ _ w0 HL.I.2.1 HL.I.2.2.1 (lj h0.I.MT.2.2.2.2.1 HX.I.2)).mono fun e w1 h=>⟨h.1,by rw [h.2]; exact h0⟩) ?_;refine ad _ z4 (Mw HL.I.2.1 HL.I.2.2.1) (fun c5 e5 z5=> ?_);refine y7 _ z5 (fun c6 e6 z6=> ?_);refine PI ?_ (hy:=fun w0 hS0=>by obtain ⟨m,q0,q1,q2⟩:=HC.I w0 hS0.I; go_simp; try with_reducible rfl);refine bk ZcE (fun A3 NO=> ?_) _;have HE:bE (c6=(p.ae.take (k+1)).foldl (fun t x=>Nm t x.toci) Nd):=by
         show _=_
         rw [M4 HX.I.2,<- HA.I.1,e6.I,e5.I,e4.I,e3.I,e2.I,e1.I];rfl
        clear e1 e2 e3 e4 e5 e6 z1 z2 z3 z4 z5;go_wp2;go_roundw
        case rel=>exact ⟨k+1,c6,zo,by go_num,rfl,zo,HE.I,NO.I⟩
        case measure=>simp [Go.RowKit.intOf]; omega
      have i1: ¬ (k:Int) < (p.ae.length:Int):=zo
      have ek:k=p.ae.length:=zo
      obtain ⟨MW,MV⟩: ∃ t,bE (t=c/\c=p.ae.foldl (fun t x=>Nm t x.toci) Nd):=⟨c,rfl,by have:=HA.I.1; rwa [ek,LQ] at this⟩
      have yBuffer:MW.size<=2000000000000 * 285:=by rw [MV.I.1]; omega
      have S:bE (MQ w w.heap.size p wr):=HA.I.2;have Mi:=MV.I.1;replace MV:bE (MW=p.ae.foldl (fun t x=>Nm t x.toci) Nd):=MV.I.1.trans MV.I.2;rw [<- Mi];clear Mi HA z0 ek;obtain ⟨wbuffer,NZ⟩: ∃ W:w_,W=wr:=⟨_,rfl⟩
      rw [<- NZ] at S ⊢;clear NZ;obtain ⟨-,-,-,-,-,-,m6,-⟩:=S.I.box.cells;go_wp2_with fail;clear m6 i1;have hlPort:p.ai.length<=5:=by have:=HR.I.dH; simp only [af.pure,KG] at this; exact this
      go_loopw [3,10] (fun s i wr=> ∃ (k:Nat) (c:ByteArray),k<=p.ai.length/\i=i_ j_ k/\s=t_ c/\c.size<=2000000000000 * (285+10 * k)/\bE (c=(p.ai.take k).foldl (fun t x=>N5 t x.todS) MW/\MQ w w.heap.size p wr)) (fun _ i _=>p.ai.length - (Go.RowKit.intOf i).toNat)
      case atStart=>exact ⟨0,MW,Ky _,rfl,rfl,zo,rfl,S.I⟩
      case round=>
       clear S;obtain ⟨k,c,hk,rfl,rfl,z0,HA⟩:=hrel;by_cases hlt:k < p.ai.length
       .as_aux_lemma=>
         have i0:(0:Int)<=(k:Int):=zo
         have i1:(k:Int) < (p.ai.length:Int):=zo
         obtain ⟨x,hx⟩: ∃ x,p.ai[k]? =o_ x:=⟨_,Kz hlt⟩
         obtain ⟨gs,ha,hat⟩:=lm HA.I.2.MT.2.2.2.2.2 hx;have HL:=aA (OA HR.I (x:=x) (Lr.2 ⟨x,KA hx,rfl⟩) (nJ HA.I.2.MT.2.2.2.2.2 hx));have HX:bE (p.aK=o_ ⟨gs,0,n_⟩/\p.ai[k]? =o_ x):=⟨ha,hx⟩
         have Nv:=HL.I.1 x.id zw;have Nz:=HL.I.1 x.max zw;obtain ⟨d0,d1,d2,d3,d4⟩:=hat;obtain ⟨-,-,-,-,-,-,-,m7⟩:=HA.I.2.box.cells;rw [ha] at m7;clear hx ha;have HS:bE (MQ w w.heap.size p (wr.alloc (c_ #[i_ j_ x.id,b_ x.I,b_ x.Mf,i_ j_ x.max,s_ x.ak x.Ma.length x.aq] 115))/\(wr.alloc (c_ #[i_ j_ x.id,b_ x.I,b_ x.Mf,i_ j_ x.max,s_ x.ak x.Ma.length x.aq] 115)).heap[wr.heap.size]? =o_ (c_ #[i_ j_ x.id,b_ x.I,b_ x.Mf,i_ j_ x.max,s_ x.ak x.Ma.length x.aq] 115)):=⟨HA.I.2.below ((Kp _ _).alloc (Ki _) _),Kj _ _⟩
         go_upto_region 29 with fail;generalize wr.alloc (c_ #[i_ j_ x.id,b_ x.I,b_ x.Mf,i_ j_ x.max,s_ x.ak x.Ma.length x.aq] 115)=V at *;generalize wr.heap.size=X at *;clear d0 d1 d2 d3 d4 m7;have NR:bE (∀ W W2:w_,bE (MQ w w.heap.size p W/\W.heap[X]? =o_ (c_ #[i_ j_ x.id,b_ x.I,b_ x.Mf,i_ j_ x.max,s_ x.ak x.Ma.length x.aq] 115))->B_ W.heap.size W W2->bE (MQ w w.heap.size p W2/\W2.heap[X]? =o_ (c_ #[i_ j_ x.id,b_ x.I,b_ x.Mf,i_ j_ x.max,s_ x.ak x.Ma.length x.aq] 115))):=fun W W2 h hb=>⟨h.I.1.below hb,(hb.block _ (J2.1 h.I.2).1).trans h.I.2⟩
         refine aT (fun W=>bE (MQ w w.heap.size p W/\W.heap[X]? =o_ (c_ #[i_ j_ x.id,b_ x.I,b_ x.Mf,i_ j_ x.max,s_ x.ak x.Ma.length x.aq] 115))) ZcE (NR.I _ _ HS (Kp _ _).drew) ?_;refine PI ?_ (hy:=fun w0 hS0=>by obtain ⟨q0,q1,q2,q3,q4⟩:=gE hS0.I.2; go_simp; try with_reducible rfl);refine y7 _ z0 (fun c1 e1 z1=> ?_)
         iterate 2 (refine PI ?_ (hy:=fun w0 hS0=>by obtain ⟨q0,q1,q2,q3,q4⟩:=gE hS0.I.2; go_simp; try with_reducible rfl))
         refine b9 (Ij x.id) 46 #[i_ j_ x.id] (fun w0 h0=>(MC _ Nv.1 Nv.2 w0).mono fun e w1 h=>⟨h.1,NR.I _ _ h0 h.2⟩) ?_;refine ad _ z1 (afO Nv) (fun c2 e2 z2=> ?_);refine y7 _ z2 (fun c3 e3 z3=> ?_)
         iterate 2 (refine PI ?_ (hy:=fun w0 hS0=>by obtain ⟨q0,q1,q2,q3,q4⟩:=gE hS0.I.2; go_simp; try with_reducible rfl))
         refine b9 (Ij (MJ x.I)) 48 #[b_ x.I] (fun w0 h0=>(MX _ w0).mono fun e w1 h=>⟨h.1,by rw [h.2]; exact h0⟩) ?_;refine ad _ z3 (afO (MM _)) (fun c4 e4 z4=> ?_);refine y7 _ z4 (fun c5 e5 z5=> ?_)
         iterate 2 (refine PI ?_ (hy:=fun w0 hS0=>by obtain ⟨q0,q1,q2,q3,q4⟩:=gE hS0.I.2; go_simp; try with_reducible rfl))
         refine b9 (Ij (MJ x.Mf)) 48 #[b_ x.Mf] (fun w0 h0=>(MX _ w0).mono fun e w1 h=>⟨h.1,by rw [h.2]; exact h0⟩) ?_;refine ad _ z5 (afO (MM _)) (fun c6 e6 z6=> ?_);refine y7 _ z6 (fun c7 e7 z7=> ?_)
         iterate 2 (refine PI ?_ (hy:=fun w0 hS0=>by obtain ⟨q0,q1,q2,q3,q4⟩:=gE hS0.I.2; go_simp; try with_reducible rfl))
         refine b9 (Ij x.max) 46 #[i_ j_ x.max] (fun w0 h0=>(MC _ Nz.1 Nz.2 w0).mono fun e w1 h=>⟨h.1,NR.I _ _ h0 h.2⟩) ?_;refine ad _ z7 (afO Nz) (fun c8 e8 KI=> ?_)
         iterate 2 (refine PI ?_ (hy:=fun w0 hS0=>by obtain ⟨q0,q1,q2,q3,q4⟩:=gE hS0.I.2; go_simp; try with_reducible rfl))
         refine b9 (MI x.Ma) 49 #[s_ x.ak x.Ma.length x.aq] (fun w0 h0=>(Nx _ _ _ w0 HL.I.2.1 HL.I.2.2.1 (nJ h0.I.1.MT.2.2.2.2.2 HX.I.2)).mono fun e w1 h=>⟨h.1,by rw [h.2]; exact h0⟩) ?_;refine ad _ KI (Mw HL.I.2.1 HL.I.2.2.1) (fun c9 e9 z9=> ?_);refine y7 _ z9 (fun qF Pn z10=> ?_);refine PI ?_ (hy:=fun w0 hS0=>by obtain ⟨q0,q1,q2,q3,q4⟩:=gE hS0.I.2; go_simp; try with_reducible rfl);refine bk ZcE (fun A3 NO=> ?_) _;have HE:bE (qF=(p.ai.take (k+1)).foldl (fun t x=>N5 t x.todS) MW):=by
          show _=_
          rw [M4 HX.I.2,<- HA.I.1,Pn.I,e9.I,e8.I,e7.I,e6.I,e5.I,e4.I,e3.I,e2.I,e1.I];rfl
         clear e1 e2 e3 e4 e5 e6 e7 e8 e9 Pn z1 z2 z3 z4 z5 z6 z7 KI z9;go_wp2;go_roundw
         case rel=>exact ⟨k+1,qF,zo,by go_num,rfl,zo,HE.I,NO.I.1⟩
         case measure=>simp [Go.RowKit.intOf]; omega
       have i1: ¬ (k:Int) < (p.ai.length:Int):=zo
       have ek:k=p.ai.length:=zo
       obtain ⟨O3,NM⟩: ∃ t,bE (t=c/\c=p.ai.foldl (fun t x=>N5 t x.todS) MW):=⟨c,rfl,by have:=HA.I.1; rwa [ek,LQ] at this⟩
       have yPort:O3.size<=2000000000000 * 335:=by rw [NM.I.1]; omega
       have S:bE (MQ w w.heap.size p wr):=HA.I.2;have Mi:=NM.I.1;replace NM:bE (O3=p.ai.foldl (fun t x=>N5 t x.todS) MW):=NM.I.1.trans NM.I.2;rw [<- Mi];clear Mi HA z0 ek;obtain ⟨wport,O8⟩: ∃ W:w_,W=wr:=⟨_,rfl⟩
       rw [<- O8] at S ⊢;clear O8;obtain ⟨-,-,-,-,-,-,-,m7⟩:=S.I.box.cells;have HQ:bE (O3=NF p.pure):=by
        show _=_
        rw [HT.I,NM.I,MV.I,Nc.I,Ng.I,Oh.I,NA.I,Mh.I];simp only [af.pure,List.foldl_map]
       clear HT NM MV Nc Ng Oh NA Mh;go_wp2;go_ret;exact ⟨by rw [<- HQ.I]; rfl,S.I.low⟩
end Go.Proofs.YtfncpmaefninjaaGreatDoor
