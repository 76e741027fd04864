/- What the proof leans on, part 11. -/
import Derived.Test.YtckenjkcmajicaaGreatOwnF7
import Derived.Test.YtckenjkcmajicaaGreatOwnF9
import Derived.Deep.CutRange
set_option linter.all false
set_option maxRecDepth 100000
set_option maxHeartbeats 8000000
open Go.Proofs.Tryz
open Go renaming World->w_,Calls->k_
open Go.Ending renaming returned->r_
open Go.IntKind renaming i64->j_
open Go.Obj renaming cells->c_
open Go.RowKit renaming Below->B_,Hid->bN
open Go.Value renaming int->i_,slice->s_,bool->b_,agg->a_,tuple->u_
open Option renaming some->o_,none->n_
open Go.Proofs.Tryz renaming prog->J3
open List renaming any_eq_true->aev,find?_cons->LL,find?_map->aeu,find?_some->PS,mem_of_find?_eq_some->RG
open Option renaming bind_some->aeE,map_some->J9

namespace Go.Proofs.YtckenjkcmajicaaGreat
section
open Go.RowKit Go.Maps
attribute [local go_sem ↓] Go.wp_at_zero Go.wp_at_succ
structure eA.Fit (k:eA):Prop where
 Ts:k.fn.length<=1048576
 sC:k.parts.length<=1048576
 w8:k.eC.length<=1048576
 win: ∀ j,-9223372036854775808<=sz k.fn j/\sz k.fn j<=9223372036854775807
 parts: ∀ p∈k.parts,p.Fit/\ ∀ x∈p.L8,x.dX
def n0 (ps:List af) (part port:Int):Int:=match hP (·.id) part ps with
 | none=> -1
 | some p=>place (p.ai.map (·.id)) port 0
def Ua (k:eA) (id:Int) (w:w_) (hl:k.parts.length<=1048576) (h:eA.At w k):
  k_ J3 22 #[a_ k.row,i_ j_ id] w fun e w'=>e=r_ (i_ j_ (place (k.parts.map (·.id)) id 0))/\B_ w.heap.size w w':=by
 have S:=aA (dr.first h);clear h
 go_enter func22,ntmps22
 go_wp2_with fail;generalize w.alloc (c_ k.row 30)=W at *;obtain ⟨-,-,-,q,-⟩:=S.I.box.cells
 go_loop [5] (fun i=> ∃ n:Nat,n<=k.parts.length/\i=i_ j_ n/\bN (id∉(k.parts.map (·.id)).take n)) (fun i=>k.parts.length - (Go.RowKit.intOf i).toNat)
 case atStart=>exact ⟨0,Ky _,rfl,(by simp:id∉(k.parts.map (·.id)).take 0)⟩
 case round=>
  obtain ⟨n,hn,rfl,HA⟩:=hrel;by_cases hlt:n < k.parts.length
  .have i0:(0:Int)<=(n:Int):=zw
   have i1:(n:Int) < (k.parts.length:Int):=zw
   obtain ⟨x,hx⟩: ∃ x,k.parts[n]? =o_ x:=⟨_,Kz hlt⟩
   have HX:bN ((k.parts.map (·.id))[n]? =o_ x.id):=by show _=_; rw [Kk,hx]; rfl
   obtain ⟨g,ha,hat,-⟩:=ic S.I.MT.parts hx;have c0:=hat.1;rw [ha] at q;clear hat hx;by_cases hc:x.id=id
   .have HC:bN (x.id=id):=hc
    have h1:(x.id == id)=true:=by simp [hc]
    clear hc;go_wp2;go_ret;exact ⟨ck (ku HA.I HX.I HC.I).symm,S.I.low⟩
   .have HC:bN (¬ x.id=id):=hc
    have h1:(x.id == id)=false:=by simp [hc]
    clear hc;go_wp2
    go_round
    case rel=>exact ⟨n+1,zw,by go_num,nh HA.I HX.I HC.I⟩
    case measure=>simp [Go.RowKit.intOf]; omega
  .have i1: ¬ (n:Int) < (k.parts.length:Int):=zw
   go_wp2;go_ret;exact ⟨ck (jg HA.I (by rw [KG]; omega)).symm,S.I.low⟩
def TB (k:eA) (part port:Int) (w:w_) (hf:k.Fit) (h:eA.At w k):
  k_ J3 29 #[a_ k.row,i_ j_ part,i_ j_ port] w fun e w'=>e=r_ (u_ #[i_ j_ (place (k.parts.map (·.id)) part 0),i_ j_ (n0 k.parts part port)])/\B_ w.heap.size w w':=by
 have S:=aA (dr.first h);have HF:=aA hf;clear h hf
 go_enter func29,ntmps29
 go_upto_region 1 with fail;generalize w.alloc (c_ k.row 30)=W at *;have Mb:=Ua k part W HF.I.sC S.I.MT;obtain ⟨q0,q1,q2,q3,q4⟩:=S.I.box.cells;go_wp2_with fail;clear q0 q1 q2 q3 q4;refine Mb.mono ?_;clear Mb;rintro e W1 ⟨rfl,hb⟩;replace S:=aA (S.I.below hb);clear hb;rcases ua (num:=fun x:af=>x.id) part k.parts 0 with ⟨e1,e2⟩ | ⟨n,p,e1,hp,-,e2⟩
 .have HE:bN (n0 k.parts part port= -1):=by show n0 _ _ _=_; unfold n0; rw [e2]
  rw [e1];have H1:=aA e1;clear e1 e2;go_wp2;go_ret2;exact ⟨by rw [HE.I,H1.I]; rfl,S.I.low⟩
 have HE:bN (n0 k.parts part port=place (p.ai.map (·.id)) port 0):=by show n0 _ _ _=_; unfold n0; rw [e2]
 rw [Li] at e1;rw [e1];have H1:=aA e1;have hn:=(Lj.1 hp).1;have hl:=HF.I.sC;have i0:(0:Int)<=(n:Int):=zw
 have i1:(n:Int) < (k.parts.length:Int):=zw
 have i2: ¬ (n:Int) < 0:=zw
 obtain ⟨g,ha,⟨c0,c1,c2,c3,c4,c5,c6,c7⟩,hat⟩:=ic S.I.MT.parts hp;have Mb:=uV p port W1 (HF.I.parts p (KA hp)).1.short.ai hat;unfold af.cells at Mb;obtain ⟨-,-,-,q3,-⟩:=S.I.box.cells;rw [ha] at q3;clear e1 e2 hp ha hat;go_wp2_with fail;clear c0 c1 c2 c3 c4 c5 c6 c7 q3;refine Mb.mono ?_;clear Mb;rintro e W2 ⟨rfl,hb⟩;replace S:=aA (S.I.below hb);clear hb;go_wp2;go_ret2;exact ⟨by rw [HE.I,H1.I]; rfl,S.I.low⟩
def Ty {k:eA} {part port:Int} (h:n0 k.parts part port < 0):endP (k.parts.map (·.pure)) part port=n_:=by
 unfold n0 at h;have e:hP (·.id) part (k.parts.map (·.pure))=(hP (·.id) part k.parts).map (·.pure):=by unfold hP; rw [aeu]; rfl
 unfold endP;rw [e]
 split at h
 .rename_i h1
  rw [h1];rfl
 .rename_i p h1
  rw [h1]
  show hP (·.id) port p.pure.ai=n_
  have e2:hP (·.id) port p.pure.ai=(hP (·.id) port p.ai).map (·.todS):=by unfold hP af.pure; rw [aeu]; rfl
  rcases ua (num:=fun x:aM=>x.id) port p.ai 0 with ⟨-,h2⟩ | ⟨n,x,h2,-⟩
  .rw [e2,h2]
   rfl
  .rw [h2] at h
   omega
def Tw {k:eA} {part port:Int} (h: ¬ n0 k.parts part port < 0): ∃ n p m x,place (k.parts.map (·.id)) part 0=(n:Nat)/\k.parts[n]? =o_ p/\p.id=part/\n0 k.parts part port=(m:Nat)/\p.ai[m]? =o_ x/\endP (k.parts.map (·.pure)) part port=o_ x.todS:=by
 have e:hP (·.id) part (k.parts.map (·.pure))=(hP (·.id) part k.parts).map (·.pure):=by unfold hP; rw [aeu]; rfl
 unfold n0 at h ⊢;rcases ua (num:=fun x:af=>x.id) part k.parts 0 with ⟨-,e2⟩ | ⟨n,p,e1,hp,hi,e2⟩
 .rw [e2] at h
  exact absurd (show (-1:Int) < 0 by decide) h
 .rw [e2] at h ⊢
  rcases ua (num:=fun x:aM=>x.id) port p.ai 0 with ⟨h1,-⟩ | ⟨m,x,h1,h2,-,h3⟩
  .exact absurd (show place (p.ai.map (·.id)) port 0 < 0 by rw [h1]; decide) h
  .rw [Li] at e1 h1
   refine ⟨n,p,m,x,e1,hp,hi,h1,h2,?_⟩;unfold endP;rw [e,e2]
   show hP (·.id) port p.pure.ai=_
   have e4:hP (·.id) port p.pure.ai=(hP (·.id) port p.ai).map (·.todS):=by unfold hP af.pure; rw [aeu]; rfl
   rw [e4,h3];rfl
def Vx {ps:List aE} {c:eQ} {q r:dS} (h1:endP ps c.src c.ga=o_ q) (h2:endP ps c.dst c.hI=o_ r):pa ps c=(!decide (c.src=c.dst) && q.I && !r.I && (q.Mf == r.Mf))/\zo ps c=q.Mf:=by
 unfold pa zo;rw [h1,h2];exact ⟨rfl,rfl⟩
def Uu {ps:List aE} {c:eQ} (h:endP ps c.src c.ga=n_\/endP ps c.dst c.hI=n_):pa ps c=false:=by
 unfold pa;rcases h with h | h
 .rw [h]
 .rw [h]
  split <;> simp_all
def Td {l:List eQ} {i j:Nat} {d:eQ} (hd:l[i]? =o_ d) (h:i < j):d∈l.take j:=by
 have:(l.take j)[i]? =o_ d:=by rw [List.getElem?_take_of_lt h]; exact hd
 exact KA this
def HJ {l:List eQ} {i:Nat} {d:eQ} {f:eQ->Bool} (hd:l[i]? =o_ d) (h:(l.take i).any f=false):(l.take (i+1)).any f=f d:=by
 rw [cj hd,List.any_append,h];simp
structure bA (w:w_) (X:Nat) (k:eA) (B:List (Nat × eQ)) (W:w_):Prop where
 ks:dr w X k W
 box: ∀ x∈B,W.heap[x.1]? =o_ (c_ (nx x.2) 37)
section
variable {w W W2:w_} {X:Nat} {k:eA} {B:List (Nat × eQ)} {c:eQ} {y:Nat × eQ}
def bA.below (h:bA w X k B W) (hb:B_ W.heap.size W W2):bA w X k B W2:=⟨h.ks.below hb,fun x hx=>(hb.block _ (J2.1 (h.box x hx)).1).trans (h.box x hx)⟩
def bA.put (h:bA w X k B W):bA w X k ((W.heap.size,c) :: B) (W.alloc (c_ (nx c) 37)):=by
 have hz:B_ W.heap.size W (W.alloc (c_ (nx c) 37)):=(Kp _ _).alloc (Ki _) _;exact ⟨(h.below hz).ks,fun x hx=>(Kt.1 hx).elim (fun e=>by rw [e]; exact Kj _ _) ((h.below hz).box x)⟩
def bA.less (h:bA w X k (y :: B) W):bA w X k B W:=⟨h.ks,fun x hx=>h.box x (LB _ hx)⟩
def bA.cells (h:bA w X k B W) {Y:Nat} (hy:(Y,c)∈B):W.cell? ⟨Y,0,n_⟩=o_ (i_ j_ c.src)/\W.cell? ⟨Y,1,n_⟩=o_ (i_ j_ c.ga)/\W.cell? ⟨Y,2,n_⟩=o_ (i_ j_ c.dst)/\W.cell? ⟨Y,3,n_⟩=o_ (i_ j_ c.hI):=by
 have h1:=h.box (Y,c) hy;simp [World.cell?,h1]
end
def m8 {k:kd} (h: ¬ (cv k.bj 0 500000000=true/\E4 k.major k.fn=true/\k.parts.length<=6/\k.eC.length<=10/\aw (·.id) bK 0 k.parts=true/\fA k.parts [] k.eC=true)):eP k=false:=by
 cases hb:eP k with
 | false=>rfl
 | true=>
  simp only [eP,J7,decide_eq_true_eq] at hb;exact absurd ⟨hb.1.1.1.1.1,hb.1.1.1.1.2,hb.1.1.1.2,hb.1.1.2,hb.1.2,hb.2⟩ h
def gx {k:eA} (h:fA k.pure.parts [] k.eC=false):eP k.pure=false:=m8 fun hh=>by rw [show fA k.pure.parts [] k.pure.eC=false from h] at hh; cases hh.2.2.2.2.2
def Ui {k:kd} (h1:cv k.bj 0 500000000=true) (h2:E4 k.major k.fn=true) (h3:k.parts.length<=6) (h4:k.eC.length<=10) (h5:aw (·.id) bK 0 k.parts=true) (h6:fA k.parts [] k.eC=true):eP k=true:=by
 simp [eP,h1,h2,h3,h4,h5,h6]
def FO (k:eA) (g:Nat) (w:w_) (hf:k.Fit) (hg:k.vb=o_ ⟨g,0,n_⟩/\g < w.heap.size) (h:eA.At w k):
  k_ J3 21 #[a_ k.row] w fun e w'=>e=r_ (b_ (eP k.pure))/\B_ w.heap.size w w':=by
 have S:=aA (dr.first h);have HF:=aA hf;have HG:=aA hg;have HW:bN (lT (w.alloc (c_ k.row 30)) g k.fn.length (sz k.fn)):=Uq ZbZ (by rw [<- hg.1]; exact S.I.MT.fn);clear h hf hg
 go_enter func21,ntmps21
 go_upto_region 1 with fail;generalize w.alloc (c_ k.row 30)=W at *;obtain ⟨q0,q1,q2,q3,q4⟩:=S.I.box.cells;rw [HG.I.1] at q2;go_wp2_with fail;refine (dx k.bj 0 500000000 _).mono ?_;rintro e w9 ⟨rfl,mW⟩;rw [mW];clear mW w9;cases h1:cv k.bj 0 500000000
 .have HN:bN (eP k.pure=false):=m8 fun hh=>by have:=hh.1; rw [show k.pure.bj=k.bj from rfl,h1] at this; cases this
  clear h1;exact Za0
 have H1:=aA h1;clear h1;have Mb:=Tc k.major g k.fn.length k.Te (sz k.fn) W HF.I.Ts HF.I.win HW.I;go_wp2_with fail;refine Mb.mono ?_;clear Mb HW;clear q0 q1 q2 q3 q4;rintro e W1 ⟨rfl,hb⟩;replace S:=aA (S.I.below hb);clear hb;obtain ⟨-,-,-,q3,q4⟩:=S.I.box.cells;cases h2:nn k.major k.fn.length (sz k.fn)
 .have HN:bN (eP k.pure=false):=m8 fun hh=>by have:=hh.2.1; rw [show E4 k.pure.major k.pure.fn=_ from h2] at this; cases this
  clear h2;exact Za0
 have H2:bN (E4 k.pure.major k.pure.fn=true):=h2;clear h2;by_cases h3:(6:Int) < (k.parts.length:Int)
 .have HN:bN (eP k.pure=false):=m8 fun hh=>by have:=hh.2.2.1; simp only [eA.pure,KG] at this; omega
  exact Za0
 by_cases h4:(10:Int) < (k.eC.length:Int)
 .have HN:bN (eP k.pure=false):=m8 fun hh=>by have:=hh.2.2.2.1; simp only [eA.pure] at this; omega
  exact Za0
 have H3:bN (k.pure.parts.length<=6/\k.pure.eC.length<=10):=by show _/\_; simp only [eA.pure,KG]; omega
 have hpl:=HF.I.sC;have hcl:=HF.I.w8;go_wp2_with fail;clear q3 q4 h3 h4
 go_loopw [3] (fun i wr=> ∃ n:Nat,n<=k.parts.length/\i=i_ j_ n/\bN (dr w w.heap.size k wr/\aw (·.id) bK 0 (k.pure.parts.take n)=true)) (fun i _=>k.parts.length - (Go.RowKit.intOf i).toNat)
 case atStart=>exact ⟨0,Ky _,rfl,S.I,rfl⟩
 case round=>
  clear S;obtain ⟨n,hn,rfl,S⟩:=hrel;by_cases hlt:n < k.parts.length
  .skip
   have i0:(0:Int)<=(n:Int):=zw
   have i1:(n:Int) < (k.parts.length:Int):=zw
   obtain ⟨p,hp⟩: ∃ p,k.parts[n]? =o_ p:=⟨_,Kz hlt⟩
   have HP:bN (k.pure.parts[n]? =o_ p.pure):=by show (k.parts.map (·.pure))[n]? =_; rw [Kk,hp]; rfl
   have Gh:=aA (HF.I.parts p (KA hp));obtain ⟨gs,ha,-⟩:=ic S.I.1.MT.parts hp;have HC:bN (∀ W,dr w w.heap.size k W->W.cell? ⟨w.heap.size,3,n_⟩=o_ (s_ (o_ ⟨gs,0,n_⟩) k.parts.length k.sa)/\af.In W gs n p/\af.At W p):=fun W h=>by
    obtain ⟨-,-,-,q3,-⟩:=h.box.cells;obtain ⟨g2,h1,h2,h3⟩:=ic h.MT.parts hp;cases ha.symm.trans h1;rw [ha] at q3;exact ⟨q3,h2,h3⟩
   have HA:=aA ha;obtain ⟨-,-,-,q3,-⟩:=S.I.1.box.cells;clear ha hp;go_upto_region 6 with fail;clear q3;refine aT (fun W=>dr w w.heap.size k W) ZbY (S.I.1.below (Kp _ _).drew) ?_
   iterate 5 (refine yl (v:= ?_) ?_ ?_; rotate_left; (intro w0 hS0; obtain ⟨q3,⟨c0,c1,c2,c3,c4,c5,c6,c7⟩,-⟩:=HC.I w0 hS0; go_simp; try with_reducible rfl); simp only [pt,sb,s0,s1])
   refine cl (b_ (bK p.pure)) 43 #[a_ p.row] ?_ (fun w0 h0=>(eV p w0 Gh.I.1 Gh.I.2 (HC.I w0 h0).2.2).mono fun e w1 h=>⟨h.1,h0.below h.2⟩) ?_
   .intro w0 hS0
    go_simp
   simp only [pt,sb,s0,s1];cases hb:bK p.pure
   .have HN:bN (eP k.pure=false):=m8 fun hh=>by
     have h1:=bS (last:=0) HP.I (ok:=bK) (num:=fun x:aE=>x.id) (fun hh=>by rw [hb] at hh; cases hh.2.2);rw [h1] at hh; cases hh.2.2.2.2.1
    iterate 2 (refine yl (v:= ?_) ?_ ?_; rotate_left; (intro w0 hS0; obtain ⟨q3,⟨c0,c1,c2,c3,c4,c5,c6,c7⟩,-⟩:=HC.I w0 hS0; go_simp; try with_reducible rfl); simp only [pt,sb,s0,s1])
    iterate 18 (refine nl ?_; simp only [pt,sb,s0,s1])
    refine yl (v:= ?_) ?_ ?_; rotate_left; (intro w0 hS0; obtain ⟨q3,⟨c0,c1,c2,c3,c4,c5,c6,c7⟩,-⟩:=HC.I w0 hS0; go_simp; try with_reducible rfl); simp only [pt,sb,s0,s1];refine bk ZbY (fun A3 NO=> ?_) _;clear hb;go_wp2;go_ret;exact ⟨al HN.I.symm,NO.low⟩
   have HB:=aA hb
   iterate 2 (refine yl (v:= ?_) ?_ ?_; rotate_left; (intro w0 hS0; obtain ⟨q3,⟨c0,c1,c2,c3,c4,c5,c6,c7⟩,-⟩:=HC.I w0 hS0; go_simp; try with_reducible rfl); simp only [pt,sb,s0,s1])
   have HI:bN (cv p.pure.id 1 1000=true):=by have h1:=((ch _).1 hb).id; rw [bz] at h1; exact eB zw zw
   clear hb;by_cases hz:n=0
   .have z0:decide (0 < n)=false:=decide_eq_false zw
    have HZ:=aA hz;clear hz
    iterate 3 (refine yl (v:= ?_) ?_ ?_; rotate_left; (intro w0 hS0; obtain ⟨q3,⟨c0,c1,c2,c3,c4,c5,c6,c7⟩,-⟩:=HC.I w0 hS0; go_simp; try with_reducible rfl); simp only [pt,sb,s0,s1])
    iterate 14 (refine nl ?_; simp only [pt,sb,s0,s1])
    iterate 2 (refine yl (v:= ?_) ?_ ?_; rotate_left; (intro w0 hS0; obtain ⟨q3,⟨c0,c1,c2,c3,c4,c5,c6,c7⟩,-⟩:=HC.I w0 hS0; go_simp; try with_reducible rfl); simp only [pt,sb,s0,s1])
    refine bk ZbY (fun A3 NO=> ?_) _;go_wp2;go_roundw
    case rel=>exact ⟨n+1,zw,by go_num,NO,ed S.I.2 HP.I HI.I (by have:=bz.1 HI.I; rw [HZ.I]; show (0:Int) < _; omega) HB.I⟩
    case measure=>simp [Go.RowKit.intOf]; omega
   obtain ⟨m,hm⟩: ∃ m,n=m+1:=⟨n - 1,zw⟩
   have z0:decide (0 < n)=true:=decide_eq_true zw;have z1:IntKind.wrap j_ ((n:Int) - 1)=(m:Int):=by rw [K8]; omega
   have z2:IntKind.wrap j_ (m:Int)=(m:Int):=by rw [K8]; omega
   have hmn:m < k.parts.length:=zw
   obtain ⟨p2,hp2⟩: ∃ p2,k.parts[m]? =o_ p2:=⟨_,Kz hmn⟩
   have HP2:bN (bW (fun x:aE=>x.id) 0 (k.pure.parts.take n)=p2.id):=by rw [hm]; exact eG (num:=fun x:aE=>x.id) (show (k.parts.map (·.pure))[m]? =o_ p2.pure by rw [Kk,hp2]; rfl) 0
   have HC2:bN (∀ W,dr w w.heap.size k W->W.cell? ⟨gs,m * 8,n_⟩=o_ (i_ j_ p2.id)):=fun W h=>by
    obtain ⟨g2,h1,h2,-⟩:=ic h.MT.parts hp2;cases HA.I.symm.trans h1;exact h2.1
   clear hp2 hz hm
   iterate 3 (refine yl (v:= ?_) ?_ ?_; rotate_left; (intro w0 hS0; obtain ⟨q3,⟨c0,c1,c2,c3,c4,c5,c6,c7⟩,-⟩:=HC.I w0 hS0; go_simp; try with_reducible rfl); simp only [pt,sb,s0,s1])
   have j0:(0:Int)<=(m:Int):=zw
   have j1:(m:Int) < (k.parts.length:Int):=zw
   clear hmn;by_cases hi:p.id<=p2.id
   .iterate 16 (refine yl (v:= ?_) ?_ ?_; rotate_left; (intro w0 hS0; obtain ⟨q3,⟨c0,c1,c2,c3,c4,c5,c6,c7⟩,-⟩:=HC.I w0 hS0; have d0:=HC2.I w0 hS0; go_simp; try with_reducible rfl); try simp only [pt,sb,s0,s1])
    have HN:bN (eP k.pure=false):=m8 fun hh=>by
     have h1:=bS (last:=0) HP.I (ok:=bK) (num:=fun x:aE=>x.id) (fun hh=>by have h2:=hh.2.1; rw [HP2.I] at h2; have h3:p2.id < p.id:=h2; omega);rw [h1] at hh; cases hh.2.2.2.2.1
    refine bk ZbY (fun A3 NO=> ?_) _;go_wp2;go_ret;exact ⟨al HN.I.symm,NO.low⟩
   iterate 16 (refine yl (v:= ?_) ?_ ?_; rotate_left; (intro w0 hS0; obtain ⟨q3,⟨c0,c1,c2,c3,c4,c5,c6,c7⟩,-⟩:=HC.I w0 hS0; have d0:=HC2.I w0 hS0; go_simp; try with_reducible rfl); try simp only [pt,sb,s0,s1])
   refine bk ZbY (fun A3 NO=> ?_) _;go_wp2;go_roundw
   case rel=>exact ⟨n+1,zw,by go_num,NO,ed S.I.2 HP.I HI.I (by rw [HP2.I]; show p2.id < p.id; omega) HB.I⟩
   case measure=>simp [Go.RowKit.intOf]; omega
  .have i1: ¬ (n:Int) < (k.parts.length:Int):=zw
   have HT:bN (aw (·.id) bK 0 k.pure.parts=true):=by have h:=S.I.2; rwa [KF (by simp only [eA.pure,KG]; omega)] at h
   replace S:=aA S.I.1;obtain ⟨-,-,-,q3,-⟩:=S.I.box.cells;go_wp2_with fail;clear q3
   go_loopw [4] (fun i wr=> ∃ n:Nat,n<=k.eC.length/\i=i_ j_ n/\bN (bA w w.heap.size k [] wr/\fA k.pure.parts [] (k.eC.take n)=true)) (fun i _=>k.eC.length - (Go.RowKit.intOf i).toNat)
   case atStart=>exact ⟨0,Ky _,rfl,⟨S.I,by simp⟩,rfl⟩
   case round=>
    clear S i1 hn;obtain ⟨j,hj,rfl,S⟩:=hrel;by_cases hlt:j < k.eC.length
    .skip
     have i0:(0:Int)<=(j:Int):=zw
     have i1:(j:Int) < (k.eC.length:Int):=zw
     obtain ⟨c,hc⟩: ∃ c,k.eC[j]? =o_ c:=⟨_,Kz hlt⟩
     have Vn:=aA hc;have HL:=aA S.I.2;replace S:=aA S.I.1;obtain ⟨gc,ha,d0,d1,d2,d3⟩:=TH S.I.ks.MT.eC hc;have HGC:=aA ha;obtain ⟨-,-,-,-,q4⟩:=S.I.ks.box.cells;rw [ha] at q4;clear ha hc;replace S:=aA (S.I.put (c:=c));go_upto_region 12 with fail;clear d0 d1 d2 d3 q4;generalize wr.alloc (c_ (nx c) 37)=W2 at *;generalize wr.heap.size=Y at *;have Mb:=TB k c.src c.ga _ HF.I S.I.ks.MT;obtain ⟨q0,q1,q2,q3,q4⟩:=S.I.ks.box.cells;obtain ⟨o0,o1,o2,o3⟩:=S.I.cells (Y:=Y) (c:=c) zy;go_wp2_with fail;clear q0 q1 q2 q3 q4 o0 o1 o2 o3;refine Mb.mono ?_;clear Mb;rintro e W3 ⟨rfl,hb⟩;replace S:=aA (S.I.below hb);clear hb;go_upto_region 13 with fail;have Mb:=TB k c.dst c.hI _ HF.I S.I.ks.MT;obtain ⟨q0,q1,q2,q3,q4⟩:=S.I.ks.box.cells;obtain ⟨o0,o1,o2,o3⟩:=S.I.cells (Y:=Y) (c:=c) zy;go_wp2_with fail;clear q0 q1 q2 q3 q4 o0 o1 o2 o3;refine Mb.mono ?_;clear Mb;rintro e W4 ⟨rfl,hb⟩;replace S:=aA (S.I.below hb);clear hb;go_upto_region 14 with fail;by_cases h1:n0 k.parts c.src c.ga < 0
     .as_aux_lemma=>
      have HN:bN (eP k.pure=false):=gx (kq Vn.I (.inl (Uu (.inl (Ty h1)))));replace h1:decide (n0 k.parts c.src c.ga < 0)=true:=decide_eq_true h1;refine aT (fun W=>bA w w.heap.size k [(Y,c)] W) ZbY (S.I.below (Kp _ _).drew) ?_
      iterate 3 (refine yl (v:= ?_) ?_ ?_; rotate_left; (intro w0 hS0; go_simp; try with_reducible rfl); simp only [pt,sb,s0,s1])
      iterate 2 (refine nl ?_; simp only [pt,sb,s0,s1])
      iterate 2 (refine yl (v:= ?_) ?_ ?_; rotate_left; (intro w0 hS0; go_simp; try with_reducible rfl); simp only [pt,sb,s0,s1])
      iterate 3 (refine nl ?_; simp only [pt,sb,s0,s1])
      iterate 2 (refine yl (v:= ?_) ?_ ?_; rotate_left; (intro w0 hS0; go_simp; try with_reducible rfl); simp only [pt,sb,s0,s1])
      iterate 11 (refine nl ?_; simp only [pt,sb,s0,s1])
      iterate 2 (refine yl (v:= ?_) ?_ ?_; rotate_left; (intro w0 hS0; go_simp; try with_reducible rfl); simp only [pt,sb,s0,s1])
      iterate 10 (refine nl ?_; simp only [pt,sb,s0,s1])
      iterate 2 (refine yl (v:= ?_) ?_ ?_; rotate_left; (intro w0 hS0; go_simp; try with_reducible rfl); simp only [pt,sb,s0,s1])
      iterate 21 (refine nl ?_; simp only [pt,sb,s0,s1])
      iterate 1 (refine yl (v:= ?_) ?_ ?_; rotate_left; (intro w0 hS0; go_simp; try with_reducible rfl); simp only [pt,sb,s0,s1])
      clear h1;exact F_
     by_cases h2:n0 k.parts c.dst c.hI < 0
     .as_aux_lemma=>
      have HN:bN (eP k.pure=false):=gx (kq Vn.I (.inl (Uu (.inr (Ty h2)))));replace h1:decide (n0 k.parts c.src c.ga < 0)=false:=decide_eq_false h1;replace h2:decide (n0 k.parts c.dst c.hI < 0)=true:=decide_eq_true h2;refine aT (fun W=>bA w w.heap.size k [(Y,c)] W) ZbY (S.I.below (Kp _ _).drew) ?_
      iterate 7 (refine yl (v:= ?_) ?_ ?_; rotate_left; (intro w0 hS0; go_simp; try with_reducible rfl); simp only [pt,sb,s0,s1])
      iterate 3 (refine nl ?_; simp only [pt,sb,s0,s1])
      iterate 2 (refine yl (v:= ?_) ?_ ?_; rotate_left; (intro w0 hS0; go_simp; try with_reducible rfl); simp only [pt,sb,s0,s1])
      iterate 11 (refine nl ?_; simp only [pt,sb,s0,s1])
      iterate 2 (refine yl (v:= ?_) ?_ ?_; rotate_left; (intro w0 hS0; go_simp; try with_reducible rfl); simp only [pt,sb,s0,s1])
      iterate 10 (refine nl ?_; simp only [pt,sb,s0,s1])
      iterate 2 (refine yl (v:= ?_) ?_ ?_; rotate_left; (intro w0 hS0; go_simp; try with_reducible rfl); simp only [pt,sb,s0,s1])
      iterate 21 (refine nl ?_; simp only [pt,sb,s0,s1])
      iterate 1 (refine yl (v:= ?_) ?_ ?_; rotate_left; (intro w0 hS0; go_simp; try with_reducible rfl); simp only [pt,sb,s0,s1])
      clear h1 h2;exact F_
     obtain ⟨n1,p1,m1,x1,a1,hp1,pi1,b1,hx1,en1⟩:=Tw h1;obtain ⟨n2,p2,m2,x2,a2,hp2,pi2,b2,hx2,en2⟩:=Tw h2;clear h1 h2;rw [a1,a2,b1,b2];obtain ⟨dq,qk⟩:=Vx en1 en2;have HCK:bN (pa k.pure.parts c=(!decide (c.src=c.dst) && x1.I && !x2.I && (x1.Mf == x2.Mf))):=dq;have HQK:bN (zo k.pure.parts c=x1.Mf):=qk;clear dq qk en1 en2;obtain ⟨gs1,ha1,-,ht1⟩:=ic S.I.ks.MT.parts hp1;obtain ⟨gp1,hb1,-⟩:=lm ht1.2.2.2.2.2 hx1;obtain ⟨gs2,ha2,-,ht2⟩:=ic S.I.ks.MT.parts hp2;obtain ⟨gp2,hb2,-⟩:=lm ht2.2.2.2.2.2 hx2;cases ha1.symm.trans ha2;have HR:bN (∀ (B:List (Nat × eQ)) (W:w_),bA w w.heap.size k B W->W.cell? ⟨w.heap.size,3,n_⟩=o_ (s_ (o_ ⟨gs1,0,n_⟩) k.parts.length k.sa)/\W.cell? ⟨gs1,n1 * 8+7,n_⟩=o_ (s_ (o_ ⟨gp1,0,n_⟩) p1.ai.length p1.aV)/\W.cell? ⟨gs1,n2 * 8+7,n_⟩=o_ (s_ (o_ ⟨gp2,0,n_⟩) p2.ai.length p2.aV)/\W.cell? ⟨gp1,m1 * 5+1,n_⟩=o_ (b_ x1.I)/\W.cell? ⟨gp1,m1 * 5+2,n_⟩=o_ (b_ x1.Mf)/\W.cell? ⟨gp2,m2 * 5+1,n_⟩=o_ (b_ x2.I)/\W.cell? ⟨gp2,m2 * 5+2,n_⟩=o_ (b_ x2.Mf)):=fun B W h=>by
      obtain ⟨-,-,-,q3,-⟩:=h.ks.box.cells;obtain ⟨g1,e1,f1,t1⟩:=ic h.ks.MT.parts hp1;obtain ⟨g2,e2,f2,t2⟩:=ic h.ks.MT.parts hp2;cases ha1.symm.trans e1;cases ha1.symm.trans e2;obtain ⟨u1,e3,r1⟩:=lm t1.2.2.2.2.2 hx1;obtain ⟨u2,e4,r2⟩:=lm t2.2.2.2.2.2 hx2;cases hb1.symm.trans e3;cases hb2.symm.trans e4;have c1:=f1.2.2.2.2.2.2.2;have c2:=f2.2.2.2.2.2.2.2;rw [ha1] at q3;rw [hb1] at c1;rw [hb2] at c2;exact ⟨q3,c1,c2,r1.2.1,r1.2.2.1,r2.2.1,r2.2.2.1⟩
     have ln1:=(Lj.1 hp1).1;have lm1:=(Lj.1 hx1).1;have lp1:=(HF.I.parts p1 (KA hp1)).1.short.ai;have j1:(0:Int)<=(n1:Int):=zw
     have k1:(n1:Int) < (k.parts.length:Int):=zw
     have y1:(0:Int)<=(m1:Int):=zw
     have z1:(m1:Int) < (p1.ai.length:Int):=zw
     have u1:decide ((m1:Int) < 0)=false:=decide_eq_false zw;have ln2:=(Lj.1 hp2).1;have lm2:=(Lj.1 hx2).1;have lp2:=(HF.I.parts p2 (KA hp2)).1.short.ai;have j2:(0:Int)<=(n2:Int):=zw
     have k2:(n2:Int) < (k.parts.length:Int):=zw
     have y2:(0:Int)<=(m2:Int):=zw
     have z2:(m2:Int) < (p2.ai.length:Int):=zw
     have u2:decide ((m2:Int) < 0)=false:=decide_eq_false zw;have HAB:bN ((n1=n2)↔c.src=c.dst):=by
      constructor
      .intro e; subst e; rw [hp1] at hp2; cases hp2; exact pi1.symm.trans pi2
      .intro e; rw [e] at a1; omega
     clear hp1 hp2 hx1 hx2 ha1 hb1 hb2 ht1 ht2 a1 a2 b1 b2 pi1 pi2 ln1 ln2 lm1 lm2 lp1 lp2;refine aT (fun W=>bA w w.heap.size k [(Y,c)] W) ZbY (S.I.below (Kp _ _).drew) ?_
     iterate 12 (refine yl (v:= ?_) ?_ ?_; rotate_left; (intro w0 hS0; obtain ⟨q3,g1,g2,g3,g4,g5,g6⟩:=HR.I _ w0 hS0; go_simp; try with_reducible rfl); simp only [pt,sb,s0,s1])
     cases w9:((n1:Int) == (n2:Int))
     case true=>
      as_aux_lemma=>
       have hab:n1=n2:=by simp only [beq_iff_eq] at w9; omega
       have HN:bN (eP k.pure=false):=gx (kq Vn.I (.inl (HCK.I.trans (by simp [HAB.I.1 hab]))));clear hab
       iterate 11 (refine nl ?_; simp only [pt,sb,s0,s1])
       iterate 2 (refine yl (v:= ?_) ?_ ?_; rotate_left; (intro w0 hS0; obtain ⟨q3,g1,g2,g3,g4,g5,g6⟩:=HR.I _ w0 hS0; go_simp; try with_reducible rfl); simp only [pt,sb,s0,s1])
       exact ZbH
     have HNE:bN (¬ c.src=c.dst):=fun e=>by have h:=HAB.I.2 e; simp [h] at w9
     iterate 13 (refine yl (v:= ?_) ?_ ?_; rotate_left; (intro w0 hS0; obtain ⟨q3,g1,g2,g3,g4,g5,g6⟩:=HR.I _ w0 hS0; go_simp; try with_reducible rfl); simp only [pt,sb,s0,s1])
     cases b1:x1.I
     case false=>
      as_aux_lemma=>
       have HN:bN (eP k.pure=false):=gx (kq Vn.I (.inl (HCK.I.trans (by simp [b1]))))
       exact ZbH
     iterate 12 (refine yl (v:= ?_) ?_ ?_; rotate_left; (intro w0 hS0; obtain ⟨q3,g1,g2,g3,g4,g5,g6⟩:=HR.I _ w0 hS0; go_simp; try with_reducible rfl); simp only [pt,sb,s0,s1])
     cases b2:x2.I
     case true=>
      as_aux_lemma=>
       have HN:bN (eP k.pure=false):=gx (kq Vn.I (.inl (HCK.I.trans (by simp [b2]))))
       exact no
     iterate 22 (refine yl (v:= ?_) ?_ ?_; rotate_left; (intro w0 hS0; obtain ⟨q3,g1,g2,g3,g4,g5,g6⟩:=HR.I _ w0 hS0; go_simp; try with_reducible rfl); simp only [pt,sb,s0,s1])
     refine bk ZbY (fun A3 NO=> ?_) _;replace S:=aA NO;clear NO;cases b3:(x1.Mf == x2.Mf)
     case false=>
      as_aux_lemma=>
       have HN:bN (eP k.pure=false):=gx (kq Vn.I (.inl (HCK.I.trans (by simp [b3]))));go_wp2;go_ret;exact ⟨al HN.I.symm,S.I.ks.low⟩
     have HOK:bN (pa k.pure.parts c=true):=HCK.I.trans (by have h:=HNE.I; simp [b1,b2,b3,h])
     as_aux_lemma=>
       clear b1 b2 b3 u1 u2 w9;go_wp2_with fail
       go_loopw [10] (fun i wr=> ∃ n:Nat,n<=j/\i=i_ j_ n/\bN (bA w w.heap.size k [(Y,c)] wr/\(k.eC.take n).any (hR k.pure.parts c)=false)) (fun i _=>j - (Go.RowKit.intOf i).toNat)
       case atStart=>exact ⟨0,Ky _,rfl,S.I,by simp⟩
       case round=>
        clear S;obtain ⟨n,hn,rfl,S⟩:=hrel;have HA:=aA S.I.2;replace S:=aA S.I.1;by_cases sR:n < j
        .skip
         have v0:(0:Int)<=(n:Int):=zw
         have v1:(n:Int) < (j:Int):=zw
         have v2:(n:Int) < (k.eC.length:Int):=zw
         obtain ⟨d,hd⟩: ∃ d,k.eC[n]? =o_ d:=⟨_,Kz zw⟩
         have Vp:=aA hd;obtain ⟨g5,ha,d0,d1,d2,d3⟩:=TH S.I.ks.MT.eC hd;cases HGC.I.symm.trans ha;obtain ⟨-,-,-,-,q4⟩:=S.I.ks.box.cells;rw [ha] at q4;clear ha hd;replace S:=aA (S.I.put (c:=d));go_upto_region 20 with fail;clear d0 d1 d2 d3 q4 v0 v2;generalize wr.alloc (c_ (nx d) 37)=W5 at *;generalize wr.heap.size=Z at *;obtain ⟨o0,o1,o2,o3⟩:=S.I.cells (Y:=Y) (c:=c) zy;obtain ⟨r0,r1,r2,r3⟩:=S.I.cells (Y:=Z) (c:=d) zy;obtain ⟨q3,g1,-,-,g4,-,-⟩:=HR.I _ _ S.I;have VB:bN (hR k.pure.parts c d=(decide (d.dst=c.dst) && decide (d.hI=c.hI) || decide (d.src=c.src) && decide (d.ga=c.ga) && x1.Mf)):=by show hR _ _ _=_; unfold hR; rw [HQK.I]
         cases h1:(d.dst == c.dst)
         case true=>
          have h1q:d.dst=c.dst:=by simpa using h1
          cases h2:(d.hI == c.hI)
          case true=>
           have h2q:d.hI=c.hI:=by simpa using h2
           have HN:bN (eP k.pure=false):=gx (kq (ps:=k.pure.parts) Vn.I (.inr (aev.2 ⟨d,Td Vp.I sR,VB.I.trans (by simp [*])⟩)));go_wp2;go_ret;exact ⟨al HN.I.symm,S.I.ks.low⟩
          case false=>
           have h2q: ¬ d.hI=c.hI:=by simpa using h2
           exact h_
         case false=>
          have h1q: ¬ d.dst=c.dst:=by simpa using h1
          exact h_
        .have v1: ¬ (n:Int) < (j:Int):=zw
         have e:n=j:=zw
         have HM:bN (fA k.pure.parts [] (k.eC.take (j+1))=true):=Tz HL.I Vn.I HOK.I (by rw [<- e]; exact HA.I);clear e;go_wp2;go_roundw
         case rel=>exact ⟨j+1,zw,by go_num,S.I.less,HM.I⟩
         case measure=>simp [Go.RowKit.intOf]; omega
    .have i1: ¬ (j:Int) < (k.eC.length:Int):=zw
     have HY:bN (eP k.pure=true):=Ui H1.I H2.I H3.I.1 H3.I.2 HT.I (by have h:=S.I.2; rwa [KF zw] at h);obtain ⟨-,-,-,-,q4⟩:=S.I.1.ks.box.cells;go_wp2;go_ret;exact ⟨al HY.I.symm,S.I.1.ks.low⟩
end
section
open Go.RowKit
def abP {α:Type} (f:α->Bool) (g:α->α):List α->List α
 | [] => []
 | x :: r=>if f x then g x :: r else x :: abP f g r
section
variable {α β:Type} {f:α->Bool} {g:α->α}
def acp: ∀ {l:List α} {n:Nat} {x:α},l[n]? =o_ x->f x=true->(∀ y∈l.take n,f y=false)->abP f g l=l.set n (g x)
 | [],n,x,h,_,_=>by simp at h
 | y :: r,0,x,h,hf,_=>by
  simp only [List.getElem?_cons_zero,LF] at h;subst h;simp [abP,hf]
 | y :: r,n+1,x,h,hf,hn=>by
  simp only [List.getElem?_cons_succ] at h;have h1:=hn y zy;simp only [abP,h1,List.set_cons_succ];rw [acp h hf fun z hz=>hn z ZcX];rfl
def acu {h:α->β} (hg: ∀ x,h (g x)=h x): ∀ l:List α,(abP f g l).map h=l.map h
 | [] =>rfl
 | x :: r=>by
  simp only [abP]
  split
  .simp [hg]
  .simp [acu hg r]
def acs {y:α} : ∀ {l:List α},y∈abP f g l->y∈l\/ ∃ x,l.find? f=o_ x/\y=g x
 | [],h=>by cases h
 | x :: r,h=>by
  simp only [abP] at h
  split at h
  .rcases Kt.1 h with rfl | h
   .exact .inr ⟨x,by rw [aeC Zci],rfl⟩
   .exact .inl (LB _ h)
  .rcases Kt.1 h with rfl | h
   .exact .inl zy
   .rcases acs h with h5 | ⟨x',h5,h6⟩
    .exact .inl (LB _ h5)
    .exact .inr ⟨x',by rw [aeD Zci]; exact h5,h6⟩
end
def acf {α:Type} {num:α->Int} {id:Int} {g:α->α} (hg: ∀ x,num (g x)=num x) (j:Int): ∀ l:List α,hP num j (abP (fun x=>decide (num x=id)) g l)=if j=id then (hP num j l).map g else hP num j l
 | [] =>by simp [abP,hP]
 | x :: r=>by
  have h:=acf hg j r (id:=id);unfold hP at h ⊢;simp only [abP];by_cases hx:num x=id
  .simp only [hx,decide_true,if_true,LL,hg]
   by_cases hj:j=id
   .simp [hj]
   .have: ¬ id=j:=fun e=>hj e.symm
    simp [hj,this]
  .simp only [hx,decide_false,J5,if_false,LL]
   by_cases hj:num x=j
   .have: ¬ j=id:=fun e=>hx (hj.trans e)
    simp [hj,this]
   .simp only [hj,decide_false]
    exact h
def abZ (its:List ByteArray) (q:dS):dS:= { q with Ma:=its }
def ab7 (port:Int) (its:List ByteArray) (p:aE):aE:= { p with ai:=abP (fun q:dS=>decide (q.id=port)) (abZ its) p.ai }
def abK (part port:Int) (its:List ByteArray) (ps:List aE):List aE:=abP (fun p:aE=>decide (p.id=part)) (ab7 port its) ps
def acS (part port:Int) (its:List ByteArray) (ps:List aE) (a b:Int):endP (abK part port its ps) a b=if a=part/\b=port then (endP ps a b).map (abZ its) else endP ps a b:=by
 unfold abK endP;rw [acf (num:=fun p:aE=>p.id) (g:=ab7 port its) (fun _=>rfl)];by_cases ha:a=part
 .subst ha
  simp only [if_true,true_and];cases hP (fun p:aE=>p.id) a ps with
  | none=>simp
  | some p=>
   simp only [J9,aeE];exact acf (num:=fun q:dS=>q.id) (g:=abZ its) (fun _=>rfl) b p.ai
 .simp [ha]
def ab4 (t:dS):Nat:=(t.max - t.Ma.length).toNat
def abM (ps:List aE) (c:eQ):List aE:=match endP ps c.src c.ga,endP ps c.dst c.hI with
 | some s,o_ t=>if s.Mf then abK c.src c.ga (s.Ma.drop (min s.Ma.length (ab4 t))) (abK c.dst c.hI (t.Ma ++ s.Ma.take (min s.Ma.length (ab4 t))) ps) else if s.Ma.length=0 then ps else abK c.dst c.hI (s.Ma.take 1) ps
 | _,_=>ps
def abI (src:Int):List aE->List eQ->List aE
 | ps,[] =>ps
 | ps,c :: r=>abI src (if c.src=src then abM ps c else ps) r
def ab3 (src:Int): ∀ (ps:List aE) (l r:List eQ),abI src ps (l ++ r)=abI src (abI src ps l) r
 | _,[],_=>rfl
 | _,_ :: l,r=>ab3 src _ l r
def ace {src:Int} {ps:List aE} {l:List eQ} {n:Nat} {c:eQ} (h:l[n]? =o_ c):abI src ps (l.take (n+1))=if c.src=src then abM (abI src ps (l.take n)) c else abI src ps (l.take n):=by
 have e:l.take (n+1)=l.take n ++ [c] :=by rw [List.take_add_one,h]; rfl
 rw [e,ab3];rfl
def abL (q:dS):dS:= { q with Ma:= [] }
def abQ (p:aE):aE:= { p with ai:=p.ai.map abL }
structure abz (ps0 ps:List aE):Prop where
 acE:ps.map abQ=ps0.map abQ
 right: ∀ p∈ps,∀ q∈p.ai,dj q=true
def acY (part port:Int) (its:List ByteArray) (ps:List aE):(abK part port its ps).map abQ=ps.map abQ:=
 acu (fun p=>by
  have e:(abP (fun q:dS=>decide (q.id=port)) (abZ its) p.ai).map abL=p.ai.map abL:=acu (g:=abZ its) (fun q=>rfl) p.ai;unfold abQ ab7;simp only [e]) ps
section
variable {ps0 ps:List aE} {part port:Int} {its:List ByteArray}
def abz.Ma {q:dS} (h:abz ps0 ps) (he:endP ps part port=o_ q) (hq:dj (abZ its q)=true):abz ps0 (abK part port its ps):=by
 refine ⟨(acY _ _ _ _).trans h.acE,fun p hp y hy=> ?_⟩;rcases acs hp with hp | ⟨p',hp',rfl⟩
 .exact h.right p hp y hy
 .rcases acs hy with hy | ⟨y',hy',rfl⟩
  .exact h.right p' (RG hp') y hy
  .unfold endP hP at he
   rw [hp',aeE,hy'] at he;cases he;exact hq
end
def ac9 {ps:List aE} {a b:Int} {q:dS} (h:endP ps a b=o_ q): ∃ p∈ps,p.id=a/\q∈p.ai/\q.id=b:=by
 unfold endP at h;cases hf:hP (fun p:aE=>p.id) a ps with
 | none=>rw [hf] at h; cases h
 | some p=>
  rw [hf] at h;simp only [aeE] at h;have h1:=PS hf;have h2:=PS h;simp only [decide_eq_true_eq] at h1 h2;exact ⟨p,RG hf,h1,RG h,h2⟩
def acK {ps0 ps:List aE} (h:ps.map abQ=ps0.map abQ) (a b:Int):(endP ps a b).map abL=(endP ps0 a b).map abL:=by
 have key: ∀ l:List aE,(endP l a b).map abL=endP (l.map abQ) a b:=fun l=>by
  unfold endP;have e1:hP (fun p:aE=>p.id) a (l.map abQ)=(hP (fun p:aE=>p.id) a l).map abQ:=by
   unfold hP;rw [aeu];rfl
  rw [e1];cases hP (fun p:aE=>p.id) a l with
  | none=>rfl
  | some p=>
   simp only [J9,aeE]
   show (hP (fun q:dS=>q.id) b p.ai).map abL=hP (fun q:dS=>q.id) b (p.ai.map abL)
   unfold hP;rw [aeu];rfl
 rw [key,key,h]
def abz.refl {ps:List aE} (h: ∀ p∈ps,∀ q∈p.ai,dj q=true):abz ps ps:=⟨rfl,h⟩
def abz.ends {ps0 ps:List aE} {c:eQ} (h:abz ps0 ps) (hc:pa ps0 c=true): ∃ s t,endP ps c.src c.ga=o_ s/\endP ps c.dst c.hI=o_ t/\s.Mf=t.Mf/\ ¬ c.src=c.dst/\dj s=true/\dj t=true:=by
 have h1:=acK h.acE c.src c.ga;have h2:=acK h.acE c.dst c.hI;unfold pa at hc;cases e1:endP ps0 c.src c.ga with
 | none=>rw [e1] at hc; simp at hc
 | some s0=>
  cases e2:endP ps0 c.dst c.hI with
  | none=>rw [e1,e2] at hc; simp at hc
  | some t0=>
   rw [e1,e2] at hc;simp only [J7,PR,decide_eq_false_iff_not,beq_iff_eq] at hc;rw [e1] at h1;rw [e2] at h2;obtain ⟨s,hs,es⟩:=Kw.1 h1;obtain ⟨t,ht,et⟩:=Kw.1 h2;obtain ⟨p,hp,-,hq,-⟩:=ac9 hs;obtain ⟨p',hp',-,hq',-⟩:=ac9 ht;have q1:s.Mf=s0.Mf:=(congrArg dS.Mf es:(abL s).Mf=(abL s0).Mf)
   have q2:t.Mf=t0.Mf:=(congrArg dS.Mf et:(abL t).Mf=(abL t0).Mf)
   exact ⟨s,t,hs,ht,by rw [q1,q2]; exact hc.2,hc.1.1.1,h.right p hp s hq,h.right p' hp' t hq'⟩
def abT {q:dS} (h:dj q=true):1<=q.max/\q.max<=5/\(q.Mf=false->q.max=1)/\(∀ s∈q.Ma,bw s=true)/\(q.Ma.length:Int)<=q.max:=by
 simp only [dj,dJ,cv,J7,Kb,decide_eq_true_eq,PZ] at h;exact ⟨h.1.1.1,h.1.1.2,fun e=>h.1.2.resolve_left (by rw [e]; decide),h.2.1,h.2.2⟩
def acJ {q:dS} {its:List ByteArray} (h:dj q=true) (h1: ∀ s∈its,bw s=true) (h2:(its.length:Int)<=q.max):dj (abZ its q)=true:=by
 unfold dj at h ⊢;rw [J7] at h ⊢;refine ⟨h.1,?_⟩;unfold dJ;rw [J7,PZ];exact ⟨h1,decide_eq_true h2⟩
def ady {s t:dS} (h:dj t=true):((t.Ma ++ s.Ma.take (min s.Ma.length (ab4 t))).length:Int)<=t.max:=by
 have h1:=(abT h).2.2.2.2;unfold ab4;rw [Lf,Lk];omega
def abz.carry {ps0 ps:List aE} {c:eQ} (h:abz ps0 ps) (hc:pa ps0 c=true):abz ps0 (abM ps c):=by
 obtain ⟨s,t,hs,ht,hq,hne,ps1,pt1⟩:=h.ends hc;unfold abM;rw [hs,ht];simp only;have a1:=(abT ps1).2.2.2.1;have a2:=(abT pt1).2.2.2.1
 split
 .have h1:abz ps0 (abK c.dst c.hI (t.Ma ++ s.Ma.take (min s.Ma.length (ab4 t))) ps):=h.Ma ht (acJ pt1 (fun u hu=>by
   rcases Kg.1 hu with hu | hu
   .exact a2 u hu
   .exact a1 u (RK hu)) (ady pt1))
  refine h1.Ma (q:=s) ?_ (acJ ps1 (fun u hu=>a1 u (RL hu)) (by have:=(abT ps1).2.2.2.2; rw [Ql]; omega));rw [acS,if_neg (fun e=>hne e.1),hs]
 .split
  .exact h
  .exact h.Ma ht (acJ pt1 (fun u hu=>a1 u (RK hu)) (by have:=(abT pt1).1; rw [Lk]; omega))
def abz.all {ps0:List aE} {src:Int} : ∀ {l:List eQ} {ps:List aE},abz ps0 ps->(∀ c∈l,pa ps0 c=true)->abz ps0 (abI src ps l)
 | [],_,h,_=>h
 | c :: r,ps,h,hc=>by
  unfold abI;refine abz.all ?_ fun d hd=>hc d (LB _ hd)
  split
  .exact h.carry (hc c zy)
  .exact h
end
end Go.Proofs.YtckenjkcmajicaaGreat
