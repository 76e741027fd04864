/- What the proof leans on, part 12. -/
import Derived.Test.YtfncpmaefninjaaGreatDoorOwnQ9
set_option linter.all false
set_option maxRecDepth 100000
set_option maxHeartbeats 8000000
open Go.Proofs.Tryz
open Go renaming World->w_,Value->v_,Calls->k_,Addr->d_,TypeId->T_,below_setRow->q_
open Go.Ending renaming returned->r_
open Go.IntKind renaming i64->j_
open Go.Obj renaming cells->c_
open Go.RowKit renaming Below->B_,Hid->bN
open Go.Value renaming int->i_,slice->s_,bool->b_,string->t_,agg->a_,pointer->p_
open Option renaming some->o_,none->n_
open Function renaming comp_def->Ls
open Go.Proofs.Tryz renaming prog->J3
open List renaming getElem_cons_succ->K1,getElem_cons_zero->K0,getElem_toArray->KZ,set_cons_succ->Lo,set_cons_zero->Ln

namespace Go.Proofs.YtfncpmaefninjaaGreatDoor
section
open Go.RowKit Go.Maps
theorem zj (Me:Int) (bj b:Nat) (l:List (ao × Nat)) (w:w_) (h:Shelf aX (fun x:ao=>x.id) 41 w bj b l) (hl:l.length<=1048576) (hwf: ∀ p∈(RW (fun x:ao=>x.id) l),(Lit.int j_ p.1).wf=true):
  k_ J3 63 #[a_ #[i_ j_ Me,.map (o_ b)]] w fun e w'=>mY bg 41 w (l.map (·.1)) e w':=by
 obtain ⟨i0,hi,e0⟩:=Kw.1 nb;simp only [Kx] at e0;have HI:bN (Tryz.prog.info? 41=o_ i0/\i0.zero=o_ _/\i0.size=12/\i0.bytes=128):=⟨hi,e0⟩
 have H:bN (Shelf aX (fun x:ao=>x.id) 41 (w.alloc (c_ #[i_ j_ Me,.map (o_ b)] 69)) bj b l/\(∀ p∈(RW (fun x:ao=>x.id) l),(Lit.int j_ p.1).wf=true)/\B_ w.heap.size w (w.alloc (c_ #[i_ j_ Me,.map (o_ b)] 69))):=⟨h.below ((Kp _ _).alloc (Ki _) _),hwf,(Kp _ _).alloc (Ki _) _⟩
 have HK:bN ((RW (fun x:ao=>x.id) l).length=l.length):=bZ l;clear h hwf hi e0
 go_enter func63,ntmps63
 go_wp2_with fail;generalize w.alloc (c_ #[i_ j_ Me,.map (o_ b)] 69)=W at *;refine (mq Me b (RW (fun x:ao=>x.id) l) W H.I.1.map ZcG H.I.2.1).mono ?_;rintro e w2 ⟨a,cap,rfl,hown,hb2⟩;obtain ⟨a',cap',hv,hrow⟩:=cr hown;cases hv;have HR:bN (Row w2 a ((RW (fun x:ao=>x.id) l).map fun p=>dt p.2)):=hrow;have HO:bN (Shelf aX (fun x:ao=>x.id) 41 w2 bj b l/\B_ w.heap.size w w2):=⟨H.I.1.below hb2,H.I.2.2.trans (hb2.mono H.I.2.2.size)⟩
 rw [HK.I];clear hown hrow hb2;go_wp2_with fail
 go_loopw [3,9] (fun t i wr=> ∃ k:Nat,k<=l.length/\i=i_ j_ k/\ ∃ a' cap',t=s_ a' k cap'/\bN (wr.ownsRow w2.heap.size 41 12 (s_ a' k cap') k (bg.flat ((l.take k).map (·.1)))/\B_ w2.heap.size w2 wr)) (fun _ i _=>l.length - (intOf i).toNat)
 case atStart=>exact ⟨0,Ky _,rfl,n_,0,rfl,⟨Ke _ _ _ _,Kp _ _⟩⟩
 case round=>
  obtain ⟨k,hk,rfl,a',cap',rfl,HA⟩:=hrel;by_cases hlt:k < l.length
  .have qE:(0:Int)<=(k:Int):=zo
   have i1:(k:Int) < (l.length:Int):=zo
   obtain ⟨p,hp⟩: ∃ p,l[k]? =o_ p:=⟨_,Kz hlt⟩
   obtain ⟨g,ha,hc⟩:=(HR.I.below HA.I.2) k (dt p.2) ZcK;subst ha;unfold dt at hc;have HP:bN (l[k]? =o_ p):=hp;obtain ⟨s0,s1,s2,s3,s4,s5,s6,s7,s8,s9,s10,s11⟩:=bo ((HO.I.1.below HA.I.2).box p (KA hp));have kT:=HA.I.2.size;clear hp;go_wp2_with (at_builtin; refine KD _ rfl _ _ 24 rfl w2.heap.size 41 i0 _ 12 128 underlying24 HI.I.1 HI.I.2.1 HI.I.2.2.1 HI.I.2.2.2 rfl (by decide) (s_ a' k cap') k (bg.flat ((l.take k).map (·.1))) rfl (HA.I.1.alloc _) ⟨wr.heap.size,0,n_⟩ 1 1 (bg.vals p.1) (by rfl) rfl (KE (cs:= #[i_ j_ p.1.id,i_ j_ p.1.RX,s_ p.1.aY p.1.prog.length p.1.bH,i_ j_ p.1.Md,i_ j_ p.1.pc,i_ j_ p.1.left,i_ j_ p.1.Mg,i_ j_ p.1.on,t_ p.1.held,t_ p.1.got,i_ j_ p.1.code,i_ j_ p.1.RU]) (t:=41) (fr:=(0,0)) (Kj wr _)) (by simp [bg,qN,Value.oneCell']) Zcw zo Zcr ?_; intro v' w5 hown' hgrow hnil jV; obtain ⟨a5,im,rfl,-⟩:=cr hown'; have HN:bN (w5.ownsRow w2.heap.size 41 12 (s_ a5 (k+1) im) (k+1) (bg.flat ((l.take (k+1)).map (·.1)))/\B_ w2.heap.size w2 w5):=⟨by rw [cj HP.I,Kl,bg.dc]; exact hown',(HA.I.2.alloc kT _).grown hgrow Zcr (fun q hq=>(HA.I.1.lt q hq).1)⟩; clear hown' hgrow hnil jV);exact nv
  .exact mt
theorem zf (Me:Int) (bj b:Nat) (l:List (aM × Nat)) (w:w_) (h:Shelf cW (fun x:aM=>x.id) 115 w bj b l) (hl:l.length<=1048576) (hwf: ∀ p∈(RW (fun x:aM=>x.id) l),(Lit.int j_ p.1).wf=true):
  k_ J3 68 #[a_ #[i_ j_ Me,.map (o_ b)]] w fun e w'=>mY bX 115 w (l.map (·.1)) e w':=by
 obtain ⟨i0,hi,e0⟩:=Kw.1 na;simp only [Kx] at e0;have HI:bN (Tryz.prog.info? 115=o_ i0/\i0.zero=o_ _/\i0.size=5/\i0.bytes=48):=⟨hi,e0⟩
 have H:bN (Shelf cW (fun x:aM=>x.id) 115 (w.alloc (c_ #[i_ j_ Me,.map (o_ b)] 84)) bj b l/\(∀ p∈(RW (fun x:aM=>x.id) l),(Lit.int j_ p.1).wf=true)/\B_ w.heap.size w (w.alloc (c_ #[i_ j_ Me,.map (o_ b)] 84))):=⟨h.below ((Kp _ _).alloc (Ki _) _),hwf,(Kp _ _).alloc (Ki _) _⟩
 have HK:bN ((RW (fun x:aM=>x.id) l).length=l.length):=bZ l;clear h hwf hi e0
 go_enter func68,ntmps68
 go_wp2_with fail;generalize w.alloc (c_ #[i_ j_ Me,.map (o_ b)] 84)=W at *;refine (Bx Me b (RW (fun x:aM=>x.id) l) W H.I.1.map ZcG H.I.2.1).mono ?_;rintro e w2 ⟨a,cap,rfl,hown,hb2⟩;obtain ⟨a',cap',hv,hrow⟩:=cr hown;cases hv;have HR:bN (Row w2 a ((RW (fun x:aM=>x.id) l).map fun p=>dt p.2)):=hrow;have HO:bN (Shelf cW (fun x:aM=>x.id) 115 w2 bj b l/\B_ w.heap.size w w2):=⟨H.I.1.below hb2,H.I.2.2.trans (hb2.mono H.I.2.2.size)⟩
 rw [HK.I];clear hown hrow hb2;go_wp2_with fail
 go_loopw [3,9] (fun t i wr=> ∃ k:Nat,k<=l.length/\i=i_ j_ k/\ ∃ a' cap',t=s_ a' k cap'/\bN (wr.ownsRow w2.heap.size 115 5 (s_ a' k cap') k (bX.flat ((l.take k).map (·.1)))/\B_ w2.heap.size w2 wr)) (fun _ i _=>l.length - (intOf i).toNat)
 case atStart=>exact ⟨0,Ky _,rfl,n_,0,rfl,⟨Ke _ _ _ _,Kp _ _⟩⟩
 case round=>
  obtain ⟨k,hk,rfl,a',cap',rfl,HA⟩:=hrel;by_cases hlt:k < l.length
  .have qE:(0:Int)<=(k:Int):=zo
   have i1:(k:Int) < (l.length:Int):=zo
   obtain ⟨p,hp⟩: ∃ p,l[k]? =o_ p:=⟨_,Kz hlt⟩
   obtain ⟨g,ha,hc⟩:=(HR.I.below HA.I.2) k (dt p.2) ZcK;subst ha;unfold dt at hc;have HP:bN (l[k]? =o_ p):=hp;obtain ⟨s0,s1,s2,s3,s4⟩:=gE ((HO.I.1.below HA.I.2).box p (KA hp));have kT:=HA.I.2.size;clear hp;go_wp2_with (at_builtin; refine KD _ rfl _ _ 29 rfl w2.heap.size 115 i0 _ 5 48 underlying29 HI.I.1 HI.I.2.1 HI.I.2.2.1 HI.I.2.2.2 rfl (by decide) (s_ a' k cap') k (bX.flat ((l.take k).map (·.1))) rfl (HA.I.1.alloc _) ⟨wr.heap.size,0,n_⟩ 1 1 (bX.vals p.1) (by rfl) rfl (KE (cs:= #[i_ j_ p.1.id,b_ p.1.I,b_ p.1.Mf,i_ j_ p.1.max,s_ p.1.ak p.1.Ma.length p.1.aq]) (t:=115) (fr:=(0,0)) (Kj wr _)) (by simp [bX,qT,Value.oneCell']) Zcw zo Zcr ?_; intro v' w5 hown' hgrow hnil jV; obtain ⟨a5,im,rfl,-⟩:=cr hown'; have HN:bN (w5.ownsRow w2.heap.size 115 5 (s_ a5 (k+1) im) (k+1) (bX.flat ((l.take (k+1)).map (·.1)))/\B_ w2.heap.size w2 w5):=⟨by rw [cj HP.I,Kl,bX.dc]; exact hown',(HA.I.2.alloc kT _).grown hgrow Zcr (fun q hq=>(HA.I.1.lt q hq).1)⟩; clear hown' hgrow hnil jV);exact nv
  .exact mt
theorem uk (Me:Int) (bj b:Nat) (l:List (au × Nat)) (w:w_) (h:Shelf bQ (fun x:au=>x.id) 96 w bj b l) (hl:l.length<=1048576) (hwf: ∀ p∈(RW (fun x:au=>x.id) l),(Lit.int j_ p.1).wf=true):
  k_ J3 67 #[a_ #[i_ j_ Me,.map (o_ b)]] w fun e w'=>mY bm 96 w (l.map (·.1)) e w':=by
 obtain ⟨i0,hi,e0⟩:=Kw.1 kh;simp only [Kx] at e0;have HI:bN (Tryz.prog.info? 96=o_ i0/\i0.zero=o_ _/\i0.size=3/\i0.bytes=40):=⟨hi,e0⟩
 have H:bN (Shelf bQ (fun x:au=>x.id) 96 (w.alloc (c_ #[i_ j_ Me,.map (o_ b)] 81)) bj b l/\(∀ p∈(RW (fun x:au=>x.id) l),(Lit.int j_ p.1).wf=true)/\B_ w.heap.size w (w.alloc (c_ #[i_ j_ Me,.map (o_ b)] 81))):=⟨h.below ((Kp _ _).alloc (Ki _) _),hwf,(Kp _ _).alloc (Ki _) _⟩
 have HK:bN ((RW (fun x:au=>x.id) l).length=l.length):=bZ l;clear h hwf hi e0
 go_enter func67,ntmps67
 go_wp2_with fail;generalize w.alloc (c_ #[i_ j_ Me,.map (o_ b)] 81)=W at *;refine (wF Me b (RW (fun x:au=>x.id) l) W H.I.1.map ZcG H.I.2.1).mono ?_;rintro e w2 ⟨a,cap,rfl,hown,hb2⟩;obtain ⟨a',cap',hv,hrow⟩:=cr hown;cases hv;have HR:bN (Row w2 a ((RW (fun x:au=>x.id) l).map fun p=>dt p.2)):=hrow;have HO:bN (Shelf bQ (fun x:au=>x.id) 96 w2 bj b l/\B_ w.heap.size w w2):=⟨H.I.1.below hb2,H.I.2.2.trans (hb2.mono H.I.2.2.size)⟩
 rw [HK.I];clear hown hrow hb2;go_wp2_with fail
 go_loopw [3,9] (fun t i wr=> ∃ k:Nat,k<=l.length/\i=i_ j_ k/\ ∃ a' cap',t=s_ a' k cap'/\bN (wr.ownsRow w2.heap.size 96 3 (s_ a' k cap') k (bm.flat ((l.take k).map (·.1)))/\B_ w2.heap.size w2 wr)) (fun _ i _=>l.length - (intOf i).toNat)
 case atStart=>exact ⟨0,Ky _,rfl,n_,0,rfl,⟨Ke _ _ _ _,Kp _ _⟩⟩
 case round=>
  obtain ⟨k,hk,rfl,a',cap',rfl,HA⟩:=hrel;by_cases hlt:k < l.length
  .have qE:(0:Int)<=(k:Int):=zo
   have i1:(k:Int) < (l.length:Int):=zo
   obtain ⟨p,hp⟩: ∃ p,l[k]? =o_ p:=⟨_,Kz hlt⟩
   obtain ⟨g,ha,hc⟩:=(HR.I.below HA.I.2) k (dt p.2) ZcK;subst ha;unfold dt at hc;have HP:bN (l[k]? =o_ p):=hp;obtain ⟨s0,s1,s2⟩:=ia ((HO.I.1.below HA.I.2).box p (KA hp));have kT:=HA.I.2.size;clear hp;go_wp2_with (at_builtin; refine KD _ rfl _ _ 28 rfl w2.heap.size 96 i0 _ 3 40 underlying28 HI.I.1 HI.I.2.1 HI.I.2.2.1 HI.I.2.2.2 rfl (by decide) (s_ a' k cap') k (bm.flat ((l.take k).map (·.1))) rfl (HA.I.1.alloc _) ⟨wr.heap.size,0,n_⟩ 1 1 (bm.vals p.1) (by rfl) rfl (KE (cs:= #[i_ j_ p.1.id,i_ j_ p.1.max,s_ p.1.ak p.1.Ma.length p.1.aq]) (t:=96) (fr:=(0,0)) (Kj wr _)) (by simp [bm,nD,Value.oneCell']) Zcw zo Zcr ?_; intro v' w5 hown' hgrow hnil jV; obtain ⟨a5,im,rfl,-⟩:=cr hown'; have HN:bN (w5.ownsRow w2.heap.size 96 3 (s_ a5 (k+1) im) (k+1) (bm.flat ((l.take (k+1)).map (·.1)))/\B_ w2.heap.size w2 w5):=⟨by rw [cj HP.I,Kl,bm.dc]; exact hown',(HA.I.2.alloc kT _).grown hgrow Zcr (fun q hq=>(HA.I.1.lt q hq).1)⟩; clear hown' hgrow hnil jV);exact nv
  .exact mt
theorem AN (Me:Int) (bj b:Nat) (l:List (bD × Nat)) (w:w_) (h:Shelf eH (fun x:bD=>x.id) 89 w bj b l) (hl:l.length<=1048576) (hwf: ∀ p∈(RW (fun x:bD=>x.id) l),(Lit.int j_ p.1).wf=true):
  k_ J3 64 #[a_ #[i_ j_ Me,.map (o_ b)]] w fun e w'=>mY dm 89 w (l.map (·.1)) e w':=by
 obtain ⟨i0,hi,e0⟩:=Kw.1 yS;simp only [Kx] at e0;have HI:bN (Tryz.prog.info? 89=o_ i0/\i0.zero=o_ _/\i0.size=3/\i0.bytes=24):=⟨hi,e0⟩
 have H:bN (Shelf eH (fun x:bD=>x.id) 89 (w.alloc (c_ #[i_ j_ Me,.map (o_ b)] 72)) bj b l/\(∀ p∈(RW (fun x:bD=>x.id) l),(Lit.int j_ p.1).wf=true)/\B_ w.heap.size w (w.alloc (c_ #[i_ j_ Me,.map (o_ b)] 72))):=⟨h.below ((Kp _ _).alloc (Ki _) _),hwf,(Kp _ _).alloc (Ki _) _⟩
 have HK:bN ((RW (fun x:bD=>x.id) l).length=l.length):=bZ l;clear h hwf hi e0
 go_enter func64,ntmps64
 go_wp2_with fail;generalize w.alloc (c_ #[i_ j_ Me,.map (o_ b)] 72)=W at *;refine (CS Me b (RW (fun x:bD=>x.id) l) W H.I.1.map ZcG H.I.2.1).mono ?_;rintro e w2 ⟨a,cap,rfl,hown,hb2⟩;obtain ⟨a',cap',hv,hrow⟩:=cr hown;cases hv;have HR:bN (Row w2 a ((RW (fun x:bD=>x.id) l).map fun p=>dt p.2)):=hrow;have HO:bN (Shelf eH (fun x:bD=>x.id) 89 w2 bj b l/\B_ w.heap.size w w2):=⟨H.I.1.below hb2,H.I.2.2.trans (hb2.mono H.I.2.2.size)⟩
 rw [HK.I];clear hown hrow hb2;go_wp2_with fail
 go_loopw [3,9] (fun t i wr=> ∃ k:Nat,k<=l.length/\i=i_ j_ k/\ ∃ a' cap',t=s_ a' k cap'/\bN (wr.ownsRow w2.heap.size 89 3 (s_ a' k cap') k (dm.flat ((l.take k).map (·.1)))/\B_ w2.heap.size w2 wr)) (fun _ i _=>l.length - (intOf i).toNat)
 case atStart=>exact ⟨0,Ky _,rfl,n_,0,rfl,⟨Ke _ _ _ _,Kp _ _⟩⟩
 case round=>
  obtain ⟨k,hk,rfl,a',cap',rfl,HA⟩:=hrel;by_cases hlt:k < l.length
  .have qE:(0:Int)<=(k:Int):=zo
   have i1:(k:Int) < (l.length:Int):=zo
   obtain ⟨p,hp⟩: ∃ p,l[k]? =o_ p:=⟨_,Kz hlt⟩
   obtain ⟨g,ha,hc⟩:=(HR.I.below HA.I.2) k (dt p.2) ZcK;subst ha;unfold dt at hc;have HP:bN (l[k]? =o_ p):=hp;obtain ⟨s0,s1,s2⟩:=gm ((HO.I.1.below HA.I.2).box p (KA hp));have kT:=HA.I.2.size;clear hp;go_wp2_with (at_builtin; refine KD _ rfl _ _ 25 rfl w2.heap.size 89 i0 _ 3 24 underlying25 HI.I.1 HI.I.2.1 HI.I.2.2.1 HI.I.2.2.2 rfl (by decide) (s_ a' k cap') k (dm.flat ((l.take k).map (·.1))) rfl (HA.I.1.alloc _) ⟨wr.heap.size,0,n_⟩ 1 1 (dm.vals p.1) (by rfl) rfl (KE (cs:= #[i_ j_ p.1.id,i_ j_ p.1.n,i_ j_ p.1.max]) (t:=89) (fr:=(0,0)) (Kj wr _)) (by simp [dm,yz,Value.oneCell']) Zcw zo Zcr ?_; intro v' w5 hown' hgrow hnil jV; obtain ⟨a5,im,rfl,-⟩:=cr hown'; have HN:bN (w5.ownsRow w2.heap.size 89 3 (s_ a5 (k+1) im) (k+1) (dm.flat ((l.take (k+1)).map (·.1)))/\B_ w2.heap.size w2 w5):=⟨by rw [cj HP.I,Kl,dm.dc]; exact hown',(HA.I.2.alloc kT _).grown hgrow Zcr (fun q hq=>(HA.I.1.lt q hq).1)⟩; clear hown' hgrow hnil jV);exact nv
  .exact mt
theorem wC (Me:Int) (bj b:Nat) (l:List (az × Nat)) (w:w_) (h:Shelf cI (fun x:az=>x.id) 93 w bj b l) (hl:l.length<=1048576) (hwf: ∀ p∈(RW (fun x:az=>x.id) l),(Lit.int j_ p.1).wf=true):
  k_ J3 66 #[a_ #[i_ j_ Me,.map (o_ b)]] w fun e w'=>mY bG 93 w (l.map (·.1)) e w':=by
 obtain ⟨i0,hi,e0⟩:=Kw.1 sj;simp only [Kx] at e0;have HI:bN (Tryz.prog.info? 93=o_ i0/\i0.zero=o_ _/\i0.size=3/\i0.bytes=32):=⟨hi,e0⟩
 have H:bN (Shelf cI (fun x:az=>x.id) 93 (w.alloc (c_ #[i_ j_ Me,.map (o_ b)] 78)) bj b l/\(∀ p∈(RW (fun x:az=>x.id) l),(Lit.int j_ p.1).wf=true)/\B_ w.heap.size w (w.alloc (c_ #[i_ j_ Me,.map (o_ b)] 78))):=⟨h.below ((Kp _ _).alloc (Ki _) _),hwf,(Kp _ _).alloc (Ki _) _⟩
 have HK:bN ((RW (fun x:az=>x.id) l).length=l.length):=bZ l;clear h hwf hi e0
 go_enter func66,ntmps66
 go_wp2_with fail;generalize w.alloc (c_ #[i_ j_ Me,.map (o_ b)] 78)=W at *;refine (yB Me b (RW (fun x:az=>x.id) l) W H.I.1.map ZcG H.I.2.1).mono ?_;rintro e w2 ⟨a,cap,rfl,hown,hb2⟩;obtain ⟨a',cap',hv,hrow⟩:=cr hown;cases hv;have HR:bN (Row w2 a ((RW (fun x:az=>x.id) l).map fun p=>dt p.2)):=hrow;have HO:bN (Shelf cI (fun x:az=>x.id) 93 w2 bj b l/\B_ w.heap.size w w2):=⟨H.I.1.below hb2,H.I.2.2.trans (hb2.mono H.I.2.2.size)⟩
 rw [HK.I];clear hown hrow hb2;go_wp2_with fail
 go_loopw [3,9] (fun t i wr=> ∃ k:Nat,k<=l.length/\i=i_ j_ k/\ ∃ a' cap',t=s_ a' k cap'/\bN (wr.ownsRow w2.heap.size 93 3 (s_ a' k cap') k (bG.flat ((l.take k).map (·.1)))/\B_ w2.heap.size w2 wr)) (fun _ i _=>l.length - (intOf i).toNat)
 case atStart=>exact ⟨0,Ky _,rfl,n_,0,rfl,⟨Ke _ _ _ _,Kp _ _⟩⟩
 case round=>
  obtain ⟨k,hk,rfl,a',cap',rfl,HA⟩:=hrel;by_cases hlt:k < l.length
  .have qE:(0:Int)<=(k:Int):=zo
   have i1:(k:Int) < (l.length:Int):=zo
   obtain ⟨p,hp⟩: ∃ p,l[k]? =o_ p:=⟨_,Kz hlt⟩
   obtain ⟨g,ha,hc⟩:=(HR.I.below HA.I.2) k (dt p.2) ZcK;subst ha;unfold dt at hc;have HP:bN (l[k]? =o_ p):=hp;obtain ⟨s0,s1,s2⟩:=kJ ((HO.I.1.below HA.I.2).box p (KA hp));have kT:=HA.I.2.size;clear hp;go_wp2_with (at_builtin; refine KD _ rfl _ _ 27 rfl w2.heap.size 93 i0 _ 3 32 underlying27 HI.I.1 HI.I.2.1 HI.I.2.2.1 HI.I.2.2.2 rfl (by decide) (s_ a' k cap') k (bG.flat ((l.take k).map (·.1))) rfl (HA.I.1.alloc _) ⟨wr.heap.size,0,n_⟩ 1 1 (bG.vals p.1) (by rfl) rfl (KE (cs:= #[i_ j_ p.1.id,b_ p.1.shown,t_ p.1.text]) (t:=93) (fr:=(0,0)) (Kj wr _)) (by simp [bG,sn,Value.oneCell']) Zcw zo Zcr ?_; intro v' w5 hown' hgrow hnil jV; obtain ⟨a5,im,rfl,-⟩:=cr hown'; have HN:bN (w5.ownsRow w2.heap.size 93 3 (s_ a5 (k+1) im) (k+1) (bG.flat ((l.take (k+1)).map (·.1)))/\B_ w2.heap.size w2 w5):=⟨by rw [cj HP.I,Kl,bG.dc]; exact hown',(HA.I.2.alloc kT _).grown hgrow Zcr (fun q hq=>(HA.I.1.lt q hq).1)⟩; clear hown' hgrow hnil jV);exact nv
  .exact mt
theorem wN (Me:Int) (bj b:Nat) (l:List (aB × Nat)) (w:w_) (h:Shelf cG (fun x:aB=>x.id) 91 w bj b l) (hl:l.length<=1048576) (hwf: ∀ p∈(RW (fun x:aB=>x.id) l),(Lit.int j_ p.1).wf=true):
  k_ J3 65 #[a_ #[i_ j_ Me,.map (o_ b)]] w fun e w'=>mY bJ 91 w (l.map (·.1)) e w':=by
 obtain ⟨i0,hi,e0⟩:=Kw.1 so;simp only [Kx] at e0;have HI:bN (Tryz.prog.info? 91=o_ i0/\i0.zero=o_ _/\i0.size=2/\i0.bytes=16):=⟨hi,e0⟩
 have H:bN (Shelf cG (fun x:aB=>x.id) 91 (w.alloc (c_ #[i_ j_ Me,.map (o_ b)] 75)) bj b l/\(∀ p∈(RW (fun x:aB=>x.id) l),(Lit.int j_ p.1).wf=true)/\B_ w.heap.size w (w.alloc (c_ #[i_ j_ Me,.map (o_ b)] 75))):=⟨h.below ((Kp _ _).alloc (Ki _) _),hwf,(Kp _ _).alloc (Ki _) _⟩
 have HK:bN ((RW (fun x:aB=>x.id) l).length=l.length):=bZ l;clear h hwf hi e0
 go_enter func65,ntmps65
 go_wp2_with fail;generalize w.alloc (c_ #[i_ j_ Me,.map (o_ b)] 75)=W at *;refine (yh Me b (RW (fun x:aB=>x.id) l) W H.I.1.map ZcG H.I.2.1).mono ?_;rintro e w2 ⟨a,cap,rfl,hown,hb2⟩;obtain ⟨a',cap',hv,hrow⟩:=cr hown;cases hv;have HR:bN (Row w2 a ((RW (fun x:aB=>x.id) l).map fun p=>dt p.2)):=hrow;have HO:bN (Shelf cG (fun x:aB=>x.id) 91 w2 bj b l/\B_ w.heap.size w w2):=⟨H.I.1.below hb2,H.I.2.2.trans (hb2.mono H.I.2.2.size)⟩
 rw [HK.I];clear hown hrow hb2;go_wp2_with fail
 go_loopw [3,9] (fun t i wr=> ∃ k:Nat,k<=l.length/\i=i_ j_ k/\ ∃ a' cap',t=s_ a' k cap'/\bN (wr.ownsRow w2.heap.size 91 2 (s_ a' k cap') k (bJ.flat ((l.take k).map (·.1)))/\B_ w2.heap.size w2 wr)) (fun _ i _=>l.length - (intOf i).toNat)
 case atStart=>exact ⟨0,Ky _,rfl,n_,0,rfl,⟨Ke _ _ _ _,Kp _ _⟩⟩
 case round=>
  obtain ⟨k,hk,rfl,a',cap',rfl,HA⟩:=hrel;by_cases hlt:k < l.length
  .have qE:(0:Int)<=(k:Int):=zo
   have i1:(k:Int) < (l.length:Int):=zo
   obtain ⟨p,hp⟩: ∃ p,l[k]? =o_ p:=⟨_,Kz hlt⟩
   obtain ⟨g,ha,hc⟩:=(HR.I.below HA.I.2) k (dt p.2) ZcK;subst ha;unfold dt at hc;have HP:bN (l[k]? =o_ p):=hp;obtain ⟨s0,s1⟩:=kF ((HO.I.1.below HA.I.2).box p (KA hp));have kT:=HA.I.2.size;clear hp;go_wp2_with (at_builtin; refine KD _ rfl _ _ 26 rfl w2.heap.size 91 i0 _ 2 16 underlying26 HI.I.1 HI.I.2.1 HI.I.2.2.1 HI.I.2.2.2 rfl (by decide) (s_ a' k cap') k (bJ.flat ((l.take k).map (·.1))) rfl (HA.I.1.alloc _) ⟨wr.heap.size,0,n_⟩ 1 1 (bJ.vals p.1) (by rfl) rfl (KE (cs:= #[i_ j_ p.1.id,b_ p.1.up]) (t:=91) (fr:=(0,0)) (Kj wr _)) (by simp [bJ,rY,Value.oneCell']) Zcw zo Zcr ?_; intro v' w5 hown' hgrow hnil jV; obtain ⟨a5,im,rfl,-⟩:=cr hown'; have HN:bN (w5.ownsRow w2.heap.size 91 2 (s_ a5 (k+1) im) (k+1) (bJ.flat ((l.take (k+1)).map (·.1)))/\B_ w2.heap.size w2 w5):=⟨by rw [cj HP.I,Kl,bJ.dc]; exact hown',(HA.I.2.alloc kT _).grown hgrow Zcr (fun q hq=>(HA.I.1.lt q hq).1)⟩; clear hown' hgrow hnil jV);exact nv
  .exact mt
end
section
open Go.RowKit Go.Maps
attribute [local go_sem ↓] Go.wp_at_zero Go.wp_at_succ
theorem Dv {VO VS VV r1 r2 r3 r4 r5 r6:List Nat} {N n1 n2 n3 n4 n5 n6:Nat} (hk:(VO ++ (VS ++ VV)).Nodup) (hkl: ∀ g∈VO ++ (VS ++ VV),g < N) (h1:nU N n1 r1) (h2:nU n1 n2 r2) (h3:nU n2 n3 r3) (h4:nU n3 n4 r4) (h5:nU n4 n5 r5) (h6:nU n5 n6 r6)
  (e:N<=n1/\n1<=n2/\n2<=n3/\n3<=n4/\n4<=n5/\n5<=n6):(r1 ++ (VO ++ (r2 ++ (r3 ++ (r4 ++ (r5 ++ (VS ++ (r6 ++ VV)))))))).Nodup:=by
 have hp:(r1 ++ (VO ++ (r2 ++ (r3 ++ (r4 ++ (r5 ++ (VS ++ (r6 ++ VV)))))))).Perm ((VO ++ (VS ++ VV)) ++ (r1 ++ (r2 ++ (r3 ++ (r4 ++ (r5 ++ r6)))))):=by
  rw [List.perm_iff_count];intro x;simp only [List.count_append];omega
 rw [hp.nodup_iff,Kf];have hr:nU N n6 (r1 ++ (r2 ++ (r3 ++ (r4 ++ (r5 ++ r6))))):=h1.append (h2.append (h3.append (h4.append (h5.append h6 zo zo zo) zo zo zo) zo zo zo) zo zo zo) zo zo zo;refine ⟨hk,hr.1,fun a ha b hb e=> ?_⟩
 have:=hkl a ha
 have:=(hr.2 b hb).1
 omega
theorem px {w:w_} {bj n size cap:Nat} {e:T_} {a:Option d_} {xs:List v_} (h:w.ownsRow bj e size (s_ a n cap) n xs):nU bj w.heap.size (blk a):=⟨fN a,fun _ hg=>cf h hg⟩
structure aZ.Fits (S:aZ):Prop where
 dl:S.lp.length<=1048576
 Jl: ∀ p∈RW (fun x:ao=>x.id) S.lp,(Lit.int j_ p.1).wf=true
 fx:S.ls.length<=1048576
 adG: ∀ p∈RW (fun x:bD=>x.id) S.ls,(Lit.int j_ p.1).wf=true
 cD:S.le.length<=1048576
 G4: ∀ p∈RW (fun x:aB=>x.id) S.le,(Lit.int j_ p.1).wf=true
 cC:S.lb.length<=1048576
 FP: ∀ p∈RW (fun x:az=>x.id) S.lb,(Lit.int j_ p.1).wf=true
 cb:S.lf.length<=1048576
 DW: ∀ p∈RW (fun x:au=>x.id) S.lf,(Lit.int j_ p.1).wf=true
 dH:S.lq.length<=1048576
 Jz: ∀ p∈RW (fun x:aM=>x.id) S.lq,(Lit.int j_ p.1).wf=true
abbrev GR (o:Nat) (S:aZ) (w':w_):Prop:=w'.cell? ⟨o,0,n_⟩=o_ (i_ j_ S.q.id)/\w'.cell? ⟨o,1,n_⟩=o_ (i_ j_ S.q.next)/\w'.cell? ⟨o,2,n_⟩=o_ (i_ j_ 6)/\w'.cell? ⟨o,3,n_⟩=o_ (.map (o_ S.q.bp))/\w'.cell? ⟨o,4,n_⟩=o_ (i_ j_ 5)/\w'.cell? ⟨o,5,n_⟩=o_ (.map (o_ S.q.bs))/\w'.cell? ⟨o,6,n_⟩=o_ (i_ j_ 5)/\w'.cell? ⟨o,7,n_⟩=o_ (.map (o_ S.q.be))/\w'.cell? ⟨o,8,n_⟩=o_ (i_ j_ 5)/\w'.cell? ⟨o,9,n_⟩=o_ (.map (o_ S.q.bb))/\w'.cell? ⟨o,10,n_⟩=o_ (i_ j_ 5)/\w'.cell? ⟨o,11,n_⟩=o_ (.map (o_ S.q.bf))/\w'.cell? ⟨o,12,n_⟩=o_ (i_ j_ 5)/\w'.cell? ⟨o,13,n_⟩=o_ (.map (o_ S.q.bq))
theorem kP {o:Nat} {S:aZ} {w:w_} (h:fa w o S.q):GR o S w:=⟨h.cell 0,h.cell 1,h.cell 2,h.cell 3,h.cell 4,h.cell 5,h.cell 6,h.cell 7,h.cell 8,h.cell 9,h.cell 10,h.cell 11,h.cell 12,h.cell 13⟩
def Hc (w:w_) (bj:Nat) (v:aE) (e:Ending) (w':w_):Prop:= ∃ r:af,e=r_ (a_ r.cells)/\ap w' bj r/\r.pure=v/\B_ w.heap.size w w'
def aaM (w:w_) (bj:Nat) (S:aZ) (e:Ending) (w':w_):Prop:= ∃ r:af,e=r_ (a_ r.cells)/\ap w' bj r/\r.pure=S.pure/\B_ w.heap.size w w'/\ ∀ g∈r.Mc,g∈S.kids\/w.heap.size<=g
theorem ZZ (o bj:Nat) (S:aZ) (w:w_) (h:cJ w bj o S) (hf:S.Fits):k_ J3 33 #[p_ (o_ ⟨o,0,n_⟩)] w fun e w'=>aaM w bj S e w':=by
 have hb0:B_ w.heap.size w (w.alloc (c_ ar 31)):=(Kp _ _).alloc (Ki _) _;have HZ:bN (cJ w bj o S/\S.Fits/\B_ w.heap.size w (w.alloc (c_ ar 31)).drew/\(w.alloc (c_ ar 31)).drew.heap[w.heap.size]? =o_ (c_ ar 31)/\w.heap.size < (w.alloc (c_ ar 31)).drew.heap.size):=⟨h,hf,hb0.drew,Kj _ _,by simp⟩
 have HS:bN (GR o S (w.alloc (c_ ar 31)).drew):=kP (h.opn.below hb0.drew);clear h hf hb0
 go_enter func33,ntmps33
 go_wp2_with fail;generalize w.alloc (c_ ar 31)=W at *;refine Kr (S:=GR o S) Zcq HS.I (fun bE=> ?_);refine tt 0 bE ?_;refine tt 1 bE ?_;refine tt 2 bE ?_;refine tt 3 bE ?_;refine tt 4 bE ?_;refine tt 5 bE ?_;refine tt 6 bE ?_;refine tt 7 bE ?_;refine tt 8 bE ?_;refine tt 9 bE ?_;refine tt 10 bE ?_;refine tt 11 bE ?_;refine tt 13 bE ?_;refine tt 14 bE ?_;refine tt 15 bE ?_;refine tt 16 bE ?_;refine tt 18 bE ?_;refine tt 19 bE ?_;refine tt 20 bE ?_;refine tt 21 bE ?_;refine tt 23 bE ?_;refine tt 24 bE ?_;refine tt 25 bE ?_;refine tt 26 bE ?_;refine tt 28 bE ?_;refine tt 29 bE ?_;refine tt 30 bE ?_;refine tt 31 bE ?_;refine tt 33 bE ?_;refine tt 34 bE ?_;refine tt 35 bE ?_;refine tt 36 bE ?_;clear HS;generalize hWd:W.drew=W0 at *;clear hWd;refine L7 12 (fun K hK=> ?_);go_wp2_with fail;refine (zj 6 bj S.q.bp S.lp W0 (HZ.I.1.L8.below HZ.I.2.2.1) HZ.I.2.1.dl HZ.I.2.1.Jl).mono ?_;rintro e W1 ⟨a1,c1,rfl,hown,hb⟩;have wm:bN (nU W0.heap.size W1.heap.size (blk a1)/\W0.heap.size<=W1.heap.size):=⟨px hown,hb.size⟩
 have HY:bN (W1.ownsRow W0.heap.size 41 12 (s_ a1 (S.lp.map (·.1)).length c1) (S.lp.map (·.1)).length (bg.flat (S.lp.map (·.1)))/\W0.heap.size<=W1.heap.size):=⟨hown,hb.size⟩
 have HR:=HY;clear HY;have iP:bN (cJ w bj o S/\S.Fits/\B_ w.heap.size w W1/\W1.heap[w.heap.size]? =o_ (c_ ar 31)/\w.heap.size < W0.heap.size):=⟨HZ.I.1,HZ.I.2.1,HZ.I.2.2.1.trans (hb.mono HZ.I.2.2.1.size),(hb.block _ (J2.1 HZ.I.2.2.2.1).1).trans HZ.I.2.2.2.1,HZ.I.2.2.2.2⟩
 clear HZ hown hb;have HZ:=iP;clear iP bE;refine hK.out _ _ (kP (HZ.I.1.opn.below HZ.I.2.2.1)) (fun bE=> ?_);clear hK K
 try simp only [KZ,K0,K1,Act.put,Qr,Ln,Lo]
 refine L7 17 (fun K hK=> ?_);go_wp2_with fail;refine (AN 5 bj S.q.bs S.ls W1 (HZ.I.1.aj.below HZ.I.2.2.1) HZ.I.2.1.fx HZ.I.2.1.adG).mono ?_;rintro e W2 ⟨a2,c2,rfl,hown,hb⟩;have xD:bN (nU W1.heap.size W2.heap.size (blk a2)/\W1.heap.size<=W2.heap.size):=⟨px hown,hb.size⟩
 have HY:bN (W2.ownsRow W0.heap.size 41 12 (s_ a1 (S.lp.map (·.1)).length c1) (S.lp.map (·.1)).length (bg.flat (S.lp.map (·.1)))/\W2.ownsRow W1.heap.size 89 3 (s_ a2 (S.ls.map (·.1)).length c2) (S.ls.map (·.1)).length (dm.flat (S.ls.map (·.1)))/\W0.heap.size<=W1.heap.size/\W1.heap.size<=W2.heap.size):=⟨cR HR.I.1 hb,hown,HR.I.2,hb.size⟩
 clear HR;have HR:=HY;clear HY;have iP:bN (cJ w bj o S/\S.Fits/\B_ w.heap.size w W2/\W2.heap[w.heap.size]? =o_ (c_ ar 31)/\w.heap.size < W0.heap.size):=⟨HZ.I.1,HZ.I.2.1,HZ.I.2.2.1.trans (hb.mono HZ.I.2.2.1.size),(hb.block _ (J2.1 HZ.I.2.2.2.1).1).trans HZ.I.2.2.2.1,HZ.I.2.2.2.2⟩
 clear HZ hown hb;have HZ:=iP;clear iP bE;refine hK.out _ _ (kP (HZ.I.1.opn.below HZ.I.2.2.1)) (fun bE=> ?_);clear hK K
 try simp only [KZ,K0,K1,Act.put,Qr,Ln,Lo]
 refine L7 22 (fun K hK=> ?_);go_wp2_with fail;refine (wN 5 bj S.q.be S.le W2 (HZ.I.1.L9.below HZ.I.2.2.1) HZ.I.2.1.cD HZ.I.2.1.G4).mono ?_;rintro e W3 ⟨a3,c3,rfl,hown,hb⟩;have Fz:bN (nU W2.heap.size W3.heap.size (blk a3)/\W2.heap.size<=W3.heap.size):=⟨px hown,hb.size⟩
 have HY:bN (W3.ownsRow W0.heap.size 41 12 (s_ a1 (S.lp.map (·.1)).length c1) (S.lp.map (·.1)).length (bg.flat (S.lp.map (·.1)))/\W3.ownsRow W1.heap.size 89 3 (s_ a2 (S.ls.map (·.1)).length c2) (S.ls.map (·.1)).length (dm.flat (S.ls.map (·.1)))/\W3.ownsRow W2.heap.size 91 2 (s_ a3 (S.le.map (·.1)).length c3) (S.le.map (·.1)).length (bJ.flat (S.le.map (·.1)))/\W0.heap.size<=W1.heap.size/\W1.heap.size<=W2.heap.size/\W2.heap.size<=W3.heap.size):=⟨cR HR.I.1 hb,cR HR.I.2.1 hb,hown,HR.I.2.2.1,HR.I.2.2.2,hb.size⟩
 clear HR;have HR:=HY;clear HY;have iP:bN (cJ w bj o S/\S.Fits/\B_ w.heap.size w W3/\W3.heap[w.heap.size]? =o_ (c_ ar 31)/\w.heap.size < W0.heap.size):=⟨HZ.I.1,HZ.I.2.1,HZ.I.2.2.1.trans (hb.mono HZ.I.2.2.1.size),(hb.block _ (J2.1 HZ.I.2.2.2.1).1).trans HZ.I.2.2.2.1,HZ.I.2.2.2.2⟩
 clear HZ hown hb;have HZ:=iP;clear iP bE;refine hK.out _ _ (kP (HZ.I.1.opn.below HZ.I.2.2.1)) (fun bE=> ?_);clear hK K
 try simp only [KZ,K0,K1,Act.put,Qr,Ln,Lo]
 refine L7 27 (fun K hK=> ?_);go_wp2_with fail;refine (wC 5 bj S.q.bb S.lb W3 (HZ.I.1.ag.below HZ.I.2.2.1) HZ.I.2.1.cC HZ.I.2.1.FP).mono ?_;rintro e W4 ⟨a4,c4,rfl,hown,hb⟩;have FA:bN (nU W3.heap.size W4.heap.size (blk a4)/\W3.heap.size<=W4.heap.size):=⟨px hown,hb.size⟩
 have HY:bN (W4.ownsRow W0.heap.size 41 12 (s_ a1 (S.lp.map (·.1)).length c1) (S.lp.map (·.1)).length (bg.flat (S.lp.map (·.1)))/\W4.ownsRow W1.heap.size 89 3 (s_ a2 (S.ls.map (·.1)).length c2) (S.ls.map (·.1)).length (dm.flat (S.ls.map (·.1)))/\W4.ownsRow W2.heap.size 91 2 (s_ a3 (S.le.map (·.1)).length c3) (S.le.map (·.1)).length (bJ.flat (S.le.map (·.1)))/\W4.ownsRow W3.heap.size 93 3 (s_ a4 (S.lb.map (·.1)).length c4) (S.lb.map (·.1)).length (bG.flat (S.lb.map (·.1)))/\W0.heap.size<=W1.heap.size/\W1.heap.size<=W2.heap.size/\W2.heap.size<=W3.heap.size/\W3.heap.size<=W4.heap.size):=⟨cR HR.I.1 hb,cR HR.I.2.1 hb,cR HR.I.2.2.1 hb,hown,HR.I.2.2.2.1,HR.I.2.2.2.2.1,HR.I.2.2.2.2.2,hb.size⟩
 clear HR;have HR:=HY;clear HY;have iP:bN (cJ w bj o S/\S.Fits/\B_ w.heap.size w W4/\W4.heap[w.heap.size]? =o_ (c_ ar 31)/\w.heap.size < W0.heap.size):=⟨HZ.I.1,HZ.I.2.1,HZ.I.2.2.1.trans (hb.mono HZ.I.2.2.1.size),(hb.block _ (J2.1 HZ.I.2.2.2.1).1).trans HZ.I.2.2.2.1,HZ.I.2.2.2.2⟩
 clear HZ hown hb;have HZ:=iP;clear iP bE;refine hK.out _ _ (kP (HZ.I.1.opn.below HZ.I.2.2.1)) (fun bE=> ?_);clear hK K
 try simp only [KZ,K0,K1,Act.put,Qr,Ln,Lo]
 refine L7 32 (fun K hK=> ?_);go_wp2_with fail;refine (uk 5 bj S.q.bf S.lf W4 (HZ.I.1.ae.below HZ.I.2.2.1) HZ.I.2.1.cb HZ.I.2.1.DW).mono ?_;rintro e W5 ⟨a5,c5,rfl,hown,hb⟩;have Ik:bN (nU W4.heap.size W5.heap.size (blk a5)/\W4.heap.size<=W5.heap.size):=⟨px hown,hb.size⟩
 have HY:bN (W5.ownsRow W0.heap.size 41 12 (s_ a1 (S.lp.map (·.1)).length c1) (S.lp.map (·.1)).length (bg.flat (S.lp.map (·.1)))/\W5.ownsRow W1.heap.size 89 3 (s_ a2 (S.ls.map (·.1)).length c2) (S.ls.map (·.1)).length (dm.flat (S.ls.map (·.1)))/\W5.ownsRow W2.heap.size 91 2 (s_ a3 (S.le.map (·.1)).length c3) (S.le.map (·.1)).length (bJ.flat (S.le.map (·.1)))/\W5.ownsRow W3.heap.size 93 3 (s_ a4 (S.lb.map (·.1)).length c4) (S.lb.map (·.1)).length (bG.flat (S.lb.map (·.1)))/\W5.ownsRow W4.heap.size 96 3 (s_ a5 (S.lf.map (·.1)).length c5) (S.lf.map (·.1)).length (bm.flat (S.lf.map (·.1)))/\W0.heap.size<=W1.heap.size/\W1.heap.size<=W2.heap.size/\W2.heap.size<=W3.heap.size/\W3.heap.size<=W4.heap.size/\W4.heap.size<=W5.heap.size):=⟨cR HR.I.1 hb,cR HR.I.2.1 hb,cR HR.I.2.2.1 hb,cR HR.I.2.2.2.1 hb,hown,HR.I.2.2.2.2.1,HR.I.2.2.2.2.2.1,HR.I.2.2.2.2.2.2.1,HR.I.2.2.2.2.2.2.2,hb.size⟩
 clear HR;have HR:=HY;clear HY;have iP:bN (cJ w bj o S/\S.Fits/\B_ w.heap.size w W5/\W5.heap[w.heap.size]? =o_ (c_ ar 31)/\w.heap.size < W0.heap.size):=⟨HZ.I.1,HZ.I.2.1,HZ.I.2.2.1.trans (hb.mono HZ.I.2.2.1.size),(hb.block _ (J2.1 HZ.I.2.2.2.1).1).trans HZ.I.2.2.2.1,HZ.I.2.2.2.2⟩
 clear HZ hown hb;have HZ:=iP;clear iP bE;refine hK.out _ _ (kP (HZ.I.1.opn.below HZ.I.2.2.1)) (fun bE=> ?_);clear hK K
 try simp only [KZ,K0,K1,Act.put,Qr,Ln,Lo]
 refine L7 37 (fun K hK=> ?_);go_wp2_with fail;refine (zf 5 bj S.q.bq S.lq W5 (HZ.I.1.ai.below HZ.I.2.2.1) HZ.I.2.1.dH HZ.I.2.1.Jz).mono ?_;rintro e W6 ⟨a6,c6,rfl,hown,hb⟩;have Jw:bN (nU W5.heap.size W6.heap.size (blk a6)/\W5.heap.size<=W6.heap.size):=⟨px hown,hb.size⟩
 have HY:bN (W6.ownsRow W0.heap.size 41 12 (s_ a1 (S.lp.map (·.1)).length c1) (S.lp.map (·.1)).length (bg.flat (S.lp.map (·.1)))/\W6.ownsRow W1.heap.size 89 3 (s_ a2 (S.ls.map (·.1)).length c2) (S.ls.map (·.1)).length (dm.flat (S.ls.map (·.1)))/\W6.ownsRow W2.heap.size 91 2 (s_ a3 (S.le.map (·.1)).length c3) (S.le.map (·.1)).length (bJ.flat (S.le.map (·.1)))/\W6.ownsRow W3.heap.size 93 3 (s_ a4 (S.lb.map (·.1)).length c4) (S.lb.map (·.1)).length (bG.flat (S.lb.map (·.1)))/\W6.ownsRow W4.heap.size 96 3 (s_ a5 (S.lf.map (·.1)).length c5) (S.lf.map (·.1)).length (bm.flat (S.lf.map (·.1)))/\W6.ownsRow W5.heap.size 115 5 (s_ a6 (S.lq.map (·.1)).length c6) (S.lq.map (·.1)).length (bX.flat (S.lq.map (·.1)))/\W0.heap.size<=W1.heap.size/\W1.heap.size<=W2.heap.size/\W2.heap.size<=W3.heap.size/\W3.heap.size<=W4.heap.size/\W4.heap.size<=W5.heap.size/\W5.heap.size<=W6.heap.size):=⟨cR HR.I.1 hb,cR HR.I.2.1 hb,cR HR.I.2.2.1 hb,cR HR.I.2.2.2.1 hb,cR HR.I.2.2.2.2.1 hb,hown,HR.I.2.2.2.2.2.1,HR.I.2.2.2.2.2.2.1,HR.I.2.2.2.2.2.2.2.1,HR.I.2.2.2.2.2.2.2.2.1,HR.I.2.2.2.2.2.2.2.2.2,hb.size⟩
 clear HR;have HR:=HY;clear HY;have iP:bN (cJ w bj o S/\S.Fits/\B_ w.heap.size w W6/\W6.heap[w.heap.size]? =o_ (c_ ar 31)/\w.heap.size < W0.heap.size):=⟨HZ.I.1,HZ.I.2.1,HZ.I.2.2.1.trans (hb.mono HZ.I.2.2.1.size),(hb.block _ (J2.1 HZ.I.2.2.2.1).1).trans HZ.I.2.2.2.1,HZ.I.2.2.2.2⟩
 clear HZ hown hb;have HZ:=iP;clear iP bE;refine hK.out _ _ (kP (HZ.I.1.opn.below HZ.I.2.2.1)) (fun bE=> ?_);clear hK K
 try simp only [KZ,K0,K1,Act.put,Qr,Ln,Lo]
 refine wpAnyH_take (i:=38) (v:=a_ #[i_ j_ S.q.id,i_ j_ S.q.next,s_ a1 S.lp.length c1,s_ a2 S.ls.length c2,s_ a3 S.le.length c3,s_ a4 S.lb.length c4,s_ a5 S.lf.length c5,s_ a6 S.lq.length c6]) rfl Zcq Zcq Zcq (fun _ _ _ h=>h) (Or.inl ⟨by kernel_rfl,?_⟩) bE ?_
 .intro w0 hS0
  exact BC
 simp only [KZ,K0,K1,Act.put,Qr,Ln,Lo];refine L7 39 (fun K hK=> ?_);refine qd _ _ _ rfl w.heap.size _ _ #[i_ j_ S.q.id,i_ j_ S.q.next,s_ a1 S.lp.length c1,s_ a2 S.ls.length c2,s_ a3 S.le.length c3,s_ a4 S.lb.length c4,s_ a5 S.lf.length c5,s_ a6 S.lq.length c6] rfl rfl HZ.I.2.2.2.1 Zcq rfl ZcS ?_;have p7:o < w.heap.size:=(J2.1 HZ.I.1.opn).1;have hbs:B_ w.heap.size w (W6.setRow w.heap.size #[i_ j_ S.q.id,i_ j_ S.q.next,s_ a1 S.lp.length c1,s_ a2 S.ls.length c2,s_ a3 S.le.length c3,s_ a4 S.lb.length c4,s_ a5 S.lf.length c5,s_ a6 S.lq.length c6]):=q_ HZ.I.2.2.1 (Ki _) _;refine hK.out _ _ (kP (HZ.I.1.opn.below hbs)) (fun bE=> ?_);clear hK K bE;refine K3 Zcq ?_ _
 repeat (first | go_values | go_skip | go_guarded | go_step | go_upon)
 refine gZ results33 HZ.I.2.2.2.1 ?_;have hA:=HZ.I.1;have kj:=HZ.I.2.2.1;have hlo:=hA.low;have hw0:=HZ.I.2.2.2.2;have t1:=wm.I.2;have t2:=xD.I.2;have t3:=Fz.I.2;have t4:=FA.I.2;have t5:=Ik.I.2;have t6:=Jw.I.2;have hmP: ∀ q∈S.lp,aR.cO W6 bj q.1:=fun q hq=>(hA.eI q hq).same fun g hk=>kj.block g ((hA.eI q hq).lt hk).2
 have hmF: ∀ q∈S.lf,aC.cO W6 bj q.1:=fun q hq=>(hA.eE q hq).same fun g hk=>kj.block g ((hA.eE q hq).lt hk).2
 have hmQ: ∀ q∈S.lq,aU.cO W6 bj q.1:=fun q hq=>(hA.eR q hq).same fun g hk=>kj.block g ((hA.eR q hq).lt hk).2
 have hkn:S.kids.Nodup:=(Kf.1 (Lp.1 hA.nodup).2).2.1;have hkl: ∀ g∈S.kids,g < w.heap.size:=fun g hg=>by
  simp only [aZ.kids,Kg,kids,Lq] at hg;rcases hg with ⟨q,hq,hk⟩ | ⟨q,hq,hk⟩ | ⟨q,hq,hk⟩
  .exact ((hA.eI q hq).lt hk).2
  .exact ((hA.eE q hq).lt hk).2
  .exact ((hA.eR q hq).lt hk).2
 have VU:(S.lp.map (·.1)).filterMap aR.bt=kids aR S.lp:=by rw [List.filterMap_map]; rfl
 have eF:(S.lf.map (·.1)).filterMap aC.bt=kids aC S.lf:=by rw [List.filterMap_map]; rfl
 have eQ:(S.lq.map (·.1)).filterMap aU.bt=kids aU S.lq:=by rw [List.filterMap_map]; rfl
 have hown:ap W6 bj (⟨S.q.id,S.q.next,S.lp.map (·.1),a1,c1,S.ls.map (·.1),a2,c2,S.le.map (·.1),a3,c3,S.lb.map (·.1),a4,c4,S.lf.map (·.1),a5,c5,S.lq.map (·.1),a6,c6⟩:af):=by
  refine ⟨cq HR.I.1 zo,cq HR.I.2.1 zo,cq HR.I.2.2.1 zo,cq HR.I.2.2.2.1 zo,cq HR.I.2.2.2.2.1 zo,cq HR.I.2.2.2.2.2.1 zo,?_,?_,?_,?_⟩
  .intro x hx
   obtain ⟨q,hq,rfl⟩:=Lr.1 hx;exact hmP q hq
  .intro x hx
   obtain ⟨q,hq,rfl⟩:=Lr.1 hx;exact hmF q hq
  .intro x hx
   obtain ⟨q,hq,rfl⟩:=Lr.1 hx;exact hmQ q hq
  .simp only [af.Mc,VU,eF,eQ]
   exact Dv (N:=W0.heap.size) hkn (fun g hg=>by have:=hkl g hg; omega) wm.I.1 xD.I.1 Fz.I.1 FA.I.1 Ik.I.1 Jw.I.1 ⟨t1,t2,t3,t4,t5,t6⟩
 have hnk: ∀ g∈(⟨S.q.id,S.q.next,S.lp.map (·.1),a1,c1,S.ls.map (·.1),a2,c2,S.le.map (·.1),a3,c3,S.lb.map (·.1),a4,c4,S.lf.map (·.1),a5,c5,S.lq.map (·.1),a6,c6⟩:af).Mc,g∈S.kids\/w.heap.size < g:=fun g hg=>by
  simp only [af.Mc,VU,eF,eQ,Kg] at hg;have hk: ∀ g,(g∈kids aR S.lp\/g∈kids aC S.lf\/g∈kids aU S.lq)->g∈S.kids:=fun g h5=>by simp only [aZ.kids,Kg]; exact h5
  rcases hg with hg | hg | hg | hg | hg | hg | hg | hg | hg
  .exact .inr (by have:=(wm.I.1.2 g hg).1; omega)
  .exact .inl (hk g (.inl hg))
  .exact .inr (by have:=(xD.I.1.2 g hg).1; omega)
  .exact .inr (by have:=(Fz.I.1.2 g hg).1; omega)
  .exact .inr (by have:=(FA.I.1.2 g hg).1; omega)
  .exact .inr (by have:=(Ik.I.1.2 g hg).1; omega)
  .exact .inl (hk g (.inr (.inl hg)))
  .exact .inr (by have:=(Jw.I.1.2 g hg).1; omega)
  .exact .inl (hk g (.inr (.inr hg)))
 have hne: ∀ g∈(⟨S.q.id,S.q.next,S.lp.map (·.1),a1,c1,S.ls.map (·.1),a2,c2,S.le.map (·.1),a3,c3,S.lb.map (·.1),a4,c4,S.lf.map (·.1),a5,c5,S.lq.map (·.1),a6,c6⟩:af).Mc,g≠w.heap.size:=fun g hg e=>by
  rcases hnk g hg with h5 | h5
  .have:=hkl g h5; omega
  .omega
 exact ⟨(⟨S.q.id,S.q.next,S.lp.map (·.1),a1,c1,S.ls.map (·.1),a2,c2,S.le.map (·.1),a3,c3,S.lb.map (·.1),a4,c4,S.lf.map (·.1),a5,c5,S.lq.map (·.1),a6,c6⟩:af),by simp [af.cells],hown.same fun g hg=>KH _ _ _ _ (hne g hg),by simp [af.pure,aZ.pure,Ls],hbs,fun g hg=>(hnk g hg).imp_right aew⟩
theorem jR (o bj:Nat) (S:aZ) (w:w_) (h:cJ w bj o S) (hf:S.Fits):k_ J3 33 #[p_ (o_ ⟨o,0,n_⟩)] w fun e w'=>Hc w bj S.pure e w':=
 (ZZ o bj S w h hf).mono fun _ _ ⟨r,h1,h2,h3,h4,_⟩=>⟨r,h1,h2,h3,h4⟩
end
end Go.Proofs.YtfncpmaefninjaaGreatDoor
