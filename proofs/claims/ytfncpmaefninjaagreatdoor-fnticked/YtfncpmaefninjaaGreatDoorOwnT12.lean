/- What the proof leans on, part 12. -/
import Derived.Test.YtfncpmaefninjaaGreatDoorOwnT9
set_option linter.all false
set_option maxRecDepth 100000
set_option maxHeartbeats 8000000
open Go.Proofs.Tryz
open Go renaming World->w_,Calls->k_
open Go.IntKind renaming i64->j_
open Go.Obj renaming cells->c_
open Go.RowKit renaming Below->B_,Hid->bE
open Go.Value renaming int->i_,slice->s_,bool->b_,string->t_,agg->a_
open Option renaming some->o_,none->n_
open Go.Proofs.Tryz renaming prog->J3

open Go.RowKit
namespace Go.Proofs.YtfncpmaefninjaaGreatDoor
open Go.Maps
theorem zf (Me:Int) (bj b:Nat) (l:List (aM × Nat)) (w:w_) (h:Shelf cW (fun x:aM=>x.id) 115 w bj b l) (hl:l.length<=1048576) (hwf: ∀ p∈(RW (fun x:aM=>x.id) l),(Lit.int j_ p.1).wf=true):
  k_ J3 68 #[a_ #[i_ j_ Me,.map (o_ b)]] w fun e w'=>mY bX 115 w (l.map (·.1)) e w':=by
 obtain ⟨i0,hi,e0⟩:=Kw.1 na;simp only [Kx] at e0;have HI:bE (Tryz.prog.info? 115=o_ i0/\i0.zero=o_ _/\i0.size=5/\i0.bytes=48):=⟨hi,e0⟩
 have H:bE (Shelf cW (fun x:aM=>x.id) 115 (w.alloc (c_ #[i_ j_ Me,.map (o_ b)] 84)) bj b l/\(∀ p∈(RW (fun x:aM=>x.id) l),(Lit.int j_ p.1).wf=true)/\B_ w.heap.size w (w.alloc (c_ #[i_ j_ Me,.map (o_ b)] 84))):=⟨h.below ((Kp _ _).alloc (Ki _) _),hwf,(Kp _ _).alloc (Ki _) _⟩
 have HK:bE ((RW (fun x:aM=>x.id) l).length=l.length):=bZ l;clear h hwf hi e0
 go_enter func68,ntmps68
 go_wp2_with fail;generalize w.alloc (c_ #[i_ j_ Me,.map (o_ b)] 84)=W at *;refine (Bx Me b (RW (fun x:aM=>x.id) l) W H.I.1.map ZcV H.I.2.1).mono ?_;rintro e w2 ⟨a,cap,rfl,hown,hb2⟩;obtain ⟨a',cap',hv,hrow⟩:=cr hown;cases hv;have HR:bE (Row w2 a ((RW (fun x:aM=>x.id) l).map fun p=>dt p.2)):=hrow;have HO:bE (Shelf cW (fun x:aM=>x.id) 115 w2 bj b l/\B_ w.heap.size w w2):=⟨H.I.1.below hb2,H.I.2.2.trans (hb2.mono H.I.2.2.size)⟩
 rw [HK.I];clear hown hrow hb2;go_wp2_with fail
 go_loopw [3,9] (fun t i wr=> ∃ k:Nat,k<=l.length/\i=i_ j_ k/\ ∃ a' cap',t=s_ a' k cap'/\bE (wr.ownsRow w2.heap.size 115 5 (s_ a' k cap') k (bX.flat ((l.take k).map (·.1)))/\B_ w2.heap.size w2 wr)) (fun _ i _=>l.length - (intOf i).toNat)
 case atStart=>exact ⟨0,Ky _,rfl,n_,0,rfl,⟨Ke _ _ _ _,Kp _ _⟩⟩
 case round=>
  obtain ⟨k,hk,rfl,a',cap',rfl,HA⟩:=hrel;by_cases hlt:k < l.length
  .have qE:(0:Int)<=(k:Int):=zo
   have i1:(k:Int) < (l.length:Int):=zo
   obtain ⟨p,hp⟩: ∃ p,l[k]? =o_ p:=⟨_,Kz hlt⟩
   obtain ⟨g,ha,hc⟩:=(HR.I.below HA.I.2) k (dt p.2) ZcZ;subst ha;unfold dt at hc;have HP:bE (l[k]? =o_ p):=hp;obtain ⟨s0,s1,s2,s3,s4⟩:=gE ((HO.I.1.below HA.I.2).box p (KA hp));have kT:=HA.I.2.size;clear hp;go_wp2_with (at_builtin; refine KD _ rfl _ _ 29 rfl w2.heap.size 115 i0 _ 5 48 underlying29 HI.I.1 HI.I.2.1 HI.I.2.2.1 HI.I.2.2.2 rfl (by decide) (s_ a' k cap') k (bX.flat ((l.take k).map (·.1))) rfl (HA.I.1.alloc _) ⟨wr.heap.size,0,n_⟩ 1 1 (bX.vals p.1) (by rfl) rfl (KE (cs:= #[i_ j_ p.1.id,b_ p.1.I,b_ p.1.Mf,i_ j_ p.1.max,s_ p.1.ak p.1.Ma.length p.1.aq]) (t:=115) (fr:=(0,0)) (Kj wr _)) (by simp [bX,qT,Value.oneCell']) ZcI zo ZcF ?_; intro v' w5 hown' hgrow hnil jV; obtain ⟨a5,im,rfl,-⟩:=cr hown'; have HN:bE (w5.ownsRow w2.heap.size 115 5 (s_ a5 (k+1) im) (k+1) (bX.flat ((l.take (k+1)).map (·.1)))/\B_ w2.heap.size w2 w5):=⟨by rw [cj HP.I,Kl,bX.dc]; exact hown',(HA.I.2.alloc kT _).grown hgrow ZcF (fun q hq=>(HA.I.1.lt q hq).1)⟩; clear hown' hgrow hnil jV);exact l_
  .exact iv
end Go.Proofs.YtfncpmaefninjaaGreatDoor

namespace Go.Proofs.YtfncpmaefninjaaGreatDoor
open Go.Maps
theorem uk (Me:Int) (bj b:Nat) (l:List (au × Nat)) (w:w_) (h:Shelf bQ (fun x:au=>x.id) 96 w bj b l) (hl:l.length<=1048576) (hwf: ∀ p∈(RW (fun x:au=>x.id) l),(Lit.int j_ p.1).wf=true):
  k_ J3 67 #[a_ #[i_ j_ Me,.map (o_ b)]] w fun e w'=>mY bm 96 w (l.map (·.1)) e w':=by
 obtain ⟨i0,hi,e0⟩:=Kw.1 kh;simp only [Kx] at e0;have HI:bE (Tryz.prog.info? 96=o_ i0/\i0.zero=o_ _/\i0.size=3/\i0.bytes=40):=⟨hi,e0⟩
 have H:bE (Shelf bQ (fun x:au=>x.id) 96 (w.alloc (c_ #[i_ j_ Me,.map (o_ b)] 81)) bj b l/\(∀ p∈(RW (fun x:au=>x.id) l),(Lit.int j_ p.1).wf=true)/\B_ w.heap.size w (w.alloc (c_ #[i_ j_ Me,.map (o_ b)] 81))):=⟨h.below ((Kp _ _).alloc (Ki _) _),hwf,(Kp _ _).alloc (Ki _) _⟩
 have HK:bE ((RW (fun x:au=>x.id) l).length=l.length):=bZ l;clear h hwf hi e0
 go_enter func67,ntmps67
 go_wp2_with fail;generalize w.alloc (c_ #[i_ j_ Me,.map (o_ b)] 81)=W at *;refine (wF Me b (RW (fun x:au=>x.id) l) W H.I.1.map ZcV H.I.2.1).mono ?_;rintro e w2 ⟨a,cap,rfl,hown,hb2⟩;obtain ⟨a',cap',hv,hrow⟩:=cr hown;cases hv;have HR:bE (Row w2 a ((RW (fun x:au=>x.id) l).map fun p=>dt p.2)):=hrow;have HO:bE (Shelf bQ (fun x:au=>x.id) 96 w2 bj b l/\B_ w.heap.size w w2):=⟨H.I.1.below hb2,H.I.2.2.trans (hb2.mono H.I.2.2.size)⟩
 rw [HK.I];clear hown hrow hb2;go_wp2_with fail
 go_loopw [3,9] (fun t i wr=> ∃ k:Nat,k<=l.length/\i=i_ j_ k/\ ∃ a' cap',t=s_ a' k cap'/\bE (wr.ownsRow w2.heap.size 96 3 (s_ a' k cap') k (bm.flat ((l.take k).map (·.1)))/\B_ w2.heap.size w2 wr)) (fun _ i _=>l.length - (intOf i).toNat)
 case atStart=>exact ⟨0,Ky _,rfl,n_,0,rfl,⟨Ke _ _ _ _,Kp _ _⟩⟩
 case round=>
  obtain ⟨k,hk,rfl,a',cap',rfl,HA⟩:=hrel;by_cases hlt:k < l.length
  .have qE:(0:Int)<=(k:Int):=zo
   have i1:(k:Int) < (l.length:Int):=zo
   obtain ⟨p,hp⟩: ∃ p,l[k]? =o_ p:=⟨_,Kz hlt⟩
   obtain ⟨g,ha,hc⟩:=(HR.I.below HA.I.2) k (dt p.2) ZcZ;subst ha;unfold dt at hc;have HP:bE (l[k]? =o_ p):=hp;obtain ⟨s0,s1,s2⟩:=ia ((HO.I.1.below HA.I.2).box p (KA hp));have kT:=HA.I.2.size;clear hp;go_wp2_with (at_builtin; refine KD _ rfl _ _ 28 rfl w2.heap.size 96 i0 _ 3 40 underlying28 HI.I.1 HI.I.2.1 HI.I.2.2.1 HI.I.2.2.2 rfl (by decide) (s_ a' k cap') k (bm.flat ((l.take k).map (·.1))) rfl (HA.I.1.alloc _) ⟨wr.heap.size,0,n_⟩ 1 1 (bm.vals p.1) (by rfl) rfl (KE (cs:= #[i_ j_ p.1.id,i_ j_ p.1.max,s_ p.1.ak p.1.Ma.length p.1.aq]) (t:=96) (fr:=(0,0)) (Kj wr _)) (by simp [bm,nD,Value.oneCell']) ZcI zo ZcF ?_; intro v' w5 hown' hgrow hnil jV; obtain ⟨a5,im,rfl,-⟩:=cr hown'; have HN:bE (w5.ownsRow w2.heap.size 96 3 (s_ a5 (k+1) im) (k+1) (bm.flat ((l.take (k+1)).map (·.1)))/\B_ w2.heap.size w2 w5):=⟨by rw [cj HP.I,Kl,bm.dc]; exact hown',(HA.I.2.alloc kT _).grown hgrow ZcF (fun q hq=>(HA.I.1.lt q hq).1)⟩; clear hown' hgrow hnil jV);exact l_
  .exact iv
end Go.Proofs.YtfncpmaefninjaaGreatDoor

namespace Go.Proofs.YtfncpmaefninjaaGreatDoor
open Go.Maps
theorem wC (Me:Int) (bj b:Nat) (l:List (az × Nat)) (w:w_) (h:Shelf cI (fun x:az=>x.id) 93 w bj b l) (hl:l.length<=1048576) (hwf: ∀ p∈(RW (fun x:az=>x.id) l),(Lit.int j_ p.1).wf=true):
  k_ J3 66 #[a_ #[i_ j_ Me,.map (o_ b)]] w fun e w'=>mY bG 93 w (l.map (·.1)) e w':=by
 obtain ⟨i0,hi,e0⟩:=Kw.1 sj;simp only [Kx] at e0;have HI:bE (Tryz.prog.info? 93=o_ i0/\i0.zero=o_ _/\i0.size=3/\i0.bytes=32):=⟨hi,e0⟩
 have H:bE (Shelf cI (fun x:az=>x.id) 93 (w.alloc (c_ #[i_ j_ Me,.map (o_ b)] 78)) bj b l/\(∀ p∈(RW (fun x:az=>x.id) l),(Lit.int j_ p.1).wf=true)/\B_ w.heap.size w (w.alloc (c_ #[i_ j_ Me,.map (o_ b)] 78))):=⟨h.below ((Kp _ _).alloc (Ki _) _),hwf,(Kp _ _).alloc (Ki _) _⟩
 have HK:bE ((RW (fun x:az=>x.id) l).length=l.length):=bZ l;clear h hwf hi e0
 go_enter func66,ntmps66
 go_wp2_with fail;generalize w.alloc (c_ #[i_ j_ Me,.map (o_ b)] 78)=W at *;refine (yB Me b (RW (fun x:az=>x.id) l) W H.I.1.map ZcV H.I.2.1).mono ?_;rintro e w2 ⟨a,cap,rfl,hown,hb2⟩;obtain ⟨a',cap',hv,hrow⟩:=cr hown;cases hv;have HR:bE (Row w2 a ((RW (fun x:az=>x.id) l).map fun p=>dt p.2)):=hrow;have HO:bE (Shelf cI (fun x:az=>x.id) 93 w2 bj b l/\B_ w.heap.size w w2):=⟨H.I.1.below hb2,H.I.2.2.trans (hb2.mono H.I.2.2.size)⟩
 rw [HK.I];clear hown hrow hb2;go_wp2_with fail
 go_loopw [3,9] (fun t i wr=> ∃ k:Nat,k<=l.length/\i=i_ j_ k/\ ∃ a' cap',t=s_ a' k cap'/\bE (wr.ownsRow w2.heap.size 93 3 (s_ a' k cap') k (bG.flat ((l.take k).map (·.1)))/\B_ w2.heap.size w2 wr)) (fun _ i _=>l.length - (intOf i).toNat)
 case atStart=>exact ⟨0,Ky _,rfl,n_,0,rfl,⟨Ke _ _ _ _,Kp _ _⟩⟩
 case round=>
  obtain ⟨k,hk,rfl,a',cap',rfl,HA⟩:=hrel;by_cases hlt:k < l.length
  .have qE:(0:Int)<=(k:Int):=zo
   have i1:(k:Int) < (l.length:Int):=zo
   obtain ⟨p,hp⟩: ∃ p,l[k]? =o_ p:=⟨_,Kz hlt⟩
   obtain ⟨g,ha,hc⟩:=(HR.I.below HA.I.2) k (dt p.2) ZcZ;subst ha;unfold dt at hc;have HP:bE (l[k]? =o_ p):=hp;obtain ⟨s0,s1,s2⟩:=kJ ((HO.I.1.below HA.I.2).box p (KA hp));have kT:=HA.I.2.size;clear hp;go_wp2_with (at_builtin; refine KD _ rfl _ _ 27 rfl w2.heap.size 93 i0 _ 3 32 underlying27 HI.I.1 HI.I.2.1 HI.I.2.2.1 HI.I.2.2.2 rfl (by decide) (s_ a' k cap') k (bG.flat ((l.take k).map (·.1))) rfl (HA.I.1.alloc _) ⟨wr.heap.size,0,n_⟩ 1 1 (bG.vals p.1) (by rfl) rfl (KE (cs:= #[i_ j_ p.1.id,b_ p.1.shown,t_ p.1.text]) (t:=93) (fr:=(0,0)) (Kj wr _)) (by simp [bG,sn,Value.oneCell']) ZcI zo ZcF ?_; intro v' w5 hown' hgrow hnil jV; obtain ⟨a5,im,rfl,-⟩:=cr hown'; have HN:bE (w5.ownsRow w2.heap.size 93 3 (s_ a5 (k+1) im) (k+1) (bG.flat ((l.take (k+1)).map (·.1)))/\B_ w2.heap.size w2 w5):=⟨by rw [cj HP.I,Kl,bG.dc]; exact hown',(HA.I.2.alloc kT _).grown hgrow ZcF (fun q hq=>(HA.I.1.lt q hq).1)⟩; clear hown' hgrow hnil jV);exact l_
  .exact iv
end Go.Proofs.YtfncpmaefninjaaGreatDoor
