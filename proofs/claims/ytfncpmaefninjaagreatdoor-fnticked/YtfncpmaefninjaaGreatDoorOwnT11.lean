/- What the proof leans on, part 11. -/
import Derived.Test.YtfncpmaefninjaaGreatDoorOwnT9
set_option linter.all false
set_option maxRecDepth 100000
set_option maxHeartbeats 8000000
open Go.Proofs.Tryz
open Go renaming World->w_,Calls->k_
open Go.IntKind renaming i64->j_
open Go.Obj renaming cells->c_
open Go.RowKit renaming Below->B_,Hid->bE
open Go.Value renaming int->i_,slice->s_,bool->b_,string->t_,agg->a_
open Option renaming some->o_,none->n_
open Go.Proofs.Tryz renaming prog->J3

open Go.RowKit
namespace Go.Proofs.YtfncpmaefninjaaGreatDoor
open Go.Maps
theorem zj (Me:Int) (bj b:Nat) (l:List (ao × Nat)) (w:w_) (h:Shelf aX (fun x:ao=>x.id) 41 w bj b l) (hl:l.length<=1048576) (hwf: ∀ p∈(RW (fun x:ao=>x.id) l),(Lit.int j_ p.1).wf=true):
  k_ J3 63 #[a_ #[i_ j_ Me,.map (o_ b)]] w fun e w'=>mY bg 41 w (l.map (·.1)) e w':=by
 obtain ⟨i0,hi,e0⟩:=Kw.1 nb;simp only [Kx] at e0;have HI:bE (Tryz.prog.info? 41=o_ i0/\i0.zero=o_ _/\i0.size=12/\i0.bytes=128):=⟨hi,e0⟩
 have H:bE (Shelf aX (fun x:ao=>x.id) 41 (w.alloc (c_ #[i_ j_ Me,.map (o_ b)] 69)) bj b l/\(∀ p∈(RW (fun x:ao=>x.id) l),(Lit.int j_ p.1).wf=true)/\B_ w.heap.size w (w.alloc (c_ #[i_ j_ Me,.map (o_ b)] 69))):=⟨h.below ((Kp _ _).alloc (Ki _) _),hwf,(Kp _ _).alloc (Ki _) _⟩
 have HK:bE ((RW (fun x:ao=>x.id) l).length=l.length):=bZ l;clear h hwf hi e0
 go_enter func63,ntmps63
 go_wp2_with fail;generalize w.alloc (c_ #[i_ j_ Me,.map (o_ b)] 69)=W at *;refine (mq Me b (RW (fun x:ao=>x.id) l) W H.I.1.map ZcV H.I.2.1).mono ?_;rintro e w2 ⟨a,cap,rfl,hown,hb2⟩;obtain ⟨a',cap',hv,hrow⟩:=cr hown;cases hv;have HR:bE (Row w2 a ((RW (fun x:ao=>x.id) l).map fun p=>dt p.2)):=hrow;have HO:bE (Shelf aX (fun x:ao=>x.id) 41 w2 bj b l/\B_ w.heap.size w w2):=⟨H.I.1.below hb2,H.I.2.2.trans (hb2.mono H.I.2.2.size)⟩
 rw [HK.I];clear hown hrow hb2;go_wp2_with fail
 go_loopw [3,9] (fun t i wr=> ∃ k:Nat,k<=l.length/\i=i_ j_ k/\ ∃ a' cap',t=s_ a' k cap'/\bE (wr.ownsRow w2.heap.size 41 12 (s_ a' k cap') k (bg.flat ((l.take k).map (·.1)))/\B_ w2.heap.size w2 wr)) (fun _ i _=>l.length - (intOf i).toNat)
 case atStart=>exact ⟨0,Ky _,rfl,n_,0,rfl,⟨Ke _ _ _ _,Kp _ _⟩⟩
 case round=>
  obtain ⟨k,hk,rfl,a',cap',rfl,HA⟩:=hrel;by_cases hlt:k < l.length
  .have qE:(0:Int)<=(k:Int):=zo
   have i1:(k:Int) < (l.length:Int):=zo
   obtain ⟨p,hp⟩: ∃ p,l[k]? =o_ p:=⟨_,Kz hlt⟩
   obtain ⟨g,ha,hc⟩:=(HR.I.below HA.I.2) k (dt p.2) ZcZ;subst ha;unfold dt at hc;have HP:bE (l[k]? =o_ p):=hp;obtain ⟨s0,s1,s2,s3,s4,s5,s6,s7,s8,s9,s10,s11⟩:=bo ((HO.I.1.below HA.I.2).box p (KA hp));have kT:=HA.I.2.size;clear hp;go_wp2_with (at_builtin; refine KD _ rfl _ _ 24 rfl w2.heap.size 41 i0 _ 12 128 underlying24 HI.I.1 HI.I.2.1 HI.I.2.2.1 HI.I.2.2.2 rfl (by decide) (s_ a' k cap') k (bg.flat ((l.take k).map (·.1))) rfl (HA.I.1.alloc _) ⟨wr.heap.size,0,n_⟩ 1 1 (bg.vals p.1) (by rfl) rfl (KE (cs:= #[i_ j_ p.1.id,i_ j_ p.1.RX,s_ p.1.aY p.1.prog.length p.1.bH,i_ j_ p.1.Md,i_ j_ p.1.pc,i_ j_ p.1.left,i_ j_ p.1.Mg,i_ j_ p.1.on,t_ p.1.held,t_ p.1.got,i_ j_ p.1.code,i_ j_ p.1.RU]) (t:=41) (fr:=(0,0)) (Kj wr _)) (by simp [bg,qN,Value.oneCell']) ZcI zo ZcF ?_; intro v' w5 hown' hgrow hnil jV; obtain ⟨a5,im,rfl,-⟩:=cr hown'; have HN:bE (w5.ownsRow w2.heap.size 41 12 (s_ a5 (k+1) im) (k+1) (bg.flat ((l.take (k+1)).map (·.1)))/\B_ w2.heap.size w2 w5):=⟨by rw [cj HP.I,Kl,bg.dc]; exact hown',(HA.I.2.alloc kT _).grown hgrow ZcF (fun q hq=>(HA.I.1.lt q hq).1)⟩; clear hown' hgrow hnil jV);exact l_
  .exact iv
end Go.Proofs.YtfncpmaefninjaaGreatDoor

namespace Go.Proofs.YtfncpmaefninjaaGreatDoor
open Go.Maps
theorem AN (Me:Int) (bj b:Nat) (l:List (bD × Nat)) (w:w_) (h:Shelf eH (fun x:bD=>x.id) 89 w bj b l) (hl:l.length<=1048576) (hwf: ∀ p∈(RW (fun x:bD=>x.id) l),(Lit.int j_ p.1).wf=true):
  k_ J3 64 #[a_ #[i_ j_ Me,.map (o_ b)]] w fun e w'=>mY dm 89 w (l.map (·.1)) e w':=by
 obtain ⟨i0,hi,e0⟩:=Kw.1 yS;simp only [Kx] at e0;have HI:bE (Tryz.prog.info? 89=o_ i0/\i0.zero=o_ _/\i0.size=3/\i0.bytes=24):=⟨hi,e0⟩
 have H:bE (Shelf eH (fun x:bD=>x.id) 89 (w.alloc (c_ #[i_ j_ Me,.map (o_ b)] 72)) bj b l/\(∀ p∈(RW (fun x:bD=>x.id) l),(Lit.int j_ p.1).wf=true)/\B_ w.heap.size w (w.alloc (c_ #[i_ j_ Me,.map (o_ b)] 72))):=⟨h.below ((Kp _ _).alloc (Ki _) _),hwf,(Kp _ _).alloc (Ki _) _⟩
 have HK:bE ((RW (fun x:bD=>x.id) l).length=l.length):=bZ l;clear h hwf hi e0
 go_enter func64,ntmps64
 go_wp2_with fail;generalize w.alloc (c_ #[i_ j_ Me,.map (o_ b)] 72)=W at *;refine (CS Me b (RW (fun x:bD=>x.id) l) W H.I.1.map ZcV H.I.2.1).mono ?_;rintro e w2 ⟨a,cap,rfl,hown,hb2⟩;obtain ⟨a',cap',hv,hrow⟩:=cr hown;cases hv;have HR:bE (Row w2 a ((RW (fun x:bD=>x.id) l).map fun p=>dt p.2)):=hrow;have HO:bE (Shelf eH (fun x:bD=>x.id) 89 w2 bj b l/\B_ w.heap.size w w2):=⟨H.I.1.below hb2,H.I.2.2.trans (hb2.mono H.I.2.2.size)⟩
 rw [HK.I];clear hown hrow hb2;go_wp2_with fail
 go_loopw [3,9] (fun t i wr=> ∃ k:Nat,k<=l.length/\i=i_ j_ k/\ ∃ a' cap',t=s_ a' k cap'/\bE (wr.ownsRow w2.heap.size 89 3 (s_ a' k cap') k (dm.flat ((l.take k).map (·.1)))/\B_ w2.heap.size w2 wr)) (fun _ i _=>l.length - (intOf i).toNat)
 case atStart=>exact ⟨0,Ky _,rfl,n_,0,rfl,⟨Ke _ _ _ _,Kp _ _⟩⟩
 case round=>
  obtain ⟨k,hk,rfl,a',cap',rfl,HA⟩:=hrel;by_cases hlt:k < l.length
  .have qE:(0:Int)<=(k:Int):=zo
   have i1:(k:Int) < (l.length:Int):=zo
   obtain ⟨p,hp⟩: ∃ p,l[k]? =o_ p:=⟨_,Kz hlt⟩
   obtain ⟨g,ha,hc⟩:=(HR.I.below HA.I.2) k (dt p.2) ZcZ;subst ha;unfold dt at hc;have HP:bE (l[k]? =o_ p):=hp;obtain ⟨s0,s1,s2⟩:=gm ((HO.I.1.below HA.I.2).box p (KA hp));have kT:=HA.I.2.size;clear hp;go_wp2_with (at_builtin; refine KD _ rfl _ _ 25 rfl w2.heap.size 89 i0 _ 3 24 underlying25 HI.I.1 HI.I.2.1 HI.I.2.2.1 HI.I.2.2.2 rfl (by decide) (s_ a' k cap') k (dm.flat ((l.take k).map (·.1))) rfl (HA.I.1.alloc _) ⟨wr.heap.size,0,n_⟩ 1 1 (dm.vals p.1) (by rfl) rfl (KE (cs:= #[i_ j_ p.1.id,i_ j_ p.1.n,i_ j_ p.1.max]) (t:=89) (fr:=(0,0)) (Kj wr _)) (by simp [dm,yz,Value.oneCell']) ZcI zo ZcF ?_; intro v' w5 hown' hgrow hnil jV; obtain ⟨a5,im,rfl,-⟩:=cr hown'; have HN:bE (w5.ownsRow w2.heap.size 89 3 (s_ a5 (k+1) im) (k+1) (dm.flat ((l.take (k+1)).map (·.1)))/\B_ w2.heap.size w2 w5):=⟨by rw [cj HP.I,Kl,dm.dc]; exact hown',(HA.I.2.alloc kT _).grown hgrow ZcF (fun q hq=>(HA.I.1.lt q hq).1)⟩; clear hown' hgrow hnil jV);exact l_
  .exact iv
end Go.Proofs.YtfncpmaefninjaaGreatDoor

namespace Go.Proofs.YtfncpmaefninjaaGreatDoor
open Go.Maps
theorem wN (Me:Int) (bj b:Nat) (l:List (aB × Nat)) (w:w_) (h:Shelf cG (fun x:aB=>x.id) 91 w bj b l) (hl:l.length<=1048576) (hwf: ∀ p∈(RW (fun x:aB=>x.id) l),(Lit.int j_ p.1).wf=true):
  k_ J3 65 #[a_ #[i_ j_ Me,.map (o_ b)]] w fun e w'=>mY bJ 91 w (l.map (·.1)) e w':=by
 obtain ⟨i0,hi,e0⟩:=Kw.1 so;simp only [Kx] at e0;have HI:bE (Tryz.prog.info? 91=o_ i0/\i0.zero=o_ _/\i0.size=2/\i0.bytes=16):=⟨hi,e0⟩
 have H:bE (Shelf cG (fun x:aB=>x.id) 91 (w.alloc (c_ #[i_ j_ Me,.map (o_ b)] 75)) bj b l/\(∀ p∈(RW (fun x:aB=>x.id) l),(Lit.int j_ p.1).wf=true)/\B_ w.heap.size w (w.alloc (c_ #[i_ j_ Me,.map (o_ b)] 75))):=⟨h.below ((Kp _ _).alloc (Ki _) _),hwf,(Kp _ _).alloc (Ki _) _⟩
 have HK:bE ((RW (fun x:aB=>x.id) l).length=l.length):=bZ l;clear h hwf hi e0
 go_enter func65,ntmps65
 go_wp2_with fail;generalize w.alloc (c_ #[i_ j_ Me,.map (o_ b)] 75)=W at *;refine (yh Me b (RW (fun x:aB=>x.id) l) W H.I.1.map ZcV H.I.2.1).mono ?_;rintro e w2 ⟨a,cap,rfl,hown,hb2⟩;obtain ⟨a',cap',hv,hrow⟩:=cr hown;cases hv;have HR:bE (Row w2 a ((RW (fun x:aB=>x.id) l).map fun p=>dt p.2)):=hrow;have HO:bE (Shelf cG (fun x:aB=>x.id) 91 w2 bj b l/\B_ w.heap.size w w2):=⟨H.I.1.below hb2,H.I.2.2.trans (hb2.mono H.I.2.2.size)⟩
 rw [HK.I];clear hown hrow hb2;go_wp2_with fail
 go_loopw [3,9] (fun t i wr=> ∃ k:Nat,k<=l.length/\i=i_ j_ k/\ ∃ a' cap',t=s_ a' k cap'/\bE (wr.ownsRow w2.heap.size 91 2 (s_ a' k cap') k (bJ.flat ((l.take k).map (·.1)))/\B_ w2.heap.size w2 wr)) (fun _ i _=>l.length - (intOf i).toNat)
 case atStart=>exact ⟨0,Ky _,rfl,n_,0,rfl,⟨Ke _ _ _ _,Kp _ _⟩⟩
 case round=>
  obtain ⟨k,hk,rfl,a',cap',rfl,HA⟩:=hrel;by_cases hlt:k < l.length
  .have qE:(0:Int)<=(k:Int):=zo
   have i1:(k:Int) < (l.length:Int):=zo
   obtain ⟨p,hp⟩: ∃ p,l[k]? =o_ p:=⟨_,Kz hlt⟩
   obtain ⟨g,ha,hc⟩:=(HR.I.below HA.I.2) k (dt p.2) ZcZ;subst ha;unfold dt at hc;have HP:bE (l[k]? =o_ p):=hp;obtain ⟨s0,s1⟩:=kF ((HO.I.1.below HA.I.2).box p (KA hp));have kT:=HA.I.2.size;clear hp;go_wp2_with (at_builtin; refine KD _ rfl _ _ 26 rfl w2.heap.size 91 i0 _ 2 16 underlying26 HI.I.1 HI.I.2.1 HI.I.2.2.1 HI.I.2.2.2 rfl (by decide) (s_ a' k cap') k (bJ.flat ((l.take k).map (·.1))) rfl (HA.I.1.alloc _) ⟨wr.heap.size,0,n_⟩ 1 1 (bJ.vals p.1) (by rfl) rfl (KE (cs:= #[i_ j_ p.1.id,b_ p.1.up]) (t:=91) (fr:=(0,0)) (Kj wr _)) (by simp [bJ,rY,Value.oneCell']) ZcI zo ZcF ?_; intro v' w5 hown' hgrow hnil jV; obtain ⟨a5,im,rfl,-⟩:=cr hown'; have HN:bE (w5.ownsRow w2.heap.size 91 2 (s_ a5 (k+1) im) (k+1) (bJ.flat ((l.take (k+1)).map (·.1)))/\B_ w2.heap.size w2 w5):=⟨by rw [cj HP.I,Kl,bJ.dc]; exact hown',(HA.I.2.alloc kT _).grown hgrow ZcF (fun q hq=>(HA.I.1.lt q hq).1)⟩; clear hown' hgrow hnil jV);exact l_
  .exact iv
end Go.Proofs.YtfncpmaefninjaaGreatDoor
