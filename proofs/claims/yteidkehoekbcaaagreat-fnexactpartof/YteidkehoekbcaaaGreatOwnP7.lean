/- What the proof leans on, part 7. -/
import Derived.Test.YteidkehoekbcaaaGreatOwnP3
set_option maxRecDepth 100000
set_option maxHeartbeats 8000000
open Go renaming heap_alloc_new->Kj,wpList_append_own_at->KD
open Go.Proofs.Tryz renaming prog->J3
open Go.RowKit.Below renaming refl->Kp
open Go.World renaming news_of_block->KE,ownsRow_nil->Ke
open List renaming getElem?_eq_getElem->Kz,length_map->KG,map_append->Kl,mem_of_getElem?->KA,take_length->LQ
open Nat renaming le_refl->Ki,zero_le->Ky
open Option renaming map_eq_some_iff->Kw
open Prod.mk renaming injEq->Kx

namespace Go.Proofs.YteidkehoekbcaaaGreat
open Go.RowKit Go.Maps
theorem zf (Me:Int) (base b:Nat) (l:List (aM × Nat)) (w:World) (h:Shelf cW (fun x:aM=>x.id) 85 w base b l) (hl:l.length≤1048576) (hwf: ∀ p∈(RW (fun x:aM=>x.id) l),(Lit.int .i64 p.1).wf=true):
  Calls J3 109 #[.agg #[.int .i64 Me,.map (some b)]] w fun e w'=>mY bX 85 w (l.map (·.1)) e w':=by
 obtain ⟨i0,hi,e0⟩:=Kw.1 na;simp only [Kx] at e0;have HI:Hid (Tryz.prog.info? 85=some i0∧i0.zero=some _∧i0.size=5∧i0.bytes=48):=⟨hi,e0⟩
 have H:Hid (Shelf cW (fun x:aM=>x.id) 85 (w.alloc (.cells #[.int .i64 Me,.map (some b)] 178)) base b l∧(∀ p∈(RW (fun x:aM=>x.id) l),(Lit.int .i64 p.1).wf=true)∧Below w.heap.size w (w.alloc (.cells #[.int .i64 Me,.map (some b)] 178))):=⟨h.below ((Kp _ _).alloc (Ki _) _),hwf,(Kp _ _).alloc (Ki _) _⟩
 have HK:Hid ((RW (fun x:aM=>x.id) l).length=l.length):=bZ l;clear h hwf hi e0
 go_enter Tryz.func109,Tryz.ntmps109
 go_wp2_with fail;generalize w.alloc (.cells #[.int .i64 Me,.map (some b)] 178)=W at *;refine (Bx Me b (RW (fun x:aM=>x.id) l) W H.I.1.map (by rw [HK.I]; exact hl) H.I.2.1).mono ?_;rintro e w2 ⟨a,cap,rfl,hown,hb2⟩;obtain ⟨a',cap',hv,hrow⟩:=cr hown;cases hv;have HR:Hid (Row w2 a ((RW (fun x:aM=>x.id) l).map fun p=>dt p.2)):=hrow;have HO:Hid (Shelf cW (fun x:aM=>x.id) 85 w2 base b l∧Below w.heap.size w w2):=⟨H.I.1.below hb2,H.I.2.2.trans (hb2.mono H.I.2.2.size)⟩
 rw [HK.I];clear hown hrow hb2;go_wp2_with fail
 go_loopw [3,9] (fun t i wr=> ∃ k:Nat,k≤l.length∧i= .int .i64 k∧ ∃ a' cap',t= .slice a' k cap'∧Hid (wr.ownsRow w2.heap.size 85 5 (.slice a' k cap') k (bX.flat ((l.take k).map (·.1)))∧Below w2.heap.size w2 wr)) (fun _ i _=>l.length - (intOf i).toNat)
 case atStart=>exact ⟨0,Ky _,rfl,none,0,rfl,⟨Ke _ _ _ _,Kp _ _⟩⟩
 case round=>
  obtain ⟨k,hk,rfl,a',cap',rfl,HA⟩:=hrel;by_cases hlt:k < l.length
  ·have qE:(0:Int)≤(k:Int):=by omega
   have i1:(k:Int) < (l.length:Int):=by omega
   obtain ⟨p,hp⟩: ∃ p,l[k]? =some p:=⟨_,Kz hlt⟩
   obtain ⟨g,ha,hc⟩:=(HR.I.below HA.I.2) k (dt p.2) (by simp [RW,hp]);subst ha;unfold dt at hc;have HP:Hid (l[k]? =some p):=hp;obtain ⟨s0,s1,s2,s3,s4⟩:=gE ((HO.I.1.below HA.I.2).box p (KA hp));have kT:=HA.I.2.size;clear hp;go_wp2_with (at_builtin; refine KD _ rfl _ _ 46 rfl w2.heap.size 85 i0 _ 5 48 Tryz.underlying46 HI.I.1 HI.I.2.1 HI.I.2.2.1 HI.I.2.2.2 rfl (by decide) (.slice a' k cap') k (bX.flat ((l.take k).map (·.1))) rfl (HA.I.1.alloc _) ⟨wr.heap.size,0,none⟩ 1 1 (bX.vals p.1) (by rfl) rfl (KE (cs:= #[.int .i64 p.1.id,.bool p.1.I,.bool p.1.Mf,.int .i64 p.1.max,.slice p.1.ak p.1.Ma.length p.1.aq]) (t:=85) (fr:=(0,0)) (Kj wr _)) (by simp [bX,qT,Value.oneCell']) (by unfold maxLen; omega) (by omega) (by simp; omega) ?_; intro v' w5 hown' hgrow hnil jV; obtain ⟨a5,im,rfl,-⟩:=cr hown'; have HN:Hid (w5.ownsRow w2.heap.size 85 5 (.slice a5 (k+1) im) (k+1) (bX.flat ((l.take (k+1)).map (·.1)))∧Below w2.heap.size w2 w5):=⟨by rw [cj HP.I,Kl,bX.dc]; exact hown',(HA.I.2.alloc kT _).grown hgrow (by simp; omega) (fun q hq=>(HA.I.1.lt q hq).1)⟩; clear hown' hgrow hnil jV);go_roundw
   case rel=>exact ⟨k+1,by omega,by go_num,a5,im,rfl,HN⟩
   case measure=>simp [intOf]; omega
  ·have i1: ¬ (k:Int) < (l.length:Int):=by omega
   have ek:k=l.length:=by omega
   subst ek;go_wp2;go_ret;refine ⟨a',cap',by rw [KG]; rfl,?_,HO.I.2.trans (HA.I.2.mono HO.I.2.size)⟩;have h5:=cq HA.I.1 HO.I.2.size;rw [LQ] at h5;rw [KG];exact h5
end Go.Proofs.YteidkehoekbcaaaGreat

namespace Go.Proofs.YteidkehoekbcaaaGreat
open Go.RowKit Go.Maps
theorem uk (Me:Int) (base b:Nat) (l:List (au × Nat)) (w:World) (h:Shelf bQ (fun x:au=>x.id) 160 w base b l) (hl:l.length≤1048576) (hwf: ∀ p∈(RW (fun x:au=>x.id) l),(Lit.int .i64 p.1).wf=true):
  Calls J3 108 #[.agg #[.int .i64 Me,.map (some b)]] w fun e w'=>mY bm 160 w (l.map (·.1)) e w':=by
 obtain ⟨i0,hi,e0⟩:=Kw.1 kh;simp only [Kx] at e0;have HI:Hid (Tryz.prog.info? 160=some i0∧i0.zero=some _∧i0.size=3∧i0.bytes=40):=⟨hi,e0⟩
 have H:Hid (Shelf bQ (fun x:au=>x.id) 160 (w.alloc (.cells #[.int .i64 Me,.map (some b)] 175)) base b l∧(∀ p∈(RW (fun x:au=>x.id) l),(Lit.int .i64 p.1).wf=true)∧Below w.heap.size w (w.alloc (.cells #[.int .i64 Me,.map (some b)] 175))):=⟨h.below ((Kp _ _).alloc (Ki _) _),hwf,(Kp _ _).alloc (Ki _) _⟩
 have HK:Hid ((RW (fun x:au=>x.id) l).length=l.length):=bZ l;clear h hwf hi e0
 go_enter Tryz.func108,Tryz.ntmps108
 go_wp2_with fail;generalize w.alloc (.cells #[.int .i64 Me,.map (some b)] 175)=W at *;refine (wF Me b (RW (fun x:au=>x.id) l) W H.I.1.map (by rw [HK.I]; exact hl) H.I.2.1).mono ?_;rintro e w2 ⟨a,cap,rfl,hown,hb2⟩;obtain ⟨a',cap',hv,hrow⟩:=cr hown;cases hv;have HR:Hid (Row w2 a ((RW (fun x:au=>x.id) l).map fun p=>dt p.2)):=hrow;have HO:Hid (Shelf bQ (fun x:au=>x.id) 160 w2 base b l∧Below w.heap.size w w2):=⟨H.I.1.below hb2,H.I.2.2.trans (hb2.mono H.I.2.2.size)⟩
 rw [HK.I];clear hown hrow hb2;go_wp2_with fail
 go_loopw [3,9] (fun t i wr=> ∃ k:Nat,k≤l.length∧i= .int .i64 k∧ ∃ a' cap',t= .slice a' k cap'∧Hid (wr.ownsRow w2.heap.size 160 3 (.slice a' k cap') k (bm.flat ((l.take k).map (·.1)))∧Below w2.heap.size w2 wr)) (fun _ i _=>l.length - (intOf i).toNat)
 case atStart=>exact ⟨0,Ky _,rfl,none,0,rfl,⟨Ke _ _ _ _,Kp _ _⟩⟩
 case round=>
  obtain ⟨k,hk,rfl,a',cap',rfl,HA⟩:=hrel;by_cases hlt:k < l.length
  ·have qE:(0:Int)≤(k:Int):=by omega
   have i1:(k:Int) < (l.length:Int):=by omega
   obtain ⟨p,hp⟩: ∃ p,l[k]? =some p:=⟨_,Kz hlt⟩
   obtain ⟨g,ha,hc⟩:=(HR.I.below HA.I.2) k (dt p.2) (by simp [RW,hp]);subst ha;unfold dt at hc;have HP:Hid (l[k]? =some p):=hp;obtain ⟨s0,s1,s2⟩:=ia ((HO.I.1.below HA.I.2).box p (KA hp));have kT:=HA.I.2.size;clear hp;go_wp2_with (at_builtin; refine KD _ rfl _ _ 45 rfl w2.heap.size 160 i0 _ 3 40 Tryz.underlying45 HI.I.1 HI.I.2.1 HI.I.2.2.1 HI.I.2.2.2 rfl (by decide) (.slice a' k cap') k (bm.flat ((l.take k).map (·.1))) rfl (HA.I.1.alloc _) ⟨wr.heap.size,0,none⟩ 1 1 (bm.vals p.1) (by rfl) rfl (KE (cs:= #[.int .i64 p.1.id,.int .i64 p.1.max,.slice p.1.ak p.1.Ma.length p.1.aq]) (t:=160) (fr:=(0,0)) (Kj wr _)) (by simp [bm,nD,Value.oneCell']) (by unfold maxLen; omega) (by omega) (by simp; omega) ?_; intro v' w5 hown' hgrow hnil jV; obtain ⟨a5,im,rfl,-⟩:=cr hown'; have HN:Hid (w5.ownsRow w2.heap.size 160 3 (.slice a5 (k+1) im) (k+1) (bm.flat ((l.take (k+1)).map (·.1)))∧Below w2.heap.size w2 w5):=⟨by rw [cj HP.I,Kl,bm.dc]; exact hown',(HA.I.2.alloc kT _).grown hgrow (by simp; omega) (fun q hq=>(HA.I.1.lt q hq).1)⟩; clear hown' hgrow hnil jV);go_roundw
   case rel=>exact ⟨k+1,by omega,by go_num,a5,im,rfl,HN⟩
   case measure=>simp [intOf]; omega
  ·have i1: ¬ (k:Int) < (l.length:Int):=by omega
   have ek:k=l.length:=by omega
   subst ek;go_wp2;go_ret;refine ⟨a',cap',by rw [KG]; rfl,?_,HO.I.2.trans (HA.I.2.mono HO.I.2.size)⟩;have h5:=cq HA.I.1 HO.I.2.size;rw [LQ] at h5;rw [KG];exact h5
end Go.Proofs.YteidkehoekbcaaaGreat

namespace Go.Proofs.YteidkehoekbcaaaGreat
open Go.RowKit Go.Maps
theorem AN (Me:Int) (base b:Nat) (l:List (bD × Nat)) (w:World) (h:Shelf eH (fun x:bD=>x.id) 184 w base b l) (hl:l.length≤1048576) (hwf: ∀ p∈(RW (fun x:bD=>x.id) l),(Lit.int .i64 p.1).wf=true):
  Calls J3 105 #[.agg #[.int .i64 Me,.map (some b)]] w fun e w'=>mY dm 184 w (l.map (·.1)) e w':=by
 obtain ⟨i0,hi,e0⟩:=Kw.1 yS;simp only [Kx] at e0;have HI:Hid (Tryz.prog.info? 184=some i0∧i0.zero=some _∧i0.size=3∧i0.bytes=24):=⟨hi,e0⟩
 have H:Hid (Shelf eH (fun x:bD=>x.id) 184 (w.alloc (.cells #[.int .i64 Me,.map (some b)] 166)) base b l∧(∀ p∈(RW (fun x:bD=>x.id) l),(Lit.int .i64 p.1).wf=true)∧Below w.heap.size w (w.alloc (.cells #[.int .i64 Me,.map (some b)] 166))):=⟨h.below ((Kp _ _).alloc (Ki _) _),hwf,(Kp _ _).alloc (Ki _) _⟩
 have HK:Hid ((RW (fun x:bD=>x.id) l).length=l.length):=bZ l;clear h hwf hi e0
 go_enter Tryz.func105,Tryz.ntmps105
 go_wp2_with fail;generalize w.alloc (.cells #[.int .i64 Me,.map (some b)] 166)=W at *;refine (CS Me b (RW (fun x:bD=>x.id) l) W H.I.1.map (by rw [HK.I]; exact hl) H.I.2.1).mono ?_;rintro e w2 ⟨a,cap,rfl,hown,hb2⟩;obtain ⟨a',cap',hv,hrow⟩:=cr hown;cases hv;have HR:Hid (Row w2 a ((RW (fun x:bD=>x.id) l).map fun p=>dt p.2)):=hrow;have HO:Hid (Shelf eH (fun x:bD=>x.id) 184 w2 base b l∧Below w.heap.size w w2):=⟨H.I.1.below hb2,H.I.2.2.trans (hb2.mono H.I.2.2.size)⟩
 rw [HK.I];clear hown hrow hb2;go_wp2_with fail
 go_loopw [3,9] (fun t i wr=> ∃ k:Nat,k≤l.length∧i= .int .i64 k∧ ∃ a' cap',t= .slice a' k cap'∧Hid (wr.ownsRow w2.heap.size 184 3 (.slice a' k cap') k (dm.flat ((l.take k).map (·.1)))∧Below w2.heap.size w2 wr)) (fun _ i _=>l.length - (intOf i).toNat)
 case atStart=>exact ⟨0,Ky _,rfl,none,0,rfl,⟨Ke _ _ _ _,Kp _ _⟩⟩
 case round=>
  obtain ⟨k,hk,rfl,a',cap',rfl,HA⟩:=hrel;by_cases hlt:k < l.length
  ·have qE:(0:Int)≤(k:Int):=by omega
   have i1:(k:Int) < (l.length:Int):=by omega
   obtain ⟨p,hp⟩: ∃ p,l[k]? =some p:=⟨_,Kz hlt⟩
   obtain ⟨g,ha,hc⟩:=(HR.I.below HA.I.2) k (dt p.2) (by simp [RW,hp]);subst ha;unfold dt at hc;have HP:Hid (l[k]? =some p):=hp;obtain ⟨s0,s1,s2⟩:=gm ((HO.I.1.below HA.I.2).box p (KA hp));have kT:=HA.I.2.size;clear hp;go_wp2_with (at_builtin; refine KD _ rfl _ _ 42 rfl w2.heap.size 184 i0 _ 3 24 Tryz.underlying42 HI.I.1 HI.I.2.1 HI.I.2.2.1 HI.I.2.2.2 rfl (by decide) (.slice a' k cap') k (dm.flat ((l.take k).map (·.1))) rfl (HA.I.1.alloc _) ⟨wr.heap.size,0,none⟩ 1 1 (dm.vals p.1) (by rfl) rfl (KE (cs:= #[.int .i64 p.1.id,.int .i64 p.1.n,.int .i64 p.1.max]) (t:=184) (fr:=(0,0)) (Kj wr _)) (by simp [dm,yz,Value.oneCell']) (by unfold maxLen; omega) (by omega) (by simp; omega) ?_; intro v' w5 hown' hgrow hnil jV; obtain ⟨a5,im,rfl,-⟩:=cr hown'; have HN:Hid (w5.ownsRow w2.heap.size 184 3 (.slice a5 (k+1) im) (k+1) (dm.flat ((l.take (k+1)).map (·.1)))∧Below w2.heap.size w2 w5):=⟨by rw [cj HP.I,Kl,dm.dc]; exact hown',(HA.I.2.alloc kT _).grown hgrow (by simp; omega) (fun q hq=>(HA.I.1.lt q hq).1)⟩; clear hown' hgrow hnil jV);go_roundw
   case rel=>exact ⟨k+1,by omega,by go_num,a5,im,rfl,HN⟩
   case measure=>simp [intOf]; omega
  ·have i1: ¬ (k:Int) < (l.length:Int):=by omega
   have ek:k=l.length:=by omega
   subst ek;go_wp2;go_ret;refine ⟨a',cap',by rw [KG]; rfl,?_,HO.I.2.trans (HA.I.2.mono HO.I.2.size)⟩;have h5:=cq HA.I.1 HO.I.2.size;rw [LQ] at h5;rw [KG];exact h5
end Go.Proofs.YteidkehoekbcaaaGreat

namespace Go.Proofs.YteidkehoekbcaaaGreat
open Go.RowKit Go.Maps
theorem wC (Me:Int) (base b:Nat) (l:List (az × Nat)) (w:World) (h:Shelf cI (fun x:az=>x.id) 190 w base b l) (hl:l.length≤1048576) (hwf: ∀ p∈(RW (fun x:az=>x.id) l),(Lit.int .i64 p.1).wf=true):
  Calls J3 107 #[.agg #[.int .i64 Me,.map (some b)]] w fun e w'=>mY bG 190 w (l.map (·.1)) e w':=by
 obtain ⟨i0,hi,e0⟩:=Kw.1 sj;simp only [Kx] at e0;have HI:Hid (Tryz.prog.info? 190=some i0∧i0.zero=some _∧i0.size=3∧i0.bytes=32):=⟨hi,e0⟩
 have H:Hid (Shelf cI (fun x:az=>x.id) 190 (w.alloc (.cells #[.int .i64 Me,.map (some b)] 172)) base b l∧(∀ p∈(RW (fun x:az=>x.id) l),(Lit.int .i64 p.1).wf=true)∧Below w.heap.size w (w.alloc (.cells #[.int .i64 Me,.map (some b)] 172))):=⟨h.below ((Kp _ _).alloc (Ki _) _),hwf,(Kp _ _).alloc (Ki _) _⟩
 have HK:Hid ((RW (fun x:az=>x.id) l).length=l.length):=bZ l;clear h hwf hi e0
 go_enter Tryz.func107,Tryz.ntmps107
 go_wp2_with fail;generalize w.alloc (.cells #[.int .i64 Me,.map (some b)] 172)=W at *;refine (yB Me b (RW (fun x:az=>x.id) l) W H.I.1.map (by rw [HK.I]; exact hl) H.I.2.1).mono ?_;rintro e w2 ⟨a,cap,rfl,hown,hb2⟩;obtain ⟨a',cap',hv,hrow⟩:=cr hown;cases hv;have HR:Hid (Row w2 a ((RW (fun x:az=>x.id) l).map fun p=>dt p.2)):=hrow;have HO:Hid (Shelf cI (fun x:az=>x.id) 190 w2 base b l∧Below w.heap.size w w2):=⟨H.I.1.below hb2,H.I.2.2.trans (hb2.mono H.I.2.2.size)⟩
 rw [HK.I];clear hown hrow hb2;go_wp2_with fail
 go_loopw [3,9] (fun t i wr=> ∃ k:Nat,k≤l.length∧i= .int .i64 k∧ ∃ a' cap',t= .slice a' k cap'∧Hid (wr.ownsRow w2.heap.size 190 3 (.slice a' k cap') k (bG.flat ((l.take k).map (·.1)))∧Below w2.heap.size w2 wr)) (fun _ i _=>l.length - (intOf i).toNat)
 case atStart=>exact ⟨0,Ky _,rfl,none,0,rfl,⟨Ke _ _ _ _,Kp _ _⟩⟩
 case round=>
  obtain ⟨k,hk,rfl,a',cap',rfl,HA⟩:=hrel;by_cases hlt:k < l.length
  ·have qE:(0:Int)≤(k:Int):=by omega
   have i1:(k:Int) < (l.length:Int):=by omega
   obtain ⟨p,hp⟩: ∃ p,l[k]? =some p:=⟨_,Kz hlt⟩
   obtain ⟨g,ha,hc⟩:=(HR.I.below HA.I.2) k (dt p.2) (by simp [RW,hp]);subst ha;unfold dt at hc;have HP:Hid (l[k]? =some p):=hp;obtain ⟨s0,s1,s2⟩:=kJ ((HO.I.1.below HA.I.2).box p (KA hp));have kT:=HA.I.2.size;clear hp;go_wp2_with (at_builtin; refine KD _ rfl _ _ 44 rfl w2.heap.size 190 i0 _ 3 32 Tryz.underlying44 HI.I.1 HI.I.2.1 HI.I.2.2.1 HI.I.2.2.2 rfl (by decide) (.slice a' k cap') k (bG.flat ((l.take k).map (·.1))) rfl (HA.I.1.alloc _) ⟨wr.heap.size,0,none⟩ 1 1 (bG.vals p.1) (by rfl) rfl (KE (cs:= #[.int .i64 p.1.id,.bool p.1.shown,.string p.1.text]) (t:=190) (fr:=(0,0)) (Kj wr _)) (by simp [bG,sn,Value.oneCell']) (by unfold maxLen; omega) (by omega) (by simp; omega) ?_; intro v' w5 hown' hgrow hnil jV; obtain ⟨a5,im,rfl,-⟩:=cr hown'; have HN:Hid (w5.ownsRow w2.heap.size 190 3 (.slice a5 (k+1) im) (k+1) (bG.flat ((l.take (k+1)).map (·.1)))∧Below w2.heap.size w2 w5):=⟨by rw [cj HP.I,Kl,bG.dc]; exact hown',(HA.I.2.alloc kT _).grown hgrow (by simp; omega) (fun q hq=>(HA.I.1.lt q hq).1)⟩; clear hown' hgrow hnil jV);go_roundw
   case rel=>exact ⟨k+1,by omega,by go_num,a5,im,rfl,HN⟩
   case measure=>simp [intOf]; omega
  ·have i1: ¬ (k:Int) < (l.length:Int):=by omega
   have ek:k=l.length:=by omega
   subst ek;go_wp2;go_ret;refine ⟨a',cap',by rw [KG]; rfl,?_,HO.I.2.trans (HA.I.2.mono HO.I.2.size)⟩;have h5:=cq HA.I.1 HO.I.2.size;rw [LQ] at h5;rw [KG];exact h5
end Go.Proofs.YteidkehoekbcaaaGreat

namespace Go.Proofs.YteidkehoekbcaaaGreat
open Go.RowKit Go.Maps
theorem wN (Me:Int) (base b:Nat) (l:List (aB × Nat)) (w:World) (h:Shelf cG (fun x:aB=>x.id) 187 w base b l) (hl:l.length≤1048576) (hwf: ∀ p∈(RW (fun x:aB=>x.id) l),(Lit.int .i64 p.1).wf=true):
  Calls J3 106 #[.agg #[.int .i64 Me,.map (some b)]] w fun e w'=>mY bJ 187 w (l.map (·.1)) e w':=by
 obtain ⟨i0,hi,e0⟩:=Kw.1 so;simp only [Kx] at e0;have HI:Hid (Tryz.prog.info? 187=some i0∧i0.zero=some _∧i0.size=2∧i0.bytes=16):=⟨hi,e0⟩
 have H:Hid (Shelf cG (fun x:aB=>x.id) 187 (w.alloc (.cells #[.int .i64 Me,.map (some b)] 169)) base b l∧(∀ p∈(RW (fun x:aB=>x.id) l),(Lit.int .i64 p.1).wf=true)∧Below w.heap.size w (w.alloc (.cells #[.int .i64 Me,.map (some b)] 169))):=⟨h.below ((Kp _ _).alloc (Ki _) _),hwf,(Kp _ _).alloc (Ki _) _⟩
 have HK:Hid ((RW (fun x:aB=>x.id) l).length=l.length):=bZ l;clear h hwf hi e0
 go_enter Tryz.func106,Tryz.ntmps106
 go_wp2_with fail;generalize w.alloc (.cells #[.int .i64 Me,.map (some b)] 169)=W at *;refine (yh Me b (RW (fun x:aB=>x.id) l) W H.I.1.map (by rw [HK.I]; exact hl) H.I.2.1).mono ?_;rintro e w2 ⟨a,cap,rfl,hown,hb2⟩;obtain ⟨a',cap',hv,hrow⟩:=cr hown;cases hv;have HR:Hid (Row w2 a ((RW (fun x:aB=>x.id) l).map fun p=>dt p.2)):=hrow;have HO:Hid (Shelf cG (fun x:aB=>x.id) 187 w2 base b l∧Below w.heap.size w w2):=⟨H.I.1.below hb2,H.I.2.2.trans (hb2.mono H.I.2.2.size)⟩
 rw [HK.I];clear hown hrow hb2;go_wp2_with fail
 go_loopw [3,9] (fun t i wr=> ∃ k:Nat,k≤l.length∧i= .int .i64 k∧ ∃ a' cap',t= .slice a' k cap'∧Hid (wr.ownsRow w2.heap.size 187 2 (.slice a' k cap') k (bJ.flat ((l.take k).map (·.1)))∧Below w2.heap.size w2 wr)) (fun _ i _=>l.length - (intOf i).toNat)
 case atStart=>exact ⟨0,Ky _,rfl,none,0,rfl,⟨Ke _ _ _ _,Kp _ _⟩⟩
 case round=>
  obtain ⟨k,hk,rfl,a',cap',rfl,HA⟩:=hrel;by_cases hlt:k < l.length
  ·have qE:(0:Int)≤(k:Int):=by omega
   have i1:(k:Int) < (l.length:Int):=by omega
   obtain ⟨p,hp⟩: ∃ p,l[k]? =some p:=⟨_,Kz hlt⟩
   obtain ⟨g,ha,hc⟩:=(HR.I.below HA.I.2) k (dt p.2) (by simp [RW,hp]);subst ha;unfold dt at hc;have HP:Hid (l[k]? =some p):=hp;obtain ⟨s0,s1⟩:=kF ((HO.I.1.below HA.I.2).box p (KA hp));have kT:=HA.I.2.size;clear hp;go_wp2_with (at_builtin; refine KD _ rfl _ _ 43 rfl w2.heap.size 187 i0 _ 2 16 Tryz.underlying43 HI.I.1 HI.I.2.1 HI.I.2.2.1 HI.I.2.2.2 rfl (by decide) (.slice a' k cap') k (bJ.flat ((l.take k).map (·.1))) rfl (HA.I.1.alloc _) ⟨wr.heap.size,0,none⟩ 1 1 (bJ.vals p.1) (by rfl) rfl (KE (cs:= #[.int .i64 p.1.id,.bool p.1.up]) (t:=187) (fr:=(0,0)) (Kj wr _)) (by simp [bJ,rY,Value.oneCell']) (by unfold maxLen; omega) (by omega) (by simp; omega) ?_; intro v' w5 hown' hgrow hnil jV; obtain ⟨a5,im,rfl,-⟩:=cr hown'; have HN:Hid (w5.ownsRow w2.heap.size 187 2 (.slice a5 (k+1) im) (k+1) (bJ.flat ((l.take (k+1)).map (·.1)))∧Below w2.heap.size w2 w5):=⟨by rw [cj HP.I,Kl,bJ.dc]; exact hown',(HA.I.2.alloc kT _).grown hgrow (by simp; omega) (fun q hq=>(HA.I.1.lt q hq).1)⟩; clear hown' hgrow hnil jV);go_roundw
   case rel=>exact ⟨k+1,by omega,by go_num,a5,im,rfl,HN⟩
   case measure=>simp [intOf]; omega
  ·have i1: ¬ (k:Int) < (l.length:Int):=by omega
   have ek:k=l.length:=by omega
   subst ek;go_wp2;go_ret;refine ⟨a',cap',by rw [KG]; rfl,?_,HO.I.2.trans (HA.I.2.mono HO.I.2.size)⟩;have h5:=cq HA.I.1 HO.I.2.size;rw [LQ] at h5;rw [KG];exact h5
end Go.Proofs.YteidkehoekbcaaaGreat
