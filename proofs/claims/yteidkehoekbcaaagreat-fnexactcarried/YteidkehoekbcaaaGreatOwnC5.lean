/- What the proof leans on, part 5. -/
import Derived.Test.YteidkehoekbcaaaGreatOwnK10
import Derived.Test.YteidkehoekbcaaaGreatOwnC3
set_option maxRecDepth 100000
set_option maxHeartbeats 8000000
open Go renaming heap_alloc_new->Kj,wpList_append_own_at->KD
open Go.Proofs.Tryz renaming prog->J3
open Go.RowKit.Below renaming refl->Kp
open Go.World renaming news_of_block->KE,ownsRow_nil->Ke
open List renaming getElem?_eq_getElem->Kz,length_map->KG,map_append->Kl,mem_of_getElem?->KA,take_length->LQ
open Nat renaming le_refl->Ki,zero_le->Ky
open Option renaming map_eq_some_iff->Kw
open Prod.mk renaming injEq->Kx

namespace Go.Proofs.YteidkehoekbcaaaGreat
section
open Go.RowKit Go.Maps
theorem zj (Me:Int) (base b:Nat) (l:List (ao × Nat)) (w:World) (h:Shelf aX (fun x:ao=>x.id) 148 w base b l) (hl:l.length≤1048576) (hwf: ∀ p∈(RW (fun x:ao=>x.id) l),(Lit.int .i64 p.1).wf=true):
  Calls J3 104 #[.agg #[.int .i64 Me,.map (some b)]] w fun e w'=>mY bg 148 w (l.map (·.1)) e w':=by
 obtain ⟨i0,hi,e0⟩:=Kw.1 nb;simp only [Kx] at e0;have HI:Hid (Tryz.prog.info? 148=some i0∧i0.zero=some _∧i0.size=12∧i0.bytes=128):=⟨hi,e0⟩
 have H:Hid (Shelf aX (fun x:ao=>x.id) 148 (w.alloc (.cells #[.int .i64 Me,.map (some b)] 163)) base b l∧(∀ p∈(RW (fun x:ao=>x.id) l),(Lit.int .i64 p.1).wf=true)∧Below w.heap.size w (w.alloc (.cells #[.int .i64 Me,.map (some b)] 163))):=⟨h.below ((Kp _ _).alloc (Ki _) _),hwf,(Kp _ _).alloc (Ki _) _⟩
 have HK:Hid ((RW (fun x:ao=>x.id) l).length=l.length):=bZ l;clear h hwf hi e0
 go_enter Tryz.func104,Tryz.ntmps104
 go_wp2_with fail;generalize w.alloc (.cells #[.int .i64 Me,.map (some b)] 163)=W at *;refine (mq Me b (RW (fun x:ao=>x.id) l) W H.I.1.map (by rw [HK.I]; exact hl) H.I.2.1).mono ?_;rintro e w2 ⟨a,cap,rfl,hown,hb2⟩;obtain ⟨a',cap',hv,hrow⟩:=cr hown;cases hv;have HR:Hid (Row w2 a ((RW (fun x:ao=>x.id) l).map fun p=>dt p.2)):=hrow;have HO:Hid (Shelf aX (fun x:ao=>x.id) 148 w2 base b l∧Below w.heap.size w w2):=⟨H.I.1.below hb2,H.I.2.2.trans (hb2.mono H.I.2.2.size)⟩
 rw [HK.I];clear hown hrow hb2;go_wp2_with fail
 go_loopw [3,9] (fun t i wr=> ∃ k:Nat,k≤l.length∧i= .int .i64 k∧ ∃ a' cap',t= .slice a' k cap'∧Hid (wr.ownsRow w2.heap.size 148 12 (.slice a' k cap') k (bg.flat ((l.take k).map (·.1)))∧Below w2.heap.size w2 wr)) (fun _ i _=>l.length - (intOf i).toNat)
 case atStart=>exact ⟨0,Ky _,rfl,none,0,rfl,⟨Ke _ _ _ _,Kp _ _⟩⟩
 case round=>
  obtain ⟨k,hk,rfl,a',cap',rfl,HA⟩:=hrel;by_cases hlt:k < l.length
  ·have qE:(0:Int)≤(k:Int):=by omega
   have i1:(k:Int) < (l.length:Int):=by omega
   obtain ⟨p,hp⟩: ∃ p,l[k]? =some p:=⟨_,Kz hlt⟩
   obtain ⟨g,ha,hc⟩:=(HR.I.below HA.I.2) k (dt p.2) (by simp [RW,hp]);subst ha;unfold dt at hc;have HP:Hid (l[k]? =some p):=hp;obtain ⟨s0,s1,s2,s3,s4,s5,s6,s7,s8,s9,s10,s11⟩:=bo ((HO.I.1.below HA.I.2).box p (KA hp));have kT:=HA.I.2.size;clear hp;go_wp2_with (at_builtin; refine KD _ rfl _ _ 41 rfl w2.heap.size 148 i0 _ 12 128 Tryz.underlying41 HI.I.1 HI.I.2.1 HI.I.2.2.1 HI.I.2.2.2 rfl (by decide) (.slice a' k cap') k (bg.flat ((l.take k).map (·.1))) rfl (HA.I.1.alloc _) ⟨wr.heap.size,0,none⟩ 1 1 (bg.vals p.1) (by rfl) rfl (KE (cs:= #[.int .i64 p.1.id,.int .i64 p.1.RX,.slice p.1.aY p.1.prog.length p.1.bH,.int .i64 p.1.Md,.int .i64 p.1.pc,.int .i64 p.1.left,.int .i64 p.1.Mg,.int .i64 p.1.on,.string p.1.held,.string p.1.got,.int .i64 p.1.code,.int .i64 p.1.RU]) (t:=148) (fr:=(0,0)) (Kj wr _)) (by simp [bg,qN,Value.oneCell']) (by unfold maxLen; omega) (by omega) (by simp; omega) ?_; intro v' w5 hown' hgrow hnil jV; obtain ⟨a5,im,rfl,-⟩:=cr hown'; have HN:Hid (w5.ownsRow w2.heap.size 148 12 (.slice a5 (k+1) im) (k+1) (bg.flat ((l.take (k+1)).map (·.1)))∧Below w2.heap.size w2 w5):=⟨by rw [cj HP.I,Kl,bg.dc]; exact hown',(HA.I.2.alloc kT _).grown hgrow (by simp; omega) (fun q hq=>(HA.I.1.lt q hq).1)⟩; clear hown' hgrow hnil jV);go_roundw
   case rel=>exact ⟨k+1,by omega,by go_num,a5,im,rfl,HN⟩
   case measure=>simp [intOf]; omega
  ·have i1: ¬ (k:Int) < (l.length:Int):=by omega
   have ek:k=l.length:=by omega
   subst ek;go_wp2;go_ret;refine ⟨a',cap',by rw [KG]; rfl,?_,HO.I.2.trans (HA.I.2.mono HO.I.2.size)⟩;have h5:=cq HA.I.1 HO.I.2.size;rw [LQ] at h5;rw [KG];exact h5
theorem zf (Me:Int) (base b:Nat) (l:List (aM × Nat)) (w:World) (h:Shelf cW (fun x:aM=>x.id) 85 w base b l) (hl:l.length≤1048576) (hwf: ∀ p∈(RW (fun x:aM=>x.id) l),(Lit.int .i64 p.1).wf=true):
  Calls J3 109 #[.agg #[.int .i64 Me,.map (some b)]] w fun e w'=>mY bX 85 w (l.map (·.1)) e w':=by
 obtain ⟨i0,hi,e0⟩:=Kw.1 na;simp only [Kx] at e0;have HI:Hid (Tryz.prog.info? 85=some i0∧i0.zero=some _∧i0.size=5∧i0.bytes=48):=⟨hi,e0⟩
 have H:Hid (Shelf cW (fun x:aM=>x.id) 85 (w.alloc (.cells #[.int .i64 Me,.map (some b)] 178)) base b l∧(∀ p∈(RW (fun x:aM=>x.id) l),(Lit.int .i64 p.1).wf=true)∧Below w.heap.size w (w.alloc (.cells #[.int .i64 Me,.map (some b)] 178))):=⟨h.below ((Kp _ _).alloc (Ki _) _),hwf,(Kp _ _).alloc (Ki _) _⟩
 have HK:Hid ((RW (fun x:aM=>x.id) l).length=l.length):=bZ l;clear h hwf hi e0
 go_enter Tryz.func109,Tryz.ntmps109
 go_wp2_with fail;generalize w.alloc (.cells #[.int .i64 Me,.map (some b)] 178)=W at *;refine (Bx Me b (RW (fun x:aM=>x.id) l) W H.I.1.map (by rw [HK.I]; exact hl) H.I.2.1).mono ?_;rintro e w2 ⟨a,cap,rfl,hown,hb2⟩;obtain ⟨a',cap',hv,hrow⟩:=cr hown;cases hv;have HR:Hid (Row w2 a ((RW (fun x:aM=>x.id) l).map fun p=>dt p.2)):=hrow;have HO:Hid (Shelf cW (fun x:aM=>x.id) 85 w2 base b l∧Below w.heap.size w w2):=⟨H.I.1.below hb2,H.I.2.2.trans (hb2.mono H.I.2.2.size)⟩
 rw [HK.I];clear hown hrow hb2;go_wp2_with fail
 go_loopw [3,9] (fun t i wr=> ∃ k:Nat,k≤l.length∧i= .int .i64 k∧ ∃ a' cap',t= .slice a' k cap'∧Hid (wr.ownsRow w2.heap.size 85 5 (.slice a' k cap') k (bX.flat ((l.take k).map (·.1)))∧Below w2.heap.size w2 wr)) (fun _ i _=>l.length - (intOf i).toNat)
 case atStart=>exact ⟨0,Ky _,rfl,none,0,rfl,⟨Ke _ _ _ _,Kp _ _⟩⟩
 case round=>
  obtain ⟨k,hk,rfl,a',cap',rfl,HA⟩:=hrel;by_cases hlt:k < l.length
  ·have qE:(0:Int)≤(k:Int):=by omega
   have i1:(k:Int) < (l.length:Int):=by omega
   obtain ⟨p,hp⟩: ∃ p,l[k]? =some p:=⟨_,Kz hlt⟩
   obtain ⟨g,ha,hc⟩:=(HR.I.below HA.I.2) k (dt p.2) (by simp [RW,hp]);subst ha;unfold dt at hc;have HP:Hid (l[k]? =some p):=hp;obtain ⟨s0,s1,s2,s3,s4⟩:=gE ((HO.I.1.below HA.I.2).box p (KA hp));have kT:=HA.I.2.size;clear hp;go_wp2_with (at_builtin; refine KD _ rfl _ _ 46 rfl w2.heap.size 85 i0 _ 5 48 Tryz.underlying46 HI.I.1 HI.I.2.1 HI.I.2.2.1 HI.I.2.2.2 rfl (by decide) (.slice a' k cap') k (bX.flat ((l.take k).map (·.1))) rfl (HA.I.1.alloc _) ⟨wr.heap.size,0,none⟩ 1 1 (bX.vals p.1) (by rfl) rfl (KE (cs:= #[.int .i64 p.1.id,.bool p.1.I,.bool p.1.Mf,.int .i64 p.1.max,.slice p.1.ak p.1.Ma.length p.1.aq]) (t:=85) (fr:=(0,0)) (Kj wr _)) (by simp [bX,qT,Value.oneCell']) (by unfold maxLen; omega) (by omega) (by simp; omega) ?_; intro v' w5 hown' hgrow hnil jV; obtain ⟨a5,im,rfl,-⟩:=cr hown'; have HN:Hid (w5.ownsRow w2.heap.size 85 5 (.slice a5 (k+1) im) (k+1) (bX.flat ((l.take (k+1)).map (·.1)))∧Below w2.heap.size w2 w5):=⟨by rw [cj HP.I,Kl,bX.dc]; exact hown',(HA.I.2.alloc kT _).grown hgrow (by simp; omega) (fun q hq=>(HA.I.1.lt q hq).1)⟩; clear hown' hgrow hnil jV);go_roundw
   case rel=>exact ⟨k+1,by omega,by go_num,a5,im,rfl,HN⟩
   case measure=>simp [intOf]; omega
  ·have i1: ¬ (k:Int) < (l.length:Int):=by omega
   have ek:k=l.length:=by omega
   subst ek;go_wp2;go_ret;refine ⟨a',cap',by rw [KG]; rfl,?_,HO.I.2.trans (HA.I.2.mono HO.I.2.size)⟩;have h5:=cq HA.I.1 HO.I.2.size;rw [LQ] at h5;rw [KG];exact h5
theorem uk (Me:Int) (base b:Nat) (l:List (au × Nat)) (w:World) (h:Shelf bQ (fun x:au=>x.id) 160 w base b l) (hl:l.length≤1048576) (hwf: ∀ p∈(RW (fun x:au=>x.id) l),(Lit.int .i64 p.1).wf=true):
  Calls J3 108 #[.agg #[.int .i64 Me,.map (some b)]] w fun e w'=>mY bm 160 w (l.map (·.1)) e w':=by
 obtain ⟨i0,hi,e0⟩:=Kw.1 kh;simp only [Kx] at e0;have HI:Hid (Tryz.prog.info? 160=some i0∧i0.zero=some _∧i0.size=3∧i0.bytes=40):=⟨hi,e0⟩
 have H:Hid (Shelf bQ (fun x:au=>x.id) 160 (w.alloc (.cells #[.int .i64 Me,.map (some b)] 175)) base b l∧(∀ p∈(RW (fun x:au=>x.id) l),(Lit.int .i64 p.1).wf=true)∧Below w.heap.size w (w.alloc (.cells #[.int .i64 Me,.map (some b)] 175))):=⟨h.below ((Kp _ _).alloc (Ki _) _),hwf,(Kp _ _).alloc (Ki _) _⟩
 have HK:Hid ((RW (fun x:au=>x.id) l).length=l.length):=bZ l;clear h hwf hi e0
 go_enter Tryz.func108,Tryz.ntmps108
 go_wp2_with fail;generalize w.alloc (.cells #[.int .i64 Me,.map (some b)] 175)=W at *;refine (wF Me b (RW (fun x:au=>x.id) l) W H.I.1.map (by rw [HK.I]; exact hl) H.I.2.1).mono ?_;rintro e w2 ⟨a,cap,rfl,hown,hb2⟩;obtain ⟨a',cap',hv,hrow⟩:=cr hown;cases hv;have HR:Hid (Row w2 a ((RW (fun x:au=>x.id) l).map fun p=>dt p.2)):=hrow;have HO:Hid (Shelf bQ (fun x:au=>x.id) 160 w2 base b l∧Below w.heap.size w w2):=⟨H.I.1.below hb2,H.I.2.2.trans (hb2.mono H.I.2.2.size)⟩
 rw [HK.I];clear hown hrow hb2;go_wp2_with fail
 go_loopw [3,9] (fun t i wr=> ∃ k:Nat,k≤l.length∧i= .int .i64 k∧ ∃ a' cap',t= .slice a' k cap'∧Hid (wr.ownsRow w2.heap.size 160 3 (.slice a' k cap') k (bm.flat ((l.take k).map (·.1)))∧Below w2.heap.size w2 wr)) (fun _ i _=>l.length - (intOf i).toNat)
 case atStart=>exact ⟨0,Ky _,rfl,none,0,rfl,⟨Ke _ _ _ _,Kp _ _⟩⟩
 case round=>
  obtain ⟨k,hk,rfl,a',cap',rfl,HA⟩:=hrel;by_cases hlt:k < l.length
  ·have qE:(0:Int)≤(k:Int):=by omega
   have i1:(k:Int) < (l.length:Int):=by omega
   obtain ⟨p,hp⟩: ∃ p,l[k]? =some p:=⟨_,Kz hlt⟩
   obtain ⟨g,ha,hc⟩:=(HR.I.below HA.I.2) k (dt p.2) (by simp [RW,hp]);subst ha;unfold dt at hc;have HP:Hid (l[k]? =some p):=hp;obtain ⟨s0,s1,s2⟩:=ia ((HO.I.1.below HA.I.2).box p (KA hp));have kT:=HA.I.2.size;clear hp;go_wp2_with (at_builtin; refine KD _ rfl _ _ 45 rfl w2.heap.size 160 i0 _ 3 40 Tryz.underlying45 HI.I.1 HI.I.2.1 HI.I.2.2.1 HI.I.2.2.2 rfl (by decide) (.slice a' k cap') k (bm.flat ((l.take k).map (·.1))) rfl (HA.I.1.alloc _) ⟨wr.heap.size,0,none⟩ 1 1 (bm.vals p.1) (by rfl) rfl (KE (cs:= #[.int .i64 p.1.id,.int .i64 p.1.max,.slice p.1.ak p.1.Ma.length p.1.aq]) (t:=160) (fr:=(0,0)) (Kj wr _)) (by simp [bm,nD,Value.oneCell']) (by unfold maxLen; omega) (by omega) (by simp; omega) ?_; intro v' w5 hown' hgrow hnil jV; obtain ⟨a5,im,rfl,-⟩:=cr hown'; have HN:Hid (w5.ownsRow w2.heap.size 160 3 (.slice a5 (k+1) im) (k+1) (bm.flat ((l.take (k+1)).map (·.1)))∧Below w2.heap.size w2 w5):=⟨by rw [cj HP.I,Kl,bm.dc]; exact hown',(HA.I.2.alloc kT _).grown hgrow (by simp; omega) (fun q hq=>(HA.I.1.lt q hq).1)⟩; clear hown' hgrow hnil jV);go_roundw
   case rel=>exact ⟨k+1,by omega,by go_num,a5,im,rfl,HN⟩
   case measure=>simp [intOf]; omega
  ·have i1: ¬ (k:Int) < (l.length:Int):=by omega
   have ek:k=l.length:=by omega
   subst ek;go_wp2;go_ret;refine ⟨a',cap',by rw [KG]; rfl,?_,HO.I.2.trans (HA.I.2.mono HO.I.2.size)⟩;have h5:=cq HA.I.1 HO.I.2.size;rw [LQ] at h5;rw [KG];exact h5
theorem AN (Me:Int) (base b:Nat) (l:List (bD × Nat)) (w:World) (h:Shelf eH (fun x:bD=>x.id) 184 w base b l) (hl:l.length≤1048576) (hwf: ∀ p∈(RW (fun x:bD=>x.id) l),(Lit.int .i64 p.1).wf=true):
  Calls J3 105 #[.agg #[.int .i64 Me,.map (some b)]] w fun e w'=>mY dm 184 w (l.map (·.1)) e w':=by
 obtain ⟨i0,hi,e0⟩:=Kw.1 yS;simp only [Kx] at e0;have HI:Hid (Tryz.prog.info? 184=some i0∧i0.zero=some _∧i0.size=3∧i0.bytes=24):=⟨hi,e0⟩
 have H:Hid (Shelf eH (fun x:bD=>x.id) 184 (w.alloc (.cells #[.int .i64 Me,.map (some b)] 166)) base b l∧(∀ p∈(RW (fun x:bD=>x.id) l),(Lit.int .i64 p.1).wf=true)∧Below w.heap.size w (w.alloc (.cells #[.int .i64 Me,.map (some b)] 166))):=⟨h.below ((Kp _ _).alloc (Ki _) _),hwf,(Kp _ _).alloc (Ki _) _⟩
 have HK:Hid ((RW (fun x:bD=>x.id) l).length=l.length):=bZ l;clear h hwf hi e0
 go_enter Tryz.func105,Tryz.ntmps105
 go_wp2_with fail;generalize w.alloc (.cells #[.int .i64 Me,.map (some b)] 166)=W at *;refine (CS Me b (RW (fun x:bD=>x.id) l) W H.I.1.map (by rw [HK.I]; exact hl) H.I.2.1).mono ?_;rintro e w2 ⟨a,cap,rfl,hown,hb2⟩;obtain ⟨a',cap',hv,hrow⟩:=cr hown;cases hv;have HR:Hid (Row w2 a ((RW (fun x:bD=>x.id) l).map fun p=>dt p.2)):=hrow;have HO:Hid (Shelf eH (fun x:bD=>x.id) 184 w2 base b l∧Below w.heap.size w w2):=⟨H.I.1.below hb2,H.I.2.2.trans (hb2.mono H.I.2.2.size)⟩
 rw [HK.I];clear hown hrow hb2;go_wp2_with fail
 go_loopw [3,9] (fun t i wr=> ∃ k:Nat,k≤l.length∧i= .int .i64 k∧ ∃ a' cap',t= .slice a' k cap'∧Hid (wr.ownsRow w2.heap.size 184 3 (.slice a' k cap') k (dm.flat ((l.take k).map (·.1)))∧Below w2.heap.size w2 wr)) (fun _ i _=>l.length - (intOf i).toNat)
 case atStart=>exact ⟨0,Ky _,rfl,none,0,rfl,⟨Ke _ _ _ _,Kp _ _⟩⟩
 case round=>
  obtain ⟨k,hk,rfl,a',cap',rfl,HA⟩:=hrel;by_cases hlt:k < l.length
  ·have qE:(0:Int)≤(k:Int):=by omega
   have i1:(k:Int) < (l.length:Int):=by omega
   obtain ⟨p,hp⟩: ∃ p,l[k]? =some p:=⟨_,Kz hlt⟩
   obtain ⟨g,ha,hc⟩:=(HR.I.below HA.I.2) k (dt p.2) (by simp [RW,hp]);subst ha;unfold dt at hc;have HP:Hid (l[k]? =some p):=hp;obtain ⟨s0,s1,s2⟩:=gm ((HO.I.1.below HA.I.2).box p (KA hp));have kT:=HA.I.2.size;clear hp;go_wp2_with (at_builtin; refine KD _ rfl _ _ 42 rfl w2.heap.size 184 i0 _ 3 24 Tryz.underlying42 HI.I.1 HI.I.2.1 HI.I.2.2.1 HI.I.2.2.2 rfl (by decide) (.slice a' k cap') k (dm.flat ((l.take k).map (·.1))) rfl (HA.I.1.alloc _) ⟨wr.heap.size,0,none⟩ 1 1 (dm.vals p.1) (by rfl) rfl (KE (cs:= #[.int .i64 p.1.id,.int .i64 p.1.n,.int .i64 p.1.max]) (t:=184) (fr:=(0,0)) (Kj wr _)) (by simp [dm,yz,Value.oneCell']) (by unfold maxLen; omega) (by omega) (by simp; omega) ?_; intro v' w5 hown' hgrow hnil jV; obtain ⟨a5,im,rfl,-⟩:=cr hown'; have HN:Hid (w5.ownsRow w2.heap.size 184 3 (.slice a5 (k+1) im) (k+1) (dm.flat ((l.take (k+1)).map (·.1)))∧Below w2.heap.size w2 w5):=⟨by rw [cj HP.I,Kl,dm.dc]; exact hown',(HA.I.2.alloc kT _).grown hgrow (by simp; omega) (fun q hq=>(HA.I.1.lt q hq).1)⟩; clear hown' hgrow hnil jV);go_roundw
   case rel=>exact ⟨k+1,by omega,by go_num,a5,im,rfl,HN⟩
   case measure=>simp [intOf]; omega
  ·have i1: ¬ (k:Int) < (l.length:Int):=by omega
   have ek:k=l.length:=by omega
   subst ek;go_wp2;go_ret;refine ⟨a',cap',by rw [KG]; rfl,?_,HO.I.2.trans (HA.I.2.mono HO.I.2.size)⟩;have h5:=cq HA.I.1 HO.I.2.size;rw [LQ] at h5;rw [KG];exact h5
theorem wC (Me:Int) (base b:Nat) (l:List (az × Nat)) (w:World) (h:Shelf cI (fun x:az=>x.id) 190 w base b l) (hl:l.length≤1048576) (hwf: ∀ p∈(RW (fun x:az=>x.id) l),(Lit.int .i64 p.1).wf=true):
  Calls J3 107 #[.agg #[.int .i64 Me,.map (some b)]] w fun e w'=>mY bG 190 w (l.map (·.1)) e w':=by
 obtain ⟨i0,hi,e0⟩:=Kw.1 sj;simp only [Kx] at e0;have HI:Hid (Tryz.prog.info? 190=some i0∧i0.zero=some _∧i0.size=3∧i0.bytes=32):=⟨hi,e0⟩
 have H:Hid (Shelf cI (fun x:az=>x.id) 190 (w.alloc (.cells #[.int .i64 Me,.map (some b)] 172)) base b l∧(∀ p∈(RW (fun x:az=>x.id) l),(Lit.int .i64 p.1).wf=true)∧Below w.heap.size w (w.alloc (.cells #[.int .i64 Me,.map (some b)] 172))):=⟨h.below ((Kp _ _).alloc (Ki _) _),hwf,(Kp _ _).alloc (Ki _) _⟩
 have HK:Hid ((RW (fun x:az=>x.id) l).length=l.length):=bZ l;clear h hwf hi e0
 go_enter Tryz.func107,Tryz.ntmps107
 go_wp2_with fail;generalize w.alloc (.cells #[.int .i64 Me,.map (some b)] 172)=W at *;refine (yB Me b (RW (fun x:az=>x.id) l) W H.I.1.map (by rw [HK.I]; exact hl) H.I.2.1).mono ?_;rintro e w2 ⟨a,cap,rfl,hown,hb2⟩;obtain ⟨a',cap',hv,hrow⟩:=cr hown;cases hv;have HR:Hid (Row w2 a ((RW (fun x:az=>x.id) l).map fun p=>dt p.2)):=hrow;have HO:Hid (Shelf cI (fun x:az=>x.id) 190 w2 base b l∧Below w.heap.size w w2):=⟨H.I.1.below hb2,H.I.2.2.trans (hb2.mono H.I.2.2.size)⟩
 rw [HK.I];clear hown hrow hb2;go_wp2_with fail
 go_loopw [3,9] (fun t i wr=> ∃ k:Nat,k≤l.length∧i= .int .i64 k∧ ∃ a' cap',t= .slice a' k cap'∧Hid (wr.ownsRow w2.heap.size 190 3 (.slice a' k cap') k (bG.flat ((l.take k).map (·.1)))∧Below w2.heap.size w2 wr)) (fun _ i _=>l.length - (intOf i).toNat)
 case atStart=>exact ⟨0,Ky _,rfl,none,0,rfl,⟨Ke _ _ _ _,Kp _ _⟩⟩
 case round=>
  obtain ⟨k,hk,rfl,a',cap',rfl,HA⟩:=hrel;by_cases hlt:k < l.length
  ·have qE:(0:Int)≤(k:Int):=by omega
   have i1:(k:Int) < (l.length:Int):=by omega
   obtain ⟨p,hp⟩: ∃ p,l[k]? =some p:=⟨_,Kz hlt⟩
   obtain ⟨g,ha,hc⟩:=(HR.I.below HA.I.2) k (dt p.2) (by simp [RW,hp]);subst ha;unfold dt at hc;have HP:Hid (l[k]? =some p):=hp;obtain ⟨s0,s1,s2⟩:=kJ ((HO.I.1.below HA.I.2).box p (KA hp));have kT:=HA.I.2.size;clear hp;go_wp2_with (at_builtin; refine KD _ rfl _ _ 44 rfl w2.heap.size 190 i0 _ 3 32 Tryz.underlying44 HI.I.1 HI.I.2.1 HI.I.2.2.1 HI.I.2.2.2 rfl (by decide) (.slice a' k cap') k (bG.flat ((l.take k).map (·.1))) rfl (HA.I.1.alloc _) ⟨wr.heap.size,0,none⟩ 1 1 (bG.vals p.1) (by rfl) rfl (KE (cs:= #[.int .i64 p.1.id,.bool p.1.shown,.string p.1.text]) (t:=190) (fr:=(0,0)) (Kj wr _)) (by simp [bG,sn,Value.oneCell']) (by unfold maxLen; omega) (by omega) (by simp; omega) ?_; intro v' w5 hown' hgrow hnil jV; obtain ⟨a5,im,rfl,-⟩:=cr hown'; have HN:Hid (w5.ownsRow w2.heap.size 190 3 (.slice a5 (k+1) im) (k+1) (bG.flat ((l.take (k+1)).map (·.1)))∧Below w2.heap.size w2 w5):=⟨by rw [cj HP.I,Kl,bG.dc]; exact hown',(HA.I.2.alloc kT _).grown hgrow (by simp; omega) (fun q hq=>(HA.I.1.lt q hq).1)⟩; clear hown' hgrow hnil jV);go_roundw
   case rel=>exact ⟨k+1,by omega,by go_num,a5,im,rfl,HN⟩
   case measure=>simp [intOf]; omega
  ·have i1: ¬ (k:Int) < (l.length:Int):=by omega
   have ek:k=l.length:=by omega
   subst ek;go_wp2;go_ret;refine ⟨a',cap',by rw [KG]; rfl,?_,HO.I.2.trans (HA.I.2.mono HO.I.2.size)⟩;have h5:=cq HA.I.1 HO.I.2.size;rw [LQ] at h5;rw [KG];exact h5
theorem wN (Me:Int) (base b:Nat) (l:List (aB × Nat)) (w:World) (h:Shelf cG (fun x:aB=>x.id) 187 w base b l) (hl:l.length≤1048576) (hwf: ∀ p∈(RW (fun x:aB=>x.id) l),(Lit.int .i64 p.1).wf=true):
  Calls J3 106 #[.agg #[.int .i64 Me,.map (some b)]] w fun e w'=>mY bJ 187 w (l.map (·.1)) e w':=by
 obtain ⟨i0,hi,e0⟩:=Kw.1 so;simp only [Kx] at e0;have HI:Hid (Tryz.prog.info? 187=some i0∧i0.zero=some _∧i0.size=2∧i0.bytes=16):=⟨hi,e0⟩
 have H:Hid (Shelf cG (fun x:aB=>x.id) 187 (w.alloc (.cells #[.int .i64 Me,.map (some b)] 169)) base b l∧(∀ p∈(RW (fun x:aB=>x.id) l),(Lit.int .i64 p.1).wf=true)∧Below w.heap.size w (w.alloc (.cells #[.int .i64 Me,.map (some b)] 169))):=⟨h.below ((Kp _ _).alloc (Ki _) _),hwf,(Kp _ _).alloc (Ki _) _⟩
 have HK:Hid ((RW (fun x:aB=>x.id) l).length=l.length):=bZ l;clear h hwf hi e0
 go_enter Tryz.func106,Tryz.ntmps106
 go_wp2_with fail;generalize w.alloc (.cells #[.int .i64 Me,.map (some b)] 169)=W at *;refine (yh Me b (RW (fun x:aB=>x.id) l) W H.I.1.map (by rw [HK.I]; exact hl) H.I.2.1).mono ?_;rintro e w2 ⟨a,cap,rfl,hown,hb2⟩;obtain ⟨a',cap',hv,hrow⟩:=cr hown;cases hv;have HR:Hid (Row w2 a ((RW (fun x:aB=>x.id) l).map fun p=>dt p.2)):=hrow;have HO:Hid (Shelf cG (fun x:aB=>x.id) 187 w2 base b l∧Below w.heap.size w w2):=⟨H.I.1.below hb2,H.I.2.2.trans (hb2.mono H.I.2.2.size)⟩
 rw [HK.I];clear hown hrow hb2;go_wp2_with fail
 go_loopw [3,9] (fun t i wr=> ∃ k:Nat,k≤l.length∧i= .int .i64 k∧ ∃ a' cap',t= .slice a' k cap'∧Hid (wr.ownsRow w2.heap.size 187 2 (.slice a' k cap') k (bJ.flat ((l.take k).map (·.1)))∧Below w2.heap.size w2 wr)) (fun _ i _=>l.length - (intOf i).toNat)
 case atStart=>exact ⟨0,Ky _,rfl,none,0,rfl,⟨Ke _ _ _ _,Kp _ _⟩⟩
 case round=>
  obtain ⟨k,hk,rfl,a',cap',rfl,HA⟩:=hrel;by_cases hlt:k < l.length
  ·have qE:(0:Int)≤(k:Int):=by omega
   have i1:(k:Int) < (l.length:Int):=by omega
   obtain ⟨p,hp⟩: ∃ p,l[k]? =some p:=⟨_,Kz hlt⟩
   obtain ⟨g,ha,hc⟩:=(HR.I.below HA.I.2) k (dt p.2) (by simp [RW,hp]);subst ha;unfold dt at hc;have HP:Hid (l[k]? =some p):=hp;obtain ⟨s0,s1⟩:=kF ((HO.I.1.below HA.I.2).box p (KA hp));have kT:=HA.I.2.size;clear hp;go_wp2_with (at_builtin; refine KD _ rfl _ _ 43 rfl w2.heap.size 187 i0 _ 2 16 Tryz.underlying43 HI.I.1 HI.I.2.1 HI.I.2.2.1 HI.I.2.2.2 rfl (by decide) (.slice a' k cap') k (bJ.flat ((l.take k).map (·.1))) rfl (HA.I.1.alloc _) ⟨wr.heap.size,0,none⟩ 1 1 (bJ.vals p.1) (by rfl) rfl (KE (cs:= #[.int .i64 p.1.id,.bool p.1.up]) (t:=187) (fr:=(0,0)) (Kj wr _)) (by simp [bJ,rY,Value.oneCell']) (by unfold maxLen; omega) (by omega) (by simp; omega) ?_; intro v' w5 hown' hgrow hnil jV; obtain ⟨a5,im,rfl,-⟩:=cr hown'; have HN:Hid (w5.ownsRow w2.heap.size 187 2 (.slice a5 (k+1) im) (k+1) (bJ.flat ((l.take (k+1)).map (·.1)))∧Below w2.heap.size w2 w5):=⟨by rw [cj HP.I,Kl,bJ.dc]; exact hown',(HA.I.2.alloc kT _).grown hgrow (by simp; omega) (fun q hq=>(HA.I.1.lt q hq).1)⟩; clear hown' hgrow hnil jV);go_roundw
   case rel=>exact ⟨k+1,by omega,by go_num,a5,im,rfl,HN⟩
   case measure=>simp [intOf]; omega
  ·have i1: ¬ (k:Int) < (l.length:Int):=by omega
   have ek:k=l.length:=by omega
   subst ek;go_wp2;go_ret;refine ⟨a',cap',by rw [KG]; rfl,?_,HO.I.2.trans (HA.I.2.mono HO.I.2.size)⟩;have h5:=cq HA.I.1 HO.I.2.size;rw [LQ] at h5;rw [KG];exact h5
end
section
open Go.RowKit Go.Maps
attribute [local go_sem ↓] Go.wp_at_zero Go.wp_at_succ
theorem Ux (m:Int) (a a':Option Addr) (l:List pA) (cap cap':Nat) (w:World) (hl:l.length≤1048576) (h:jq.bU w a l) (h':jq.bU w a' l):
  Calls J3 42 #[.agg #[.int .i64 m,.slice a l.length cap],.agg #[.int .i64 m,.slice a' l.length cap']] w fun e w'=>e= .returned (.bool true)∧Below w.heap.size w w':=by
 go_enter Tryz.func42,Tryz.ntmps42
 have hb:Below w.heap.size w ((w.alloc (.cells #[.int .i64 m,.slice a l.length cap] 33)).alloc (.cells #[.int .i64 m,.slice a' l.length cap'] 33)):=((Kp _ w).alloc (Ki _) _).alloc (by simp) _;have HB:=aA hb;have Mb:=UX a a' l cap cap' _ hl (h.below hb) (h'.below hb);clear h h' hb;go_wp2_with fail;refine Mb.mono ?_;rintro e w1 ⟨rfl,h1⟩;have H1:=aA h1;clear Mb h1;go_wp2;go_ret;exact ⟨rfl,HB.I.trans (H1.I.mono HB.I.size)⟩
structure EqK (w:World) (X:Nat) (k k':eA) (W:World):Prop where
 a:dr w X k W
 b:dr w (X+1) k' W
theorem EqK.below {w W W2:World} {X:Nat} {k k':eA} (h:EqK w X k k' W) (hb:Below W.heap.size W W2):EqK w X k k' W2:=⟨h.a.below hb,h.b.below hb⟩
theorem Uj (k k':eA) (w:World) (hw:k.fn.length≤1048576) (hl:k.parts.length≤1048576) (hc:k.eC.length≤1048576) (hk: ∀ x∈k.parts,x.pure.Small) (hp:k'.pure=k.pure) (h:eA.At w k) (h':eA.At w k'):
  Calls J3 12 #[.agg k.row,.agg k'.row] w fun e w'=>e= .returned (.bool true)∧Below w.heap.size w w':=by
 have e0:k'.now=k.now:=congrArg kd.now hp;have e1:k'.major=k.major:=congrArg kd.major hp;have e2:k'.fn=k.fn:=congrArg kd.fn hp;have e3:k'.parts.map (·.pure)=k.parts.map (·.pure):=congrArg kd.parts hp;have e4:k'.eC=k.eC:=congrArg kd.eC hp;have e5:k'.parts.length=k.parts.length:=by have:=congrArg List.length e3; simpa using this
 have hb:Below w.heap.size w ((w.alloc (.cells k.row 37)).alloc (.cells k'.row 37)):=((Kp _ w).alloc (Ki _) _).alloc (by simp) _;have S:Hid (EqK w w.heap.size k k' ((w.alloc (.cells k.row 37)).alloc (.cells k'.row 37))):=
  ⟨⟨(Below.heap_alloc _ _ _ (by simp)).trans (Kj _ _),h.below hb,hb⟩,⟨by have:=Kj (w.alloc (.cells k.row 37)) (.cells k'.row 37); simpa [Tk] using this,h'.below hb,hb⟩⟩
 have HK:Hid ((∀ x∈k.parts,x.pure.Small)∧k'.parts.map (·.pure)=k.parts.map (·.pure)∧k'.fn=k.fn∧k'.eC=k.eC):=⟨hk,e3,e2,e4⟩
 clear h h' hb hk hp e3
 go_enter Tryz.func12,Tryz.ntmps12
 go_upto_region 1 with fail;generalize (w.alloc (.cells k.row 37)).alloc (.cells k'.row 37)=W at *;obtain ⟨q0,q1,q2,q3,q4⟩:=S.I.a.box.cells;obtain ⟨r0,r1,r2,r3,r4⟩:=S.I.b.box.cells;rw [e0] at r0;rw [e1] at r1;rw [e2] at r2;have Mb:=Ux k.major k.vb k'.vb k.fn k.Te k'.Te W hw S.I.a.MT.fn (by have h:=S.I.b.MT.fn; rwa [e2] at h);go_wp2_with fail;refine Mb.mono ?_;clear Mb q0 q1 q2 q3 q4 r0 r1 r2 r3 r4;rintro e W1 ⟨rfl,hb⟩;replace S:=aA (S.I.below hb);clear hb;obtain ⟨q0,q1,q2,q3,q4⟩:=S.I.a.box.cells;obtain ⟨r0,r1,r2,r3,r4⟩:=S.I.b.box.cells;rw [e5] at r3;have Mb:=UA k.qn k'.qn k.parts k'.parts k.sa k'.sa W1 hl HK.I.1 HK.I.2.1 S.I.a.MT.parts S.I.b.MT.parts;go_wp2_with fail;refine Mb.mono ?_;clear Mb q0 q1 q2 q3 q4 r0 r1 r2 r3 r4;rintro e W2 ⟨rfl,hb⟩;replace S:=aA (S.I.below hb);clear hb;obtain ⟨q0,q1,q2,q3,q4⟩:=S.I.a.box.cells;obtain ⟨r0,r1,r2,r3,r4⟩:=S.I.b.box.cells;rw [e4] at r4;have Mb:=UC k.qi k'.qi k.eC k.tC k'.tC W2 hc S.I.a.MT.eC (by have h:=S.I.b.MT.eC; rwa [e4] at h);go_wp2_with fail;refine Mb.mono ?_;clear Mb q0 q1 q2 q3 q4 r0 r1 r2 r3 r4;rintro e W3 ⟨rfl,hb⟩;replace S:=aA (S.I.below hb);clear hb;go_wp2;go_ret;exact ⟨rfl,S.I.a.low⟩
end
end Go.Proofs.YteidkehoekbcaaaGreat
