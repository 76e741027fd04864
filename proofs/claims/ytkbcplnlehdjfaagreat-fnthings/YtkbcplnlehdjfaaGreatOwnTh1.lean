/- What the proof leans on, part 1: TdProc~x, TdSem~x, TdEvent~x, TdBoard~x, TdBuffer~x, TdPort~x. -/
import Derived.Test.YtkbcplnlehdjfaaGreatOwnB11
import Derived.Test.YtkbcplnlehdjfaaGreatOwnB13
import Derived.Test.YtkbcplnlehdjfaaGreatOwnB19
import Derived.Test.YtkbcplnlehdjfaaGreatOwnB20
import Derived.Test.YtkbcplnlehdjfaaGreatOwnTh0
set_option maxRecDepth 100000
set_option maxHeartbeats 8000000

namespace Go.Proofs.YtkbcplnlehdjfaaGreat
open Go.RowKit Go.Maps
theorem zj (most:Int) (base b:Nat) (l:List (ao × Nat)) (w:World) (h:Shelf aX (fun x:ao=>x.id) 43 w base b l) (hl:l.length≤1048576) (hwf: ∀ p∈(keysOf (fun x:ao=>x.id) l),(Lit.int .i64 p.1).wf=true):
  Calls Tryz.prog 165 #[.agg #[.int .i64 most,.map (some b)]] w fun e w'=>mY bg 43 w (l.map (·.1)) e w':=by
 obtain ⟨i0,hi,e0⟩:=Option.map_eq_some_iff.1 nb
 simp only [Prod.mk.injEq] at e0
 have HI:Hid (Tryz.prog.info? 43=some i0∧i0.zero=some _∧i0.size=12∧i0.bytes=128):=⟨hi,e0⟩
 have H:Hid (Shelf aX (fun x:ao=>x.id) 43 (w.alloc (.cells #[.int .i64 most,.map (some b)] 110)) base b l∧(∀ p∈(keysOf (fun x:ao=>x.id) l),(Lit.int .i64 p.1).wf=true)∧Below w.heap.size w (w.alloc (.cells #[.int .i64 most,.map (some b)] 110))):=⟨h.below ((Below.refl _ _).alloc (Nat.le_refl _) _),hwf,(Below.refl _ _).alloc (Nat.le_refl _) _⟩
 have HK:Hid ((keysOf (fun x:ao=>x.id) l).length=l.length):=bZ l
 clear h hwf hi e0
 go_enter Tryz.func165,Tryz.ntmps165
 go_wp2_with fail
 generalize w.alloc (.cells #[.int .i64 most,.map (some b)] 110)=W at *
 refine (mq most b (keysOf (fun x:ao=>x.id) l) W H.out.1.map (by rw [HK.out]; exact hl) H.out.2.1).mono ?_
 rintro e w2 ⟨a,cap,rfl,hown,hb2⟩
 obtain ⟨a',cap',hv,hrow⟩:=cr hown
 cases hv
 have HR:Hid (Row w2 a ((keysOf (fun x:ao=>x.id) l).map fun p=>dt p.2)):=hrow
 have HO:Hid (Shelf aX (fun x:ao=>x.id) 43 w2 base b l∧Below w.heap.size w w2):=⟨H.out.1.below hb2,H.out.2.2.trans (hb2.mono H.out.2.2.size)⟩
 rw [HK.out]
 clear hown hrow hb2
 go_wp2_with fail
 go_loopw [3,9] (fun t i wr=> ∃ k:Nat,k≤l.length∧i= .int .i64 k∧ ∃ a' cap',t= .slice a' k cap'∧Hid (wr.ownsRow w2.heap.size 43 12 (.slice a' k cap') k (bg.flat ((l.take k).map (·.1)))∧Below w2.heap.size w2 wr)) (fun _ i _=>l.length - (intOf i).toNat)
 case atStart=>exact ⟨0,Nat.zero_le _,rfl,none,0,rfl,⟨World.ownsRow_nil _ _ _ _,Below.refl _ _⟩⟩
 case round=>
  obtain ⟨k,hk,rfl,a',cap',rfl,HA⟩:=hrel
  by_cases hlt:k < l.length
  ·have qE:(0:Int)≤(k:Int):=by omega
   have i1:(k:Int) < (l.length:Int):=by omega
   obtain ⟨p,hp⟩: ∃ p,l[k]? =some p:=⟨_,List.getElem?_eq_getElem hlt⟩
   obtain ⟨g,ha,hc⟩:=(HR.out.below HA.out.2) k (dt p.2) (by simp [keysOf,hp])
   subst ha
   unfold dt at hc
   have HP:Hid (l[k]? =some p):=hp
   obtain ⟨s0,s1,s2,s3,s4,s5,s6,s7,s8,s9,s10,s11⟩:=bo ((HO.out.1.below HA.out.2).box p (List.mem_of_getElem? hp))
   have kT:=HA.out.2.size
   clear hp
   go_wp2_with (at_builtin; refine wpList_append_own_at _ rfl _ _ 25 rfl w2.heap.size 43 i0 _ 12 128 Tryz.underlying25 HI.out.1 HI.out.2.1 HI.out.2.2.1 HI.out.2.2.2 rfl (by decide) (.slice a' k cap') k (bg.flat ((l.take k).map (·.1))) rfl (HA.out.1.alloc _) ⟨wr.heap.size,0,none⟩ 1 1 (bg.vals p.1) (by rfl) rfl (World.news_of_block (cs:= #[.int .i64 p.1.id,.int .i64 p.1.prio,.slice p.1.aY p.1.prog.length p.1.bH,.int .i64 p.1.state,.int .i64 p.1.pc,.int .i64 p.1.left,.int .i64 p.1.wake,.int .i64 p.1.on,.string p.1.held,.string p.1.got,.int .i64 p.1.code,.int .i64 p.1.since]) (t:=43) (fr:=(0,0)) (heap_alloc_new wr _)) (by simp [bg,qN,Value.oneCell']) (by unfold maxLen; omega) (by omega) (by simp; omega) ?_; intro v' w5 hown' hgrow hnil jV; obtain ⟨a5,im,rfl,-⟩:=cr hown'; have HN:Hid (w5.ownsRow w2.heap.size 43 12 (.slice a5 (k+1) im) (k+1) (bg.flat ((l.take (k+1)).map (·.1)))∧Below w2.heap.size w2 w5):=⟨by rw [cj HP.out,List.map_append,bg.dc]; exact hown',(HA.out.2.alloc kT _).grown hgrow (by simp; omega) (fun q hq=>(HA.out.1.lt q hq).1)⟩; clear hown' hgrow hnil jV)
   go_roundw
   case rel=>exact ⟨k+1,by omega,by go_num,a5,im,rfl,HN⟩
   case measure=>simp [intOf]; omega
  ·have i1: ¬ (k:Int) < (l.length:Int):=by omega
   have ek:k=l.length:=by omega
   subst ek
   go_wp2
   go_ret
   refine ⟨a',cap',by rw [List.length_map]; rfl,?_,HO.out.2.trans (HA.out.2.mono HO.out.2.size)⟩
   have h5:=cq HA.out.1 HO.out.2.size
   rw [List.take_length] at h5
   rw [List.length_map]
   exact h5
theorem AN (most:Int) (base b:Nat) (l:List (bD × Nat)) (w:World) (h:Shelf eH (fun x:bD=>x.id) 49 w base b l) (hl:l.length≤1048576) (hwf: ∀ p∈(keysOf (fun x:bD=>x.id) l),(Lit.int .i64 p.1).wf=true):
  Calls Tryz.prog 166 #[.agg #[.int .i64 most,.map (some b)]] w fun e w'=>mY dm 49 w (l.map (·.1)) e w':=by
 obtain ⟨i0,hi,e0⟩:=Option.map_eq_some_iff.1 yS
 simp only [Prod.mk.injEq] at e0
 have HI:Hid (Tryz.prog.info? 49=some i0∧i0.zero=some _∧i0.size=3∧i0.bytes=24):=⟨hi,e0⟩
 have H:Hid (Shelf eH (fun x:bD=>x.id) 49 (w.alloc (.cells #[.int .i64 most,.map (some b)] 113)) base b l∧(∀ p∈(keysOf (fun x:bD=>x.id) l),(Lit.int .i64 p.1).wf=true)∧Below w.heap.size w (w.alloc (.cells #[.int .i64 most,.map (some b)] 113))):=⟨h.below ((Below.refl _ _).alloc (Nat.le_refl _) _),hwf,(Below.refl _ _).alloc (Nat.le_refl _) _⟩
 have HK:Hid ((keysOf (fun x:bD=>x.id) l).length=l.length):=bZ l
 clear h hwf hi e0
 go_enter Tryz.func166,Tryz.ntmps166
 go_wp2_with fail
 generalize w.alloc (.cells #[.int .i64 most,.map (some b)] 113)=W at *
 refine (CS most b (keysOf (fun x:bD=>x.id) l) W H.out.1.map (by rw [HK.out]; exact hl) H.out.2.1).mono ?_
 rintro e w2 ⟨a,cap,rfl,hown,hb2⟩
 obtain ⟨a',cap',hv,hrow⟩:=cr hown
 cases hv
 have HR:Hid (Row w2 a ((keysOf (fun x:bD=>x.id) l).map fun p=>dt p.2)):=hrow
 have HO:Hid (Shelf eH (fun x:bD=>x.id) 49 w2 base b l∧Below w.heap.size w w2):=⟨H.out.1.below hb2,H.out.2.2.trans (hb2.mono H.out.2.2.size)⟩
 rw [HK.out]
 clear hown hrow hb2
 go_wp2_with fail
 go_loopw [3,9] (fun t i wr=> ∃ k:Nat,k≤l.length∧i= .int .i64 k∧ ∃ a' cap',t= .slice a' k cap'∧Hid (wr.ownsRow w2.heap.size 49 3 (.slice a' k cap') k (dm.flat ((l.take k).map (·.1)))∧Below w2.heap.size w2 wr)) (fun _ i _=>l.length - (intOf i).toNat)
 case atStart=>exact ⟨0,Nat.zero_le _,rfl,none,0,rfl,⟨World.ownsRow_nil _ _ _ _,Below.refl _ _⟩⟩
 case round=>
  obtain ⟨k,hk,rfl,a',cap',rfl,HA⟩:=hrel
  by_cases hlt:k < l.length
  ·have qE:(0:Int)≤(k:Int):=by omega
   have i1:(k:Int) < (l.length:Int):=by omega
   obtain ⟨p,hp⟩: ∃ p,l[k]? =some p:=⟨_,List.getElem?_eq_getElem hlt⟩
   obtain ⟨g,ha,hc⟩:=(HR.out.below HA.out.2) k (dt p.2) (by simp [keysOf,hp])
   subst ha
   unfold dt at hc
   have HP:Hid (l[k]? =some p):=hp
   obtain ⟨s0,s1,s2⟩:=gm ((HO.out.1.below HA.out.2).box p (List.mem_of_getElem? hp))
   have kT:=HA.out.2.size
   clear hp
   go_wp2_with (at_builtin; refine wpList_append_own_at _ rfl _ _ 26 rfl w2.heap.size 49 i0 _ 3 24 Tryz.underlying26 HI.out.1 HI.out.2.1 HI.out.2.2.1 HI.out.2.2.2 rfl (by decide) (.slice a' k cap') k (dm.flat ((l.take k).map (·.1))) rfl (HA.out.1.alloc _) ⟨wr.heap.size,0,none⟩ 1 1 (dm.vals p.1) (by rfl) rfl (World.news_of_block (cs:= #[.int .i64 p.1.id,.int .i64 p.1.n,.int .i64 p.1.max]) (t:=49) (fr:=(0,0)) (heap_alloc_new wr _)) (by simp [dm,yz,Value.oneCell']) (by unfold maxLen; omega) (by omega) (by simp; omega) ?_; intro v' w5 hown' hgrow hnil jV; obtain ⟨a5,im,rfl,-⟩:=cr hown'; have HN:Hid (w5.ownsRow w2.heap.size 49 3 (.slice a5 (k+1) im) (k+1) (dm.flat ((l.take (k+1)).map (·.1)))∧Below w2.heap.size w2 w5):=⟨by rw [cj HP.out,List.map_append,dm.dc]; exact hown',(HA.out.2.alloc kT _).grown hgrow (by simp; omega) (fun q hq=>(HA.out.1.lt q hq).1)⟩; clear hown' hgrow hnil jV)
   go_roundw
   case rel=>exact ⟨k+1,by omega,by go_num,a5,im,rfl,HN⟩
   case measure=>simp [intOf]; omega
  ·have i1: ¬ (k:Int) < (l.length:Int):=by omega
   have ek:k=l.length:=by omega
   subst ek
   go_wp2
   go_ret
   refine ⟨a',cap',by rw [List.length_map]; rfl,?_,HO.out.2.trans (HA.out.2.mono HO.out.2.size)⟩
   have h5:=cq HA.out.1 HO.out.2.size
   rw [List.take_length] at h5
   rw [List.length_map]
   exact h5
theorem wN (most:Int) (base b:Nat) (l:List (aB × Nat)) (w:World) (h:Shelf cG (fun x:aB=>x.id) 138 w base b l) (hl:l.length≤1048576) (hwf: ∀ p∈(keysOf (fun x:aB=>x.id) l),(Lit.int .i64 p.1).wf=true):
  Calls Tryz.prog 167 #[.agg #[.int .i64 most,.map (some b)]] w fun e w'=>mY bJ 138 w (l.map (·.1)) e w':=by
 obtain ⟨i0,hi,e0⟩:=Option.map_eq_some_iff.1 so
 simp only [Prod.mk.injEq] at e0
 have HI:Hid (Tryz.prog.info? 138=some i0∧i0.zero=some _∧i0.size=2∧i0.bytes=16):=⟨hi,e0⟩
 have H:Hid (Shelf cG (fun x:aB=>x.id) 138 (w.alloc (.cells #[.int .i64 most,.map (some b)] 116)) base b l∧(∀ p∈(keysOf (fun x:aB=>x.id) l),(Lit.int .i64 p.1).wf=true)∧Below w.heap.size w (w.alloc (.cells #[.int .i64 most,.map (some b)] 116))):=⟨h.below ((Below.refl _ _).alloc (Nat.le_refl _) _),hwf,(Below.refl _ _).alloc (Nat.le_refl _) _⟩
 have HK:Hid ((keysOf (fun x:aB=>x.id) l).length=l.length):=bZ l
 clear h hwf hi e0
 go_enter Tryz.func167,Tryz.ntmps167
 go_wp2_with fail
 generalize w.alloc (.cells #[.int .i64 most,.map (some b)] 116)=W at *
 refine (yh most b (keysOf (fun x:aB=>x.id) l) W H.out.1.map (by rw [HK.out]; exact hl) H.out.2.1).mono ?_
 rintro e w2 ⟨a,cap,rfl,hown,hb2⟩
 obtain ⟨a',cap',hv,hrow⟩:=cr hown
 cases hv
 have HR:Hid (Row w2 a ((keysOf (fun x:aB=>x.id) l).map fun p=>dt p.2)):=hrow
 have HO:Hid (Shelf cG (fun x:aB=>x.id) 138 w2 base b l∧Below w.heap.size w w2):=⟨H.out.1.below hb2,H.out.2.2.trans (hb2.mono H.out.2.2.size)⟩
 rw [HK.out]
 clear hown hrow hb2
 go_wp2_with fail
 go_loopw [3,9] (fun t i wr=> ∃ k:Nat,k≤l.length∧i= .int .i64 k∧ ∃ a' cap',t= .slice a' k cap'∧Hid (wr.ownsRow w2.heap.size 138 2 (.slice a' k cap') k (bJ.flat ((l.take k).map (·.1)))∧Below w2.heap.size w2 wr)) (fun _ i _=>l.length - (intOf i).toNat)
 case atStart=>exact ⟨0,Nat.zero_le _,rfl,none,0,rfl,⟨World.ownsRow_nil _ _ _ _,Below.refl _ _⟩⟩
 case round=>
  obtain ⟨k,hk,rfl,a',cap',rfl,HA⟩:=hrel
  by_cases hlt:k < l.length
  ·have qE:(0:Int)≤(k:Int):=by omega
   have i1:(k:Int) < (l.length:Int):=by omega
   obtain ⟨p,hp⟩: ∃ p,l[k]? =some p:=⟨_,List.getElem?_eq_getElem hlt⟩
   obtain ⟨g,ha,hc⟩:=(HR.out.below HA.out.2) k (dt p.2) (by simp [keysOf,hp])
   subst ha
   unfold dt at hc
   have HP:Hid (l[k]? =some p):=hp
   obtain ⟨s0,s1⟩:=kF ((HO.out.1.below HA.out.2).box p (List.mem_of_getElem? hp))
   have kT:=HA.out.2.size
   clear hp
   go_wp2_with (at_builtin; refine wpList_append_own_at _ rfl _ _ 27 rfl w2.heap.size 138 i0 _ 2 16 Tryz.underlying27 HI.out.1 HI.out.2.1 HI.out.2.2.1 HI.out.2.2.2 rfl (by decide) (.slice a' k cap') k (bJ.flat ((l.take k).map (·.1))) rfl (HA.out.1.alloc _) ⟨wr.heap.size,0,none⟩ 1 1 (bJ.vals p.1) (by rfl) rfl (World.news_of_block (cs:= #[.int .i64 p.1.id,.bool p.1.up]) (t:=138) (fr:=(0,0)) (heap_alloc_new wr _)) (by simp [bJ,rY,Value.oneCell']) (by unfold maxLen; omega) (by omega) (by simp; omega) ?_; intro v' w5 hown' hgrow hnil jV; obtain ⟨a5,im,rfl,-⟩:=cr hown'; have HN:Hid (w5.ownsRow w2.heap.size 138 2 (.slice a5 (k+1) im) (k+1) (bJ.flat ((l.take (k+1)).map (·.1)))∧Below w2.heap.size w2 w5):=⟨by rw [cj HP.out,List.map_append,bJ.dc]; exact hown',(HA.out.2.alloc kT _).grown hgrow (by simp; omega) (fun q hq=>(HA.out.1.lt q hq).1)⟩; clear hown' hgrow hnil jV)
   go_roundw
   case rel=>exact ⟨k+1,by omega,by go_num,a5,im,rfl,HN⟩
   case measure=>simp [intOf]; omega
  ·have i1: ¬ (k:Int) < (l.length:Int):=by omega
   have ek:k=l.length:=by omega
   subst ek
   go_wp2
   go_ret
   refine ⟨a',cap',by rw [List.length_map]; rfl,?_,HO.out.2.trans (HA.out.2.mono HO.out.2.size)⟩
   have h5:=cq HA.out.1 HO.out.2.size
   rw [List.take_length] at h5
   rw [List.length_map]
   exact h5
theorem wC (most:Int) (base b:Nat) (l:List (az × Nat)) (w:World) (h:Shelf cI (fun x:az=>x.id) 141 w base b l) (hl:l.length≤1048576) (hwf: ∀ p∈(keysOf (fun x:az=>x.id) l),(Lit.int .i64 p.1).wf=true):
  Calls Tryz.prog 168 #[.agg #[.int .i64 most,.map (some b)]] w fun e w'=>mY bG 141 w (l.map (·.1)) e w':=by
 obtain ⟨i0,hi,e0⟩:=Option.map_eq_some_iff.1 sj
 simp only [Prod.mk.injEq] at e0
 have HI:Hid (Tryz.prog.info? 141=some i0∧i0.zero=some _∧i0.size=3∧i0.bytes=32):=⟨hi,e0⟩
 have H:Hid (Shelf cI (fun x:az=>x.id) 141 (w.alloc (.cells #[.int .i64 most,.map (some b)] 119)) base b l∧(∀ p∈(keysOf (fun x:az=>x.id) l),(Lit.int .i64 p.1).wf=true)∧Below w.heap.size w (w.alloc (.cells #[.int .i64 most,.map (some b)] 119))):=⟨h.below ((Below.refl _ _).alloc (Nat.le_refl _) _),hwf,(Below.refl _ _).alloc (Nat.le_refl _) _⟩
 have HK:Hid ((keysOf (fun x:az=>x.id) l).length=l.length):=bZ l
 clear h hwf hi e0
 go_enter Tryz.func168,Tryz.ntmps168
 go_wp2_with fail
 generalize w.alloc (.cells #[.int .i64 most,.map (some b)] 119)=W at *
 refine (yB most b (keysOf (fun x:az=>x.id) l) W H.out.1.map (by rw [HK.out]; exact hl) H.out.2.1).mono ?_
 rintro e w2 ⟨a,cap,rfl,hown,hb2⟩
 obtain ⟨a',cap',hv,hrow⟩:=cr hown
 cases hv
 have HR:Hid (Row w2 a ((keysOf (fun x:az=>x.id) l).map fun p=>dt p.2)):=hrow
 have HO:Hid (Shelf cI (fun x:az=>x.id) 141 w2 base b l∧Below w.heap.size w w2):=⟨H.out.1.below hb2,H.out.2.2.trans (hb2.mono H.out.2.2.size)⟩
 rw [HK.out]
 clear hown hrow hb2
 go_wp2_with fail
 go_loopw [3,9] (fun t i wr=> ∃ k:Nat,k≤l.length∧i= .int .i64 k∧ ∃ a' cap',t= .slice a' k cap'∧Hid (wr.ownsRow w2.heap.size 141 3 (.slice a' k cap') k (bG.flat ((l.take k).map (·.1)))∧Below w2.heap.size w2 wr)) (fun _ i _=>l.length - (intOf i).toNat)
 case atStart=>exact ⟨0,Nat.zero_le _,rfl,none,0,rfl,⟨World.ownsRow_nil _ _ _ _,Below.refl _ _⟩⟩
 case round=>
  obtain ⟨k,hk,rfl,a',cap',rfl,HA⟩:=hrel
  by_cases hlt:k < l.length
  ·have qE:(0:Int)≤(k:Int):=by omega
   have i1:(k:Int) < (l.length:Int):=by omega
   obtain ⟨p,hp⟩: ∃ p,l[k]? =some p:=⟨_,List.getElem?_eq_getElem hlt⟩
   obtain ⟨g,ha,hc⟩:=(HR.out.below HA.out.2) k (dt p.2) (by simp [keysOf,hp])
   subst ha
   unfold dt at hc
   have HP:Hid (l[k]? =some p):=hp
   obtain ⟨s0,s1,s2⟩:=kJ ((HO.out.1.below HA.out.2).box p (List.mem_of_getElem? hp))
   have kT:=HA.out.2.size
   clear hp
   go_wp2_with (at_builtin; refine wpList_append_own_at _ rfl _ _ 28 rfl w2.heap.size 141 i0 _ 3 32 Tryz.underlying28 HI.out.1 HI.out.2.1 HI.out.2.2.1 HI.out.2.2.2 rfl (by decide) (.slice a' k cap') k (bG.flat ((l.take k).map (·.1))) rfl (HA.out.1.alloc _) ⟨wr.heap.size,0,none⟩ 1 1 (bG.vals p.1) (by rfl) rfl (World.news_of_block (cs:= #[.int .i64 p.1.id,.bool p.1.shown,.string p.1.text]) (t:=141) (fr:=(0,0)) (heap_alloc_new wr _)) (by simp [bG,sn,Value.oneCell']) (by unfold maxLen; omega) (by omega) (by simp; omega) ?_; intro v' w5 hown' hgrow hnil jV; obtain ⟨a5,im,rfl,-⟩:=cr hown'; have HN:Hid (w5.ownsRow w2.heap.size 141 3 (.slice a5 (k+1) im) (k+1) (bG.flat ((l.take (k+1)).map (·.1)))∧Below w2.heap.size w2 w5):=⟨by rw [cj HP.out,List.map_append,bG.dc]; exact hown',(HA.out.2.alloc kT _).grown hgrow (by simp; omega) (fun q hq=>(HA.out.1.lt q hq).1)⟩; clear hown' hgrow hnil jV)
   go_roundw
   case rel=>exact ⟨k+1,by omega,by go_num,a5,im,rfl,HN⟩
   case measure=>simp [intOf]; omega
  ·have i1: ¬ (k:Int) < (l.length:Int):=by omega
   have ek:k=l.length:=by omega
   subst ek
   go_wp2
   go_ret
   refine ⟨a',cap',by rw [List.length_map]; rfl,?_,HO.out.2.trans (HA.out.2.mono HO.out.2.size)⟩
   have h5:=cq HA.out.1 HO.out.2.size
   rw [List.take_length] at h5
   rw [List.length_map]
   exact h5
theorem uk (most:Int) (base b:Nat) (l:List (au × Nat)) (w:World) (h:Shelf bQ (fun x:au=>x.id) 144 w base b l) (hl:l.length≤1048576) (hwf: ∀ p∈(keysOf (fun x:au=>x.id) l),(Lit.int .i64 p.1).wf=true):
  Calls Tryz.prog 169 #[.agg #[.int .i64 most,.map (some b)]] w fun e w'=>mY bm 144 w (l.map (·.1)) e w':=by
 obtain ⟨i0,hi,e0⟩:=Option.map_eq_some_iff.1 kh
 simp only [Prod.mk.injEq] at e0
 have HI:Hid (Tryz.prog.info? 144=some i0∧i0.zero=some _∧i0.size=3∧i0.bytes=40):=⟨hi,e0⟩
 have H:Hid (Shelf bQ (fun x:au=>x.id) 144 (w.alloc (.cells #[.int .i64 most,.map (some b)] 122)) base b l∧(∀ p∈(keysOf (fun x:au=>x.id) l),(Lit.int .i64 p.1).wf=true)∧Below w.heap.size w (w.alloc (.cells #[.int .i64 most,.map (some b)] 122))):=⟨h.below ((Below.refl _ _).alloc (Nat.le_refl _) _),hwf,(Below.refl _ _).alloc (Nat.le_refl _) _⟩
 have HK:Hid ((keysOf (fun x:au=>x.id) l).length=l.length):=bZ l
 clear h hwf hi e0
 go_enter Tryz.func169,Tryz.ntmps169
 go_wp2_with fail
 generalize w.alloc (.cells #[.int .i64 most,.map (some b)] 122)=W at *
 refine (wF most b (keysOf (fun x:au=>x.id) l) W H.out.1.map (by rw [HK.out]; exact hl) H.out.2.1).mono ?_
 rintro e w2 ⟨a,cap,rfl,hown,hb2⟩
 obtain ⟨a',cap',hv,hrow⟩:=cr hown
 cases hv
 have HR:Hid (Row w2 a ((keysOf (fun x:au=>x.id) l).map fun p=>dt p.2)):=hrow
 have HO:Hid (Shelf bQ (fun x:au=>x.id) 144 w2 base b l∧Below w.heap.size w w2):=⟨H.out.1.below hb2,H.out.2.2.trans (hb2.mono H.out.2.2.size)⟩
 rw [HK.out]
 clear hown hrow hb2
 go_wp2_with fail
 go_loopw [3,9] (fun t i wr=> ∃ k:Nat,k≤l.length∧i= .int .i64 k∧ ∃ a' cap',t= .slice a' k cap'∧Hid (wr.ownsRow w2.heap.size 144 3 (.slice a' k cap') k (bm.flat ((l.take k).map (·.1)))∧Below w2.heap.size w2 wr)) (fun _ i _=>l.length - (intOf i).toNat)
 case atStart=>exact ⟨0,Nat.zero_le _,rfl,none,0,rfl,⟨World.ownsRow_nil _ _ _ _,Below.refl _ _⟩⟩
 case round=>
  obtain ⟨k,hk,rfl,a',cap',rfl,HA⟩:=hrel
  by_cases hlt:k < l.length
  ·have qE:(0:Int)≤(k:Int):=by omega
   have i1:(k:Int) < (l.length:Int):=by omega
   obtain ⟨p,hp⟩: ∃ p,l[k]? =some p:=⟨_,List.getElem?_eq_getElem hlt⟩
   obtain ⟨g,ha,hc⟩:=(HR.out.below HA.out.2) k (dt p.2) (by simp [keysOf,hp])
   subst ha
   unfold dt at hc
   have HP:Hid (l[k]? =some p):=hp
   obtain ⟨s0,s1,s2⟩:=ia ((HO.out.1.below HA.out.2).box p (List.mem_of_getElem? hp))
   have kT:=HA.out.2.size
   clear hp
   go_wp2_with (at_builtin; refine wpList_append_own_at _ rfl _ _ 29 rfl w2.heap.size 144 i0 _ 3 40 Tryz.underlying29 HI.out.1 HI.out.2.1 HI.out.2.2.1 HI.out.2.2.2 rfl (by decide) (.slice a' k cap') k (bm.flat ((l.take k).map (·.1))) rfl (HA.out.1.alloc _) ⟨wr.heap.size,0,none⟩ 1 1 (bm.vals p.1) (by rfl) rfl (World.news_of_block (cs:= #[.int .i64 p.1.id,.int .i64 p.1.max,.slice p.1.ak p.1.items.length p.1.aq]) (t:=144) (fr:=(0,0)) (heap_alloc_new wr _)) (by simp [bm,nD,Value.oneCell']) (by unfold maxLen; omega) (by omega) (by simp; omega) ?_; intro v' w5 hown' hgrow hnil jV; obtain ⟨a5,im,rfl,-⟩:=cr hown'; have HN:Hid (w5.ownsRow w2.heap.size 144 3 (.slice a5 (k+1) im) (k+1) (bm.flat ((l.take (k+1)).map (·.1)))∧Below w2.heap.size w2 w5):=⟨by rw [cj HP.out,List.map_append,bm.dc]; exact hown',(HA.out.2.alloc kT _).grown hgrow (by simp; omega) (fun q hq=>(HA.out.1.lt q hq).1)⟩; clear hown' hgrow hnil jV)
   go_roundw
   case rel=>exact ⟨k+1,by omega,by go_num,a5,im,rfl,HN⟩
   case measure=>simp [intOf]; omega
  ·have i1: ¬ (k:Int) < (l.length:Int):=by omega
   have ek:k=l.length:=by omega
   subst ek
   go_wp2
   go_ret
   refine ⟨a',cap',by rw [List.length_map]; rfl,?_,HO.out.2.trans (HA.out.2.mono HO.out.2.size)⟩
   have h5:=cq HA.out.1 HO.out.2.size
   rw [List.take_length] at h5
   rw [List.length_map]
   exact h5
theorem zf (most:Int) (base b:Nat) (l:List (aM × Nat)) (w:World) (h:Shelf cW (fun x:aM=>x.id) 61 w base b l) (hl:l.length≤1048576) (hwf: ∀ p∈(keysOf (fun x:aM=>x.id) l),(Lit.int .i64 p.1).wf=true):
  Calls Tryz.prog 170 #[.agg #[.int .i64 most,.map (some b)]] w fun e w'=>mY bX 61 w (l.map (·.1)) e w':=by
 obtain ⟨i0,hi,e0⟩:=Option.map_eq_some_iff.1 na
 simp only [Prod.mk.injEq] at e0
 have HI:Hid (Tryz.prog.info? 61=some i0∧i0.zero=some _∧i0.size=5∧i0.bytes=48):=⟨hi,e0⟩
 have H:Hid (Shelf cW (fun x:aM=>x.id) 61 (w.alloc (.cells #[.int .i64 most,.map (some b)] 125)) base b l∧(∀ p∈(keysOf (fun x:aM=>x.id) l),(Lit.int .i64 p.1).wf=true)∧Below w.heap.size w (w.alloc (.cells #[.int .i64 most,.map (some b)] 125))):=⟨h.below ((Below.refl _ _).alloc (Nat.le_refl _) _),hwf,(Below.refl _ _).alloc (Nat.le_refl _) _⟩
 have HK:Hid ((keysOf (fun x:aM=>x.id) l).length=l.length):=bZ l
 clear h hwf hi e0
 go_enter Tryz.func170,Tryz.ntmps170
 go_wp2_with fail
 generalize w.alloc (.cells #[.int .i64 most,.map (some b)] 125)=W at *
 refine (Bx most b (keysOf (fun x:aM=>x.id) l) W H.out.1.map (by rw [HK.out]; exact hl) H.out.2.1).mono ?_
 rintro e w2 ⟨a,cap,rfl,hown,hb2⟩
 obtain ⟨a',cap',hv,hrow⟩:=cr hown
 cases hv
 have HR:Hid (Row w2 a ((keysOf (fun x:aM=>x.id) l).map fun p=>dt p.2)):=hrow
 have HO:Hid (Shelf cW (fun x:aM=>x.id) 61 w2 base b l∧Below w.heap.size w w2):=⟨H.out.1.below hb2,H.out.2.2.trans (hb2.mono H.out.2.2.size)⟩
 rw [HK.out]
 clear hown hrow hb2
 go_wp2_with fail
 go_loopw [3,9] (fun t i wr=> ∃ k:Nat,k≤l.length∧i= .int .i64 k∧ ∃ a' cap',t= .slice a' k cap'∧Hid (wr.ownsRow w2.heap.size 61 5 (.slice a' k cap') k (bX.flat ((l.take k).map (·.1)))∧Below w2.heap.size w2 wr)) (fun _ i _=>l.length - (intOf i).toNat)
 case atStart=>exact ⟨0,Nat.zero_le _,rfl,none,0,rfl,⟨World.ownsRow_nil _ _ _ _,Below.refl _ _⟩⟩
 case round=>
  obtain ⟨k,hk,rfl,a',cap',rfl,HA⟩:=hrel
  by_cases hlt:k < l.length
  ·have qE:(0:Int)≤(k:Int):=by omega
   have i1:(k:Int) < (l.length:Int):=by omega
   obtain ⟨p,hp⟩: ∃ p,l[k]? =some p:=⟨_,List.getElem?_eq_getElem hlt⟩
   obtain ⟨g,ha,hc⟩:=(HR.out.below HA.out.2) k (dt p.2) (by simp [keysOf,hp])
   subst ha
   unfold dt at hc
   have HP:Hid (l[k]? =some p):=hp
   obtain ⟨s0,s1,s2,s3,s4⟩:=gE ((HO.out.1.below HA.out.2).box p (List.mem_of_getElem? hp))
   have kT:=HA.out.2.size
   clear hp
   go_wp2_with (at_builtin; refine wpList_append_own_at _ rfl _ _ 30 rfl w2.heap.size 61 i0 _ 5 48 Tryz.underlying30 HI.out.1 HI.out.2.1 HI.out.2.2.1 HI.out.2.2.2 rfl (by decide) (.slice a' k cap') k (bX.flat ((l.take k).map (·.1))) rfl (HA.out.1.alloc _) ⟨wr.heap.size,0,none⟩ 1 1 (bX.vals p.1) (by rfl) rfl (World.news_of_block (cs:= #[.int .i64 p.1.id,.bool p.1.out,.bool p.1.queue,.int .i64 p.1.max,.slice p.1.ak p.1.items.length p.1.aq]) (t:=61) (fr:=(0,0)) (heap_alloc_new wr _)) (by simp [bX,qT,Value.oneCell']) (by unfold maxLen; omega) (by omega) (by simp; omega) ?_; intro v' w5 hown' hgrow hnil jV; obtain ⟨a5,im,rfl,-⟩:=cr hown'; have HN:Hid (w5.ownsRow w2.heap.size 61 5 (.slice a5 (k+1) im) (k+1) (bX.flat ((l.take (k+1)).map (·.1)))∧Below w2.heap.size w2 w5):=⟨by rw [cj HP.out,List.map_append,bX.dc]; exact hown',(HA.out.2.alloc kT _).grown hgrow (by simp; omega) (fun q hq=>(HA.out.1.lt q hq).1)⟩; clear hown' hgrow hnil jV)
   go_roundw
   case rel=>exact ⟨k+1,by omega,by go_num,a5,im,rfl,HN⟩
   case measure=>simp [intOf]; omega
  ·have i1: ¬ (k:Int) < (l.length:Int):=by omega
   have ek:k=l.length:=by omega
   subst ek
   go_wp2
   go_ret
   refine ⟨a',cap',by rw [List.length_map]; rfl,?_,HO.out.2.trans (HA.out.2.mono HO.out.2.size)⟩
   have h5:=cq HA.out.1 HO.out.2.size
   rw [List.take_length] at h5
   rw [List.length_map]
   exact h5
end Go.Proofs.YtkbcplnlehdjfaaGreat
