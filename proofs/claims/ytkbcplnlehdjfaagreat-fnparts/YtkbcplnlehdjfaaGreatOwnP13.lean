/- What the proof leans on, part 13. -/
import Derived.Test.YtkbcplnlehdjfaaGreatOwnP11
set_option maxRecDepth 100000
set_option maxHeartbeats 8000000
open Array renaming getElem?_eq_some_iff->J2
open Bool renaming false_eq_true->J5
open Go renaming callsIn_wide->LO,heap_alloc_new->Kj,wpList_append_own_at->KD
open Go.Proofs renaming enters_of->LP
open Go.Proofs.AnyZI renaming keys_gives->RD,keys_in->RC,sorted_in->RE
open Go.Proofs.Tryz renaming func231->RF,prog->J3
open Go.RowKit.Below renaming refl->Kp
open Go.World renaming news_of_block->KE,ownsRow_nil->Ke
open List renaming getElem?_eq_getElem->Kz,length_map->KG,map_append->Kl,map_map->Lv,mem_of_getElem?->KA,take_length->LQ
open Nat renaming le_refl->Ki,zero_le->Ky
open Option renaming map_eq_some_iff->Kw
open Prod.mk renaming injEq->Kx

namespace Go.Proofs.YtkbcplnlehdjfaaGreat
open Go.RowKit Go.Maps Go.Sort Go.Shelf
theorem tr (mb:Option Nat) (W:World):Calls J3 226 #[.map mb] W fun e w'=>e= .returned (.func (.func 242) #[] #[.pointer (some ⟨W.heap.size,0,none⟩)])∧w'=W.alloc (.cells #[.map mb] 120):=
 (LO (n:=5)).1 (RC Tryz.keysBuffer Fence.wide 5 trivial rfl mb W)
theorem oF (Bm b:Nat) (m:df) (W:World) (hBm:Bm < W.heap.size) (hc:W.cell? ⟨Bm,0,none⟩=some (.map (some b))) (h:cF W b m) (hm:m.length≤1048576):
  Calls J3 220 #[.func (.func 242) #[] #[.pointer (some ⟨Bm,0,none⟩)]] W fun e w'=> ∃ v:Value,e= .returned v∧w'.ownsRow W.heap.size 2 1 v m.length (m.map fun p=> .int .i64 p.1)∧Below W.heap.size W w':=by
 have hsz:Maps.size (gA m)=m.length:=size_map m;have hseq:SeqGives Fence.wide 2 J3 242 #[.pointer (some ⟨Bm,0,none⟩)] encZ (fun ss=>ss.Perm (intKeys (gA m))) (Maps.size (gA m)) W:=
  RD (ρ:=Tryz.keysBuffer_ren) { Tryz.keysBuffer with } Fence.wide _ trivial rfl (by omega) Bm b m.length (gA m) W hBm hc h.1
 have cS:=RE Tryz.sortedA Fence.wide 5 trivial trivial trivial trivial rfl (by omega) (Tryz.sortsA _) (LP RF (by kernel_rfl) rfl) 242 #[.pointer (some ⟨Bm,0,none⟩)] trivial (LP Tryz.func242 (by kernel_rfl) rfl) _ _ (by rw [hsz]; unfold maxLen; omega) (by rw [hsz]; omega) _ hseq
 change CallsIn _ _ J3 220 _ _ _ at cS
 refine (LO.1 cS).mono ?_;rintro e w' ⟨v,ss,rfl,hS,hrow,hnil,kj⟩;refine ⟨v,rfl,?_,kj⟩;rw [jG h.2 hS] at hrow;have hl:ss.length=m.length:=by
  rw [hS.length_eq,lU,KG]
 rw [hl,Lv] at hrow;exact hrow
theorem wt:(Tryz.prog.info? 224).map (fun i=>(i.zero,i.size,i.bytes))=some (some (.pointer none),1,8):=by kernel_rfl
theorem wF (Me:Int) (b:Nat) (m:df) (w:World) (h:cF w b m) (hm:m.length≤1048576) (hwf: ∀ p∈m,(Lit.int .i64 p.1).wf=true):
  Calls J3 210 #[.agg #[.int .i64 Me,.map (some b)]] w fun e w'=> ∃ a cap,e= .returned (.slice a m.length cap)∧w'.ownsRow w.heap.size 224 1 (.slice a m.length cap) m.length (m.map fun p=>dt p.2)∧Below w.heap.size w w':=by
 obtain ⟨i0,hi,e0⟩:=Kw.1 wt;simp only [Kx] at e0;have HI:Hid (Tryz.prog.info? 224=some i0∧i0.zero=some (.pointer none)∧i0.size=1∧i0.bytes=8):=⟨hi,e0⟩
 have HM:Hid (cF w b m∧ ∀ p∈m,(Lit.int .i64 p.1).wf=true):=⟨h,hwf⟩
 have hbl:b < w.heap.size:=h.lt;clear hi e0 h hwf
 go_enter Tryz.func210,Tryz.ntmps210
 go_wp2_with (go_at_call 226; refine (tr _ _).mono ?_; rintro e w' ⟨rfl,rfl⟩);refine (oF (w.heap.size+1) b m _ (by simp) (by simp) (HM.I.1.below (((Kp _ w).alloc (Ki _) _).alloc (by simp) _)) hm).mono ?_;rintro e w2 ⟨v,rfl,hown,hb2⟩;have cy:Hid (Below w.heap.size w w2):=(((Kp _ w).alloc (Ki _) _).alloc (by simp) _).trans (hb2.mono (by simp; omega));have HS:Hid (w2.heap[w.heap.size]? =some (.cells #[.int .i64 Me,.map (some b)] 122 (0,0))):=(hb2.block _ (by simp; omega)).trans ((PU (by simp)).trans (Kj _ _));obtain ⟨a,cap,hv,hrow⟩:=cr hown;have HR:Hid (Row w2 a (m.map fun p=> .int .i64 p.1)):=hrow;rw [hv];clear hv hown hrow hb2 v;go_wp2_with fail
 go_loopw [3,11] (fun l i wr=> ∃ k:Nat,k≤m.length∧i= .int .i64 k∧ ∃ a' cap',l= .slice a' k cap'∧Hid (wr.ownsRow w2.heap.size 224 1 (.slice a' k cap') k ((m.take k).map fun p=>dt p.2)∧Below w2.heap.size w2 wr)) (fun _ i _=>m.length - (intOf i).toNat)
 case atStart=>exact ⟨0,Ky _,rfl,none,0,rfl,⟨Ke _ _ _ _,Kp _ _⟩⟩
 case round=>
  obtain ⟨k,hk,rfl,a',cap',rfl,HO⟩:=hrel;by_cases hlt:k < m.length
  ·have qE:(0:Int)≤(k:Int):=by omega
   have i1:(k:Int) < (m.length:Int):=by omega
   obtain ⟨p,hp⟩: ∃ p,m[k]? =some p:=⟨_,Kz hlt⟩
   have hpm:=KA hp;obtain ⟨g,ha,hc⟩:=(HR.I.below HO.I.2) k (.int .i64 p.1) (by simp [hp]);subst ha;have oE:=cy.I.size;have kT:=HO.I.2.size;have ut:cF wr b m:=HM.I.1.below (cy.I.trans (HO.I.2.mono oE));have hlk:=ut.look Tryz.underlying120 (pS wr) (HM.I.2 p hpm) false;rw [jI ut.2 hpm] at hlk;have hsw:wr.heap[w.heap.size]? =some (.cells #[.int .i64 Me,.map (some b)] 122 (0,0)):=(HO.I.2.block _ (J2.1 HS.I).1).trans HS.I;have s1:wr.cell? ⟨w.heap.size,1,none⟩=some (.map (some b)):=by simp [World.cell?,hsw]
   have HP:Hid (m[k]? =some p):=hp;simp only [qz,dt,J5,if_false] at hlk;clear hp hpm ut hsw;go_wp2_with (at_builtin; refine KD _ rfl _ _ 261 rfl w2.heap.size 224 i0 (.pointer none) 1 8 Tryz.underlying261 HI.I.1 HI.I.2.1 HI.I.2.2.1 HI.I.2.2.2 rfl (by decide) (.slice a' k cap') k ((m.take k).map fun p=>dt p.2) rfl (HO.I.1.alloc _) ⟨wr.heap.size,0,none⟩ 1 1 [.pointer (some ⟨p.2,0,none⟩)] (by rfl) rfl (KE (cs:= #[.pointer (some ⟨p.2,0,none⟩)]) (t:=224) (fr:=(0,0)) (Kj wr _)) (by simp [Value.oneCell']) (by unfold maxLen; omega) (by omega) (by simp; omega) ?_; intro v' w5 hown' hgrow hnil jV; obtain ⟨a5,im,rfl,-⟩:=cr hown'; have HN:Hid (w5.ownsRow w2.heap.size 224 1 (.slice a5 (k+1) im) (k+1) ((m.take (k+1)).map fun p=>dt p.2)∧Below w2.heap.size w2 w5):=⟨by rw [cj HP.I,Kl]; exact hown',(HO.I.2.alloc kT _).grown hgrow (by simp; omega) (fun q hq=>(HO.I.1.lt q hq).1)⟩; clear hown' hgrow hnil jV);go_roundw
   case rel=>exact ⟨k+1,by omega,by go_num,a5,im,rfl,HN⟩
   case measure=>simp [intOf]; omega
  ·have i1: ¬ (k:Int) < (m.length:Int):=by omega
   have e:k=m.length:=by omega
   subst e;go_wp2;go_ret;refine ⟨a',cap',rfl,?_,cy.I.trans (HO.I.2.mono cy.I.size)⟩
   have:=cq HO.I.1 cy.I.size
   rwa [LQ] at this
end Go.Proofs.YtkbcplnlehdjfaaGreat

namespace Go.Proofs.YtkbcplnlehdjfaaGreat
open Go.RowKit Go.Maps Go.Sort Go.Shelf
theorem vq (mb:Option Nat) (W:World):Calls J3 224 #[.map mb] W fun e w'=>e= .returned (.func (.func 240) #[] #[.pointer (some ⟨W.heap.size,0,none⟩)])∧w'=W.alloc (.cells #[.map mb] 114):=
 (LO (n:=5)).1 (RC Tryz.keysEvent Fence.wide 5 trivial rfl mb W)
theorem pD (Bm b:Nat) (m:df) (W:World) (hBm:Bm < W.heap.size) (hc:W.cell? ⟨Bm,0,none⟩=some (.map (some b))) (h:cF W b m) (hm:m.length≤1048576):
  Calls J3 220 #[.func (.func 240) #[] #[.pointer (some ⟨Bm,0,none⟩)]] W fun e w'=> ∃ v:Value,e= .returned v∧w'.ownsRow W.heap.size 2 1 v m.length (m.map fun p=> .int .i64 p.1)∧Below W.heap.size W w':=by
 have hsz:Maps.size (gA m)=m.length:=size_map m;have hseq:SeqGives Fence.wide 2 J3 240 #[.pointer (some ⟨Bm,0,none⟩)] encZ (fun ss=>ss.Perm (intKeys (gA m))) (Maps.size (gA m)) W:=
  RD (ρ:=Tryz.keysEvent_ren) { Tryz.keysEvent with } Fence.wide _ trivial rfl (by omega) Bm b m.length (gA m) W hBm hc h.1
 have cS:=RE Tryz.sortedA Fence.wide 5 trivial trivial trivial trivial rfl (by omega) (Tryz.sortsA _) (LP RF (by kernel_rfl) rfl) 240 #[.pointer (some ⟨Bm,0,none⟩)] trivial (LP Tryz.func240 (by kernel_rfl) rfl) _ _ (by rw [hsz]; unfold maxLen; omega) (by rw [hsz]; omega) _ hseq
 change CallsIn _ _ J3 220 _ _ _ at cS
 refine (LO.1 cS).mono ?_;rintro e w' ⟨v,ss,rfl,hS,hrow,hnil,kj⟩;refine ⟨v,rfl,?_,kj⟩;rw [jG h.2 hS] at hrow;have hl:ss.length=m.length:=by
  rw [hS.length_eq,lU,KG]
 rw [hl,Lv] at hrow;exact hrow
theorem zk:(Tryz.prog.info? 222).map (fun i=>(i.zero,i.size,i.bytes))=some (some (.pointer none),1,8):=by kernel_rfl
theorem yh (Me:Int) (b:Nat) (m:df) (w:World) (h:cF w b m) (hm:m.length≤1048576) (hwf: ∀ p∈m,(Lit.int .i64 p.1).wf=true):
  Calls J3 208 #[.agg #[.int .i64 Me,.map (some b)]] w fun e w'=> ∃ a cap,e= .returned (.slice a m.length cap)∧w'.ownsRow w.heap.size 222 1 (.slice a m.length cap) m.length (m.map fun p=>dt p.2)∧Below w.heap.size w w':=by
 obtain ⟨i0,hi,e0⟩:=Kw.1 zk;simp only [Kx] at e0;have HI:Hid (Tryz.prog.info? 222=some i0∧i0.zero=some (.pointer none)∧i0.size=1∧i0.bytes=8):=⟨hi,e0⟩
 have HM:Hid (cF w b m∧ ∀ p∈m,(Lit.int .i64 p.1).wf=true):=⟨h,hwf⟩
 have hbl:b < w.heap.size:=h.lt;clear hi e0 h hwf
 go_enter Tryz.func208,Tryz.ntmps208
 go_wp2_with (go_at_call 224; refine (vq _ _).mono ?_; rintro e w' ⟨rfl,rfl⟩);refine (pD (w.heap.size+1) b m _ (by simp) (by simp) (HM.I.1.below (((Kp _ w).alloc (Ki _) _).alloc (by simp) _)) hm).mono ?_;rintro e w2 ⟨v,rfl,hown,hb2⟩;have cy:Hid (Below w.heap.size w w2):=(((Kp _ w).alloc (Ki _) _).alloc (by simp) _).trans (hb2.mono (by simp; omega));have HS:Hid (w2.heap[w.heap.size]? =some (.cells #[.int .i64 Me,.map (some b)] 116 (0,0))):=(hb2.block _ (by simp; omega)).trans ((PU (by simp)).trans (Kj _ _));obtain ⟨a,cap,hv,hrow⟩:=cr hown;have HR:Hid (Row w2 a (m.map fun p=> .int .i64 p.1)):=hrow;rw [hv];clear hv hown hrow hb2 v;go_wp2_with fail
 go_loopw [3,11] (fun l i wr=> ∃ k:Nat,k≤m.length∧i= .int .i64 k∧ ∃ a' cap',l= .slice a' k cap'∧Hid (wr.ownsRow w2.heap.size 222 1 (.slice a' k cap') k ((m.take k).map fun p=>dt p.2)∧Below w2.heap.size w2 wr)) (fun _ i _=>m.length - (intOf i).toNat)
 case atStart=>exact ⟨0,Ky _,rfl,none,0,rfl,⟨Ke _ _ _ _,Kp _ _⟩⟩
 case round=>
  obtain ⟨k,hk,rfl,a',cap',rfl,HO⟩:=hrel;by_cases hlt:k < m.length
  ·have qE:(0:Int)≤(k:Int):=by omega
   have i1:(k:Int) < (m.length:Int):=by omega
   obtain ⟨p,hp⟩: ∃ p,m[k]? =some p:=⟨_,Kz hlt⟩
   have hpm:=KA hp;obtain ⟨g,ha,hc⟩:=(HR.I.below HO.I.2) k (.int .i64 p.1) (by simp [hp]);subst ha;have oE:=cy.I.size;have kT:=HO.I.2.size;have ut:cF wr b m:=HM.I.1.below (cy.I.trans (HO.I.2.mono oE));have hlk:=ut.look Tryz.underlying114 (rE wr) (HM.I.2 p hpm) false;rw [jI ut.2 hpm] at hlk;have hsw:wr.heap[w.heap.size]? =some (.cells #[.int .i64 Me,.map (some b)] 116 (0,0)):=(HO.I.2.block _ (J2.1 HS.I).1).trans HS.I;have s1:wr.cell? ⟨w.heap.size,1,none⟩=some (.map (some b)):=by simp [World.cell?,hsw]
   have HP:Hid (m[k]? =some p):=hp;simp only [qz,dt,J5,if_false] at hlk;clear hp hpm ut hsw;go_wp2_with (at_builtin; refine KD _ rfl _ _ 257 rfl w2.heap.size 222 i0 (.pointer none) 1 8 Tryz.underlying257 HI.I.1 HI.I.2.1 HI.I.2.2.1 HI.I.2.2.2 rfl (by decide) (.slice a' k cap') k ((m.take k).map fun p=>dt p.2) rfl (HO.I.1.alloc _) ⟨wr.heap.size,0,none⟩ 1 1 [.pointer (some ⟨p.2,0,none⟩)] (by rfl) rfl (KE (cs:= #[.pointer (some ⟨p.2,0,none⟩)]) (t:=222) (fr:=(0,0)) (Kj wr _)) (by simp [Value.oneCell']) (by unfold maxLen; omega) (by omega) (by simp; omega) ?_; intro v' w5 hown' hgrow hnil jV; obtain ⟨a5,im,rfl,-⟩:=cr hown'; have HN:Hid (w5.ownsRow w2.heap.size 222 1 (.slice a5 (k+1) im) (k+1) ((m.take (k+1)).map fun p=>dt p.2)∧Below w2.heap.size w2 w5):=⟨by rw [cj HP.I,Kl]; exact hown',(HO.I.2.alloc kT _).grown hgrow (by simp; omega) (fun q hq=>(HO.I.1.lt q hq).1)⟩; clear hown' hgrow hnil jV);go_roundw
   case rel=>exact ⟨k+1,by omega,by go_num,a5,im,rfl,HN⟩
   case measure=>simp [intOf]; omega
  ·have i1: ¬ (k:Int) < (m.length:Int):=by omega
   have e:k=m.length:=by omega
   subst e;go_wp2;go_ret;refine ⟨a',cap',rfl,?_,cy.I.trans (HO.I.2.mono cy.I.size)⟩
   have:=cq HO.I.1 cy.I.size
   rwa [LQ] at this
end Go.Proofs.YtkbcplnlehdjfaaGreat

namespace Go.Proofs.YtkbcplnlehdjfaaGreat
open Go.RowKit Go.Maps Go.Sort Go.Shelf
theorem vL (mb:Option Nat) (W:World):Calls J3 225 #[.map mb] W fun e w'=>e= .returned (.func (.func 241) #[] #[.pointer (some ⟨W.heap.size,0,none⟩)])∧w'=W.alloc (.cells #[.map mb] 117):=
 (LO (n:=5)).1 (RC Tryz.keysBoard Fence.wide 5 trivial rfl mb W)
theorem pB (Bm b:Nat) (m:df) (W:World) (hBm:Bm < W.heap.size) (hc:W.cell? ⟨Bm,0,none⟩=some (.map (some b))) (h:cF W b m) (hm:m.length≤1048576):
  Calls J3 220 #[.func (.func 241) #[] #[.pointer (some ⟨Bm,0,none⟩)]] W fun e w'=> ∃ v:Value,e= .returned v∧w'.ownsRow W.heap.size 2 1 v m.length (m.map fun p=> .int .i64 p.1)∧Below W.heap.size W w':=by
 have hsz:Maps.size (gA m)=m.length:=size_map m;have hseq:SeqGives Fence.wide 2 J3 241 #[.pointer (some ⟨Bm,0,none⟩)] encZ (fun ss=>ss.Perm (intKeys (gA m))) (Maps.size (gA m)) W:=
  RD (ρ:=Tryz.keysBoard_ren) { Tryz.keysBoard with } Fence.wide _ trivial rfl (by omega) Bm b m.length (gA m) W hBm hc h.1
 have cS:=RE Tryz.sortedA Fence.wide 5 trivial trivial trivial trivial rfl (by omega) (Tryz.sortsA _) (LP RF (by kernel_rfl) rfl) 241 #[.pointer (some ⟨Bm,0,none⟩)] trivial (LP Tryz.func241 (by kernel_rfl) rfl) _ _ (by rw [hsz]; unfold maxLen; omega) (by rw [hsz]; omega) _ hseq
 change CallsIn _ _ J3 220 _ _ _ at cS
 refine (LO.1 cS).mono ?_;rintro e w' ⟨v,ss,rfl,hS,hrow,hnil,kj⟩;refine ⟨v,rfl,?_,kj⟩;rw [jG h.2 hS] at hrow;have hl:ss.length=m.length:=by
  rw [hS.length_eq,lU,KG]
 rw [hl,Lv] at hrow;exact hrow
theorem zM:(Tryz.prog.info? 223).map (fun i=>(i.zero,i.size,i.bytes))=some (some (.pointer none),1,8):=by kernel_rfl
theorem yB (Me:Int) (b:Nat) (m:df) (w:World) (h:cF w b m) (hm:m.length≤1048576) (hwf: ∀ p∈m,(Lit.int .i64 p.1).wf=true):
  Calls J3 209 #[.agg #[.int .i64 Me,.map (some b)]] w fun e w'=> ∃ a cap,e= .returned (.slice a m.length cap)∧w'.ownsRow w.heap.size 223 1 (.slice a m.length cap) m.length (m.map fun p=>dt p.2)∧Below w.heap.size w w':=by
 obtain ⟨i0,hi,e0⟩:=Kw.1 zM;simp only [Kx] at e0;have HI:Hid (Tryz.prog.info? 223=some i0∧i0.zero=some (.pointer none)∧i0.size=1∧i0.bytes=8):=⟨hi,e0⟩
 have HM:Hid (cF w b m∧ ∀ p∈m,(Lit.int .i64 p.1).wf=true):=⟨h,hwf⟩
 have hbl:b < w.heap.size:=h.lt;clear hi e0 h hwf
 go_enter Tryz.func209,Tryz.ntmps209
 go_wp2_with (go_at_call 225; refine (vL _ _).mono ?_; rintro e w' ⟨rfl,rfl⟩);refine (pB (w.heap.size+1) b m _ (by simp) (by simp) (HM.I.1.below (((Kp _ w).alloc (Ki _) _).alloc (by simp) _)) hm).mono ?_;rintro e w2 ⟨v,rfl,hown,hb2⟩;have cy:Hid (Below w.heap.size w w2):=(((Kp _ w).alloc (Ki _) _).alloc (by simp) _).trans (hb2.mono (by simp; omega));have HS:Hid (w2.heap[w.heap.size]? =some (.cells #[.int .i64 Me,.map (some b)] 119 (0,0))):=(hb2.block _ (by simp; omega)).trans ((PU (by simp)).trans (Kj _ _));obtain ⟨a,cap,hv,hrow⟩:=cr hown;have HR:Hid (Row w2 a (m.map fun p=> .int .i64 p.1)):=hrow;rw [hv];clear hv hown hrow hb2 v;go_wp2_with fail
 go_loopw [3,11] (fun l i wr=> ∃ k:Nat,k≤m.length∧i= .int .i64 k∧ ∃ a' cap',l= .slice a' k cap'∧Hid (wr.ownsRow w2.heap.size 223 1 (.slice a' k cap') k ((m.take k).map fun p=>dt p.2)∧Below w2.heap.size w2 wr)) (fun _ i _=>m.length - (intOf i).toNat)
 case atStart=>exact ⟨0,Ky _,rfl,none,0,rfl,⟨Ke _ _ _ _,Kp _ _⟩⟩
 case round=>
  obtain ⟨k,hk,rfl,a',cap',rfl,HO⟩:=hrel;by_cases hlt:k < m.length
  ·have qE:(0:Int)≤(k:Int):=by omega
   have i1:(k:Int) < (m.length:Int):=by omega
   obtain ⟨p,hp⟩: ∃ p,m[k]? =some p:=⟨_,Kz hlt⟩
   have hpm:=KA hp;obtain ⟨g,ha,hc⟩:=(HR.I.below HO.I.2) k (.int .i64 p.1) (by simp [hp]);subst ha;have oE:=cy.I.size;have kT:=HO.I.2.size;have ut:cF wr b m:=HM.I.1.below (cy.I.trans (HO.I.2.mono oE));have hlk:=ut.look Tryz.underlying117 (qW wr) (HM.I.2 p hpm) false;rw [jI ut.2 hpm] at hlk;have hsw:wr.heap[w.heap.size]? =some (.cells #[.int .i64 Me,.map (some b)] 119 (0,0)):=(HO.I.2.block _ (J2.1 HS.I).1).trans HS.I;have s1:wr.cell? ⟨w.heap.size,1,none⟩=some (.map (some b)):=by simp [World.cell?,hsw]
   have HP:Hid (m[k]? =some p):=hp;simp only [qz,dt,J5,if_false] at hlk;clear hp hpm ut hsw;go_wp2_with (at_builtin; refine KD _ rfl _ _ 259 rfl w2.heap.size 223 i0 (.pointer none) 1 8 Tryz.underlying259 HI.I.1 HI.I.2.1 HI.I.2.2.1 HI.I.2.2.2 rfl (by decide) (.slice a' k cap') k ((m.take k).map fun p=>dt p.2) rfl (HO.I.1.alloc _) ⟨wr.heap.size,0,none⟩ 1 1 [.pointer (some ⟨p.2,0,none⟩)] (by rfl) rfl (KE (cs:= #[.pointer (some ⟨p.2,0,none⟩)]) (t:=223) (fr:=(0,0)) (Kj wr _)) (by simp [Value.oneCell']) (by unfold maxLen; omega) (by omega) (by simp; omega) ?_; intro v' w5 hown' hgrow hnil jV; obtain ⟨a5,im,rfl,-⟩:=cr hown'; have HN:Hid (w5.ownsRow w2.heap.size 223 1 (.slice a5 (k+1) im) (k+1) ((m.take (k+1)).map fun p=>dt p.2)∧Below w2.heap.size w2 w5):=⟨by rw [cj HP.I,Kl]; exact hown',(HO.I.2.alloc kT _).grown hgrow (by simp; omega) (fun q hq=>(HO.I.1.lt q hq).1)⟩; clear hown' hgrow hnil jV);go_roundw
   case rel=>exact ⟨k+1,by omega,by go_num,a5,im,rfl,HN⟩
   case measure=>simp [intOf]; omega
  ·have i1: ¬ (k:Int) < (m.length:Int):=by omega
   have e:k=m.length:=by omega
   subst e;go_wp2;go_ret;refine ⟨a',cap',rfl,?_,cy.I.trans (HO.I.2.mono cy.I.size)⟩
   have:=cq HO.I.1 cy.I.size
   rwa [LQ] at this
end Go.Proofs.YtkbcplnlehdjfaaGreat

namespace Go.Proofs.YtkbcplnlehdjfaaGreat
open Go.RowKit Go.Maps Go.Sort Go.Shelf
theorem wq (mb:Option Nat) (W:World):Calls J3 227 #[.map mb] W fun e w'=>e= .returned (.func (.func 243) #[] #[.pointer (some ⟨W.heap.size,0,none⟩)])∧w'=W.alloc (.cells #[.map mb] 123):=
 (LO (n:=5)).1 (RC Tryz.keysPort Fence.wide 5 trivial rfl mb W)
theorem pY (Bm b:Nat) (m:df) (W:World) (hBm:Bm < W.heap.size) (hc:W.cell? ⟨Bm,0,none⟩=some (.map (some b))) (h:cF W b m) (hm:m.length≤1048576):
  Calls J3 220 #[.func (.func 243) #[] #[.pointer (some ⟨Bm,0,none⟩)]] W fun e w'=> ∃ v:Value,e= .returned v∧w'.ownsRow W.heap.size 2 1 v m.length (m.map fun p=> .int .i64 p.1)∧Below W.heap.size W w':=by
 have hsz:Maps.size (gA m)=m.length:=size_map m;have hseq:SeqGives Fence.wide 2 J3 243 #[.pointer (some ⟨Bm,0,none⟩)] encZ (fun ss=>ss.Perm (intKeys (gA m))) (Maps.size (gA m)) W:=
  RD (ρ:=Tryz.keysPort_ren) { Tryz.keysPort with } Fence.wide _ trivial rfl (by omega) Bm b m.length (gA m) W hBm hc h.1
 have cS:=RE Tryz.sortedA Fence.wide 5 trivial trivial trivial trivial rfl (by omega) (Tryz.sortsA _) (LP RF (by kernel_rfl) rfl) 243 #[.pointer (some ⟨Bm,0,none⟩)] trivial (LP Tryz.func243 (by kernel_rfl) rfl) _ _ (by rw [hsz]; unfold maxLen; omega) (by rw [hsz]; omega) _ hseq
 change CallsIn _ _ J3 220 _ _ _ at cS
 refine (LO.1 cS).mono ?_;rintro e w' ⟨v,ss,rfl,hS,hrow,hnil,kj⟩;refine ⟨v,rfl,?_,kj⟩;rw [jG h.2 hS] at hrow;have hl:ss.length=m.length:=by
  rw [hS.length_eq,lU,KG]
 rw [hl,Lv] at hrow;exact hrow
theorem BK:(Tryz.prog.info? 225).map (fun i=>(i.zero,i.size,i.bytes))=some (some (.pointer none),1,8):=by kernel_rfl
theorem Bx (Me:Int) (b:Nat) (m:df) (w:World) (h:cF w b m) (hm:m.length≤1048576) (hwf: ∀ p∈m,(Lit.int .i64 p.1).wf=true):
  Calls J3 211 #[.agg #[.int .i64 Me,.map (some b)]] w fun e w'=> ∃ a cap,e= .returned (.slice a m.length cap)∧w'.ownsRow w.heap.size 225 1 (.slice a m.length cap) m.length (m.map fun p=>dt p.2)∧Below w.heap.size w w':=by
 obtain ⟨i0,hi,e0⟩:=Kw.1 BK;simp only [Kx] at e0;have HI:Hid (Tryz.prog.info? 225=some i0∧i0.zero=some (.pointer none)∧i0.size=1∧i0.bytes=8):=⟨hi,e0⟩
 have HM:Hid (cF w b m∧ ∀ p∈m,(Lit.int .i64 p.1).wf=true):=⟨h,hwf⟩
 have hbl:b < w.heap.size:=h.lt;clear hi e0 h hwf
 go_enter Tryz.func211,Tryz.ntmps211
 go_wp2_with (go_at_call 227; refine (wq _ _).mono ?_; rintro e w' ⟨rfl,rfl⟩);refine (pY (w.heap.size+1) b m _ (by simp) (by simp) (HM.I.1.below (((Kp _ w).alloc (Ki _) _).alloc (by simp) _)) hm).mono ?_;rintro e w2 ⟨v,rfl,hown,hb2⟩;have cy:Hid (Below w.heap.size w w2):=(((Kp _ w).alloc (Ki _) _).alloc (by simp) _).trans (hb2.mono (by simp; omega));have HS:Hid (w2.heap[w.heap.size]? =some (.cells #[.int .i64 Me,.map (some b)] 125 (0,0))):=(hb2.block _ (by simp; omega)).trans ((PU (by simp)).trans (Kj _ _));obtain ⟨a,cap,hv,hrow⟩:=cr hown;have HR:Hid (Row w2 a (m.map fun p=> .int .i64 p.1)):=hrow;rw [hv];clear hv hown hrow hb2 v;go_wp2_with fail
 go_loopw [3,11] (fun l i wr=> ∃ k:Nat,k≤m.length∧i= .int .i64 k∧ ∃ a' cap',l= .slice a' k cap'∧Hid (wr.ownsRow w2.heap.size 225 1 (.slice a' k cap') k ((m.take k).map fun p=>dt p.2)∧Below w2.heap.size w2 wr)) (fun _ i _=>m.length - (intOf i).toNat)
 case atStart=>exact ⟨0,Ky _,rfl,none,0,rfl,⟨Ke _ _ _ _,Kp _ _⟩⟩
 case round=>
  obtain ⟨k,hk,rfl,a',cap',rfl,HO⟩:=hrel;by_cases hlt:k < m.length
  ·have qE:(0:Int)≤(k:Int):=by omega
   have i1:(k:Int) < (m.length:Int):=by omega
   obtain ⟨p,hp⟩: ∃ p,m[k]? =some p:=⟨_,Kz hlt⟩
   have hpm:=KA hp;obtain ⟨g,ha,hc⟩:=(HR.I.below HO.I.2) k (.int .i64 p.1) (by simp [hp]);subst ha;have oE:=cy.I.size;have kT:=HO.I.2.size;have ut:cF wr b m:=HM.I.1.below (cy.I.trans (HO.I.2.mono oE));have hlk:=ut.look Tryz.underlying123 (sK wr) (HM.I.2 p hpm) false;rw [jI ut.2 hpm] at hlk;have hsw:wr.heap[w.heap.size]? =some (.cells #[.int .i64 Me,.map (some b)] 125 (0,0)):=(HO.I.2.block _ (J2.1 HS.I).1).trans HS.I;have s1:wr.cell? ⟨w.heap.size,1,none⟩=some (.map (some b)):=by simp [World.cell?,hsw]
   have HP:Hid (m[k]? =some p):=hp;simp only [qz,dt,J5,if_false] at hlk;clear hp hpm ut hsw;go_wp2_with (at_builtin; refine KD _ rfl _ _ 263 rfl w2.heap.size 225 i0 (.pointer none) 1 8 Tryz.underlying263 HI.I.1 HI.I.2.1 HI.I.2.2.1 HI.I.2.2.2 rfl (by decide) (.slice a' k cap') k ((m.take k).map fun p=>dt p.2) rfl (HO.I.1.alloc _) ⟨wr.heap.size,0,none⟩ 1 1 [.pointer (some ⟨p.2,0,none⟩)] (by rfl) rfl (KE (cs:= #[.pointer (some ⟨p.2,0,none⟩)]) (t:=225) (fr:=(0,0)) (Kj wr _)) (by simp [Value.oneCell']) (by unfold maxLen; omega) (by omega) (by simp; omega) ?_; intro v' w5 hown' hgrow hnil jV; obtain ⟨a5,im,rfl,-⟩:=cr hown'; have HN:Hid (w5.ownsRow w2.heap.size 225 1 (.slice a5 (k+1) im) (k+1) ((m.take (k+1)).map fun p=>dt p.2)∧Below w2.heap.size w2 w5):=⟨by rw [cj HP.I,Kl]; exact hown',(HO.I.2.alloc kT _).grown hgrow (by simp; omega) (fun q hq=>(HO.I.1.lt q hq).1)⟩; clear hown' hgrow hnil jV);go_roundw
   case rel=>exact ⟨k+1,by omega,by go_num,a5,im,rfl,HN⟩
   case measure=>simp [intOf]; omega
  ·have i1: ¬ (k:Int) < (m.length:Int):=by omega
   have e:k=m.length:=by omega
   subst e;go_wp2;go_ret;refine ⟨a',cap',rfl,?_,cy.I.trans (HO.I.2.mono cy.I.size)⟩
   have:=cq HO.I.1 cy.I.size
   rwa [LQ] at this
end Go.Proofs.YtkbcplnlehdjfaaGreat

namespace Go.Proofs.YtkbcplnlehdjfaaGreat
open Go.RowKit Go.Maps Go.Sort Go.Shelf
theorem yI (mb:Option Nat) (W:World):Calls J3 223 #[.map mb] W fun e w'=>e= .returned (.func (.func 239) #[] #[.pointer (some ⟨W.heap.size,0,none⟩)])∧w'=W.alloc (.cells #[.map mb] 111):=
 (LO (n:=5)).1 (RC Tryz.keysSem Fence.wide 5 trivial rfl mb W)
theorem qR (Bm b:Nat) (m:df) (W:World) (hBm:Bm < W.heap.size) (hc:W.cell? ⟨Bm,0,none⟩=some (.map (some b))) (h:cF W b m) (hm:m.length≤1048576):
  Calls J3 220 #[.func (.func 239) #[] #[.pointer (some ⟨Bm,0,none⟩)]] W fun e w'=> ∃ v:Value,e= .returned v∧w'.ownsRow W.heap.size 2 1 v m.length (m.map fun p=> .int .i64 p.1)∧Below W.heap.size W w':=by
 have hsz:Maps.size (gA m)=m.length:=size_map m;have hseq:SeqGives Fence.wide 2 J3 239 #[.pointer (some ⟨Bm,0,none⟩)] encZ (fun ss=>ss.Perm (intKeys (gA m))) (Maps.size (gA m)) W:=
  RD (ρ:=Tryz.keysSem_ren) { Tryz.keysSem with } Fence.wide _ trivial rfl (by omega) Bm b m.length (gA m) W hBm hc h.1
 have cS:=RE Tryz.sortedA Fence.wide 5 trivial trivial trivial trivial rfl (by omega) (Tryz.sortsA _) (LP RF (by kernel_rfl) rfl) 239 #[.pointer (some ⟨Bm,0,none⟩)] trivial (LP Tryz.func239 (by kernel_rfl) rfl) _ _ (by rw [hsz]; unfold maxLen; omega) (by rw [hsz]; omega) _ hseq
 change CallsIn _ _ J3 220 _ _ _ at cS
 refine (LO.1 cS).mono ?_;rintro e w' ⟨v,ss,rfl,hS,hrow,hnil,kj⟩;refine ⟨v,rfl,?_,kj⟩;rw [jG h.2 hS] at hrow;have hl:ss.length=m.length:=by
  rw [hS.length_eq,lU,KG]
 rw [hl,Lv] at hrow;exact hrow
theorem CX:(Tryz.prog.info? 221).map (fun i=>(i.zero,i.size,i.bytes))=some (some (.pointer none),1,8):=by kernel_rfl
theorem CS (Me:Int) (b:Nat) (m:df) (w:World) (h:cF w b m) (hm:m.length≤1048576) (hwf: ∀ p∈m,(Lit.int .i64 p.1).wf=true):
  Calls J3 207 #[.agg #[.int .i64 Me,.map (some b)]] w fun e w'=> ∃ a cap,e= .returned (.slice a m.length cap)∧w'.ownsRow w.heap.size 221 1 (.slice a m.length cap) m.length (m.map fun p=>dt p.2)∧Below w.heap.size w w':=by
 obtain ⟨i0,hi,e0⟩:=Kw.1 CX;simp only [Kx] at e0;have HI:Hid (Tryz.prog.info? 221=some i0∧i0.zero=some (.pointer none)∧i0.size=1∧i0.bytes=8):=⟨hi,e0⟩
 have HM:Hid (cF w b m∧ ∀ p∈m,(Lit.int .i64 p.1).wf=true):=⟨h,hwf⟩
 have hbl:b < w.heap.size:=h.lt;clear hi e0 h hwf
 go_enter Tryz.func207,Tryz.ntmps207
 go_wp2_with (go_at_call 223; refine (yI _ _).mono ?_; rintro e w' ⟨rfl,rfl⟩);refine (qR (w.heap.size+1) b m _ (by simp) (by simp) (HM.I.1.below (((Kp _ w).alloc (Ki _) _).alloc (by simp) _)) hm).mono ?_;rintro e w2 ⟨v,rfl,hown,hb2⟩;have cy:Hid (Below w.heap.size w w2):=(((Kp _ w).alloc (Ki _) _).alloc (by simp) _).trans (hb2.mono (by simp; omega));have HS:Hid (w2.heap[w.heap.size]? =some (.cells #[.int .i64 Me,.map (some b)] 113 (0,0))):=(hb2.block _ (by simp; omega)).trans ((PU (by simp)).trans (Kj _ _));obtain ⟨a,cap,hv,hrow⟩:=cr hown;have HR:Hid (Row w2 a (m.map fun p=> .int .i64 p.1)):=hrow;rw [hv];clear hv hown hrow hb2 v;go_wp2_with fail
 go_loopw [3,11] (fun l i wr=> ∃ k:Nat,k≤m.length∧i= .int .i64 k∧ ∃ a' cap',l= .slice a' k cap'∧Hid (wr.ownsRow w2.heap.size 221 1 (.slice a' k cap') k ((m.take k).map fun p=>dt p.2)∧Below w2.heap.size w2 wr)) (fun _ i _=>m.length - (intOf i).toNat)
 case atStart=>exact ⟨0,Ky _,rfl,none,0,rfl,⟨Ke _ _ _ _,Kp _ _⟩⟩
 case round=>
  obtain ⟨k,hk,rfl,a',cap',rfl,HO⟩:=hrel;by_cases hlt:k < m.length
  ·have qE:(0:Int)≤(k:Int):=by omega
   have i1:(k:Int) < (m.length:Int):=by omega
   obtain ⟨p,hp⟩: ∃ p,m[k]? =some p:=⟨_,Kz hlt⟩
   have hpm:=KA hp;obtain ⟨g,ha,hc⟩:=(HR.I.below HO.I.2) k (.int .i64 p.1) (by simp [hp]);subst ha;have oE:=cy.I.size;have kT:=HO.I.2.size;have ut:cF wr b m:=HM.I.1.below (cy.I.trans (HO.I.2.mono oE));have hlk:=ut.look Tryz.underlying111 (vU wr) (HM.I.2 p hpm) false;rw [jI ut.2 hpm] at hlk;have hsw:wr.heap[w.heap.size]? =some (.cells #[.int .i64 Me,.map (some b)] 113 (0,0)):=(HO.I.2.block _ (J2.1 HS.I).1).trans HS.I;have s1:wr.cell? ⟨w.heap.size,1,none⟩=some (.map (some b)):=by simp [World.cell?,hsw]
   have HP:Hid (m[k]? =some p):=hp;simp only [qz,dt,J5,if_false] at hlk;clear hp hpm ut hsw;go_wp2_with (at_builtin; refine KD _ rfl _ _ 255 rfl w2.heap.size 221 i0 (.pointer none) 1 8 Tryz.underlying255 HI.I.1 HI.I.2.1 HI.I.2.2.1 HI.I.2.2.2 rfl (by decide) (.slice a' k cap') k ((m.take k).map fun p=>dt p.2) rfl (HO.I.1.alloc _) ⟨wr.heap.size,0,none⟩ 1 1 [.pointer (some ⟨p.2,0,none⟩)] (by rfl) rfl (KE (cs:= #[.pointer (some ⟨p.2,0,none⟩)]) (t:=221) (fr:=(0,0)) (Kj wr _)) (by simp [Value.oneCell']) (by unfold maxLen; omega) (by omega) (by simp; omega) ?_; intro v' w5 hown' hgrow hnil jV; obtain ⟨a5,im,rfl,-⟩:=cr hown'; have HN:Hid (w5.ownsRow w2.heap.size 221 1 (.slice a5 (k+1) im) (k+1) ((m.take (k+1)).map fun p=>dt p.2)∧Below w2.heap.size w2 w5):=⟨by rw [cj HP.I,Kl]; exact hown',(HO.I.2.alloc kT _).grown hgrow (by simp; omega) (fun q hq=>(HO.I.1.lt q hq).1)⟩; clear hown' hgrow hnil jV);go_roundw
   case rel=>exact ⟨k+1,by omega,by go_num,a5,im,rfl,HN⟩
   case measure=>simp [intOf]; omega
  ·have i1: ¬ (k:Int) < (m.length:Int):=by omega
   have e:k=m.length:=by omega
   subst e;go_wp2;go_ret;refine ⟨a',cap',rfl,?_,cy.I.trans (HO.I.2.mono cy.I.size)⟩
   have:=cq HO.I.1 cy.I.size
   rwa [LQ] at this
end Go.Proofs.YtkbcplnlehdjfaaGreat
