/- What the proof leans on, part 2. -/
import Derived.Test.YteidkehoekbcaaaGreatOwnK2
import Derived.Test.YteidkehoekbcaaaGreatOwnK5
import Derived.Test.YteidkehoekbcaaaGreatOwnK7
import Derived.Test.YteidkehoekbcaaaGreatOwnK15
import Derived.Test.YteidkehoekbcaaaGreatOwnK18
import Derived.Test.YteidkehoekbcaaaGreatOwnK19
import Derived.Test.YteidkehoekbcaaaGreatOwnC0
set_option maxRecDepth 100000
set_option maxHeartbeats 8000000
open Array renaming getElem?_eq_some_iff->J2
open Bool renaming false_eq_true->J5
open Go renaming callsIn_wide->LO,heap_alloc_new->Kj,wpList_append_own_at->KD
open Go.Proofs renaming enters_of->LP
open Go.Proofs.AnyZI renaming keys_gives->RD,keys_in->RC,sorted_in->RE
open Go.Proofs.Tryz renaming func129->aeI,prog->J3
open Go.RowKit.Below renaming refl->Kp
open Go.Value.slice renaming injEq->LD
open Go.World renaming news_of_block->KE,ownsRow_nil->Ke
open List renaming cons_append->Qw,getElem?_append_right->Qo,getElem?_eq_getElem->Kz,getElem?_eq_some_iff->Lj,length_map->KG,map_append->Kl,map_map->Lv,mem_of_getElem?->KA,take_length->LQ
open Nat renaming le_refl->Ki,zero_le->Ky
open Option renaming map_eq_some_iff->Kw
open Prod.mk renaming injEq->Kx

namespace Go.Proofs.YteidkehoekbcaaaGreat
section
open Go.RowKit Go.Maps Go.Sort Go.Shelf
theorem vL (mb:Option Nat) (W:World):Calls J3 191 #[.map mb] W fun e w'=>e= .returned (.func (.func 221) #[] #[.pointer (some ⟨W.heap.size,0,none⟩)])∧w'=W.alloc (.cells #[.map mb] 170):=
 (LO (n:=5)).1 (RC Tryz.keysBoard Fence.wide 5 trivial rfl mb W)
theorem pB (Bm b:Nat) (m:df) (W:World) (hBm:Bm < W.heap.size) (hc:W.cell? ⟨Bm,0,none⟩=some (.map (some b))) (h:cF W b m) (hm:m.length≤1048576):
  Calls J3 124 #[.func (.func 221) #[] #[.pointer (some ⟨Bm,0,none⟩)]] W fun e w'=> ∃ v:Value,e= .returned v∧w'.ownsRow W.heap.size 2 1 v m.length (m.map fun p=> .int .i64 p.1)∧Below W.heap.size W w':=by
 have hsz:Maps.size (gA m)=m.length:=size_map m;have hseq:SeqGives Fence.wide 2 J3 221 #[.pointer (some ⟨Bm,0,none⟩)] encZ (fun ss=>ss.Perm (intKeys (gA m))) (Maps.size (gA m)) W:=
  RD (ρ:=Tryz.keysBoard_ren) { Tryz.keysBoard with } Fence.wide _ trivial rfl (by omega) Bm b m.length (gA m) W hBm hc h.1
 have cS:=RE Tryz.sortedA Fence.wide 5 trivial trivial trivial trivial rfl (by omega) (Tryz.sortsA _) (LP aeI (by kernel_rfl) rfl) 221 #[.pointer (some ⟨Bm,0,none⟩)] trivial (LP Tryz.func221 (by kernel_rfl) rfl) _ _ (by rw [hsz]; unfold maxLen; omega) (by rw [hsz]; omega) _ hseq
 change CallsIn _ _ J3 124 _ _ _ at cS
 refine (LO.1 cS).mono ?_;rintro e w' ⟨v,ss,rfl,hS,hrow,hnil,kj⟩;refine ⟨v,rfl,?_,kj⟩;rw [jG h.2 hS] at hrow;have hl:ss.length=m.length:=by
  rw [hS.length_eq,lU,KG]
 rw [hl,Lv] at hrow;exact hrow
theorem zM:(Tryz.prog.info? 253).map (fun i=>(i.zero,i.size,i.bytes))=some (some (.pointer none),1,8):=by kernel_rfl
theorem yB (Me:Int) (b:Nat) (m:df) (w:World) (h:cF w b m) (hm:m.length≤1048576) (hwf: ∀ p∈m,(Lit.int .i64 p.1).wf=true):
  Calls J3 152 #[.agg #[.int .i64 Me,.map (some b)]] w fun e w'=> ∃ a cap,e= .returned (.slice a m.length cap)∧w'.ownsRow w.heap.size 253 1 (.slice a m.length cap) m.length (m.map fun p=>dt p.2)∧Below w.heap.size w w':=by
 obtain ⟨i0,hi,e0⟩:=Kw.1 zM;simp only [Kx] at e0;have HI:Hid (Tryz.prog.info? 253=some i0∧i0.zero=some (.pointer none)∧i0.size=1∧i0.bytes=8):=⟨hi,e0⟩
 have HM:Hid (cF w b m∧ ∀ p∈m,(Lit.int .i64 p.1).wf=true):=⟨h,hwf⟩
 have hbl:b < w.heap.size:=h.lt;clear hi e0 h hwf
 go_enter Tryz.func152,Tryz.ntmps152
 go_wp2_with (go_at_call 191; refine (vL _ _).mono ?_; rintro e w' ⟨rfl,rfl⟩);refine (pB (w.heap.size+1) b m _ (by simp) (by simp) (HM.I.1.below (((Kp _ w).alloc (Ki _) _).alloc (by simp) _)) hm).mono ?_;rintro e w2 ⟨v,rfl,hown,hb2⟩;have cy:Hid (Below w.heap.size w w2):=(((Kp _ w).alloc (Ki _) _).alloc (by simp) _).trans (hb2.mono (by simp; omega));have HS:Hid (w2.heap[w.heap.size]? =some (.cells #[.int .i64 Me,.map (some b)] 172 (0,0))):=(hb2.block _ (by simp; omega)).trans ((PU (by simp)).trans (Kj _ _));obtain ⟨a,cap,hv,hrow⟩:=cr hown;have HR:Hid (Row w2 a (m.map fun p=> .int .i64 p.1)):=hrow;rw [hv];clear hv hown hrow hb2 v;go_wp2_with fail
 go_loopw [3,11] (fun l i wr=> ∃ k:Nat,k≤m.length∧i= .int .i64 k∧ ∃ a' cap',l= .slice a' k cap'∧Hid (wr.ownsRow w2.heap.size 253 1 (.slice a' k cap') k ((m.take k).map fun p=>dt p.2)∧Below w2.heap.size w2 wr)) (fun _ i _=>m.length - (intOf i).toNat)
 case atStart=>exact ⟨0,Ky _,rfl,none,0,rfl,⟨Ke _ _ _ _,Kp _ _⟩⟩
 case round=>
  obtain ⟨k,hk,rfl,a',cap',rfl,HO⟩:=hrel;by_cases hlt:k < m.length
  ·have qE:(0:Int)≤(k:Int):=by omega
   have i1:(k:Int) < (m.length:Int):=by omega
   obtain ⟨p,hp⟩: ∃ p,m[k]? =some p:=⟨_,Kz hlt⟩
   have hpm:=KA hp;obtain ⟨g,ha,hc⟩:=(HR.I.below HO.I.2) k (.int .i64 p.1) (by simp [hp]);subst ha;have oE:=cy.I.size;have kT:=HO.I.2.size;have ut:cF wr b m:=HM.I.1.below (cy.I.trans (HO.I.2.mono oE));have hlk:=ut.look Tryz.underlying170 (qW wr) (HM.I.2 p hpm) false;rw [jI ut.2 hpm] at hlk;have hsw:wr.heap[w.heap.size]? =some (.cells #[.int .i64 Me,.map (some b)] 172 (0,0)):=(HO.I.2.block _ (J2.1 HS.I).1).trans HS.I;have s1:wr.cell? ⟨w.heap.size,1,none⟩=some (.map (some b)):=by simp [World.cell?,hsw]
   have HP:Hid (m[k]? =some p):=hp;simp only [qz,dt,J5,if_false] at hlk;clear hp hpm ut hsw;go_wp2_with (at_builtin; refine KD _ rfl _ _ 251 rfl w2.heap.size 253 i0 (.pointer none) 1 8 Tryz.underlying251 HI.I.1 HI.I.2.1 HI.I.2.2.1 HI.I.2.2.2 rfl (by decide) (.slice a' k cap') k ((m.take k).map fun p=>dt p.2) rfl (HO.I.1.alloc _) ⟨wr.heap.size,0,none⟩ 1 1 [.pointer (some ⟨p.2,0,none⟩)] (by rfl) rfl (KE (cs:= #[.pointer (some ⟨p.2,0,none⟩)]) (t:=253) (fr:=(0,0)) (Kj wr _)) (by simp [Value.oneCell']) (by unfold maxLen; omega) (by omega) (by simp; omega) ?_; intro v' w5 hown' hgrow hnil jV; obtain ⟨a5,im,rfl,-⟩:=cr hown'; have HN:Hid (w5.ownsRow w2.heap.size 253 1 (.slice a5 (k+1) im) (k+1) ((m.take (k+1)).map fun p=>dt p.2)∧Below w2.heap.size w2 w5):=⟨by rw [cj HP.I,Kl]; exact hown',(HO.I.2.alloc kT _).grown hgrow (by simp; omega) (fun q hq=>(HO.I.1.lt q hq).1)⟩; clear hown' hgrow hnil jV);go_roundw
   case rel=>exact ⟨k+1,by omega,by go_num,a5,im,rfl,HN⟩
   case measure=>simp [intOf]; omega
  ·have i1: ¬ (k:Int) < (m.length:Int):=by omega
   have e:k=m.length:=by omega
   subst e;go_wp2;go_ret;refine ⟨a',cap',rfl,?_,cy.I.trans (HO.I.2.mono cy.I.size)⟩
   have:=cq HO.I.1 cy.I.size
   rwa [LQ] at this
theorem wq (mb:Option Nat) (W:World):Calls J3 193 #[.map mb] W fun e w'=>e= .returned (.func (.func 223) #[] #[.pointer (some ⟨W.heap.size,0,none⟩)])∧w'=W.alloc (.cells #[.map mb] 176):=
 (LO (n:=5)).1 (RC Tryz.keysPort Fence.wide 5 trivial rfl mb W)
theorem pY (Bm b:Nat) (m:df) (W:World) (hBm:Bm < W.heap.size) (hc:W.cell? ⟨Bm,0,none⟩=some (.map (some b))) (h:cF W b m) (hm:m.length≤1048576):
  Calls J3 124 #[.func (.func 223) #[] #[.pointer (some ⟨Bm,0,none⟩)]] W fun e w'=> ∃ v:Value,e= .returned v∧w'.ownsRow W.heap.size 2 1 v m.length (m.map fun p=> .int .i64 p.1)∧Below W.heap.size W w':=by
 have hsz:Maps.size (gA m)=m.length:=size_map m;have hseq:SeqGives Fence.wide 2 J3 223 #[.pointer (some ⟨Bm,0,none⟩)] encZ (fun ss=>ss.Perm (intKeys (gA m))) (Maps.size (gA m)) W:=
  RD (ρ:=Tryz.keysPort_ren) { Tryz.keysPort with } Fence.wide _ trivial rfl (by omega) Bm b m.length (gA m) W hBm hc h.1
 have cS:=RE Tryz.sortedA Fence.wide 5 trivial trivial trivial trivial rfl (by omega) (Tryz.sortsA _) (LP aeI (by kernel_rfl) rfl) 223 #[.pointer (some ⟨Bm,0,none⟩)] trivial (LP Tryz.func223 (by kernel_rfl) rfl) _ _ (by rw [hsz]; unfold maxLen; omega) (by rw [hsz]; omega) _ hseq
 change CallsIn _ _ J3 124 _ _ _ at cS
 refine (LO.1 cS).mono ?_;rintro e w' ⟨v,ss,rfl,hS,hrow,hnil,kj⟩;refine ⟨v,rfl,?_,kj⟩;rw [jG h.2 hS] at hrow;have hl:ss.length=m.length:=by
  rw [hS.length_eq,lU,KG]
 rw [hl,Lv] at hrow;exact hrow
theorem BK:(Tryz.prog.info? 203).map (fun i=>(i.zero,i.size,i.bytes))=some (some (.pointer none),1,8):=by kernel_rfl
theorem Bx (Me:Int) (b:Nat) (m:df) (w:World) (h:cF w b m) (hm:m.length≤1048576) (hwf: ∀ p∈m,(Lit.int .i64 p.1).wf=true):
  Calls J3 154 #[.agg #[.int .i64 Me,.map (some b)]] w fun e w'=> ∃ a cap,e= .returned (.slice a m.length cap)∧w'.ownsRow w.heap.size 203 1 (.slice a m.length cap) m.length (m.map fun p=>dt p.2)∧Below w.heap.size w w':=by
 obtain ⟨i0,hi,e0⟩:=Kw.1 BK;simp only [Kx] at e0;have HI:Hid (Tryz.prog.info? 203=some i0∧i0.zero=some (.pointer none)∧i0.size=1∧i0.bytes=8):=⟨hi,e0⟩
 have HM:Hid (cF w b m∧ ∀ p∈m,(Lit.int .i64 p.1).wf=true):=⟨h,hwf⟩
 have hbl:b < w.heap.size:=h.lt;clear hi e0 h hwf
 go_enter Tryz.func154,Tryz.ntmps154
 go_wp2_with (go_at_call 193; refine (wq _ _).mono ?_; rintro e w' ⟨rfl,rfl⟩);refine (pY (w.heap.size+1) b m _ (by simp) (by simp) (HM.I.1.below (((Kp _ w).alloc (Ki _) _).alloc (by simp) _)) hm).mono ?_;rintro e w2 ⟨v,rfl,hown,hb2⟩;have cy:Hid (Below w.heap.size w w2):=(((Kp _ w).alloc (Ki _) _).alloc (by simp) _).trans (hb2.mono (by simp; omega));have HS:Hid (w2.heap[w.heap.size]? =some (.cells #[.int .i64 Me,.map (some b)] 178 (0,0))):=(hb2.block _ (by simp; omega)).trans ((PU (by simp)).trans (Kj _ _));obtain ⟨a,cap,hv,hrow⟩:=cr hown;have HR:Hid (Row w2 a (m.map fun p=> .int .i64 p.1)):=hrow;rw [hv];clear hv hown hrow hb2 v;go_wp2_with fail
 go_loopw [3,11] (fun l i wr=> ∃ k:Nat,k≤m.length∧i= .int .i64 k∧ ∃ a' cap',l= .slice a' k cap'∧Hid (wr.ownsRow w2.heap.size 203 1 (.slice a' k cap') k ((m.take k).map fun p=>dt p.2)∧Below w2.heap.size w2 wr)) (fun _ i _=>m.length - (intOf i).toNat)
 case atStart=>exact ⟨0,Ky _,rfl,none,0,rfl,⟨Ke _ _ _ _,Kp _ _⟩⟩
 case round=>
  obtain ⟨k,hk,rfl,a',cap',rfl,HO⟩:=hrel;by_cases hlt:k < m.length
  ·have qE:(0:Int)≤(k:Int):=by omega
   have i1:(k:Int) < (m.length:Int):=by omega
   obtain ⟨p,hp⟩: ∃ p,m[k]? =some p:=⟨_,Kz hlt⟩
   have hpm:=KA hp;obtain ⟨g,ha,hc⟩:=(HR.I.below HO.I.2) k (.int .i64 p.1) (by simp [hp]);subst ha;have oE:=cy.I.size;have kT:=HO.I.2.size;have ut:cF wr b m:=HM.I.1.below (cy.I.trans (HO.I.2.mono oE));have hlk:=ut.look Tryz.underlying176 (sK wr) (HM.I.2 p hpm) false;rw [jI ut.2 hpm] at hlk;have hsw:wr.heap[w.heap.size]? =some (.cells #[.int .i64 Me,.map (some b)] 178 (0,0)):=(HO.I.2.block _ (J2.1 HS.I).1).trans HS.I;have s1:wr.cell? ⟨w.heap.size,1,none⟩=some (.map (some b)):=by simp [World.cell?,hsw]
   have HP:Hid (m[k]? =some p):=hp;simp only [qz,dt,J5,if_false] at hlk;clear hp hpm ut hsw;go_wp2_with (at_builtin; refine KD _ rfl _ _ 257 rfl w2.heap.size 203 i0 (.pointer none) 1 8 Tryz.underlying257 HI.I.1 HI.I.2.1 HI.I.2.2.1 HI.I.2.2.2 rfl (by decide) (.slice a' k cap') k ((m.take k).map fun p=>dt p.2) rfl (HO.I.1.alloc _) ⟨wr.heap.size,0,none⟩ 1 1 [.pointer (some ⟨p.2,0,none⟩)] (by rfl) rfl (KE (cs:= #[.pointer (some ⟨p.2,0,none⟩)]) (t:=203) (fr:=(0,0)) (Kj wr _)) (by simp [Value.oneCell']) (by unfold maxLen; omega) (by omega) (by simp; omega) ?_; intro v' w5 hown' hgrow hnil jV; obtain ⟨a5,im,rfl,-⟩:=cr hown'; have HN:Hid (w5.ownsRow w2.heap.size 203 1 (.slice a5 (k+1) im) (k+1) ((m.take (k+1)).map fun p=>dt p.2)∧Below w2.heap.size w2 w5):=⟨by rw [cj HP.I,Kl]; exact hown',(HO.I.2.alloc kT _).grown hgrow (by simp; omega) (fun q hq=>(HO.I.1.lt q hq).1)⟩; clear hown' hgrow hnil jV);go_roundw
   case rel=>exact ⟨k+1,by omega,by go_num,a5,im,rfl,HN⟩
   case measure=>simp [intOf]; omega
  ·have i1: ¬ (k:Int) < (m.length:Int):=by omega
   have e:k=m.length:=by omega
   subst e;go_wp2;go_ret;refine ⟨a',cap',rfl,?_,cy.I.trans (HO.I.2.mono cy.I.size)⟩
   have:=cq HO.I.1 cy.I.size
   rwa [LQ] at this
theorem yI (mb:Option Nat) (W:World):Calls J3 189 #[.map mb] W fun e w'=>e= .returned (.func (.func 219) #[] #[.pointer (some ⟨W.heap.size,0,none⟩)])∧w'=W.alloc (.cells #[.map mb] 164):=
 (LO (n:=5)).1 (RC Tryz.keysSem Fence.wide 5 trivial rfl mb W)
theorem qR (Bm b:Nat) (m:df) (W:World) (hBm:Bm < W.heap.size) (hc:W.cell? ⟨Bm,0,none⟩=some (.map (some b))) (h:cF W b m) (hm:m.length≤1048576):
  Calls J3 124 #[.func (.func 219) #[] #[.pointer (some ⟨Bm,0,none⟩)]] W fun e w'=> ∃ v:Value,e= .returned v∧w'.ownsRow W.heap.size 2 1 v m.length (m.map fun p=> .int .i64 p.1)∧Below W.heap.size W w':=by
 have hsz:Maps.size (gA m)=m.length:=size_map m;have hseq:SeqGives Fence.wide 2 J3 219 #[.pointer (some ⟨Bm,0,none⟩)] encZ (fun ss=>ss.Perm (intKeys (gA m))) (Maps.size (gA m)) W:=
  RD (ρ:=Tryz.keysSem_ren) { Tryz.keysSem with } Fence.wide _ trivial rfl (by omega) Bm b m.length (gA m) W hBm hc h.1
 have cS:=RE Tryz.sortedA Fence.wide 5 trivial trivial trivial trivial rfl (by omega) (Tryz.sortsA _) (LP aeI (by kernel_rfl) rfl) 219 #[.pointer (some ⟨Bm,0,none⟩)] trivial (LP Tryz.func219 (by kernel_rfl) rfl) _ _ (by rw [hsz]; unfold maxLen; omega) (by rw [hsz]; omega) _ hseq
 change CallsIn _ _ J3 124 _ _ _ at cS
 refine (LO.1 cS).mono ?_;rintro e w' ⟨v,ss,rfl,hS,hrow,hnil,kj⟩;refine ⟨v,rfl,?_,kj⟩;rw [jG h.2 hS] at hrow;have hl:ss.length=m.length:=by
  rw [hS.length_eq,lU,KG]
 rw [hl,Lv] at hrow;exact hrow
theorem CX:(Tryz.prog.info? 247).map (fun i=>(i.zero,i.size,i.bytes))=some (some (.pointer none),1,8):=by kernel_rfl
theorem CS (Me:Int) (b:Nat) (m:df) (w:World) (h:cF w b m) (hm:m.length≤1048576) (hwf: ∀ p∈m,(Lit.int .i64 p.1).wf=true):
  Calls J3 150 #[.agg #[.int .i64 Me,.map (some b)]] w fun e w'=> ∃ a cap,e= .returned (.slice a m.length cap)∧w'.ownsRow w.heap.size 247 1 (.slice a m.length cap) m.length (m.map fun p=>dt p.2)∧Below w.heap.size w w':=by
 obtain ⟨i0,hi,e0⟩:=Kw.1 CX;simp only [Kx] at e0;have HI:Hid (Tryz.prog.info? 247=some i0∧i0.zero=some (.pointer none)∧i0.size=1∧i0.bytes=8):=⟨hi,e0⟩
 have HM:Hid (cF w b m∧ ∀ p∈m,(Lit.int .i64 p.1).wf=true):=⟨h,hwf⟩
 have hbl:b < w.heap.size:=h.lt;clear hi e0 h hwf
 go_enter Tryz.func150,Tryz.ntmps150
 go_wp2_with (go_at_call 189; refine (yI _ _).mono ?_; rintro e w' ⟨rfl,rfl⟩);refine (qR (w.heap.size+1) b m _ (by simp) (by simp) (HM.I.1.below (((Kp _ w).alloc (Ki _) _).alloc (by simp) _)) hm).mono ?_;rintro e w2 ⟨v,rfl,hown,hb2⟩;have cy:Hid (Below w.heap.size w w2):=(((Kp _ w).alloc (Ki _) _).alloc (by simp) _).trans (hb2.mono (by simp; omega));have HS:Hid (w2.heap[w.heap.size]? =some (.cells #[.int .i64 Me,.map (some b)] 166 (0,0))):=(hb2.block _ (by simp; omega)).trans ((PU (by simp)).trans (Kj _ _));obtain ⟨a,cap,hv,hrow⟩:=cr hown;have HR:Hid (Row w2 a (m.map fun p=> .int .i64 p.1)):=hrow;rw [hv];clear hv hown hrow hb2 v;go_wp2_with fail
 go_loopw [3,11] (fun l i wr=> ∃ k:Nat,k≤m.length∧i= .int .i64 k∧ ∃ a' cap',l= .slice a' k cap'∧Hid (wr.ownsRow w2.heap.size 247 1 (.slice a' k cap') k ((m.take k).map fun p=>dt p.2)∧Below w2.heap.size w2 wr)) (fun _ i _=>m.length - (intOf i).toNat)
 case atStart=>exact ⟨0,Ky _,rfl,none,0,rfl,⟨Ke _ _ _ _,Kp _ _⟩⟩
 case round=>
  obtain ⟨k,hk,rfl,a',cap',rfl,HO⟩:=hrel;by_cases hlt:k < m.length
  ·have qE:(0:Int)≤(k:Int):=by omega
   have i1:(k:Int) < (m.length:Int):=by omega
   obtain ⟨p,hp⟩: ∃ p,m[k]? =some p:=⟨_,Kz hlt⟩
   have hpm:=KA hp;obtain ⟨g,ha,hc⟩:=(HR.I.below HO.I.2) k (.int .i64 p.1) (by simp [hp]);subst ha;have oE:=cy.I.size;have kT:=HO.I.2.size;have ut:cF wr b m:=HM.I.1.below (cy.I.trans (HO.I.2.mono oE));have hlk:=ut.look Tryz.underlying164 (vU wr) (HM.I.2 p hpm) false;rw [jI ut.2 hpm] at hlk;have hsw:wr.heap[w.heap.size]? =some (.cells #[.int .i64 Me,.map (some b)] 166 (0,0)):=(HO.I.2.block _ (J2.1 HS.I).1).trans HS.I;have s1:wr.cell? ⟨w.heap.size,1,none⟩=some (.map (some b)):=by simp [World.cell?,hsw]
   have HP:Hid (m[k]? =some p):=hp;simp only [qz,dt,J5,if_false] at hlk;clear hp hpm ut hsw;go_wp2_with (at_builtin; refine KD _ rfl _ _ 245 rfl w2.heap.size 247 i0 (.pointer none) 1 8 Tryz.underlying245 HI.I.1 HI.I.2.1 HI.I.2.2.1 HI.I.2.2.2 rfl (by decide) (.slice a' k cap') k ((m.take k).map fun p=>dt p.2) rfl (HO.I.1.alloc _) ⟨wr.heap.size,0,none⟩ 1 1 [.pointer (some ⟨p.2,0,none⟩)] (by rfl) rfl (KE (cs:= #[.pointer (some ⟨p.2,0,none⟩)]) (t:=247) (fr:=(0,0)) (Kj wr _)) (by simp [Value.oneCell']) (by unfold maxLen; omega) (by omega) (by simp; omega) ?_; intro v' w5 hown' hgrow hnil jV; obtain ⟨a5,im,rfl,-⟩:=cr hown'; have HN:Hid (w5.ownsRow w2.heap.size 247 1 (.slice a5 (k+1) im) (k+1) ((m.take (k+1)).map fun p=>dt p.2)∧Below w2.heap.size w2 w5):=⟨by rw [cj HP.I,Kl]; exact hown',(HO.I.2.alloc kT _).grown hgrow (by simp; omega) (fun q hq=>(HO.I.1.lt q hq).1)⟩; clear hown' hgrow hnil jV);go_roundw
   case rel=>exact ⟨k+1,by omega,by go_num,a5,im,rfl,HN⟩
   case measure=>simp [intOf]; omega
  ·have i1: ¬ (k:Int) < (m.length:Int):=by omega
   have e:k=m.length:=by omega
   subst e;go_wp2;go_ret;refine ⟨a',cap',rfl,?_,cy.I.trans (HO.I.2.mono cy.I.size)⟩
   have:=cq HO.I.1 cy.I.size
   rwa [LQ] at this
end
section
open Go.RowKit Go.Maps
attribute [local go_sem ↓] Go.wp_at_zero Go.wp_at_succ
def tA (l:gi):List Value:=(fz l).toList
def qo:Kind gi:=⟨6,tA,fun _=> [],by decide,fun _=>rfl⟩
def M2 {α:Type} (p:α→Bool):List α→Int
 | [] => -1
 | x :: r=>if p x then 0 else if M2 p r < 0 then -1 else M2 p r+1
theorem Uv {α:Type} (p:α→Bool): ∀ l:List α,decide (0≤M2 p l)=l.any p
 | [] =>by simp [M2]
 | x :: r=>by
  have h:=Uv p r;simp only [M2,List.any_cons];by_cases hp:p x=true
  ·simp [hp]
  ·rw [← h]
   by_cases h0:M2 p r < 0
   ·simp [h0,hp]
   ·simp [h0,hp]; omega
theorem Vj {α:Type} {p:α→Bool} : ∀ {l:List α},(∀ x∈l,p x=false)→M2 p l= -1
 | [],_=>rfl
 | x :: r,h=>by simp [M2,h x (by simp),Vj (l:=r) (fun y hy=>h y (by simp [hy]))]
theorem Us {α:Type} {p:α→Bool} : ∀ {l:List α} {k:Nat} {x:α},l[k]? =some x→p x=true→(∀ y∈l.take k,p y=false)→M2 p l=k
 | [],k,x,h,_,_=>by simp at h
 | y :: r,0,x,h,hp,_=>by simp at h; subst h; simp [M2,hp]
 | y :: r,k+1,x,h,hp,hn=>by
  have h1:=Us (l:=r) (k:=k) (x:=x) (by simpa using h) hp (fun z hz=>hn z (by simp [hz]));have h2:=hn y (by simp);simp [M2,h2,h1];omega
def rl (w:World) (l:gi):Prop:= ∃ x y:aM,w.heap[l.s]? =some (.cells (cW x) 85 (0,0))∧w.heap[l.t]? =some (.cells (cW y) 85 (0,0))
theorem rl.below {w w':World} {l:gi} (h:rl w l) (hb:Below w.heap.size w w'):rl w' l:=by
 obtain ⟨x,y,h1,h2⟩:=h;exact ⟨x,y,(hb.block _ (J2.1 h1).1).trans h1,(hb.block _ (J2.1 h2).1).trans h2⟩
def ts (m:gi) (q:Bool) (o:gi):Bool:=decide (m.t=o.t) || decide (m.s=o.s) && q
theorem Vq {w:World} {a:Option Addr} {l:List gi} (h:Row w a (qo.flat l)) {i:Nat} {x:gi} (hx:l[i]? =some x): ∃ g,a=some ⟨g,0,none⟩∧w.cell? ⟨g,i * 6,none⟩=some (.int .i64 x.c.src)∧w.cell? ⟨g,i * 6+1,none⟩=some (.int .i64 x.c.ga)∧w.cell? ⟨g,i * 6+2,none⟩=some (.int .i64 x.c.dst)∧w.cell? ⟨g,i * 6+3,none⟩=some (.int .i64 x.c.hI)∧w.cell? ⟨g,i * 6+4,none⟩=some (.pointer (some ⟨x.s,0,none⟩))∧w.cell? ⟨g,i * 6+5,none⟩=some (.pointer (some ⟨x.t,0,none⟩)):=by
 obtain ⟨g,e,hc⟩:=Kind.bU.at (K:=qo) ⟨h,fun x _ r hr=>by simp [qo] at hr⟩ hx;exact ⟨g,e,hc 0 _ rfl,hc 1 _ rfl,hc 2 _ rfl,hc 3 _ rfl,hc 4 _ rfl,hc 5 _ rfl⟩
theorem T2 (a:Option Addr) (ls:List gi) (cap:Nat) (m:gi) (z:aM) (w:World) (hl:ls.length≤1048576) (hr:Row w a (qo.flat ls)) (hz:w.heap[m.s]? =some (.cells (cW z) 85 (0,0))) (hm:rl w m) (hb: ∀ l∈ls,rl w l):
  Calls J3 217 #[.slice a ls.length cap,.func (.func 187) #[.agg (fz m)] #[]] w fun e w'=>e= .returned (.int .i64 (M2 (ts m z.Mf) ls))∧Below w.heap.size w w':=by
 have H:Hid (Row w a (qo.flat ls)∧w.heap[m.s]? =some (.cells (cW z) 85 (0,0))∧rl w m∧ ∀ l∈ls,rl w l):=⟨hr,hz,hm,hb⟩
 clear hr hz hm hb
 go_enter Tryz.func217,Tryz.ntmps217
 go_wp2_with fail
 go_loopw [8] (fun i wr=> ∃ k:Nat,k≤ls.length∧i= .int .i64 k∧Hid ((∀ y∈ls.take k,ts m z.Mf y=false)∧Below w.heap.size w wr)) (fun i _=>ls.length - (Go.RowKit.intOf i).toNat)
 case atStart=>exact ⟨0,Ky _,rfl,(fun y hy=>by simp at hy),Kp _ _⟩
 case round=>
  obtain ⟨k,hk,rfl,S⟩:=hrel;by_cases hlt:k < ls.length
  ·have i0:(0:Int)≤(k:Int):=by omega
   have i1:(k:Int) < (ls.length:Int):=by omega
   obtain ⟨p,hp⟩: ∃ p,ls[k]? =some p:=⟨_,Kz hlt⟩
   obtain ⟨g,rfl,c0,c1,c2,c3,c4,c5⟩:=Vq (H.I.1.below S.I.2) hp;obtain ⟨x,y,hx,hy⟩:=(H.I.2.2.1.below S.I.2)
   obtain ⟨u,v,hu,hv⟩:=((H.I.2.2.2 p (KA hp)).below S.I.2)
   have hzz:=(S.I.2.block _ (J2.1 H.I.2.1).1).trans H.I.2.1;have Mb:=TK m p z u y v wr hzz hu hy hv;have HP:=aA hp;clear hp hx hy hu hv hzz;go_wp2_with fail;clear c0 c1 c2 c3 c4 c5;refine Mb.mono ?_;clear Mb;rintro e W1 ⟨rfl,hb1⟩;replace S:=aA (And.intro S.I.1 (S.I.2.trans (hb1.mono S.I.2.size)));clear hb1;have HM:Hid (ts m z.Mf p=(decide (m.t=p.t) || decide (m.s=p.s) && z.Mf)):=rfl;generalize (decide (m.t=p.t) || decide (m.s=p.s) && z.Mf)=r at *;cases r
   ·go_wp2
    go_roundw
    case rel=>
     refine ⟨k+1,by omega,by go_num,fun y hy=> ?_,S.I.2⟩;rw [cj HP.I] at hy;rcases List.mem_append.1 hy with hy | hy
     ·exact S.I.1 y hy
     ·rw [List.mem_singleton.1 hy]; exact HM.I
    case measure=>simp [Go.RowKit.intOf]; omega
   ·go_wp2
    go_ret;exact ⟨by rw [Us HP.I HM.I S.I.1]; rfl,S.I.2⟩
  ·have i1: ¬ (k:Int) < (ls.length:Int):=by omega
   go_wp2;go_ret;have h:=S.I.1;rw [List.take_of_length_le (by omega)] at h;exact ⟨by rw [Vj h]; rfl,S.I.2⟩
theorem UQ (a:Option Addr) (ls:List gi) (cap:Nat) (m:gi) (z:aM) (w:World) (hl:ls.length≤1048576) (hr:Row w a (qo.flat ls)) (hz:w.heap[m.s]? =some (.cells (cW z) 85 (0,0))) (hm:rl w m) (hb: ∀ l∈ls,rl w l):
  Calls J3 186 #[.slice a ls.length cap,.func (.func 187) #[.agg (fz m)] #[]] w fun e w'=>e= .returned (.bool (ls.any (ts m z.Mf)))∧Below w.heap.size w w':=by
 have Mb:=T2 a ls cap m z w hl hr hz hm hb;have HA:=aA (Uv (ts m z.Mf) ls);clear hr hz hm hb hl;generalize M2 (ts m z.Mf) ls=i at *;generalize ls.any (ts m z.Mf)=r at *
 go_enter Tryz.func186,Tryz.ntmps186
 go_wp2_with fail;refine Mb.mono ?_;clear Mb;rintro e W1 ⟨rfl,hb1⟩;go_wp2;go_ret;exact ⟨al HA.I,hb1⟩
end
section
open Go.RowKit
section
variable {w w1 w2:World} {bs bs':List Nat}
end
section
variable {α:Type} {K:Kind α}
theorem bl.owns {T:TypeId} {w:World} {base g cap:Nat} {l:List α} (h:bl K T w base g cap l):w.ownsRow base T K.n (.slice (some ⟨g,0,none⟩) l.length cap) l.length (K.flat l):=by
 obtain ⟨cur,h1,h2,h3,h4,h5,h6⟩:=h;exact ⟨K.dM l,.inr ⟨g,cap,cur,rfl,h2,h1,h3,h4,h5,h6⟩⟩
theorem bl.fX {T:TypeId} {w:World} {base cap:Nat} {a:Option Addr} {l:List α} (h:w.ownsRow base T K.n (.slice a l.length cap) l.length (K.flat l)) (hl: ¬ l.length=0): ∃ g,a=some ⟨g,0,none⟩∧bl K T w base g cap l:=by
 rcases h.2 with ⟨_,h0⟩ | ⟨g,c,cur,hv,h1,h2,h3,h4,h5,h6⟩
 ·exact absurd h0 hl
 ·simp only [LD] at hv
  obtain ⟨rfl,-,rfl⟩:=hv;exact ⟨g,rfl,cur,h2,h1,h3,h4,h5,h6⟩
theorem bl.eO {T:TypeId} {w:World} {base g cap j:Nat} {A B:List α} {x:α} (h:bl K T w base g cap (A ++ x :: B)) (hA:A.length=j) {r:Nat} (hr:r < K.n):(∃ u,w.cell? ⟨g,j * K.n+r,none⟩=some u)∧w.frozen? ⟨g,j * K.n+r,none⟩=false:=by
 have hx:(A ++ x :: B)[j]? =some x:=by
  subst hA;rw [Qo (Ki _)];simp
 obtain ⟨h1,h2⟩:=h.cell hx hr;rw [Kz (by rw [K.len]; exact hr)] at h1;exact ⟨⟨_,h1⟩,h2⟩
theorem bl.uD {T:TypeId} {w:World} {base g cap j:Nat} {A B:List α} {x:α} (h:bl K T w base g cap (A ++ x :: B)) (hA:A.length=j) {r:Nat} (hr:r < K.n):w.cell? ⟨g,j * K.n+r,none⟩=(K.vals x)[r]? :=by
 have hx:(A ++ x :: B)[j]? =some x:=by
  subst hA;rw [Qo (Ki _)];simp
 exact (h.cell hx hr).1
theorem mz {l:List α} {k:Nat} {x:α} (hx:l[k]? =some x):l.drop k=x :: l.drop (k+1):=by
 obtain ⟨hk,rfl⟩:=Lj.1 hx;exact List.drop_eq_getElem_cons hk
def aJ (f:Int→α→α) (c:α→Nat):Int→List α→List α
 | _,[] => []
 | k,x :: r=>f k x :: aJ f c (k+c x) r
def aF (c:α→Nat):List α→Nat
 | [] =>0
 | x :: r=>c x+aF c r
theorem oz (c:α→Nat): ∀ l r:List α,aF c (l ++ r)=aF c l+aF c r
 | [],r=>by simp [aF]
 | x :: l,r=>by simp only [Qw,aF,oz c l r]; omega
theorem nA (f:Int→α→α) (c:α→Nat): ∀ (k:Int) (l r:List α),aJ f c k (l ++ r)=aJ f c k l ++ aJ f c (k+aF c l) r
 | k,[],r=>by simp [aJ,aF]
 | k,x :: l,r=>by
  simp only [Qw,aJ,aF,nA f c (k+c x) l r];rw [show k+(c x:Int)+(aF c l:Int)=k+((c x+aF c l:Nat):Int) by omega]
theorem bE (f:Int→α→α) (c:α→Nat): ∀ (k:Int) (l:List α),(aJ f c k l).length=l.length
 | _,[] =>rfl
 | k,x :: r=>by simp [aJ,bE f c (k+c x) r]
theorem kr {c:α→Nat} {n:Nat} (h: ∀ x,c x=n): ∀ l:List α,aF c l=l.length * n
 | [] =>by simp [aF]
 | x :: r=>by rw [aF,h x,kr h r,List.length_cons,Nat.succ_mul]; omega
theorem du {c:α→Nat} {l:List α} {i:Nat} {x:α} (hx:l[i]? =some x):aF c (l.take i)+c x≤aF c l:=by
 have e:=kL hx
 have:aF c l=aF c (l.take i ++ x :: l.drop (i+1)):=by rw [← e]
 rw [this,oz,aF];omega
theorem gK {c:α→Nat} {l:List α} {i:Nat} {x:α} (hx:l[i]? =some x):aF c (l.take (i+1))=aF c (l.take i)+c x:=by
 rw [cj hx,oz];simp [aF]
theorem jK {f:Int→α→α} {c:α→Nat} {k:Int} {l:List α} {i:Nat} {x:α} (hx:l[i]? =some x):(aJ f c k l)[i]? =some (f (k+aF c (l.take i)) x):=by
 have hi:i < l.length:=(Lj.1 hx).1;have e:aJ f c k l=aJ f c k (l.take i ++ x :: l.drop (i+1)):=by rw [← kL hx]
 have hn:(aJ f c k (l.take i)).length=i:=by rw [bE,List.length_take]; omega
 rw [e,nA,Qo (by omega),hn,Nat.sub_self];rfl
theorem kE {f:Int→α→α} {c:α→Nat} {k:Int} {l:List α} {i:Nat} {x:α} (hx:l[i]? =some x):aJ f c k (l.take (i+1))=aJ f c k (l.take i) ++ [f (k+aF c (l.take i)) x] :=by
 rw [cj hx,nA];rfl
end
end
section
open Go.RowKit
attribute [local go_sem] Oper.semAt_some
theorem P2.count {m:Int} {n:Nat} {Z:Nat→Int} {cs:Array Value} (h:P2 m n Z cs):cs[1]? =some (.int .i64 n):=by
 rw [h.2 1 (by decide)]; rfl
theorem P2.major {m:Int} {n:Nat} {Z:Nat→Int} {cs:Array Value} (h:P2 m n Z cs):cs[0]? =some (.int .i64 m):=by
 rw [h.2 0 (by decide)]; rfl
theorem P2.win {m:Int} {n:Nat} {Z:Nat→Int} {cs:Array Value} (h:P2 m n Z cs) (hn:n≤20) {j:Nat} (hj:j < n * 3):cs[2+j]? =some (.int .i64 (Z j)):=by
 rw [h.2 (2+j) (by omega)];unfold va;rw [if_neg (by omega),if_neg (by omega),if_pos (by omega),show 2+j - 2=j by omega]
def Z4 (Z:Nat→Int) (k:Nat):Value:= .agg #[.int .i64 (Z (k * 3)),.int .i64 (Z (k * 3+1)),.int .i64 (Z (k * 3+2))]
end
end Go.Proofs.YteidkehoekbcaaaGreat
