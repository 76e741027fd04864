/- What the proof leans on, part 10. -/
import Derived.Test.YteidkehoekbcaaaGreatOwnK8
set_option maxRecDepth 100000
set_option maxHeartbeats 8000000
open Go renaming callsIn_wide->LO,heap_alloc_new->Kj
open Go.Proofs.Tryz renaming prog->J3
open Go.RowKit.Below renaming refl->Kp
open Nat renaming le_refl->Ki

namespace Go.Proofs.YteidkehoekbcaaaGreat
open Go.RowKit Go.Maps Go.Sort Go.Shelf
theorem wB (mb:Option Nat) (W:World):Calls J3 188 #[.map mb] W fun e w'=>e= .returned (.func (.func 218) #[] #[.pointer (some ⟨W.heap.size,0,none⟩)])∧w'=W.alloc (.cells #[.map mb] 161):=
 (LO (n:=5)).1 (AnyZI.keys_in Tryz.keysProc Fence.wide 5 trivial rfl mb W)
theorem qx (Bm b:Nat) (m:df) (W:World) (hBm:Bm < W.heap.size) (hc:W.cell? ⟨Bm,0,none⟩=some (.map (some b))) (h:cF W b m) (hm:m.length≤1048576):
  Calls J3 124 #[.func (.func 218) #[] #[.pointer (some ⟨Bm,0,none⟩)]] W fun e w'=> ∃ v:Value,e= .returned v∧w'.ownsRow W.heap.size 2 1 v m.length (m.map fun p=> .int .i64 p.1)∧Below W.heap.size W w':=by
 have hsz:Maps.size (gA m)=m.length:=size_map m;have hseq:SeqGives Fence.wide 2 J3 218 #[.pointer (some ⟨Bm,0,none⟩)] encZ (fun ss=>ss.Perm (intKeys (gA m))) (Maps.size (gA m)) W:=
  AnyZI.keys_gives (ρ:=Tryz.keysProc_ren) { Tryz.keysProc with } Fence.wide _ trivial rfl (by omega) Bm b m.length (gA m) W hBm hc h.1
 have cS:=AnyZI.sorted_in Tryz.sortedA Fence.wide 5 trivial trivial trivial trivial rfl (by omega) (Tryz.sortsA _) (enters_of Tryz.func129 (by kernel_rfl) rfl) 218 #[.pointer (some ⟨Bm,0,none⟩)] trivial (enters_of Tryz.func218 (by kernel_rfl) rfl) _ _ (by rw [hsz]; unfold maxLen; omega) (by rw [hsz]; omega) _ hseq
 change CallsIn _ _ J3 124 _ _ _ at cS
 refine (LO.1 cS).mono ?_;rintro e w' ⟨v,ss,rfl,hS,hrow,hnil,kj⟩;refine ⟨v,rfl,?_,kj⟩;rw [jG h.2 hS] at hrow;have hl:ss.length=m.length:=by
  rw [hS.length_eq,lU,List.length_map]
 rw [hl,List.map_map] at hrow;exact hrow
theorem sQ:(Tryz.prog.info? 244).map (fun i=>(i.zero,i.size,i.bytes))=some (some (.pointer none),1,8):=by kernel_rfl
theorem mq (Me:Int) (b:Nat) (m:df) (w:World) (h:cF w b m) (hm:m.length≤1048576) (hwf: ∀ p∈m,(Lit.int .i64 p.1).wf=true):
  Calls J3 149 #[.agg #[.int .i64 Me,.map (some b)]] w fun e w'=> ∃ a cap,e= .returned (.slice a m.length cap)∧w'.ownsRow w.heap.size 244 1 (.slice a m.length cap) m.length (m.map fun p=>dt p.2)∧Below w.heap.size w w':=by
 obtain ⟨i0,hi,e0⟩:=Option.map_eq_some_iff.1 sQ;simp only [Prod.mk.injEq] at e0;have HI:Hid (Tryz.prog.info? 244=some i0∧i0.zero=some (.pointer none)∧i0.size=1∧i0.bytes=8):=⟨hi,e0⟩
 have HM:Hid (cF w b m∧ ∀ p∈m,(Lit.int .i64 p.1).wf=true):=⟨h,hwf⟩
 have hbl:b < w.heap.size:=h.lt;clear hi e0 h hwf
 go_enter Tryz.func149,Tryz.ntmps149
 go_wp2_with (go_at_call 188; refine (wB _ _).mono ?_; rintro e w' ⟨rfl,rfl⟩);refine (qx (w.heap.size+1) b m _ (by simp) (by simp) (HM.I.1.below (((Kp _ w).alloc (Ki _) _).alloc (by simp) _)) hm).mono ?_;rintro e w2 ⟨v,rfl,hown,hb2⟩;have cy:Hid (Below w.heap.size w w2):=(((Kp _ w).alloc (Ki _) _).alloc (by simp) _).trans (hb2.mono (by simp; omega));have HS:Hid (w2.heap[w.heap.size]? =some (.cells #[.int .i64 Me,.map (some b)] 163 (0,0))):=(hb2.block _ (by simp; omega)).trans ((((Kp _ _).alloc (Ki _) _).block _ (by simp)).trans (Kj _ _));obtain ⟨a,cap,hv,hrow⟩:=cr hown;have HR:Hid (Row w2 a (m.map fun p=> .int .i64 p.1)):=hrow;rw [hv];clear hv hown hrow hb2 v;go_wp2_with fail
 go_loopw [3,11] (fun l i wr=> ∃ k:Nat,k≤m.length∧i= .int .i64 k∧ ∃ a' cap',l= .slice a' k cap'∧Hid (wr.ownsRow w2.heap.size 244 1 (.slice a' k cap') k ((m.take k).map fun p=>dt p.2)∧Below w2.heap.size w2 wr)) (fun _ i _=>m.length - (intOf i).toNat)
 case atStart=>exact ⟨0,Nat.zero_le _,rfl,none,0,rfl,⟨World.ownsRow_nil _ _ _ _,Kp _ _⟩⟩
 case round=>
  obtain ⟨k,hk,rfl,a',cap',rfl,HO⟩:=hrel;by_cases hlt:k < m.length
  ·have qE:(0:Int)≤(k:Int):=by omega
   have i1:(k:Int) < (m.length:Int):=by omega
   obtain ⟨p,hp⟩: ∃ p,m[k]? =some p:=⟨_,List.getElem?_eq_getElem hlt⟩
   have hpm:=List.mem_of_getElem? hp;obtain ⟨g,ha,hc⟩:=(HR.I.below HO.I.2) k (.int .i64 p.1) (by simp [hp]);subst ha;have oE:=cy.I.size;have kT:=HO.I.2.size;have ut:cF wr b m:=HM.I.1.below (cy.I.trans (HO.I.2.mono oE));have hlk:=ut.look Tryz.underlying161 (oD wr) (HM.I.2 p hpm) false;rw [jI ut.2 hpm] at hlk;have hsw:wr.heap[w.heap.size]? =some (.cells #[.int .i64 Me,.map (some b)] 163 (0,0)):=(HO.I.2.block _ (Array.getElem?_eq_some_iff.1 HS.I).1).trans HS.I;have s1:wr.cell? ⟨w.heap.size,1,none⟩=some (.map (some b)):=by simp [World.cell?,hsw]
   have HP:Hid (m[k]? =some p):=hp;simp only [qz,dt,Bool.false_eq_true,if_false] at hlk;clear hp hpm ut hsw;go_wp2_with (at_builtin; refine wpList_append_own_at _ rfl _ _ 242 rfl w2.heap.size 244 i0 (.pointer none) 1 8 Tryz.underlying242 HI.I.1 HI.I.2.1 HI.I.2.2.1 HI.I.2.2.2 rfl (by decide) (.slice a' k cap') k ((m.take k).map fun p=>dt p.2) rfl (HO.I.1.alloc _) ⟨wr.heap.size,0,none⟩ 1 1 [.pointer (some ⟨p.2,0,none⟩)] (by rfl) rfl (World.news_of_block (cs:= #[.pointer (some ⟨p.2,0,none⟩)]) (t:=244) (fr:=(0,0)) (Kj wr _)) (by simp [Value.oneCell']) (by unfold maxLen; omega) (by omega) (by simp; omega) ?_; intro v' w5 hown' hgrow hnil jV; obtain ⟨a5,im,rfl,-⟩:=cr hown'; have HN:Hid (w5.ownsRow w2.heap.size 244 1 (.slice a5 (k+1) im) (k+1) ((m.take (k+1)).map fun p=>dt p.2)∧Below w2.heap.size w2 w5):=⟨by rw [cj HP.I,List.map_append]; exact hown',(HO.I.2.alloc kT _).grown hgrow (by simp; omega) (fun q hq=>(HO.I.1.lt q hq).1)⟩; clear hown' hgrow hnil jV);go_roundw
   case rel=>exact ⟨k+1,by omega,by go_num,a5,im,rfl,HN⟩
   case measure=>simp [intOf]; omega
  ·have i1: ¬ (k:Int) < (m.length:Int):=by omega
   have e:k=m.length:=by omega
   subst e;go_wp2;go_ret;refine ⟨a',cap',rfl,?_,cy.I.trans (HO.I.2.mono cy.I.size)⟩
   have:=cq HO.I.1 cy.I.size
   rwa [List.take_length] at this
end Go.Proofs.YteidkehoekbcaaaGreat
