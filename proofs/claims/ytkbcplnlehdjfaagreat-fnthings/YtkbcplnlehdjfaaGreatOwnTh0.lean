/- What the proof leans on, part 0: PartLay~x, LwBase~x, TdB~x, AlSem~x, AlEvent~x, AlBoard~x, AlBuffer~x, AlPort~x. -/
import Derived.Test.YtkbcplnlehdjfaaGreatOwnB0
import Derived.Test.YtkbcplnlehdjfaaGreatOwnB7
import Derived.Test.YtkbcplnlehdjfaaGreatOwnB8
import Derived.Test.YtkbcplnlehdjfaaGreatOwnB11
import Derived.Test.YtkbcplnlehdjfaaGreatOwnB19
import Derived.Test.YtkbcplnlehdjfaaGreatOwnB20
import Derived.Shelf.SlIterI.Nil
import Derived.Shelf.SortM.Plain
import Derived.Shelf.SortM.SortNone
import Derived.Ground.GgzProg
import Derived.Ground.SlgmProg
import Derived.Test.YtkbcplnlehdjfaaGreatProg
import Derived.Deep.RegionHeld
set_option maxRecDepth 100000
set_option maxHeartbeats 8000000

namespace Go.Proofs
open Go.Shelf
def Tryz.keysSem_ren:Go.Shelf.Ren:=⟨fun | 7=>223 | 10=>239 | n=>n,fun | 23=>111 | 26=>2 | 3=>221 | 28=>275 | 0=>0 | 27=>274 | 33=>153 | 4=>4 | n=>n,fun | n=>n⟩
theorem Tryz.keysSem:Go.Proofs.SlLaysZI.n7 Tryz.prog Tryz.keysSem_ren:= {
 mixed:=by kernel_rfl
 f7:=⟨Tryz.f223.name,by decide,Tryz.func223.trans (congrArg some (by kernel_rfl))⟩
 f10:=⟨Tryz.f239.name,by decide,Tryz.func239.trans (congrArg some (by kernel_rfl))⟩
 t0:=Tryz.underlying0
 a0:=Tryz.isAgg0
 z0:=Tryz.sizeOf0
 v0:=Tryz.zeroValue0
 t4:=Tryz.underlying4
 a4:=Tryz.isAgg4
 z4:=Tryz.sizeOf4
 v4:=Tryz.zeroValue4
 t23:=Tryz.underlying111
 a23:=Tryz.isAgg111
 z23:=Tryz.sizeOf111
 v23:=Tryz.zeroValue111
 t26:=Tryz.underlying2
 a26:=Tryz.isAgg2
 z26:=Tryz.sizeOf2
 v26:=Tryz.zeroValue2
 t27:=Tryz.underlying274
 a27:=Tryz.isAgg274
 z27:=Tryz.sizeOf274
 v27:=Tryz.zeroValue274
 t28:=Tryz.underlying275
 a28:=Tryz.isAgg275
 z28:=Tryz.sizeOf275
 v28:=Tryz.zeroValue275
 t33:=Tryz.underlying153
 a33:=Tryz.isAgg153
 z33:=Tryz.sizeOf153
 v33:=Tryz.zeroValue153 }
def Tryz.keysEvent_ren:Go.Shelf.Ren:=⟨fun | 7=>224 | 10=>240 | n=>n,fun | 23=>114 | 26=>2 | 3=>222 | 28=>275 | 0=>0 | 27=>274 | 33=>153 | 4=>4 | n=>n,fun | n=>n⟩
theorem Tryz.keysEvent:Go.Proofs.SlLaysZI.n7 Tryz.prog Tryz.keysEvent_ren:= {
 mixed:=by kernel_rfl
 f7:=⟨Tryz.f224.name,by decide,Tryz.func224.trans (congrArg some (by kernel_rfl))⟩
 f10:=⟨Tryz.f240.name,by decide,Tryz.func240.trans (congrArg some (by kernel_rfl))⟩
 t0:=Tryz.underlying0
 a0:=Tryz.isAgg0
 z0:=Tryz.sizeOf0
 v0:=Tryz.zeroValue0
 t4:=Tryz.underlying4
 a4:=Tryz.isAgg4
 z4:=Tryz.sizeOf4
 v4:=Tryz.zeroValue4
 t23:=Tryz.underlying114
 a23:=Tryz.isAgg114
 z23:=Tryz.sizeOf114
 v23:=Tryz.zeroValue114
 t26:=Tryz.underlying2
 a26:=Tryz.isAgg2
 z26:=Tryz.sizeOf2
 v26:=Tryz.zeroValue2
 t27:=Tryz.underlying274
 a27:=Tryz.isAgg274
 z27:=Tryz.sizeOf274
 v27:=Tryz.zeroValue274
 t28:=Tryz.underlying275
 a28:=Tryz.isAgg275
 z28:=Tryz.sizeOf275
 v28:=Tryz.zeroValue275
 t33:=Tryz.underlying153
 a33:=Tryz.isAgg153
 z33:=Tryz.sizeOf153
 v33:=Tryz.zeroValue153 }
def Tryz.keysBoard_ren:Go.Shelf.Ren:=⟨fun | 7=>225 | 10=>241 | n=>n,fun | 23=>117 | 26=>2 | 3=>223 | 28=>275 | 0=>0 | 27=>274 | 33=>153 | 4=>4 | n=>n,fun | n=>n⟩
theorem Tryz.keysBoard:Go.Proofs.SlLaysZI.n7 Tryz.prog Tryz.keysBoard_ren:= {
 mixed:=by kernel_rfl
 f7:=⟨Tryz.f225.name,by decide,Tryz.func225.trans (congrArg some (by kernel_rfl))⟩
 f10:=⟨Tryz.f241.name,by decide,Tryz.func241.trans (congrArg some (by kernel_rfl))⟩
 t0:=Tryz.underlying0
 a0:=Tryz.isAgg0
 z0:=Tryz.sizeOf0
 v0:=Tryz.zeroValue0
 t4:=Tryz.underlying4
 a4:=Tryz.isAgg4
 z4:=Tryz.sizeOf4
 v4:=Tryz.zeroValue4
 t23:=Tryz.underlying117
 a23:=Tryz.isAgg117
 z23:=Tryz.sizeOf117
 v23:=Tryz.zeroValue117
 t26:=Tryz.underlying2
 a26:=Tryz.isAgg2
 z26:=Tryz.sizeOf2
 v26:=Tryz.zeroValue2
 t27:=Tryz.underlying274
 a27:=Tryz.isAgg274
 z27:=Tryz.sizeOf274
 v27:=Tryz.zeroValue274
 t28:=Tryz.underlying275
 a28:=Tryz.isAgg275
 z28:=Tryz.sizeOf275
 v28:=Tryz.zeroValue275
 t33:=Tryz.underlying153
 a33:=Tryz.isAgg153
 z33:=Tryz.sizeOf153
 v33:=Tryz.zeroValue153 }
def Tryz.keysBuffer_ren:Go.Shelf.Ren:=⟨fun | 7=>226 | 10=>242 | n=>n,fun | 23=>120 | 26=>2 | 3=>224 | 28=>275 | 0=>0 | 27=>274 | 33=>153 | 4=>4 | n=>n,fun | n=>n⟩
theorem Tryz.keysBuffer:Go.Proofs.SlLaysZI.n7 Tryz.prog Tryz.keysBuffer_ren:= {
 mixed:=by kernel_rfl
 f7:=⟨Tryz.f226.name,by decide,Tryz.func226.trans (congrArg some (by kernel_rfl))⟩
 f10:=⟨Tryz.f242.name,by decide,Tryz.func242.trans (congrArg some (by kernel_rfl))⟩
 t0:=Tryz.underlying0
 a0:=Tryz.isAgg0
 z0:=Tryz.sizeOf0
 v0:=Tryz.zeroValue0
 t4:=Tryz.underlying4
 a4:=Tryz.isAgg4
 z4:=Tryz.sizeOf4
 v4:=Tryz.zeroValue4
 t23:=Tryz.underlying120
 a23:=Tryz.isAgg120
 z23:=Tryz.sizeOf120
 v23:=Tryz.zeroValue120
 t26:=Tryz.underlying2
 a26:=Tryz.isAgg2
 z26:=Tryz.sizeOf2
 v26:=Tryz.zeroValue2
 t27:=Tryz.underlying274
 a27:=Tryz.isAgg274
 z27:=Tryz.sizeOf274
 v27:=Tryz.zeroValue274
 t28:=Tryz.underlying275
 a28:=Tryz.isAgg275
 z28:=Tryz.sizeOf275
 v28:=Tryz.zeroValue275
 t33:=Tryz.underlying153
 a33:=Tryz.isAgg153
 z33:=Tryz.sizeOf153
 v33:=Tryz.zeroValue153 }
def Tryz.keysPort_ren:Go.Shelf.Ren:=⟨fun | 7=>227 | 10=>243 | n=>n,fun | 23=>123 | 26=>2 | 3=>225 | 28=>275 | 0=>0 | 27=>274 | 33=>153 | 4=>4 | n=>n,fun | n=>n⟩
theorem Tryz.keysPort:Go.Proofs.SlLaysZI.n7 Tryz.prog Tryz.keysPort_ren:= {
 mixed:=by kernel_rfl
 f7:=⟨Tryz.f227.name,by decide,Tryz.func227.trans (congrArg some (by kernel_rfl))⟩
 f10:=⟨Tryz.f243.name,by decide,Tryz.func243.trans (congrArg some (by kernel_rfl))⟩
 t0:=Tryz.underlying0
 a0:=Tryz.isAgg0
 z0:=Tryz.sizeOf0
 v0:=Tryz.zeroValue0
 t4:=Tryz.underlying4
 a4:=Tryz.isAgg4
 z4:=Tryz.sizeOf4
 v4:=Tryz.zeroValue4
 t23:=Tryz.underlying123
 a23:=Tryz.isAgg123
 z23:=Tryz.sizeOf123
 v23:=Tryz.zeroValue123
 t26:=Tryz.underlying2
 a26:=Tryz.isAgg2
 z26:=Tryz.sizeOf2
 v26:=Tryz.zeroValue2
 t27:=Tryz.underlying274
 a27:=Tryz.isAgg274
 z27:=Tryz.sizeOf274
 v27:=Tryz.zeroValue274
 t28:=Tryz.underlying275
 a28:=Tryz.isAgg275
 z28:=Tryz.sizeOf275
 v28:=Tryz.zeroValue275
 t33:=Tryz.underlying153
 a33:=Tryz.isAgg153
 z33:=Tryz.sizeOf153
 v33:=Tryz.zeroValue153 }
end Go.Proofs

namespace Go.Proofs.YtkbcplnlehdjfaaGreat
open Go.RowKit
theorem Ib {P:Program} {ops:Array Oper} {S:World→Prop} {o:Oper} {a:Act} (hw:Region.wanted o (yielded ops a.tmps)=true) (ty:TypeId) (x:Operand) (ho:o.op= .load ty x)
  (g:Nat) (hx:a.eval x= .pointer (some ⟨g,0,none⟩)) (t:TypeId) (cs:Array Value) (d:TypeDesc) (hS: ∀ w,S w→w.heap[g]? =some (.cells cs t (0,0)))
  (hu:P.underlying ty=some d) (hd:(match d with | .struct _ | .array _ _=>true | _=>false)=true) (hi:(P.info? ty).map (·.size)=some cs.size):YieldsIf P ops S o (.agg cs) a:=
 .inl ⟨hw,fun w hw'=>by
  unfold execOp
  simp only [ho,hx,Instr.loadAt,Instr.sureAddr,Sem.run_bind,Sem.run_pure,Result.andThen_ok,run_loadVar_row w g t ty cs (0,0) d (hS w hw') hu hd hi]⟩
theorem FQ (p:af) (w:World) (hg:p.Good w):Calls Tryz.prog 24 #[.agg p.cells] w fun e w'=>e= .returned (.bool (bK p.pure))∧Below w.heap.size w w':=by
 have HG:Hid (p.Good (w.alloc (.cells p.cells 32))∧Below w.heap.size w (w.alloc (.cells p.cells 32))):=⟨hg.below ((Below.refl _ _).alloc (Nat.le_refl _) _),(Below.refl _ _).alloc (Nat.le_refl _) _⟩
 clear hg
 unfold af.cells at *
 go_enter Tryz.func24,Tryz.ntmps24
 go_wp2_with fail
 generalize w.alloc (.cells p.row 32)=W at *
 refine (iO p W HG.out.1).mono ?_
 rintro e w1 ⟨hb1,⟨hno,rfl⟩ | ⟨fm,o,S,rfl,-,-⟩⟩
 ·have HZ:Hid (Below w.heap.size w w1∧bK p.pure=false):=⟨HG.out.2.trans (hb1.mono HG.out.2.size),dL hno⟩
  clear hb1 hno
  go_wp2
  go_ret
  exact ⟨al HZ.out.2.symm,HZ.out.1⟩
 ·have HZ:Hid (Below w.heap.size w w1∧bK p.pure=true):=⟨HG.out.2.trans (hb1.mono HG.out.2.size),fP fm⟩
  clear hb1 fm
  go_wp2
  go_ret
  exact ⟨al HZ.out.2.symm,HZ.out.1⟩
def mY {α:Type} (K:Kind α) (T:TypeId) (w:World) (l:List α) (e:Ending) (w':World):Prop:= ∃ a cap,e= .returned (.slice a l.length cap)∧w'.ownsRow w.heap.size T K.n (.slice a l.length cap) l.length (K.flat l)∧Below w.heap.size w w'
end Go.Proofs.YtkbcplnlehdjfaaGreat
namespace Go.Proofs.YtkbcplnlehdjfaaGreat
open Go.RowKit Go.Maps Go.Sort Go.Shelf
theorem yI (mb:Option Nat) (W:World):Calls Tryz.prog 223 #[.map mb] W fun e w'=>e= .returned (.func (.func 239) #[] #[.pointer (some ⟨W.heap.size,0,none⟩)])∧w'=W.alloc (.cells #[.map mb] 111):=
 (callsIn_wide (n:=5)).1 (AnyZI.keys_in Tryz.keysSem Fence.wide 5 trivial rfl mb W)
theorem qR (Bm b:Nat) (m:df) (W:World) (hBm:Bm < W.heap.size) (hc:W.cell? ⟨Bm,0,none⟩=some (.map (some b))) (h:cF W b m) (hm:m.length≤1048576):
  Calls Tryz.prog 220 #[.func (.func 239) #[] #[.pointer (some ⟨Bm,0,none⟩)]] W fun e w'=> ∃ v:Value,e= .returned v∧w'.ownsRow W.heap.size 2 1 v m.length (m.map fun p=> .int .i64 p.1)∧Below W.heap.size W w':=by
 have hsz:Maps.size (gA m)=m.length:=size_map m
 have hseq:SeqGives Fence.wide 2 Tryz.prog 239 #[.pointer (some ⟨Bm,0,none⟩)] encZ (fun ss=>ss.Perm (intKeys (gA m))) (Maps.size (gA m)) W:=
  AnyZI.keys_gives (ρ:=Tryz.keysSem_ren) { Tryz.keysSem with } Fence.wide _ trivial rfl (by omega) Bm b m.length (gA m) W hBm hc h.1
 have cS:=AnyZI.sorted_in Tryz.sortedA Fence.wide 5 trivial trivial trivial trivial rfl (by omega) (Tryz.sortsA _) (enters_of Tryz.func231 (by kernel_rfl) rfl) 239 #[.pointer (some ⟨Bm,0,none⟩)] trivial (enters_of Tryz.func239 (by kernel_rfl) rfl) _ _ (by rw [hsz]; unfold maxLen; omega) (by rw [hsz]; omega) _ hseq
 change CallsIn _ _ Tryz.prog 220 _ _ _ at cS
 refine (callsIn_wide.1 cS).mono ?_
 rintro e w' ⟨v,ss,rfl,hS,hrow,hnil,kj⟩
 refine ⟨v,rfl,?_,kj⟩
 rw [jG h.2 hS] at hrow
 have hl:ss.length=m.length:=by
  rw [hS.length_eq,lU,List.length_map]
 rw [hl,List.map_map] at hrow
 exact hrow
theorem CX:(Tryz.prog.info? 221).map (fun i=>(i.zero,i.size,i.bytes))=some (some (.pointer none),1,8):=by kernel_rfl
theorem CS (most:Int) (b:Nat) (m:df) (w:World) (h:cF w b m) (hm:m.length≤1048576) (hwf: ∀ p∈m,(Lit.int .i64 p.1).wf=true):
  Calls Tryz.prog 207 #[.agg #[.int .i64 most,.map (some b)]] w fun e w'=> ∃ a cap,e= .returned (.slice a m.length cap)∧w'.ownsRow w.heap.size 221 1 (.slice a m.length cap) m.length (m.map fun p=>dt p.2)∧Below w.heap.size w w':=by
 obtain ⟨i0,hi,e0⟩:=Option.map_eq_some_iff.1 CX
 simp only [Prod.mk.injEq] at e0
 have HI:Hid (Tryz.prog.info? 221=some i0∧i0.zero=some (.pointer none)∧i0.size=1∧i0.bytes=8):=⟨hi,e0⟩
 have HM:Hid (cF w b m∧ ∀ p∈m,(Lit.int .i64 p.1).wf=true):=⟨h,hwf⟩
 have hbl:b < w.heap.size:=h.lt
 clear hi e0 h hwf
 go_enter Tryz.func207,Tryz.ntmps207
 go_wp2_with (go_at_call 223; refine (yI _ _).mono ?_; rintro e w' ⟨rfl,rfl⟩)
 refine (qR (w.heap.size+1) b m _ (by simp) (by simp) (HM.out.1.below (((Below.refl _ w).alloc (Nat.le_refl _) _).alloc (by simp) _)) hm).mono ?_
 rintro e w2 ⟨v,rfl,hown,hb2⟩
 have cy:Hid (Below w.heap.size w w2):=(((Below.refl _ w).alloc (Nat.le_refl _) _).alloc (by simp) _).trans (hb2.mono (by simp; omega))
 have HS:Hid (w2.heap[w.heap.size]? =some (.cells #[.int .i64 most,.map (some b)] 113 (0,0))):=(hb2.block _ (by simp; omega)).trans ((heap_alloc_old _ _ (by simp)).trans (heap_alloc_new _ _))
 obtain ⟨a,cap,hv,hrow⟩:=cr hown
 have HR:Hid (Row w2 a (m.map fun p=> .int .i64 p.1)):=hrow
 rw [hv]
 clear hv hown hrow hb2 v
 go_wp2_with fail
 go_loopw [3,11] (fun l i wr=> ∃ k:Nat,k≤m.length∧i= .int .i64 k∧ ∃ a' cap',l= .slice a' k cap'∧Hid (wr.ownsRow w2.heap.size 221 1 (.slice a' k cap') k ((m.take k).map fun p=>dt p.2)∧Below w2.heap.size w2 wr)) (fun _ i _=>m.length - (intOf i).toNat)
 case atStart=>exact ⟨0,Nat.zero_le _,rfl,none,0,rfl,⟨World.ownsRow_nil _ _ _ _,Below.refl _ _⟩⟩
 case round=>
  obtain ⟨k,hk,rfl,a',cap',rfl,HO⟩:=hrel
  by_cases hlt:k < m.length
  ·have qE:(0:Int)≤(k:Int):=by omega
   have i1:(k:Int) < (m.length:Int):=by omega
   obtain ⟨p,hp⟩: ∃ p,m[k]? =some p:=⟨_,List.getElem?_eq_getElem hlt⟩
   have hpm:=List.mem_of_getElem? hp
   obtain ⟨g,ha,hc⟩:=(HR.out.below HO.out.2) k (.int .i64 p.1) (by simp [hp])
   subst ha
   have oE:=cy.out.size
   have kT:=HO.out.2.size
   have ut:cF wr b m:=HM.out.1.below (cy.out.trans (HO.out.2.mono oE))
   have hlk:=ut.look Tryz.underlying111 (vU wr) (HM.out.2 p hpm) false
   rw [jI ut.2 hpm] at hlk
   have hsw:wr.heap[w.heap.size]? =some (.cells #[.int .i64 most,.map (some b)] 113 (0,0)):=(HO.out.2.block _ (Array.getElem?_eq_some_iff.1 HS.out).1).trans HS.out
   have s1:wr.cell? ⟨w.heap.size,1,none⟩=some (.map (some b)):=by simp [World.cell?,hsw]
   have HP:Hid (m[k]? =some p):=hp
   simp only [qz,dt,Bool.false_eq_true,if_false] at hlk
   clear hp hpm ut hsw
   go_wp2_with (at_builtin; refine wpList_append_own_at _ rfl _ _ 255 rfl w2.heap.size 221 i0 (.pointer none) 1 8 Tryz.underlying255 HI.out.1 HI.out.2.1 HI.out.2.2.1 HI.out.2.2.2 rfl (by decide) (.slice a' k cap') k ((m.take k).map fun p=>dt p.2) rfl (HO.out.1.alloc _) ⟨wr.heap.size,0,none⟩ 1 1 [.pointer (some ⟨p.2,0,none⟩)] (by rfl) rfl (World.news_of_block (cs:= #[.pointer (some ⟨p.2,0,none⟩)]) (t:=221) (fr:=(0,0)) (heap_alloc_new wr _)) (by simp [Value.oneCell']) (by unfold maxLen; omega) (by omega) (by simp; omega) ?_; intro v' w5 hown' hgrow hnil jV; obtain ⟨a5,im,rfl,-⟩:=cr hown'; have HN:Hid (w5.ownsRow w2.heap.size 221 1 (.slice a5 (k+1) im) (k+1) ((m.take (k+1)).map fun p=>dt p.2)∧Below w2.heap.size w2 w5):=⟨by rw [cj HP.out,List.map_append]; exact hown',(HO.out.2.alloc kT _).grown hgrow (by simp; omega) (fun q hq=>(HO.out.1.lt q hq).1)⟩; clear hown' hgrow hnil jV)
   go_roundw
   case rel=>exact ⟨k+1,by omega,by go_num,a5,im,rfl,HN⟩
   case measure=>simp [intOf]; omega
  ·have i1: ¬ (k:Int) < (m.length:Int):=by omega
   have e:k=m.length:=by omega
   subst e
   go_wp2
   go_ret
   refine ⟨a',cap',rfl,?_,cy.out.trans (HO.out.2.mono cy.out.size)⟩
   have:=cq HO.out.1 cy.out.size
   rwa [List.take_length] at this
theorem vq (mb:Option Nat) (W:World):Calls Tryz.prog 224 #[.map mb] W fun e w'=>e= .returned (.func (.func 240) #[] #[.pointer (some ⟨W.heap.size,0,none⟩)])∧w'=W.alloc (.cells #[.map mb] 114):=
 (callsIn_wide (n:=5)).1 (AnyZI.keys_in Tryz.keysEvent Fence.wide 5 trivial rfl mb W)
theorem pD (Bm b:Nat) (m:df) (W:World) (hBm:Bm < W.heap.size) (hc:W.cell? ⟨Bm,0,none⟩=some (.map (some b))) (h:cF W b m) (hm:m.length≤1048576):
  Calls Tryz.prog 220 #[.func (.func 240) #[] #[.pointer (some ⟨Bm,0,none⟩)]] W fun e w'=> ∃ v:Value,e= .returned v∧w'.ownsRow W.heap.size 2 1 v m.length (m.map fun p=> .int .i64 p.1)∧Below W.heap.size W w':=by
 have hsz:Maps.size (gA m)=m.length:=size_map m
 have hseq:SeqGives Fence.wide 2 Tryz.prog 240 #[.pointer (some ⟨Bm,0,none⟩)] encZ (fun ss=>ss.Perm (intKeys (gA m))) (Maps.size (gA m)) W:=
  AnyZI.keys_gives (ρ:=Tryz.keysEvent_ren) { Tryz.keysEvent with } Fence.wide _ trivial rfl (by omega) Bm b m.length (gA m) W hBm hc h.1
 have cS:=AnyZI.sorted_in Tryz.sortedA Fence.wide 5 trivial trivial trivial trivial rfl (by omega) (Tryz.sortsA _) (enters_of Tryz.func231 (by kernel_rfl) rfl) 240 #[.pointer (some ⟨Bm,0,none⟩)] trivial (enters_of Tryz.func240 (by kernel_rfl) rfl) _ _ (by rw [hsz]; unfold maxLen; omega) (by rw [hsz]; omega) _ hseq
 change CallsIn _ _ Tryz.prog 220 _ _ _ at cS
 refine (callsIn_wide.1 cS).mono ?_
 rintro e w' ⟨v,ss,rfl,hS,hrow,hnil,kj⟩
 refine ⟨v,rfl,?_,kj⟩
 rw [jG h.2 hS] at hrow
 have hl:ss.length=m.length:=by
  rw [hS.length_eq,lU,List.length_map]
 rw [hl,List.map_map] at hrow
 exact hrow
theorem zk:(Tryz.prog.info? 222).map (fun i=>(i.zero,i.size,i.bytes))=some (some (.pointer none),1,8):=by kernel_rfl
theorem yh (most:Int) (b:Nat) (m:df) (w:World) (h:cF w b m) (hm:m.length≤1048576) (hwf: ∀ p∈m,(Lit.int .i64 p.1).wf=true):
  Calls Tryz.prog 208 #[.agg #[.int .i64 most,.map (some b)]] w fun e w'=> ∃ a cap,e= .returned (.slice a m.length cap)∧w'.ownsRow w.heap.size 222 1 (.slice a m.length cap) m.length (m.map fun p=>dt p.2)∧Below w.heap.size w w':=by
 obtain ⟨i0,hi,e0⟩:=Option.map_eq_some_iff.1 zk
 simp only [Prod.mk.injEq] at e0
 have HI:Hid (Tryz.prog.info? 222=some i0∧i0.zero=some (.pointer none)∧i0.size=1∧i0.bytes=8):=⟨hi,e0⟩
 have HM:Hid (cF w b m∧ ∀ p∈m,(Lit.int .i64 p.1).wf=true):=⟨h,hwf⟩
 have hbl:b < w.heap.size:=h.lt
 clear hi e0 h hwf
 go_enter Tryz.func208,Tryz.ntmps208
 go_wp2_with (go_at_call 224; refine (vq _ _).mono ?_; rintro e w' ⟨rfl,rfl⟩)
 refine (pD (w.heap.size+1) b m _ (by simp) (by simp) (HM.out.1.below (((Below.refl _ w).alloc (Nat.le_refl _) _).alloc (by simp) _)) hm).mono ?_
 rintro e w2 ⟨v,rfl,hown,hb2⟩
 have cy:Hid (Below w.heap.size w w2):=(((Below.refl _ w).alloc (Nat.le_refl _) _).alloc (by simp) _).trans (hb2.mono (by simp; omega))
 have HS:Hid (w2.heap[w.heap.size]? =some (.cells #[.int .i64 most,.map (some b)] 116 (0,0))):=(hb2.block _ (by simp; omega)).trans ((heap_alloc_old _ _ (by simp)).trans (heap_alloc_new _ _))
 obtain ⟨a,cap,hv,hrow⟩:=cr hown
 have HR:Hid (Row w2 a (m.map fun p=> .int .i64 p.1)):=hrow
 rw [hv]
 clear hv hown hrow hb2 v
 go_wp2_with fail
 go_loopw [3,11] (fun l i wr=> ∃ k:Nat,k≤m.length∧i= .int .i64 k∧ ∃ a' cap',l= .slice a' k cap'∧Hid (wr.ownsRow w2.heap.size 222 1 (.slice a' k cap') k ((m.take k).map fun p=>dt p.2)∧Below w2.heap.size w2 wr)) (fun _ i _=>m.length - (intOf i).toNat)
 case atStart=>exact ⟨0,Nat.zero_le _,rfl,none,0,rfl,⟨World.ownsRow_nil _ _ _ _,Below.refl _ _⟩⟩
 case round=>
  obtain ⟨k,hk,rfl,a',cap',rfl,HO⟩:=hrel
  by_cases hlt:k < m.length
  ·have qE:(0:Int)≤(k:Int):=by omega
   have i1:(k:Int) < (m.length:Int):=by omega
   obtain ⟨p,hp⟩: ∃ p,m[k]? =some p:=⟨_,List.getElem?_eq_getElem hlt⟩
   have hpm:=List.mem_of_getElem? hp
   obtain ⟨g,ha,hc⟩:=(HR.out.below HO.out.2) k (.int .i64 p.1) (by simp [hp])
   subst ha
   have oE:=cy.out.size
   have kT:=HO.out.2.size
   have ut:cF wr b m:=HM.out.1.below (cy.out.trans (HO.out.2.mono oE))
   have hlk:=ut.look Tryz.underlying114 (rE wr) (HM.out.2 p hpm) false
   rw [jI ut.2 hpm] at hlk
   have hsw:wr.heap[w.heap.size]? =some (.cells #[.int .i64 most,.map (some b)] 116 (0,0)):=(HO.out.2.block _ (Array.getElem?_eq_some_iff.1 HS.out).1).trans HS.out
   have s1:wr.cell? ⟨w.heap.size,1,none⟩=some (.map (some b)):=by simp [World.cell?,hsw]
   have HP:Hid (m[k]? =some p):=hp
   simp only [qz,dt,Bool.false_eq_true,if_false] at hlk
   clear hp hpm ut hsw
   go_wp2_with (at_builtin; refine wpList_append_own_at _ rfl _ _ 257 rfl w2.heap.size 222 i0 (.pointer none) 1 8 Tryz.underlying257 HI.out.1 HI.out.2.1 HI.out.2.2.1 HI.out.2.2.2 rfl (by decide) (.slice a' k cap') k ((m.take k).map fun p=>dt p.2) rfl (HO.out.1.alloc _) ⟨wr.heap.size,0,none⟩ 1 1 [.pointer (some ⟨p.2,0,none⟩)] (by rfl) rfl (World.news_of_block (cs:= #[.pointer (some ⟨p.2,0,none⟩)]) (t:=222) (fr:=(0,0)) (heap_alloc_new wr _)) (by simp [Value.oneCell']) (by unfold maxLen; omega) (by omega) (by simp; omega) ?_; intro v' w5 hown' hgrow hnil jV; obtain ⟨a5,im,rfl,-⟩:=cr hown'; have HN:Hid (w5.ownsRow w2.heap.size 222 1 (.slice a5 (k+1) im) (k+1) ((m.take (k+1)).map fun p=>dt p.2)∧Below w2.heap.size w2 w5):=⟨by rw [cj HP.out,List.map_append]; exact hown',(HO.out.2.alloc kT _).grown hgrow (by simp; omega) (fun q hq=>(HO.out.1.lt q hq).1)⟩; clear hown' hgrow hnil jV)
   go_roundw
   case rel=>exact ⟨k+1,by omega,by go_num,a5,im,rfl,HN⟩
   case measure=>simp [intOf]; omega
  ·have i1: ¬ (k:Int) < (m.length:Int):=by omega
   have e:k=m.length:=by omega
   subst e
   go_wp2
   go_ret
   refine ⟨a',cap',rfl,?_,cy.out.trans (HO.out.2.mono cy.out.size)⟩
   have:=cq HO.out.1 cy.out.size
   rwa [List.take_length] at this
theorem vL (mb:Option Nat) (W:World):Calls Tryz.prog 225 #[.map mb] W fun e w'=>e= .returned (.func (.func 241) #[] #[.pointer (some ⟨W.heap.size,0,none⟩)])∧w'=W.alloc (.cells #[.map mb] 117):=
 (callsIn_wide (n:=5)).1 (AnyZI.keys_in Tryz.keysBoard Fence.wide 5 trivial rfl mb W)
theorem pB (Bm b:Nat) (m:df) (W:World) (hBm:Bm < W.heap.size) (hc:W.cell? ⟨Bm,0,none⟩=some (.map (some b))) (h:cF W b m) (hm:m.length≤1048576):
  Calls Tryz.prog 220 #[.func (.func 241) #[] #[.pointer (some ⟨Bm,0,none⟩)]] W fun e w'=> ∃ v:Value,e= .returned v∧w'.ownsRow W.heap.size 2 1 v m.length (m.map fun p=> .int .i64 p.1)∧Below W.heap.size W w':=by
 have hsz:Maps.size (gA m)=m.length:=size_map m
 have hseq:SeqGives Fence.wide 2 Tryz.prog 241 #[.pointer (some ⟨Bm,0,none⟩)] encZ (fun ss=>ss.Perm (intKeys (gA m))) (Maps.size (gA m)) W:=
  AnyZI.keys_gives (ρ:=Tryz.keysBoard_ren) { Tryz.keysBoard with } Fence.wide _ trivial rfl (by omega) Bm b m.length (gA m) W hBm hc h.1
 have cS:=AnyZI.sorted_in Tryz.sortedA Fence.wide 5 trivial trivial trivial trivial rfl (by omega) (Tryz.sortsA _) (enters_of Tryz.func231 (by kernel_rfl) rfl) 241 #[.pointer (some ⟨Bm,0,none⟩)] trivial (enters_of Tryz.func241 (by kernel_rfl) rfl) _ _ (by rw [hsz]; unfold maxLen; omega) (by rw [hsz]; omega) _ hseq
 change CallsIn _ _ Tryz.prog 220 _ _ _ at cS
 refine (callsIn_wide.1 cS).mono ?_
 rintro e w' ⟨v,ss,rfl,hS,hrow,hnil,kj⟩
 refine ⟨v,rfl,?_,kj⟩
 rw [jG h.2 hS] at hrow
 have hl:ss.length=m.length:=by
  rw [hS.length_eq,lU,List.length_map]
 rw [hl,List.map_map] at hrow
 exact hrow
theorem zM:(Tryz.prog.info? 223).map (fun i=>(i.zero,i.size,i.bytes))=some (some (.pointer none),1,8):=by kernel_rfl
theorem yB (most:Int) (b:Nat) (m:df) (w:World) (h:cF w b m) (hm:m.length≤1048576) (hwf: ∀ p∈m,(Lit.int .i64 p.1).wf=true):
  Calls Tryz.prog 209 #[.agg #[.int .i64 most,.map (some b)]] w fun e w'=> ∃ a cap,e= .returned (.slice a m.length cap)∧w'.ownsRow w.heap.size 223 1 (.slice a m.length cap) m.length (m.map fun p=>dt p.2)∧Below w.heap.size w w':=by
 obtain ⟨i0,hi,e0⟩:=Option.map_eq_some_iff.1 zM
 simp only [Prod.mk.injEq] at e0
 have HI:Hid (Tryz.prog.info? 223=some i0∧i0.zero=some (.pointer none)∧i0.size=1∧i0.bytes=8):=⟨hi,e0⟩
 have HM:Hid (cF w b m∧ ∀ p∈m,(Lit.int .i64 p.1).wf=true):=⟨h,hwf⟩
 have hbl:b < w.heap.size:=h.lt
 clear hi e0 h hwf
 go_enter Tryz.func209,Tryz.ntmps209
 go_wp2_with (go_at_call 225; refine (vL _ _).mono ?_; rintro e w' ⟨rfl,rfl⟩)
 refine (pB (w.heap.size+1) b m _ (by simp) (by simp) (HM.out.1.below (((Below.refl _ w).alloc (Nat.le_refl _) _).alloc (by simp) _)) hm).mono ?_
 rintro e w2 ⟨v,rfl,hown,hb2⟩
 have cy:Hid (Below w.heap.size w w2):=(((Below.refl _ w).alloc (Nat.le_refl _) _).alloc (by simp) _).trans (hb2.mono (by simp; omega))
 have HS:Hid (w2.heap[w.heap.size]? =some (.cells #[.int .i64 most,.map (some b)] 119 (0,0))):=(hb2.block _ (by simp; omega)).trans ((heap_alloc_old _ _ (by simp)).trans (heap_alloc_new _ _))
 obtain ⟨a,cap,hv,hrow⟩:=cr hown
 have HR:Hid (Row w2 a (m.map fun p=> .int .i64 p.1)):=hrow
 rw [hv]
 clear hv hown hrow hb2 v
 go_wp2_with fail
 go_loopw [3,11] (fun l i wr=> ∃ k:Nat,k≤m.length∧i= .int .i64 k∧ ∃ a' cap',l= .slice a' k cap'∧Hid (wr.ownsRow w2.heap.size 223 1 (.slice a' k cap') k ((m.take k).map fun p=>dt p.2)∧Below w2.heap.size w2 wr)) (fun _ i _=>m.length - (intOf i).toNat)
 case atStart=>exact ⟨0,Nat.zero_le _,rfl,none,0,rfl,⟨World.ownsRow_nil _ _ _ _,Below.refl _ _⟩⟩
 case round=>
  obtain ⟨k,hk,rfl,a',cap',rfl,HO⟩:=hrel
  by_cases hlt:k < m.length
  ·have qE:(0:Int)≤(k:Int):=by omega
   have i1:(k:Int) < (m.length:Int):=by omega
   obtain ⟨p,hp⟩: ∃ p,m[k]? =some p:=⟨_,List.getElem?_eq_getElem hlt⟩
   have hpm:=List.mem_of_getElem? hp
   obtain ⟨g,ha,hc⟩:=(HR.out.below HO.out.2) k (.int .i64 p.1) (by simp [hp])
   subst ha
   have oE:=cy.out.size
   have kT:=HO.out.2.size
   have ut:cF wr b m:=HM.out.1.below (cy.out.trans (HO.out.2.mono oE))
   have hlk:=ut.look Tryz.underlying117 (qW wr) (HM.out.2 p hpm) false
   rw [jI ut.2 hpm] at hlk
   have hsw:wr.heap[w.heap.size]? =some (.cells #[.int .i64 most,.map (some b)] 119 (0,0)):=(HO.out.2.block _ (Array.getElem?_eq_some_iff.1 HS.out).1).trans HS.out
   have s1:wr.cell? ⟨w.heap.size,1,none⟩=some (.map (some b)):=by simp [World.cell?,hsw]
   have HP:Hid (m[k]? =some p):=hp
   simp only [qz,dt,Bool.false_eq_true,if_false] at hlk
   clear hp hpm ut hsw
   go_wp2_with (at_builtin; refine wpList_append_own_at _ rfl _ _ 259 rfl w2.heap.size 223 i0 (.pointer none) 1 8 Tryz.underlying259 HI.out.1 HI.out.2.1 HI.out.2.2.1 HI.out.2.2.2 rfl (by decide) (.slice a' k cap') k ((m.take k).map fun p=>dt p.2) rfl (HO.out.1.alloc _) ⟨wr.heap.size,0,none⟩ 1 1 [.pointer (some ⟨p.2,0,none⟩)] (by rfl) rfl (World.news_of_block (cs:= #[.pointer (some ⟨p.2,0,none⟩)]) (t:=223) (fr:=(0,0)) (heap_alloc_new wr _)) (by simp [Value.oneCell']) (by unfold maxLen; omega) (by omega) (by simp; omega) ?_; intro v' w5 hown' hgrow hnil jV; obtain ⟨a5,im,rfl,-⟩:=cr hown'; have HN:Hid (w5.ownsRow w2.heap.size 223 1 (.slice a5 (k+1) im) (k+1) ((m.take (k+1)).map fun p=>dt p.2)∧Below w2.heap.size w2 w5):=⟨by rw [cj HP.out,List.map_append]; exact hown',(HO.out.2.alloc kT _).grown hgrow (by simp; omega) (fun q hq=>(HO.out.1.lt q hq).1)⟩; clear hown' hgrow hnil jV)
   go_roundw
   case rel=>exact ⟨k+1,by omega,by go_num,a5,im,rfl,HN⟩
   case measure=>simp [intOf]; omega
  ·have i1: ¬ (k:Int) < (m.length:Int):=by omega
   have e:k=m.length:=by omega
   subst e
   go_wp2
   go_ret
   refine ⟨a',cap',rfl,?_,cy.out.trans (HO.out.2.mono cy.out.size)⟩
   have:=cq HO.out.1 cy.out.size
   rwa [List.take_length] at this
theorem tr (mb:Option Nat) (W:World):Calls Tryz.prog 226 #[.map mb] W fun e w'=>e= .returned (.func (.func 242) #[] #[.pointer (some ⟨W.heap.size,0,none⟩)])∧w'=W.alloc (.cells #[.map mb] 120):=
 (callsIn_wide (n:=5)).1 (AnyZI.keys_in Tryz.keysBuffer Fence.wide 5 trivial rfl mb W)
theorem oF (Bm b:Nat) (m:df) (W:World) (hBm:Bm < W.heap.size) (hc:W.cell? ⟨Bm,0,none⟩=some (.map (some b))) (h:cF W b m) (hm:m.length≤1048576):
  Calls Tryz.prog 220 #[.func (.func 242) #[] #[.pointer (some ⟨Bm,0,none⟩)]] W fun e w'=> ∃ v:Value,e= .returned v∧w'.ownsRow W.heap.size 2 1 v m.length (m.map fun p=> .int .i64 p.1)∧Below W.heap.size W w':=by
 have hsz:Maps.size (gA m)=m.length:=size_map m
 have hseq:SeqGives Fence.wide 2 Tryz.prog 242 #[.pointer (some ⟨Bm,0,none⟩)] encZ (fun ss=>ss.Perm (intKeys (gA m))) (Maps.size (gA m)) W:=
  AnyZI.keys_gives (ρ:=Tryz.keysBuffer_ren) { Tryz.keysBuffer with } Fence.wide _ trivial rfl (by omega) Bm b m.length (gA m) W hBm hc h.1
 have cS:=AnyZI.sorted_in Tryz.sortedA Fence.wide 5 trivial trivial trivial trivial rfl (by omega) (Tryz.sortsA _) (enters_of Tryz.func231 (by kernel_rfl) rfl) 242 #[.pointer (some ⟨Bm,0,none⟩)] trivial (enters_of Tryz.func242 (by kernel_rfl) rfl) _ _ (by rw [hsz]; unfold maxLen; omega) (by rw [hsz]; omega) _ hseq
 change CallsIn _ _ Tryz.prog 220 _ _ _ at cS
 refine (callsIn_wide.1 cS).mono ?_
 rintro e w' ⟨v,ss,rfl,hS,hrow,hnil,kj⟩
 refine ⟨v,rfl,?_,kj⟩
 rw [jG h.2 hS] at hrow
 have hl:ss.length=m.length:=by
  rw [hS.length_eq,lU,List.length_map]
 rw [hl,List.map_map] at hrow
 exact hrow
theorem wt:(Tryz.prog.info? 224).map (fun i=>(i.zero,i.size,i.bytes))=some (some (.pointer none),1,8):=by kernel_rfl
theorem wF (most:Int) (b:Nat) (m:df) (w:World) (h:cF w b m) (hm:m.length≤1048576) (hwf: ∀ p∈m,(Lit.int .i64 p.1).wf=true):
  Calls Tryz.prog 210 #[.agg #[.int .i64 most,.map (some b)]] w fun e w'=> ∃ a cap,e= .returned (.slice a m.length cap)∧w'.ownsRow w.heap.size 224 1 (.slice a m.length cap) m.length (m.map fun p=>dt p.2)∧Below w.heap.size w w':=by
 obtain ⟨i0,hi,e0⟩:=Option.map_eq_some_iff.1 wt
 simp only [Prod.mk.injEq] at e0
 have HI:Hid (Tryz.prog.info? 224=some i0∧i0.zero=some (.pointer none)∧i0.size=1∧i0.bytes=8):=⟨hi,e0⟩
 have HM:Hid (cF w b m∧ ∀ p∈m,(Lit.int .i64 p.1).wf=true):=⟨h,hwf⟩
 have hbl:b < w.heap.size:=h.lt
 clear hi e0 h hwf
 go_enter Tryz.func210,Tryz.ntmps210
 go_wp2_with (go_at_call 226; refine (tr _ _).mono ?_; rintro e w' ⟨rfl,rfl⟩)
 refine (oF (w.heap.size+1) b m _ (by simp) (by simp) (HM.out.1.below (((Below.refl _ w).alloc (Nat.le_refl _) _).alloc (by simp) _)) hm).mono ?_
 rintro e w2 ⟨v,rfl,hown,hb2⟩
 have cy:Hid (Below w.heap.size w w2):=(((Below.refl _ w).alloc (Nat.le_refl _) _).alloc (by simp) _).trans (hb2.mono (by simp; omega))
 have HS:Hid (w2.heap[w.heap.size]? =some (.cells #[.int .i64 most,.map (some b)] 122 (0,0))):=(hb2.block _ (by simp; omega)).trans ((heap_alloc_old _ _ (by simp)).trans (heap_alloc_new _ _))
 obtain ⟨a,cap,hv,hrow⟩:=cr hown
 have HR:Hid (Row w2 a (m.map fun p=> .int .i64 p.1)):=hrow
 rw [hv]
 clear hv hown hrow hb2 v
 go_wp2_with fail
 go_loopw [3,11] (fun l i wr=> ∃ k:Nat,k≤m.length∧i= .int .i64 k∧ ∃ a' cap',l= .slice a' k cap'∧Hid (wr.ownsRow w2.heap.size 224 1 (.slice a' k cap') k ((m.take k).map fun p=>dt p.2)∧Below w2.heap.size w2 wr)) (fun _ i _=>m.length - (intOf i).toNat)
 case atStart=>exact ⟨0,Nat.zero_le _,rfl,none,0,rfl,⟨World.ownsRow_nil _ _ _ _,Below.refl _ _⟩⟩
 case round=>
  obtain ⟨k,hk,rfl,a',cap',rfl,HO⟩:=hrel
  by_cases hlt:k < m.length
  ·have qE:(0:Int)≤(k:Int):=by omega
   have i1:(k:Int) < (m.length:Int):=by omega
   obtain ⟨p,hp⟩: ∃ p,m[k]? =some p:=⟨_,List.getElem?_eq_getElem hlt⟩
   have hpm:=List.mem_of_getElem? hp
   obtain ⟨g,ha,hc⟩:=(HR.out.below HO.out.2) k (.int .i64 p.1) (by simp [hp])
   subst ha
   have oE:=cy.out.size
   have kT:=HO.out.2.size
   have ut:cF wr b m:=HM.out.1.below (cy.out.trans (HO.out.2.mono oE))
   have hlk:=ut.look Tryz.underlying120 (pS wr) (HM.out.2 p hpm) false
   rw [jI ut.2 hpm] at hlk
   have hsw:wr.heap[w.heap.size]? =some (.cells #[.int .i64 most,.map (some b)] 122 (0,0)):=(HO.out.2.block _ (Array.getElem?_eq_some_iff.1 HS.out).1).trans HS.out
   have s1:wr.cell? ⟨w.heap.size,1,none⟩=some (.map (some b)):=by simp [World.cell?,hsw]
   have HP:Hid (m[k]? =some p):=hp
   simp only [qz,dt,Bool.false_eq_true,if_false] at hlk
   clear hp hpm ut hsw
   go_wp2_with (at_builtin; refine wpList_append_own_at _ rfl _ _ 261 rfl w2.heap.size 224 i0 (.pointer none) 1 8 Tryz.underlying261 HI.out.1 HI.out.2.1 HI.out.2.2.1 HI.out.2.2.2 rfl (by decide) (.slice a' k cap') k ((m.take k).map fun p=>dt p.2) rfl (HO.out.1.alloc _) ⟨wr.heap.size,0,none⟩ 1 1 [.pointer (some ⟨p.2,0,none⟩)] (by rfl) rfl (World.news_of_block (cs:= #[.pointer (some ⟨p.2,0,none⟩)]) (t:=224) (fr:=(0,0)) (heap_alloc_new wr _)) (by simp [Value.oneCell']) (by unfold maxLen; omega) (by omega) (by simp; omega) ?_; intro v' w5 hown' hgrow hnil jV; obtain ⟨a5,im,rfl,-⟩:=cr hown'; have HN:Hid (w5.ownsRow w2.heap.size 224 1 (.slice a5 (k+1) im) (k+1) ((m.take (k+1)).map fun p=>dt p.2)∧Below w2.heap.size w2 w5):=⟨by rw [cj HP.out,List.map_append]; exact hown',(HO.out.2.alloc kT _).grown hgrow (by simp; omega) (fun q hq=>(HO.out.1.lt q hq).1)⟩; clear hown' hgrow hnil jV)
   go_roundw
   case rel=>exact ⟨k+1,by omega,by go_num,a5,im,rfl,HN⟩
   case measure=>simp [intOf]; omega
  ·have i1: ¬ (k:Int) < (m.length:Int):=by omega
   have e:k=m.length:=by omega
   subst e
   go_wp2
   go_ret
   refine ⟨a',cap',rfl,?_,cy.out.trans (HO.out.2.mono cy.out.size)⟩
   have:=cq HO.out.1 cy.out.size
   rwa [List.take_length] at this
theorem wq (mb:Option Nat) (W:World):Calls Tryz.prog 227 #[.map mb] W fun e w'=>e= .returned (.func (.func 243) #[] #[.pointer (some ⟨W.heap.size,0,none⟩)])∧w'=W.alloc (.cells #[.map mb] 123):=
 (callsIn_wide (n:=5)).1 (AnyZI.keys_in Tryz.keysPort Fence.wide 5 trivial rfl mb W)
theorem pY (Bm b:Nat) (m:df) (W:World) (hBm:Bm < W.heap.size) (hc:W.cell? ⟨Bm,0,none⟩=some (.map (some b))) (h:cF W b m) (hm:m.length≤1048576):
  Calls Tryz.prog 220 #[.func (.func 243) #[] #[.pointer (some ⟨Bm,0,none⟩)]] W fun e w'=> ∃ v:Value,e= .returned v∧w'.ownsRow W.heap.size 2 1 v m.length (m.map fun p=> .int .i64 p.1)∧Below W.heap.size W w':=by
 have hsz:Maps.size (gA m)=m.length:=size_map m
 have hseq:SeqGives Fence.wide 2 Tryz.prog 243 #[.pointer (some ⟨Bm,0,none⟩)] encZ (fun ss=>ss.Perm (intKeys (gA m))) (Maps.size (gA m)) W:=
  AnyZI.keys_gives (ρ:=Tryz.keysPort_ren) { Tryz.keysPort with } Fence.wide _ trivial rfl (by omega) Bm b m.length (gA m) W hBm hc h.1
 have cS:=AnyZI.sorted_in Tryz.sortedA Fence.wide 5 trivial trivial trivial trivial rfl (by omega) (Tryz.sortsA _) (enters_of Tryz.func231 (by kernel_rfl) rfl) 243 #[.pointer (some ⟨Bm,0,none⟩)] trivial (enters_of Tryz.func243 (by kernel_rfl) rfl) _ _ (by rw [hsz]; unfold maxLen; omega) (by rw [hsz]; omega) _ hseq
 change CallsIn _ _ Tryz.prog 220 _ _ _ at cS
 refine (callsIn_wide.1 cS).mono ?_
 rintro e w' ⟨v,ss,rfl,hS,hrow,hnil,kj⟩
 refine ⟨v,rfl,?_,kj⟩
 rw [jG h.2 hS] at hrow
 have hl:ss.length=m.length:=by
  rw [hS.length_eq,lU,List.length_map]
 rw [hl,List.map_map] at hrow
 exact hrow
theorem BK:(Tryz.prog.info? 225).map (fun i=>(i.zero,i.size,i.bytes))=some (some (.pointer none),1,8):=by kernel_rfl
theorem Bx (most:Int) (b:Nat) (m:df) (w:World) (h:cF w b m) (hm:m.length≤1048576) (hwf: ∀ p∈m,(Lit.int .i64 p.1).wf=true):
  Calls Tryz.prog 211 #[.agg #[.int .i64 most,.map (some b)]] w fun e w'=> ∃ a cap,e= .returned (.slice a m.length cap)∧w'.ownsRow w.heap.size 225 1 (.slice a m.length cap) m.length (m.map fun p=>dt p.2)∧Below w.heap.size w w':=by
 obtain ⟨i0,hi,e0⟩:=Option.map_eq_some_iff.1 BK
 simp only [Prod.mk.injEq] at e0
 have HI:Hid (Tryz.prog.info? 225=some i0∧i0.zero=some (.pointer none)∧i0.size=1∧i0.bytes=8):=⟨hi,e0⟩
 have HM:Hid (cF w b m∧ ∀ p∈m,(Lit.int .i64 p.1).wf=true):=⟨h,hwf⟩
 have hbl:b < w.heap.size:=h.lt
 clear hi e0 h hwf
 go_enter Tryz.func211,Tryz.ntmps211
 go_wp2_with (go_at_call 227; refine (wq _ _).mono ?_; rintro e w' ⟨rfl,rfl⟩)
 refine (pY (w.heap.size+1) b m _ (by simp) (by simp) (HM.out.1.below (((Below.refl _ w).alloc (Nat.le_refl _) _).alloc (by simp) _)) hm).mono ?_
 rintro e w2 ⟨v,rfl,hown,hb2⟩
 have cy:Hid (Below w.heap.size w w2):=(((Below.refl _ w).alloc (Nat.le_refl _) _).alloc (by simp) _).trans (hb2.mono (by simp; omega))
 have HS:Hid (w2.heap[w.heap.size]? =some (.cells #[.int .i64 most,.map (some b)] 125 (0,0))):=(hb2.block _ (by simp; omega)).trans ((heap_alloc_old _ _ (by simp)).trans (heap_alloc_new _ _))
 obtain ⟨a,cap,hv,hrow⟩:=cr hown
 have HR:Hid (Row w2 a (m.map fun p=> .int .i64 p.1)):=hrow
 rw [hv]
 clear hv hown hrow hb2 v
 go_wp2_with fail
 go_loopw [3,11] (fun l i wr=> ∃ k:Nat,k≤m.length∧i= .int .i64 k∧ ∃ a' cap',l= .slice a' k cap'∧Hid (wr.ownsRow w2.heap.size 225 1 (.slice a' k cap') k ((m.take k).map fun p=>dt p.2)∧Below w2.heap.size w2 wr)) (fun _ i _=>m.length - (intOf i).toNat)
 case atStart=>exact ⟨0,Nat.zero_le _,rfl,none,0,rfl,⟨World.ownsRow_nil _ _ _ _,Below.refl _ _⟩⟩
 case round=>
  obtain ⟨k,hk,rfl,a',cap',rfl,HO⟩:=hrel
  by_cases hlt:k < m.length
  ·have qE:(0:Int)≤(k:Int):=by omega
   have i1:(k:Int) < (m.length:Int):=by omega
   obtain ⟨p,hp⟩: ∃ p,m[k]? =some p:=⟨_,List.getElem?_eq_getElem hlt⟩
   have hpm:=List.mem_of_getElem? hp
   obtain ⟨g,ha,hc⟩:=(HR.out.below HO.out.2) k (.int .i64 p.1) (by simp [hp])
   subst ha
   have oE:=cy.out.size
   have kT:=HO.out.2.size
   have ut:cF wr b m:=HM.out.1.below (cy.out.trans (HO.out.2.mono oE))
   have hlk:=ut.look Tryz.underlying123 (sK wr) (HM.out.2 p hpm) false
   rw [jI ut.2 hpm] at hlk
   have hsw:wr.heap[w.heap.size]? =some (.cells #[.int .i64 most,.map (some b)] 125 (0,0)):=(HO.out.2.block _ (Array.getElem?_eq_some_iff.1 HS.out).1).trans HS.out
   have s1:wr.cell? ⟨w.heap.size,1,none⟩=some (.map (some b)):=by simp [World.cell?,hsw]
   have HP:Hid (m[k]? =some p):=hp
   simp only [qz,dt,Bool.false_eq_true,if_false] at hlk
   clear hp hpm ut hsw
   go_wp2_with (at_builtin; refine wpList_append_own_at _ rfl _ _ 263 rfl w2.heap.size 225 i0 (.pointer none) 1 8 Tryz.underlying263 HI.out.1 HI.out.2.1 HI.out.2.2.1 HI.out.2.2.2 rfl (by decide) (.slice a' k cap') k ((m.take k).map fun p=>dt p.2) rfl (HO.out.1.alloc _) ⟨wr.heap.size,0,none⟩ 1 1 [.pointer (some ⟨p.2,0,none⟩)] (by rfl) rfl (World.news_of_block (cs:= #[.pointer (some ⟨p.2,0,none⟩)]) (t:=225) (fr:=(0,0)) (heap_alloc_new wr _)) (by simp [Value.oneCell']) (by unfold maxLen; omega) (by omega) (by simp; omega) ?_; intro v' w5 hown' hgrow hnil jV; obtain ⟨a5,im,rfl,-⟩:=cr hown'; have HN:Hid (w5.ownsRow w2.heap.size 225 1 (.slice a5 (k+1) im) (k+1) ((m.take (k+1)).map fun p=>dt p.2)∧Below w2.heap.size w2 w5):=⟨by rw [cj HP.out,List.map_append]; exact hown',(HO.out.2.alloc kT _).grown hgrow (by simp; omega) (fun q hq=>(HO.out.1.lt q hq).1)⟩; clear hown' hgrow hnil jV)
   go_roundw
   case rel=>exact ⟨k+1,by omega,by go_num,a5,im,rfl,HN⟩
   case measure=>simp [intOf]; omega
  ·have i1: ¬ (k:Int) < (m.length:Int):=by omega
   have e:k=m.length:=by omega
   subst e
   go_wp2
   go_ret
   refine ⟨a',cap',rfl,?_,cy.out.trans (HO.out.2.mono cy.out.size)⟩
   have:=cq HO.out.1 cy.out.size
   rwa [List.take_length] at this
end Go.Proofs.YtkbcplnlehdjfaaGreat
