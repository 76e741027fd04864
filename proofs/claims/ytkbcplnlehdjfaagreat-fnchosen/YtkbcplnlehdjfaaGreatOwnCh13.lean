/- What the proof leans on, part 13: PSpec2. -/
import Derived.Test.YtkbcplnlehdjfaaGreatOwnCh11
import Derived.Deep.QuietTactic
import Derived.BigQuiet
set_option maxRecDepth 100000
set_option maxHeartbeats 8000000

namespace Go.Proofs.YtkbcplnlehdjfaaGreat
open Go.RowKit
theorem l1In_yes {n lo hi:Int} (h:inB n lo hi=true)(w:World):Calls Tryz.prog 78 #[.int .i64 n,.int .i64 lo,.int .i64 hi] w fun e w'=>e= .returned(.bool true)∧w'=w:=by
 refine(l1In_any n lo hi w).mono ?_
 rintro e w'⟨rfl,rfl⟩
 exact⟨ret_bool h,rfl⟩
theorem l1In_no {n lo hi:Int} (h:inB n lo hi=false)(w:World):Calls Tryz.prog 78 #[.int .i64 n,.int .i64 lo,.int .i64 hi] w fun e w'=>e= .returned(.bool false)∧w'=w:=by
 refine(l1In_any n lo hi w).mono ?_
 rintro e w'⟨rfl,rfl⟩
 exact⟨ret_bool h,rfl⟩
def thingsOk(p:PartD):Bool:=thingsB(fun x:SemD=>x.id)semB 0 p.sems && thingsB(fun x:EventD=>x.id)eventB 0 p.events && thingsB(fun x:BoardD=>x.id)boardB 0 p.boards && thingsB(fun x:BufferD=>x.id)(fun x=>bufferB x.toBufferP)0 p.buffers && thingsB(fun x:PortD=>x.id)(fun x=>portB x.toPortP)0 p.ports && decide(p.sems.length≤5) && decide(p.events.length≤5) && decide(p.boards.length≤5) && decide(p.buffers.length≤5) && decide(p.ports.length≤5)
theorem thingsOk_noSem {p:PartD} (h:thingsB(fun x:SemD=>x.id)semB 0 p.sems=false):thingsOk p=false:=by simp [thingsOk,h]
theorem thingsOk_noEvent {p:PartD} (h:thingsB(fun x:EventD=>x.id)eventB 0 p.events=false):thingsOk p=false:=by simp [thingsOk,h]
theorem thingsOk_noBoard {p:PartD} (h:thingsB(fun x:BoardD=>x.id)boardB 0 p.boards=false):thingsOk p=false:=by simp [thingsOk,h]
theorem thingsOk_noBuffer {p:PartD} (h:thingsB(fun x:BufferD=>x.id)(fun x=>bufferB x.toBufferP)0 p.buffers=false):thingsOk p=false:=by simp [thingsOk,h]
theorem thingsOk_noPort {p:PartD} (h:thingsB(fun x:PortD=>x.id)(fun x=>portB x.toPortP)0 p.ports=false):thingsOk p=false:=by simp [thingsOk,h]
theorem thingsOk_len0 {p:PartD} (h:decide((p.sems.length:Int)≤5)=false):thingsOk p=false:=by
 have h1:decide(p.sems.length≤5)=false:=decide_eq_false(by have:=of_decide_eq_false h; omega)
 simp [thingsOk,h1]
theorem thingsOk_len1 {p:PartD} (h:decide((p.events.length:Int)≤5)=false):thingsOk p=false:=by
 have h1:decide(p.events.length≤5)=false:=decide_eq_false(by have:=of_decide_eq_false h; omega)
 simp [thingsOk,h1]
theorem thingsOk_len2 {p:PartD} (h:decide((p.boards.length:Int)≤5)=false):thingsOk p=false:=by
 have h1:decide(p.boards.length≤5)=false:=decide_eq_false(by have:=of_decide_eq_false h; omega)
 simp [thingsOk,h1]
theorem thingsOk_len3 {p:PartD} (h:decide((p.buffers.length:Int)≤5)=false):thingsOk p=false:=by
 have h1:decide(p.buffers.length≤5)=false:=decide_eq_false(by have:=of_decide_eq_false h; omega)
 simp [thingsOk,h1]
theorem thingsOk_len4 {p:PartD} (h:decide((p.ports.length:Int)≤5)=false):thingsOk p=false:=by
 have h1:decide(p.ports.length≤5)=false:=decide_eq_false(by have:=of_decide_eq_false h; omega)
 simp [thingsOk,h1]
theorem thingsOk_yes {p:PartD} (t0:thingsB(fun x:SemD=>x.id)semB 0 p.sems=true)(t1:thingsB(fun x:EventD=>x.id)eventB 0 p.events=true)(t2:thingsB(fun x:BoardD=>x.id)boardB 0 p.boards=true)(t3:thingsB(fun x:BufferD=>x.id)(fun x=>bufferB x.toBufferP)0 p.buffers=true)(t4:thingsB(fun x:PortD=>x.id)(fun x=>portB x.toPortP)0 p.ports=true)(d0:decide((p.sems.length:Int)≤5)=true)(d1:decide((p.events.length:Int)≤5)=true)(d2:decide((p.boards.length:Int)≤5)=true)(d3:decide((p.buffers.length:Int)≤5)=true)(d4:decide((p.ports.length:Int)≤5)=true):thingsOk p=true:=by
 have e0:decide(p.sems.length≤5)=true:=decide_eq_true(by have:=of_decide_eq_true d0; omega)
 have e1:decide(p.events.length≤5)=true:=decide_eq_true(by have:=of_decide_eq_true d1; omega)
 have e2:decide(p.boards.length≤5)=true:=decide_eq_true(by have:=of_decide_eq_true d2; omega)
 have e3:decide(p.buffers.length≤5)=true:=decide_eq_true(by have:=of_decide_eq_true d3; omega)
 have e4:decide(p.ports.length≤5)=true:=decide_eq_true(by have:=of_decide_eq_true d4; omega)
 simp only [thingsOk,t0,t1,t2,t3,t4,e0,e1,e2,e3,e4,Bool.and_self]
theorem plain_is {s:ByteArray} {b:Bool} (h:plainB s=b)(hs:s.size≤1048576)(w:World):Calls Tryz.prog 181 #[.string s] w fun e w'=>e= .returned(.bool b)∧w'=w:=by
 refine(l2Plain_any s w hs).mono ?_
 rintro e w'⟨rfl,rfl⟩
 exact⟨ret_bool h,rfl⟩
theorem texts_is {W:World} {o:Obj} {a:Option Addr} {l:List ByteArray} {cap:Nat} {most:Int} {b:Bool} (h:textsB l most=b)(hf:TextsFit W a l)(n:Nat):
  Calls Tryz.prog 182 #[.slice a l.length cap,.int .i64 most] ((W.alloc o).drewN n)fun e w'=>e= .returned(.bool b)∧w'=(W.alloc o).drewN n:=by
 refine(l3Texts_any a l cap most((W.alloc o).drewN n)hf.len hf.short ?_).mono ?_
 ·exact hf.row.below(below_drewN((Below.refl _ W).alloc(Nat.le_refl _)o)n)
 ·rintro e w'⟨rfl,rfl⟩
  exact⟨ret_bool h,rfl⟩
theorem last_none {α:Type} {num:α→Int} {l:List α} :lastOf num 0(l.take 0)=0:=by simp [lastOf]
structure PartD.Fit(p:PartD):Prop where
 short:p.Short
 boards: ∀ b∈p.boards,b.text.size≤1048576
 buffers: ∀ b∈p.buffers,b.items.length≤1048576∧ ∀ s∈b.items,s.size≤1048576
 ports: ∀ b∈p.ports,b.items.length≤1048576∧ ∀ s∈b.items,s.size≤1048576
theorem l3Things_any(p:PartD)(w:World)(hf:p.Fit)(h:PartD.At w p):
  Calls Tryz.prog 102 #[.agg p.cells] w fun e w'=>e= .returned(.bool(thingsOk p))∧Below w.heap.size w w':=by
 have HB:Hid(PartBox(w.alloc(.cells p.cells 32))w.heap.size p∧PartD.At(w.alloc(.cells p.cells 32))p∧Below w.heap.size w(w.alloc(.cells p.cells 32))):=⟨heap_alloc_new _ _,h.below((Below.refl _ _).alloc(Nat.le_refl _)_),(Below.refl _ _).alloc(Nat.le_refl _)_⟩
 have HFT:Hid p.Fit:=hf
 clear h hf
 unfold PartD.cells at *
 go_enter Tryz.func102,Tryz.ntmps102
 go_wp2_with fail
 generalize w.alloc(.cells p.row 32)=W at *
 go_loopw [3] (fun i wr=> ∃ k:Nat,k≤p.sems.length∧i= .int .i64 k∧Hid(thingsB(fun x:SemD=>x.id)semB 0(p.sems.take k)=true∧Below W.heap.size W wr))(fun i _=>p.sems.length - (intOf i).toNat)
 case atStart=>exact⟨0,Nat.zero_le _,rfl,⟨rfl,Below.refl _ _⟩⟩
 case round=>
  obtain⟨k,hk,rfl,HA⟩:=hrel
  have hsz:w.heap.size < wr.heap.size:=Nat.lt_of_lt_of_le(Array.getElem?_eq_some_iff.1 HB.out.1).1 HA.out.2.size
  have HB2:Hid(PartBox wr w.heap.size p∧PartD.At wr p∧Below w.heap.size w wr):=⟨HB.out.1.below HA.out.2,HB.out.2.1.below HA.out.2,HB.out.2.2.trans(HA.out.2.mono HB.out.2.2.size)⟩
  obtain⟨m0,m1,m2,m3,m4,m5,m6,m7⟩:=HB2.out.1.cells
  have hll:=HFT.out.short.sems
  by_cases hlt:k < p.sems.length
  ·as_aux_lemma=>
    have i0:(0:Int)≤(k:Int):=by omega
    have i1:(k:Int) < (p.sems.length:Int):=by omega
    obtain⟨x,hx⟩: ∃ x,p.sems[k]? =some x:=⟨_,List.getElem?_eq_getElem hlt⟩
    have hmem:=List.mem_of_getElem? hx
    obtain⟨gs,ha,hat⟩:=sem_at HB2.out.2.1.2.1 hx
    have hgs:gs < wr.heap.size:=block_lt_of_cell hat.1
    have HP:Hid(∀ y,p.sems[k - 1]? =some y→wr.cell? ⟨gs,(k - 1) * 3,none⟩=some(.int .i64 y.id)):=fun y hy=>by
     obtain⟨g2,ha2,hat2⟩:=sem_at HB2.out.2.1.2.1 hy
     rw [ha] at ha2
     cases ha2
     exact hat2.1
    obtain⟨c0,c1,c2⟩:=hat
    rw [ha] at m3
    have HX:Hid(p.sems[k]? =some x):=hx
    clear hx ha hmem HB
    cases hin:inB x.id 1 1000
    ·have HCI:Hid(∀ w,Calls Tryz.prog 78 #[.int .i64 x.id,.int .i64 1,.int .i64 1000] w fun e w'=>e= .returned(.bool false)∧w'=w):=l1In_no hin
     have HIN:Hid(inB x.id 1 1000=false):=hin
     clear hin
     have HN:Hid(thingsOk p=false):=thingsOk_noSem(things_no HX.out(fun hh=>by rw [HIN.out] at hh; cases hh.1))
     go_wp2_with fail
     go_quiet((first
      | (go_at_call_of 78(x.id); exact Calls.quiet_of_same(HCI.out _))))
     go_wp2
     go_ret
     exact⟨ret_bool HN.out.symm,below_drewN(HB2.out.2.2.alloc HB2.out.2.2.size _)_⟩
    have HIN:Hid(inB x.id 1 1000=true):=hin
    have HCI:Hid(∀ w,Calls Tryz.prog 78 #[.int .i64 x.id,.int .i64 1,.int .i64 1000] w fun e w'=>e= .returned(.bool true)∧w'=w):=l1In_yes hin
    clear hin
    by_cases hk0:k=0
    ·have dk:decide(0 < k)=false:=decide_eq_false(by omega)
     have HLT:Hid(lastOf(fun x:SemD=>x.id)0(p.sems.take k) < x.id):=by show _ < _; rw [hk0,last_none]; have:=inB_iff.1 HIN.out; omega
     clear hk0
     cases h5:inB x.max 1 1000
     ·have HC5:Hid(∀ w,Calls Tryz.prog 78 #[.int .i64 x.max,.int .i64 1,.int .i64 1000] w fun e w'=>e= .returned(.bool false)∧w'=w):=l1In_no h5
      have H5:Hid(inB x.max 1 1000=false):=h5
      clear h5
      have HN:Hid(thingsOk p=false):=thingsOk_noSem(things_no HX.out(fun hh=>by have h9:=hh.2.2; simp [semB,H5.out] at h9))
      go_wp2_with fail
      go_quiet((first
       | (go_at_call_of 78(x.id); exact Calls.quiet_of_same(HCI.out _))
       | (go_at_call_of 78(x.max); exact Calls.quiet_of_same(HC5.out _))))
      go_wp2
      go_ret
      exact⟨ret_bool HN.out.symm,below_drewN(HB2.out.2.2.alloc HB2.out.2.2.size _)_⟩
     have HC5:Hid(∀ w,Calls Tryz.prog 78 #[.int .i64 x.max,.int .i64 1,.int .i64 1000] w fun e w'=>e= .returned(.bool true)∧w'=w):=l1In_yes h5
     have H5:Hid(inB x.max 1 1000=true):=h5
     clear h5
     cases h6:inB x.n 0 x.max
     ·have HC6:Hid(∀ w,Calls Tryz.prog 78 #[.int .i64 x.n,.int .i64 0,.int .i64 x.max] w fun e w'=>e= .returned(.bool false)∧w'=w):=l1In_no h6
      have H6:Hid(inB x.n 0 x.max=false):=h6
      clear h6
      have HN:Hid(thingsOk p=false):=thingsOk_noSem(things_no HX.out(fun hh=>by have h9:=hh.2.2; simp [semB,H6.out] at h9))
      go_wp2_with fail
      go_quiet((first
       | (go_at_call_of 78(x.id); exact Calls.quiet_of_same(HCI.out _))
       | (go_at_call_of 78(x.n); exact Calls.quiet_of_same(HC6.out _))
       | (go_at_call_of 78(x.max); exact Calls.quiet_of_same(HC5.out _))))
      go_wp2
      go_ret
      exact⟨ret_bool HN.out.symm,below_drewN(HB2.out.2.2.alloc HB2.out.2.2.size _)_⟩
     have HC6:Hid(∀ w,Calls Tryz.prog 78 #[.int .i64 x.n,.int .i64 0,.int .i64 x.max] w fun e w'=>e= .returned(.bool true)∧w'=w):=l1In_yes h6
     have H6:Hid(inB x.n 0 x.max=true):=h6
     clear h6
     have HY:Hid(thingsB(fun x:SemD=>x.id)semB 0(p.sems.take(k+1))=true):=things_yes HA.out.1 HX.out HIN.out HLT.out(by simp [semB,H5.out,H6.out])
     go_wp2_with fail
     go_quiet((first
      | (go_at_call_of 78(x.id); exact Calls.quiet_of_same(HCI.out _))
      | (go_at_call_of 78(x.n); exact Calls.quiet_of_same(HC6.out _))
      | (go_at_call_of 78(x.max); exact Calls.quiet_of_same(HC5.out _))))
     go_wp2
     go_roundw
     case rel=>exact⟨k+1,by omega,by go_num,⟨HY.out,below_drewN(HA.out.2.alloc HA.out.2.size _)_⟩⟩
     case measure=>simp [intOf]; omega
    obtain⟨j,rfl⟩: ∃ j,k=j+1:=⟨k - 1,by omega⟩
    obtain⟨y,hy⟩: ∃ y,p.sems[j]? =some y:=⟨_,List.getElem?_eq_getElem(by omega)⟩
    have cp:wr.cell? ⟨gs,j * 3,none⟩=some(.int .i64 y.id):=HP.out y hy
    have j0:(0:Int)≤(j:Int):=by omega
    have j1:(j:Int) < (p.sems.length:Int):=by omega
    have wk:IntKind.i64.wrap(j:Int)=(j:Int):=by rw [IntKind.wrap_i64]; omega
    have HLA:Hid(lastOf(fun x:SemD=>x.id)0(p.sems.take(j+1))=y.id):=lastOf_take hy 0
    clear hy hk0
    by_cases hle:x.id≤y.id
    ·have dp:decide(x.id≤y.id)=true:=decide_eq_true hle
     have HN:Hid(thingsOk p=false):=thingsOk_noSem(things_no HX.out(fun hh=>by have h9:=hh.2.1; rw [HLA.out] at h9; have h9:y.id < x.id:=h9; omega))
     go_wp2_with fail
     go_quiet((first
      | (go_at_call_of 78(x.id); exact Calls.quiet_of_same(HCI.out _))))
     go_wp2
     go_ret
     exact⟨ret_bool HN.out.symm,below_drewN(HB2.out.2.2.alloc HB2.out.2.2.size _)_⟩
    have dp:decide(x.id≤y.id)=false:=decide_eq_false hle
    have HLT:Hid(lastOf(fun x:SemD=>x.id)0(p.sems.take(j+1)) < x.id):=by show _ < _; rw [HLA.out]; show y.id < x.id; omega
    cases h5:inB x.max 1 1000
    ·have HC5:Hid(∀ w,Calls Tryz.prog 78 #[.int .i64 x.max,.int .i64 1,.int .i64 1000] w fun e w'=>e= .returned(.bool false)∧w'=w):=l1In_no h5
     have H5:Hid(inB x.max 1 1000=false):=h5
     clear h5
     have HN:Hid(thingsOk p=false):=thingsOk_noSem(things_no HX.out(fun hh=>by have h9:=hh.2.2; simp [semB,H5.out] at h9))
     go_wp2_with fail
     go_quiet((first
      | (go_at_call_of 78(x.id); exact Calls.quiet_of_same(HCI.out _))
      | (go_at_call_of 78(x.max); exact Calls.quiet_of_same(HC5.out _))))
     go_wp2
     go_ret
     exact⟨ret_bool HN.out.symm,below_drewN(HB2.out.2.2.alloc HB2.out.2.2.size _)_⟩
    have HC5:Hid(∀ w,Calls Tryz.prog 78 #[.int .i64 x.max,.int .i64 1,.int .i64 1000] w fun e w'=>e= .returned(.bool true)∧w'=w):=l1In_yes h5
    have H5:Hid(inB x.max 1 1000=true):=h5
    clear h5
    cases h6:inB x.n 0 x.max
    ·have HC6:Hid(∀ w,Calls Tryz.prog 78 #[.int .i64 x.n,.int .i64 0,.int .i64 x.max] w fun e w'=>e= .returned(.bool false)∧w'=w):=l1In_no h6
     have H6:Hid(inB x.n 0 x.max=false):=h6
     clear h6
     have HN:Hid(thingsOk p=false):=thingsOk_noSem(things_no HX.out(fun hh=>by have h9:=hh.2.2; simp [semB,H6.out] at h9))
     go_wp2_with fail
     go_quiet((first
      | (go_at_call_of 78(x.id); exact Calls.quiet_of_same(HCI.out _))
      | (go_at_call_of 78(x.n); exact Calls.quiet_of_same(HC6.out _))
      | (go_at_call_of 78(x.max); exact Calls.quiet_of_same(HC5.out _))))
     go_wp2
     go_ret
     exact⟨ret_bool HN.out.symm,below_drewN(HB2.out.2.2.alloc HB2.out.2.2.size _)_⟩
    have HC6:Hid(∀ w,Calls Tryz.prog 78 #[.int .i64 x.n,.int .i64 0,.int .i64 x.max] w fun e w'=>e= .returned(.bool true)∧w'=w):=l1In_yes h6
    have H6:Hid(inB x.n 0 x.max=true):=h6
    clear h6
    have HY:Hid(thingsB(fun x:SemD=>x.id)semB 0(p.sems.take((j+1)+1))=true):=things_yes HA.out.1 HX.out HIN.out HLT.out(by simp [semB,H5.out,H6.out])
    go_wp2_with fail
    go_quiet((first
     | (go_at_call_of 78(x.id); exact Calls.quiet_of_same(HCI.out _))
     | (go_at_call_of 78(x.n); exact Calls.quiet_of_same(HC6.out _))
     | (go_at_call_of 78(x.max); exact Calls.quiet_of_same(HC5.out _))))
    go_wp2
    go_roundw
    case rel=>exact⟨(j+1)+1,by omega,by go_num,⟨HY.out,below_drewN(HA.out.2.alloc HA.out.2.size _)_⟩⟩
    case measure=>simp [intOf]; omega
  ·have i1: ¬ (k:Int) < (p.sems.length:Int):=by omega
   have HT0:Hid(thingsB(fun x:SemD=>x.id)semB 0 p.sems=true):=by have:=HA.out.1; rwa [List.take_of_length_le(by omega)] at this
   clear HA HB hlt hk hsz hll
   go_wp2_with fail
   clear i1 m0 m1 m2 m3 m4 m5 m6 m7
   rename World=>W0
   have HB:Hid(PartBox W0 w.heap.size p∧PartD.At W0 p∧Below w.heap.size w W0):=HB2.out
   clear HB2
   go_loopw [5] (fun i wr=> ∃ k:Nat,k≤p.events.length∧i= .int .i64 k∧Hid(thingsB(fun x:EventD=>x.id)eventB 0(p.events.take k)=true∧Below W0.heap.size W0 wr))(fun i _=>p.events.length - (intOf i).toNat)
   case atStart=>exact⟨0,Nat.zero_le _,rfl,⟨rfl,Below.refl _ _⟩⟩
   case round=>
    obtain⟨k,hk,rfl,HA⟩:=hrel
    have hsz:w.heap.size < wr.heap.size:=Nat.lt_of_lt_of_le(Array.getElem?_eq_some_iff.1 HB.out.1).1 HA.out.2.size
    have HB2:Hid(PartBox wr w.heap.size p∧PartD.At wr p∧Below w.heap.size w wr):=⟨HB.out.1.below HA.out.2,HB.out.2.1.below HA.out.2,HB.out.2.2.trans(HA.out.2.mono HB.out.2.2.size)⟩
    obtain⟨m0,m1,m2,m3,m4,m5,m6,m7⟩:=HB2.out.1.cells
    have hll:=HFT.out.short.events
    by_cases hlt:k < p.events.length
    ·as_aux_lemma=>
      have i0:(0:Int)≤(k:Int):=by omega
      have i1:(k:Int) < (p.events.length:Int):=by omega
      obtain⟨x,hx⟩: ∃ x,p.events[k]? =some x:=⟨_,List.getElem?_eq_getElem hlt⟩
      have hmem:=List.mem_of_getElem? hx
      obtain⟨gs,ha,hat⟩:=event_at HB2.out.2.1.2.2.1 hx
      have hgs:gs < wr.heap.size:=block_lt_of_cell hat.1
      have HP:Hid(∀ y,p.events[k - 1]? =some y→wr.cell? ⟨gs,(k - 1) * 2,none⟩=some(.int .i64 y.id)):=fun y hy=>by
       obtain⟨g2,ha2,hat2⟩:=event_at HB2.out.2.1.2.2.1 hy
       rw [ha] at ha2
       cases ha2
       exact hat2.1
      obtain⟨c0,c1⟩:=hat
      rw [ha] at m4
      have HX:Hid(p.events[k]? =some x):=hx
      clear hx ha hmem HB
      cases hin:inB x.id 1 1000
      ·have HCI:Hid(∀ w,Calls Tryz.prog 78 #[.int .i64 x.id,.int .i64 1,.int .i64 1000] w fun e w'=>e= .returned(.bool false)∧w'=w):=l1In_no hin
       have HIN:Hid(inB x.id 1 1000=false):=hin
       clear hin
       have HN:Hid(thingsOk p=false):=thingsOk_noEvent(things_no HX.out(fun hh=>by rw [HIN.out] at hh; cases hh.1))
       go_wp2_with fail
       go_quiet((first
        | (go_at_call_of 78(x.id); exact Calls.quiet_of_same(HCI.out _))))
       go_wp2
       go_ret
       exact⟨ret_bool HN.out.symm,below_drewN HB2.out.2.2 _⟩
      have HIN:Hid(inB x.id 1 1000=true):=hin
      have HCI:Hid(∀ w,Calls Tryz.prog 78 #[.int .i64 x.id,.int .i64 1,.int .i64 1000] w fun e w'=>e= .returned(.bool true)∧w'=w):=l1In_yes hin
      clear hin
      by_cases hk0:k=0
      ·have dk:decide(0 < k)=false:=decide_eq_false(by omega)
       have HLT:Hid(lastOf(fun x:EventD=>x.id)0(p.events.take k) < x.id):=by show _ < _; rw [hk0,last_none]; have:=inB_iff.1 HIN.out; omega
       clear hk0
       have HY:Hid(thingsB(fun x:EventD=>x.id)eventB 0(p.events.take(k+1))=true):=things_yes HA.out.1 HX.out HIN.out HLT.out(rfl)
       go_wp2_with fail
       go_quiet((first
        | (go_at_call_of 78(x.id); exact Calls.quiet_of_same(HCI.out _))))
       go_wp2
       go_roundw
       case rel=>exact⟨k+1,by omega,by go_num,⟨HY.out,below_drewN HA.out.2 _⟩⟩
       case measure=>simp [intOf]; omega
      obtain⟨j,rfl⟩: ∃ j,k=j+1:=⟨k - 1,by omega⟩
      obtain⟨y,hy⟩: ∃ y,p.events[j]? =some y:=⟨_,List.getElem?_eq_getElem(by omega)⟩
      have cp:wr.cell? ⟨gs,j * 2,none⟩=some(.int .i64 y.id):=HP.out y hy
      have j0:(0:Int)≤(j:Int):=by omega
      have j1:(j:Int) < (p.events.length:Int):=by omega
      have wk:IntKind.i64.wrap(j:Int)=(j:Int):=by rw [IntKind.wrap_i64]; omega
      have HLA:Hid(lastOf(fun x:EventD=>x.id)0(p.events.take(j+1))=y.id):=lastOf_take hy 0
      clear hy hk0
      by_cases hle:x.id≤y.id
      ·have dp:decide(x.id≤y.id)=true:=decide_eq_true hle
       have HN:Hid(thingsOk p=false):=thingsOk_noEvent(things_no HX.out(fun hh=>by have h9:=hh.2.1; rw [HLA.out] at h9; have h9:y.id < x.id:=h9; omega))
       go_wp2_with fail
       go_quiet((first
        | (go_at_call_of 78(x.id); exact Calls.quiet_of_same(HCI.out _))))
       go_wp2
       go_ret
       exact⟨ret_bool HN.out.symm,below_drewN HB2.out.2.2 _⟩
      have dp:decide(x.id≤y.id)=false:=decide_eq_false hle
      have HLT:Hid(lastOf(fun x:EventD=>x.id)0(p.events.take(j+1)) < x.id):=by show _ < _; rw [HLA.out]; show y.id < x.id; omega
      have HY:Hid(thingsB(fun x:EventD=>x.id)eventB 0(p.events.take((j+1)+1))=true):=things_yes HA.out.1 HX.out HIN.out HLT.out(rfl)
      go_wp2_with fail
      go_quiet((first
       | (go_at_call_of 78(x.id); exact Calls.quiet_of_same(HCI.out _))))
      go_wp2
      go_roundw
      case rel=>exact⟨(j+1)+1,by omega,by go_num,⟨HY.out,below_drewN HA.out.2 _⟩⟩
      case measure=>simp [intOf]; omega
    ·have i1: ¬ (k:Int) < (p.events.length:Int):=by omega
     have HT1:Hid(thingsB(fun x:EventD=>x.id)eventB 0 p.events=true):=by have:=HA.out.1; rwa [List.take_of_length_le(by omega)] at this
     clear HA HB hlt hk hsz hll
     go_wp2_with fail
     clear i1 m0 m1 m2 m3 m4 m5 m6 m7
     rename World=>W1
     have HB:Hid(PartBox W1 w.heap.size p∧PartD.At W1 p∧Below w.heap.size w W1):=HB2.out
     clear HB2
     go_loopw [6] (fun i wr=> ∃ k:Nat,k≤p.boards.length∧i= .int .i64 k∧Hid(thingsB(fun x:BoardD=>x.id)boardB 0(p.boards.take k)=true∧Below W1.heap.size W1 wr))(fun i _=>p.boards.length - (intOf i).toNat)
     case atStart=>exact⟨0,Nat.zero_le _,rfl,⟨rfl,Below.refl _ _⟩⟩
     case round=>
      obtain⟨k,hk,rfl,HA⟩:=hrel
      have hsz:w.heap.size < wr.heap.size:=Nat.lt_of_lt_of_le(Array.getElem?_eq_some_iff.1 HB.out.1).1 HA.out.2.size
      have HB2:Hid(PartBox wr w.heap.size p∧PartD.At wr p∧Below w.heap.size w wr):=⟨HB.out.1.below HA.out.2,HB.out.2.1.below HA.out.2,HB.out.2.2.trans(HA.out.2.mono HB.out.2.2.size)⟩
      obtain⟨m0,m1,m2,m3,m4,m5,m6,m7⟩:=HB2.out.1.cells
      have hll:=HFT.out.short.boards
      by_cases hlt:k < p.boards.length
      ·as_aux_lemma=>
        have i0:(0:Int)≤(k:Int):=by omega
        have i1:(k:Int) < (p.boards.length:Int):=by omega
        obtain⟨x,hx⟩: ∃ x,p.boards[k]? =some x:=⟨_,List.getElem?_eq_getElem hlt⟩
        have hmem:=List.mem_of_getElem? hx
        obtain⟨gs,ha,hat⟩:=board_at HB2.out.2.1.2.2.2.1 hx
        have hgs:gs < wr.heap.size:=block_lt_of_cell hat.1
        have HP:Hid(∀ y,p.boards[k - 1]? =some y→wr.cell? ⟨gs,(k - 1) * 3,none⟩=some(.int .i64 y.id)):=fun y hy=>by
         obtain⟨g2,ha2,hat2⟩:=board_at HB2.out.2.1.2.2.2.1 hy
         rw [ha] at ha2
         cases ha2
         exact hat2.1
        obtain⟨c0,c1,c2⟩:=hat
        rw [ha] at m5
        have HX:Hid(p.boards[k]? =some x):=hx
        have hts:=HFT.out.boards x hmem
        clear hx ha hmem HB
        cases hin:inB x.id 1 1000
        ·have HCI:Hid(∀ w,Calls Tryz.prog 78 #[.int .i64 x.id,.int .i64 1,.int .i64 1000] w fun e w'=>e= .returned(.bool false)∧w'=w):=l1In_no hin
         have HIN:Hid(inB x.id 1 1000=false):=hin
         clear hin
         have HN:Hid(thingsOk p=false):=thingsOk_noBoard(things_no HX.out(fun hh=>by rw [HIN.out] at hh; cases hh.1))
         go_wp2_with fail
         go_quiet((first
          | (go_at_call_of 78(x.id); exact Calls.quiet_of_same(HCI.out _))))
         go_wp2
         go_ret
         exact⟨ret_bool HN.out.symm,below_drewN(HB2.out.2.2.alloc HB2.out.2.2.size _)_⟩
        have HIN:Hid(inB x.id 1 1000=true):=hin
        have HCI:Hid(∀ w,Calls Tryz.prog 78 #[.int .i64 x.id,.int .i64 1,.int .i64 1000] w fun e w'=>e= .returned(.bool true)∧w'=w):=l1In_yes hin
        clear hin
        by_cases hk0:k=0
        ·have dk:decide(0 < k)=false:=decide_eq_false(by omega)
         have HLT:Hid(lastOf(fun x:BoardD=>x.id)0(p.boards.take k) < x.id):=by show _ < _; rw [hk0,last_none]; have:=inB_iff.1 HIN.out; omega
         clear hk0
         cases h5:plainB x.text
         ·have HC5:Hid(∀ w,Calls Tryz.prog 181 #[.string x.text] w fun e w'=>e= .returned(.bool false)∧w'=w):=plain_is h5 hts
          have H5:Hid(plainB x.text=false):=h5
          clear h5
          have HN:Hid(thingsOk p=false):=thingsOk_noBoard(things_no HX.out(fun hh=>by have h9:=hh.2.2; simp [boardB,H5.out] at h9))
          go_wp2_with fail
          go_quiet((first
           | (go_at_call_of 78(x.id); exact Calls.quiet_of_same(HCI.out _))
           | (go_at_call_of 181(x.text); exact Calls.quiet_of_same(HC5.out _))))
          go_wp2
          go_ret
          exact⟨ret_bool HN.out.symm,below_drewN(HB2.out.2.2.alloc HB2.out.2.2.size _)_⟩
         have HC5:Hid(∀ w,Calls Tryz.prog 181 #[.string x.text] w fun e w'=>e= .returned(.bool true)∧w'=w):=plain_is h5 hts
         have H5:Hid(plainB x.text=true):=h5
         clear h5
         cases h6:x.shown
         ·rw [h6] at c1
          have H6:Hid(x.shown=false):=h6
          clear h6
          cases h7:x.text.toList.isEmpty
          ·have H7:Hid(emptyB x.text=false):=h7
           have HN:Hid(thingsOk p=false):=thingsOk_noBoard(things_no HX.out(fun hh=>by have h9:=hh.2.2; simp [boardB,H6.out,H7.out] at h9))
           go_wp2_with fail
           go_quiet((first
            | (go_at_call_of 78(x.id); exact Calls.quiet_of_same(HCI.out _))
            | (go_at_call_of 181(x.text); exact Calls.quiet_of_same(HC5.out _))))
           go_wp2
           go_ret
           exact⟨ret_bool HN.out.symm,below_drewN(HB2.out.2.2.alloc HB2.out.2.2.size _)_⟩
          have H7:Hid(emptyB x.text=true):=h7
          have HY:Hid(thingsB(fun x:BoardD=>x.id)boardB 0(p.boards.take(k+1))=true):=things_yes HA.out.1 HX.out HIN.out HLT.out(by simp [boardB,H5.out,H6.out,H7.out])
          go_wp2_with fail
          go_quiet((first
           | (go_at_call_of 78(x.id); exact Calls.quiet_of_same(HCI.out _))
           | (go_at_call_of 181(x.text); exact Calls.quiet_of_same(HC5.out _))))
          go_wp2
          go_roundw
          case rel=>exact⟨k+1,by omega,by go_num,⟨HY.out,below_drewN(HA.out.2.alloc HA.out.2.size _)_⟩⟩
          case measure=>simp [intOf]; omega
         rw [h6] at c1
         have H6:Hid(x.shown=true):=h6
         clear h6
         have HY:Hid(thingsB(fun x:BoardD=>x.id)boardB 0(p.boards.take(k+1))=true):=things_yes HA.out.1 HX.out HIN.out HLT.out(by simp [boardB,H5.out,H6.out])
         go_wp2_with fail
         go_quiet((first
          | (go_at_call_of 78(x.id); exact Calls.quiet_of_same(HCI.out _))
          | (go_at_call_of 181(x.text); exact Calls.quiet_of_same(HC5.out _))))
         go_wp2
         go_roundw
         case rel=>exact⟨k+1,by omega,by go_num,⟨HY.out,below_drewN(HA.out.2.alloc HA.out.2.size _)_⟩⟩
         case measure=>simp [intOf]; omega
        obtain⟨j,rfl⟩: ∃ j,k=j+1:=⟨k - 1,by omega⟩
        obtain⟨y,hy⟩: ∃ y,p.boards[j]? =some y:=⟨_,List.getElem?_eq_getElem(by omega)⟩
        have cp:wr.cell? ⟨gs,j * 3,none⟩=some(.int .i64 y.id):=HP.out y hy
        have j0:(0:Int)≤(j:Int):=by omega
        have j1:(j:Int) < (p.boards.length:Int):=by omega
        have wk:IntKind.i64.wrap(j:Int)=(j:Int):=by rw [IntKind.wrap_i64]; omega
        have HLA:Hid(lastOf(fun x:BoardD=>x.id)0(p.boards.take(j+1))=y.id):=lastOf_take hy 0
        clear hy hk0
        by_cases hle:x.id≤y.id
        ·have dp:decide(x.id≤y.id)=true:=decide_eq_true hle
         have HN:Hid(thingsOk p=false):=thingsOk_noBoard(things_no HX.out(fun hh=>by have h9:=hh.2.1; rw [HLA.out] at h9; have h9:y.id < x.id:=h9; omega))
         go_wp2_with fail
         go_quiet((first
          | (go_at_call_of 78(x.id); exact Calls.quiet_of_same(HCI.out _))))
         go_wp2
         go_ret
         exact⟨ret_bool HN.out.symm,below_drewN(HB2.out.2.2.alloc HB2.out.2.2.size _)_⟩
        have dp:decide(x.id≤y.id)=false:=decide_eq_false hle
        have HLT:Hid(lastOf(fun x:BoardD=>x.id)0(p.boards.take(j+1)) < x.id):=by show _ < _; rw [HLA.out]; show y.id < x.id; omega
        cases h5:plainB x.text
        ·have HC5:Hid(∀ w,Calls Tryz.prog 181 #[.string x.text] w fun e w'=>e= .returned(.bool false)∧w'=w):=plain_is h5 hts
         have H5:Hid(plainB x.text=false):=h5
         clear h5
         have HN:Hid(thingsOk p=false):=thingsOk_noBoard(things_no HX.out(fun hh=>by have h9:=hh.2.2; simp [boardB,H5.out] at h9))
         go_wp2_with fail
         go_quiet((first
          | (go_at_call_of 78(x.id); exact Calls.quiet_of_same(HCI.out _))
          | (go_at_call_of 181(x.text); exact Calls.quiet_of_same(HC5.out _))))
         go_wp2
         go_ret
         exact⟨ret_bool HN.out.symm,below_drewN(HB2.out.2.2.alloc HB2.out.2.2.size _)_⟩
        have HC5:Hid(∀ w,Calls Tryz.prog 181 #[.string x.text] w fun e w'=>e= .returned(.bool true)∧w'=w):=plain_is h5 hts
        have H5:Hid(plainB x.text=true):=h5
        clear h5
        cases h6:x.shown
        ·rw [h6] at c1
         have H6:Hid(x.shown=false):=h6
         clear h6
         cases h7:x.text.toList.isEmpty
         ·have H7:Hid(emptyB x.text=false):=h7
          have HN:Hid(thingsOk p=false):=thingsOk_noBoard(things_no HX.out(fun hh=>by have h9:=hh.2.2; simp [boardB,H6.out,H7.out] at h9))
          go_wp2_with fail
          go_quiet((first
           | (go_at_call_of 78(x.id); exact Calls.quiet_of_same(HCI.out _))
           | (go_at_call_of 181(x.text); exact Calls.quiet_of_same(HC5.out _))))
          go_wp2
          go_ret
          exact⟨ret_bool HN.out.symm,below_drewN(HB2.out.2.2.alloc HB2.out.2.2.size _)_⟩
         have H7:Hid(emptyB x.text=true):=h7
         have HY:Hid(thingsB(fun x:BoardD=>x.id)boardB 0(p.boards.take((j+1)+1))=true):=things_yes HA.out.1 HX.out HIN.out HLT.out(by simp [boardB,H5.out,H6.out,H7.out])
         go_wp2_with fail
         go_quiet((first
          | (go_at_call_of 78(x.id); exact Calls.quiet_of_same(HCI.out _))
          | (go_at_call_of 181(x.text); exact Calls.quiet_of_same(HC5.out _))))
         go_wp2
         go_roundw
         case rel=>exact⟨(j+1)+1,by omega,by go_num,⟨HY.out,below_drewN(HA.out.2.alloc HA.out.2.size _)_⟩⟩
         case measure=>simp [intOf]; omega
        rw [h6] at c1
        have H6:Hid(x.shown=true):=h6
        clear h6
        have HY:Hid(thingsB(fun x:BoardD=>x.id)boardB 0(p.boards.take((j+1)+1))=true):=things_yes HA.out.1 HX.out HIN.out HLT.out(by simp [boardB,H5.out,H6.out])
        go_wp2_with fail
        go_quiet((first
         | (go_at_call_of 78(x.id); exact Calls.quiet_of_same(HCI.out _))
         | (go_at_call_of 181(x.text); exact Calls.quiet_of_same(HC5.out _))))
        go_wp2
        go_roundw
        case rel=>exact⟨(j+1)+1,by omega,by go_num,⟨HY.out,below_drewN(HA.out.2.alloc HA.out.2.size _)_⟩⟩
        case measure=>simp [intOf]; omega
      ·have i1: ¬ (k:Int) < (p.boards.length:Int):=by omega
       have HT2:Hid(thingsB(fun x:BoardD=>x.id)boardB 0 p.boards=true):=by have:=HA.out.1; rwa [List.take_of_length_le(by omega)] at this
       clear HA HB hlt hk hsz hll
       go_wp2_with fail
       clear i1 m0 m1 m2 m3 m4 m5 m6 m7
       rename World=>W2
       have HB:Hid(PartBox W2 w.heap.size p∧PartD.At W2 p∧Below w.heap.size w W2):=HB2.out
       clear HB2
       go_loopw [8] (fun i wr=> ∃ k:Nat,k≤p.buffers.length∧i= .int .i64 k∧Hid(thingsB(fun x:BufferD=>x.id)(fun x:BufferD=>bufferB x.toBufferP)0(p.buffers.take k)=true∧Below W2.heap.size W2 wr))(fun i _=>p.buffers.length - (intOf i).toNat)
       case atStart=>exact⟨0,Nat.zero_le _,rfl,⟨rfl,Below.refl _ _⟩⟩
       case round=>
        obtain⟨k,hk,rfl,HA⟩:=hrel
        have hsz:w.heap.size < wr.heap.size:=Nat.lt_of_lt_of_le(Array.getElem?_eq_some_iff.1 HB.out.1).1 HA.out.2.size
        have HB2:Hid(PartBox wr w.heap.size p∧PartD.At wr p∧Below w.heap.size w wr):=⟨HB.out.1.below HA.out.2,HB.out.2.1.below HA.out.2,HB.out.2.2.trans(HA.out.2.mono HB.out.2.2.size)⟩
        obtain⟨m0,m1,m2,m3,m4,m5,m6,m7⟩:=HB2.out.1.cells
        have hll:=HFT.out.short.buffers
        by_cases hlt:k < p.buffers.length
        ·as_aux_lemma=>
          have i0:(0:Int)≤(k:Int):=by omega
          have i1:(k:Int) < (p.buffers.length:Int):=by omega
          obtain⟨x,hx⟩: ∃ x,p.buffers[k]? =some x:=⟨_,List.getElem?_eq_getElem hlt⟩
          have hmem:=List.mem_of_getElem? hx
          obtain⟨gs,ha,hat⟩:=buffer_at HB2.out.2.1.2.2.2.2.1 hx
          have hgs:gs < wr.heap.size:=block_lt_of_cell hat.1
          have HP:Hid(∀ y,p.buffers[k - 1]? =some y→wr.cell? ⟨gs,(k - 1) * 3,none⟩=some(.int .i64 y.id)):=fun y hy=>by
           obtain⟨g2,ha2,hat2⟩:=buffer_at HB2.out.2.1.2.2.2.2.1 hy
           rw [ha] at ha2
           cases ha2
           exact hat2.1
          obtain⟨c0,c1,c2⟩:=hat
          rw [ha] at m6
          have HX:Hid(p.buffers[k]? =some x):=hx
          have HTX:Hid(TextsFit wr x.itemsA x.items):=⟨(HFT.out.buffers x hmem).1,(HFT.out.buffers x hmem).2,buffer_items HB2.out.2.1.2.2.2.2.1 hx⟩
          clear hx ha hmem HB
          cases hin:inB x.id 1 1000
          ·have HCI:Hid(∀ w,Calls Tryz.prog 78 #[.int .i64 x.id,.int .i64 1,.int .i64 1000] w fun e w'=>e= .returned(.bool false)∧w'=w):=l1In_no hin
           have HIN:Hid(inB x.id 1 1000=false):=hin
           clear hin
           have HN:Hid(thingsOk p=false):=thingsOk_noBuffer(things_no HX.out(fun hh=>by rw [HIN.out] at hh; cases hh.1))
           go_wp2_with fail
           go_quiet((first
            | (go_at_call_of 78(x.id); exact Calls.quiet_of_same(HCI.out _))))
           go_wp2
           go_ret
           exact⟨ret_bool HN.out.symm,below_drewN(HB2.out.2.2.alloc HB2.out.2.2.size _)_⟩
          have HIN:Hid(inB x.id 1 1000=true):=hin
          have HCI:Hid(∀ w,Calls Tryz.prog 78 #[.int .i64 x.id,.int .i64 1,.int .i64 1000] w fun e w'=>e= .returned(.bool true)∧w'=w):=l1In_yes hin
          clear hin
          by_cases hk0:k=0
          ·have dk:decide(0 < k)=false:=decide_eq_false(by omega)
           have HLT:Hid(lastOf(fun x:BufferD=>x.id)0(p.buffers.take k) < x.id):=by show _ < _; rw [hk0,last_none]; have:=inB_iff.1 HIN.out; omega
           clear hk0
           cases h5:inB x.max 1 5
           ·have HC5:Hid(∀ w,Calls Tryz.prog 78 #[.int .i64 x.max,.int .i64 1,.int .i64 5] w fun e w'=>e= .returned(.bool false)∧w'=w):=l1In_no h5
            have H5:Hid(inB x.max 1 5=false):=h5
            clear h5
            have HN:Hid(thingsOk p=false):=thingsOk_noBuffer(things_no HX.out(fun hh=>by have h9:=hh.2.2; simp [bufferB,H5.out] at h9))
            go_wp2_with fail
            go_quiet((first
             | (go_at_call_of 78(x.id); exact Calls.quiet_of_same(HCI.out _))
             | (go_at_call_of 78(x.max); exact Calls.quiet_of_same(HC5.out _))))
            go_wp2
            go_ret
            exact⟨ret_bool HN.out.symm,below_drewN(HB2.out.2.2.alloc HB2.out.2.2.size _)_⟩
           have HC5:Hid(∀ w,Calls Tryz.prog 78 #[.int .i64 x.max,.int .i64 1,.int .i64 5] w fun e w'=>e= .returned(.bool true)∧w'=w):=l1In_yes h5
           have H5:Hid(inB x.max 1 5=true):=h5
           clear h5
           cases h7:textsB x.items x.max
           ·have HCT:Hid(∀ o n,Calls Tryz.prog 182 #[.slice x.itemsA x.items.length x.itemsC,.int .i64 x.max] ((wr.alloc o).drewN n)fun e w'=>e= .returned(.bool false)∧w'=(wr.alloc o).drewN n):=fun _ n=>texts_is h7 HTX.out n
            have H7:Hid(textsB x.items x.max=false):=h7
            clear h7
            have HN:Hid(thingsOk p=false):=thingsOk_noBuffer(things_no HX.out(fun hh=>by have h9:=hh.2.2; simp [bufferB,H7.out] at h9))
            go_wp2_with fail
            go_quiet((first
             | (go_at_call_of 182(x.items.length); exact Calls.quiet_of_same(HCT.out _ _))
             | (go_at_call_of 78(x.id); exact Calls.quiet_of_same(HCI.out _))
             | (go_at_call_of 78(x.max); exact Calls.quiet_of_same(HC5.out _))))
            go_wp2
            go_ret
            exact⟨ret_bool HN.out.symm,below_drewN(HB2.out.2.2.alloc HB2.out.2.2.size _)_⟩
           have HCT:Hid(∀ o n,Calls Tryz.prog 182 #[.slice x.itemsA x.items.length x.itemsC,.int .i64 x.max] ((wr.alloc o).drewN n)fun e w'=>e= .returned(.bool true)∧w'=(wr.alloc o).drewN n):=fun _ n=>texts_is h7 HTX.out n
           have H7:Hid(textsB x.items x.max=true):=h7
           clear h7
           have HY:Hid(thingsB(fun x:BufferD=>x.id)(fun x:BufferD=>bufferB x.toBufferP)0(p.buffers.take(k+1))=true):=things_yes HA.out.1 HX.out HIN.out HLT.out(by simp [bufferB,H5.out,H7.out])
           go_wp2_with fail
           go_quiet((first
            | (go_at_call_of 182(x.items.length); exact Calls.quiet_of_same(HCT.out _ _))
            | (go_at_call_of 78(x.id); exact Calls.quiet_of_same(HCI.out _))
            | (go_at_call_of 78(x.max); exact Calls.quiet_of_same(HC5.out _))))
           go_wp2
           go_roundw
           case rel=>exact⟨k+1,by omega,by go_num,⟨HY.out,below_drewN(HA.out.2.alloc HA.out.2.size _)_⟩⟩
           case measure=>simp [intOf]; omega
          obtain⟨j,rfl⟩: ∃ j,k=j+1:=⟨k - 1,by omega⟩
          obtain⟨y,hy⟩: ∃ y,p.buffers[j]? =some y:=⟨_,List.getElem?_eq_getElem(by omega)⟩
          have cp:wr.cell? ⟨gs,j * 3,none⟩=some(.int .i64 y.id):=HP.out y hy
          have j0:(0:Int)≤(j:Int):=by omega
          have j1:(j:Int) < (p.buffers.length:Int):=by omega
          have wk:IntKind.i64.wrap(j:Int)=(j:Int):=by rw [IntKind.wrap_i64]; omega
          have HLA:Hid(lastOf(fun x:BufferD=>x.id)0(p.buffers.take(j+1))=y.id):=lastOf_take hy 0
          clear hy hk0
          by_cases hle:x.id≤y.id
          ·have dp:decide(x.id≤y.id)=true:=decide_eq_true hle
           have HN:Hid(thingsOk p=false):=thingsOk_noBuffer(things_no HX.out(fun hh=>by have h9:=hh.2.1; rw [HLA.out] at h9; have h9:y.id < x.id:=h9; omega))
           go_wp2_with fail
           go_quiet((first
            | (go_at_call_of 78(x.id); exact Calls.quiet_of_same(HCI.out _))))
           go_wp2
           go_ret
           exact⟨ret_bool HN.out.symm,below_drewN(HB2.out.2.2.alloc HB2.out.2.2.size _)_⟩
          have dp:decide(x.id≤y.id)=false:=decide_eq_false hle
          have HLT:Hid(lastOf(fun x:BufferD=>x.id)0(p.buffers.take(j+1)) < x.id):=by show _ < _; rw [HLA.out]; show y.id < x.id; omega
          cases h5:inB x.max 1 5
          ·have HC5:Hid(∀ w,Calls Tryz.prog 78 #[.int .i64 x.max,.int .i64 1,.int .i64 5] w fun e w'=>e= .returned(.bool false)∧w'=w):=l1In_no h5
           have H5:Hid(inB x.max 1 5=false):=h5
           clear h5
           have HN:Hid(thingsOk p=false):=thingsOk_noBuffer(things_no HX.out(fun hh=>by have h9:=hh.2.2; simp [bufferB,H5.out] at h9))
           go_wp2_with fail
           go_quiet((first
            | (go_at_call_of 78(x.id); exact Calls.quiet_of_same(HCI.out _))
            | (go_at_call_of 78(x.max); exact Calls.quiet_of_same(HC5.out _))))
           go_wp2
           go_ret
           exact⟨ret_bool HN.out.symm,below_drewN(HB2.out.2.2.alloc HB2.out.2.2.size _)_⟩
          have HC5:Hid(∀ w,Calls Tryz.prog 78 #[.int .i64 x.max,.int .i64 1,.int .i64 5] w fun e w'=>e= .returned(.bool true)∧w'=w):=l1In_yes h5
          have H5:Hid(inB x.max 1 5=true):=h5
          clear h5
          cases h7:textsB x.items x.max
          ·have HCT:Hid(∀ o n,Calls Tryz.prog 182 #[.slice x.itemsA x.items.length x.itemsC,.int .i64 x.max] ((wr.alloc o).drewN n)fun e w'=>e= .returned(.bool false)∧w'=(wr.alloc o).drewN n):=fun _ n=>texts_is h7 HTX.out n
           have H7:Hid(textsB x.items x.max=false):=h7
           clear h7
           have HN:Hid(thingsOk p=false):=thingsOk_noBuffer(things_no HX.out(fun hh=>by have h9:=hh.2.2; simp [bufferB,H7.out] at h9))
           go_wp2_with fail
           go_quiet((first
            | (go_at_call_of 182(x.items.length); exact Calls.quiet_of_same(HCT.out _ _))
            | (go_at_call_of 78(x.id); exact Calls.quiet_of_same(HCI.out _))
            | (go_at_call_of 78(x.max); exact Calls.quiet_of_same(HC5.out _))))
           go_wp2
           go_ret
           exact⟨ret_bool HN.out.symm,below_drewN(HB2.out.2.2.alloc HB2.out.2.2.size _)_⟩
          have HCT:Hid(∀ o n,Calls Tryz.prog 182 #[.slice x.itemsA x.items.length x.itemsC,.int .i64 x.max] ((wr.alloc o).drewN n)fun e w'=>e= .returned(.bool true)∧w'=(wr.alloc o).drewN n):=fun _ n=>texts_is h7 HTX.out n
          have H7:Hid(textsB x.items x.max=true):=h7
          clear h7
          have HY:Hid(thingsB(fun x:BufferD=>x.id)(fun x:BufferD=>bufferB x.toBufferP)0(p.buffers.take((j+1)+1))=true):=things_yes HA.out.1 HX.out HIN.out HLT.out(by simp [bufferB,H5.out,H7.out])
          go_wp2_with fail
          go_quiet((first
           | (go_at_call_of 182(x.items.length); exact Calls.quiet_of_same(HCT.out _ _))
           | (go_at_call_of 78(x.id); exact Calls.quiet_of_same(HCI.out _))
           | (go_at_call_of 78(x.max); exact Calls.quiet_of_same(HC5.out _))))
          go_wp2
          go_roundw
          case rel=>exact⟨(j+1)+1,by omega,by go_num,⟨HY.out,below_drewN(HA.out.2.alloc HA.out.2.size _)_⟩⟩
          case measure=>simp [intOf]; omega
        ·have i1: ¬ (k:Int) < (p.buffers.length:Int):=by omega
         have HT3:Hid(thingsB(fun x:BufferD=>x.id)(fun x=>bufferB x.toBufferP)0 p.buffers=true):=by have:=HA.out.1; rwa [List.take_of_length_le(by omega)] at this
         clear HA HB hlt hk hsz hll
         go_wp2_with fail
         clear i1 m0 m1 m2 m3 m4 m5 m6 m7
         rename World=>W3
         have HB:Hid(PartBox W3 w.heap.size p∧PartD.At W3 p∧Below w.heap.size w W3):=HB2.out
         clear HB2
         go_loopw [10] (fun i wr=> ∃ k:Nat,k≤p.ports.length∧i= .int .i64 k∧Hid(thingsB(fun x:PortD=>x.id)(fun x:PortD=>portB x.toPortP)0(p.ports.take k)=true∧Below W3.heap.size W3 wr))(fun i _=>p.ports.length - (intOf i).toNat)
         case atStart=>exact⟨0,Nat.zero_le _,rfl,⟨rfl,Below.refl _ _⟩⟩
         case round=>
          obtain⟨k,hk,rfl,HA⟩:=hrel
          have hsz:w.heap.size < wr.heap.size:=Nat.lt_of_lt_of_le(Array.getElem?_eq_some_iff.1 HB.out.1).1 HA.out.2.size
          have HB2:Hid(PartBox wr w.heap.size p∧PartD.At wr p∧Below w.heap.size w wr):=⟨HB.out.1.below HA.out.2,HB.out.2.1.below HA.out.2,HB.out.2.2.trans(HA.out.2.mono HB.out.2.2.size)⟩
          obtain⟨m0,m1,m2,m3,m4,m5,m6,m7⟩:=HB2.out.1.cells
          have hll:=HFT.out.short.ports
          by_cases hlt:k < p.ports.length
          ·as_aux_lemma=>
            have i0:(0:Int)≤(k:Int):=by omega
            have i1:(k:Int) < (p.ports.length:Int):=by omega
            obtain⟨x,hx⟩: ∃ x,p.ports[k]? =some x:=⟨_,List.getElem?_eq_getElem hlt⟩
            have hmem:=List.mem_of_getElem? hx
            obtain⟨gs,ha,hat⟩:=port_at HB2.out.2.1.2.2.2.2.2 hx
            have hgs:gs < wr.heap.size:=block_lt_of_cell hat.1
            have HP:Hid(∀ y,p.ports[k - 1]? =some y→wr.cell? ⟨gs,(k - 1) * 5,none⟩=some(.int .i64 y.id)):=fun y hy=>by
             obtain⟨g2,ha2,hat2⟩:=port_at HB2.out.2.1.2.2.2.2.2 hy
             rw [ha] at ha2
             cases ha2
             exact hat2.1
            obtain⟨c0,c1,c2,c3,c4⟩:=hat
            rw [ha] at m7
            have HX:Hid(p.ports[k]? =some x):=hx
            have HTX:Hid(TextsFit wr x.itemsA x.items):=⟨(HFT.out.ports x hmem).1,(HFT.out.ports x hmem).2,port_items HB2.out.2.1.2.2.2.2.2 hx⟩
            clear hx ha hmem HB
            cases hin:inB x.id 1 1000
            ·have HCI:Hid(∀ w,Calls Tryz.prog 78 #[.int .i64 x.id,.int .i64 1,.int .i64 1000] w fun e w'=>e= .returned(.bool false)∧w'=w):=l1In_no hin
             have HIN:Hid(inB x.id 1 1000=false):=hin
             clear hin
             have HN:Hid(thingsOk p=false):=thingsOk_noPort(things_no HX.out(fun hh=>by rw [HIN.out] at hh; cases hh.1))
             go_wp2_with fail
             go_quiet((first
              | (go_at_call_of 78(x.id); exact Calls.quiet_of_same(HCI.out _))))
             go_wp2
             go_ret
             exact⟨ret_bool HN.out.symm,below_drewN(HB2.out.2.2.alloc HB2.out.2.2.size _)_⟩
            have HIN:Hid(inB x.id 1 1000=true):=hin
            have HCI:Hid(∀ w,Calls Tryz.prog 78 #[.int .i64 x.id,.int .i64 1,.int .i64 1000] w fun e w'=>e= .returned(.bool true)∧w'=w):=l1In_yes hin
            clear hin
            by_cases hk0:k=0
            ·have dk:decide(0 < k)=false:=decide_eq_false(by omega)
             have HLT:Hid(lastOf(fun x:PortD=>x.id)0(p.ports.take k) < x.id):=by show _ < _; rw [hk0,last_none]; have:=inB_iff.1 HIN.out; omega
             clear hk0
             cases h5:inB x.max 1 5
             ·have HC5:Hid(∀ w,Calls Tryz.prog 78 #[.int .i64 x.max,.int .i64 1,.int .i64 5] w fun e w'=>e= .returned(.bool false)∧w'=w):=l1In_no h5
              have H5:Hid(inB x.max 1 5=false):=h5
              clear h5
              have HN:Hid(thingsOk p=false):=thingsOk_noPort(things_no HX.out(fun hh=>by have h9:=hh.2.2; simp [portB,H5.out] at h9))
              go_wp2_with fail
              go_quiet((first
               | (go_at_call_of 78(x.id); exact Calls.quiet_of_same(HCI.out _))
               | (go_at_call_of 78(x.max); exact Calls.quiet_of_same(HC5.out _))))
              go_wp2
              go_ret
              exact⟨ret_bool HN.out.symm,below_drewN(HB2.out.2.2.alloc HB2.out.2.2.size _)_⟩
             have HC5:Hid(∀ w,Calls Tryz.prog 78 #[.int .i64 x.max,.int .i64 1,.int .i64 5] w fun e w'=>e= .returned(.bool true)∧w'=w):=l1In_yes h5
             have H5:Hid(inB x.max 1 5=true):=h5
             clear h5
             cases h6:x.queue
             ·rw [h6] at c2
              have H6:Hid(x.queue=false):=h6
              clear h6
              by_cases h8:x.max=1
              ·have H8:Hid(x.max=1):=h8
               have n8:(x.max != 1)=false:=by simp [h8]
               clear h8
               cases h7:textsB x.items x.max
               ·have HCT:Hid(∀ o n,Calls Tryz.prog 182 #[.slice x.itemsA x.items.length x.itemsC,.int .i64 x.max] ((wr.alloc o).drewN n)fun e w'=>e= .returned(.bool false)∧w'=(wr.alloc o).drewN n):=fun _ n=>texts_is h7 HTX.out n
                have H7:Hid(textsB x.items x.max=false):=h7
                clear h7
                have HN:Hid(thingsOk p=false):=thingsOk_noPort(things_no HX.out(fun hh=>by have h9:=hh.2.2; simp [portB,H7.out] at h9))
                go_wp2_with fail
                go_quiet((first
                 | (go_at_call_of 182(x.items.length); exact Calls.quiet_of_same(HCT.out _ _))
                 | (go_at_call_of 78(x.id); exact Calls.quiet_of_same(HCI.out _))
                 | (go_at_call_of 78(x.max); exact Calls.quiet_of_same(HC5.out _))))
                go_wp2
                go_ret
                exact⟨ret_bool HN.out.symm,below_drewN(HB2.out.2.2.alloc HB2.out.2.2.size _)_⟩
               have HCT:Hid(∀ o n,Calls Tryz.prog 182 #[.slice x.itemsA x.items.length x.itemsC,.int .i64 x.max] ((wr.alloc o).drewN n)fun e w'=>e= .returned(.bool true)∧w'=(wr.alloc o).drewN n):=fun _ n=>texts_is h7 HTX.out n
               have H7:Hid(textsB x.items x.max=true):=h7
               clear h7
               have HY:Hid(thingsB(fun x:PortD=>x.id)(fun x:PortD=>portB x.toPortP)0(p.ports.take(k+1))=true):=things_yes HA.out.1 HX.out HIN.out HLT.out(by simp only [portB,H5.out,H7.out,H6.out]; simp [H8.out])
               go_wp2_with fail
               go_quiet((first
                | (go_at_call_of 182(x.items.length); exact Calls.quiet_of_same(HCT.out _ _))
                | (go_at_call_of 78(x.id); exact Calls.quiet_of_same(HCI.out _))
                | (go_at_call_of 78(x.max); exact Calls.quiet_of_same(HC5.out _))))
               go_wp2
               go_roundw
               case rel=>exact⟨k+1,by omega,by go_num,⟨HY.out,below_drewN(HA.out.2.alloc HA.out.2.size _)_⟩⟩
               case measure=>simp [intOf]; omega
              have H8:Hid(¬ x.max=1):=h8
              have n8:(x.max != 1)=true:=by simp [h8]
              clear h8
              have HN:Hid(thingsOk p=false):=thingsOk_noPort(things_no HX.out(fun hh=>by have h9:=hh.2.2; simp [portB,H6.out,H8.out] at h9))
              go_wp2_with fail
              go_quiet((first
               | (go_at_call_of 78(x.id); exact Calls.quiet_of_same(HCI.out _))
               | (go_at_call_of 78(x.max); exact Calls.quiet_of_same(HC5.out _))))
              go_wp2
              go_ret
              exact⟨ret_bool HN.out.symm,below_drewN(HB2.out.2.2.alloc HB2.out.2.2.size _)_⟩
             rw [h6] at c2
             have H6:Hid(x.queue=true):=h6
             clear h6
             cases h7:textsB x.items x.max
             ·have HCT:Hid(∀ o n,Calls Tryz.prog 182 #[.slice x.itemsA x.items.length x.itemsC,.int .i64 x.max] ((wr.alloc o).drewN n)fun e w'=>e= .returned(.bool false)∧w'=(wr.alloc o).drewN n):=fun _ n=>texts_is h7 HTX.out n
              have H7:Hid(textsB x.items x.max=false):=h7
              clear h7
              have HN:Hid(thingsOk p=false):=thingsOk_noPort(things_no HX.out(fun hh=>by have h9:=hh.2.2; simp [portB,H7.out] at h9))
              go_wp2_with fail
              go_quiet((first
               | (go_at_call_of 182(x.items.length); exact Calls.quiet_of_same(HCT.out _ _))
               | (go_at_call_of 78(x.id); exact Calls.quiet_of_same(HCI.out _))
               | (go_at_call_of 78(x.max); exact Calls.quiet_of_same(HC5.out _))))
              go_wp2
              go_ret
              exact⟨ret_bool HN.out.symm,below_drewN(HB2.out.2.2.alloc HB2.out.2.2.size _)_⟩
             have HCT:Hid(∀ o n,Calls Tryz.prog 182 #[.slice x.itemsA x.items.length x.itemsC,.int .i64 x.max] ((wr.alloc o).drewN n)fun e w'=>e= .returned(.bool true)∧w'=(wr.alloc o).drewN n):=fun _ n=>texts_is h7 HTX.out n
             have H7:Hid(textsB x.items x.max=true):=h7
             clear h7
             have HY:Hid(thingsB(fun x:PortD=>x.id)(fun x:PortD=>portB x.toPortP)0(p.ports.take(k+1))=true):=things_yes HA.out.1 HX.out HIN.out HLT.out(by simp [portB,H5.out,H7.out,H6.out])
             go_wp2_with fail
             go_quiet((first
              | (go_at_call_of 182(x.items.length); exact Calls.quiet_of_same(HCT.out _ _))
              | (go_at_call_of 78(x.id); exact Calls.quiet_of_same(HCI.out _))
              | (go_at_call_of 78(x.max); exact Calls.quiet_of_same(HC5.out _))))
             go_wp2
             go_roundw
             case rel=>exact⟨k+1,by omega,by go_num,⟨HY.out,below_drewN(HA.out.2.alloc HA.out.2.size _)_⟩⟩
             case measure=>simp [intOf]; omega
            obtain⟨j,rfl⟩: ∃ j,k=j+1:=⟨k - 1,by omega⟩
            obtain⟨y,hy⟩: ∃ y,p.ports[j]? =some y:=⟨_,List.getElem?_eq_getElem(by omega)⟩
            have cp:wr.cell? ⟨gs,j * 5,none⟩=some(.int .i64 y.id):=HP.out y hy
            have j0:(0:Int)≤(j:Int):=by omega
            have j1:(j:Int) < (p.ports.length:Int):=by omega
            have wk:IntKind.i64.wrap(j:Int)=(j:Int):=by rw [IntKind.wrap_i64]; omega
            have HLA:Hid(lastOf(fun x:PortD=>x.id)0(p.ports.take(j+1))=y.id):=lastOf_take hy 0
            clear hy hk0
            by_cases hle:x.id≤y.id
            ·have dp:decide(x.id≤y.id)=true:=decide_eq_true hle
             have HN:Hid(thingsOk p=false):=thingsOk_noPort(things_no HX.out(fun hh=>by have h9:=hh.2.1; rw [HLA.out] at h9; have h9:y.id < x.id:=h9; omega))
             go_wp2_with fail
             go_quiet((first
              | (go_at_call_of 78(x.id); exact Calls.quiet_of_same(HCI.out _))))
             go_wp2
             go_ret
             exact⟨ret_bool HN.out.symm,below_drewN(HB2.out.2.2.alloc HB2.out.2.2.size _)_⟩
            have dp:decide(x.id≤y.id)=false:=decide_eq_false hle
            have HLT:Hid(lastOf(fun x:PortD=>x.id)0(p.ports.take(j+1)) < x.id):=by show _ < _; rw [HLA.out]; show y.id < x.id; omega
            cases h5:inB x.max 1 5
            ·have HC5:Hid(∀ w,Calls Tryz.prog 78 #[.int .i64 x.max,.int .i64 1,.int .i64 5] w fun e w'=>e= .returned(.bool false)∧w'=w):=l1In_no h5
             have H5:Hid(inB x.max 1 5=false):=h5
             clear h5
             have HN:Hid(thingsOk p=false):=thingsOk_noPort(things_no HX.out(fun hh=>by have h9:=hh.2.2; simp [portB,H5.out] at h9))
             go_wp2_with fail
             go_quiet((first
              | (go_at_call_of 78(x.id); exact Calls.quiet_of_same(HCI.out _))
              | (go_at_call_of 78(x.max); exact Calls.quiet_of_same(HC5.out _))))
             go_wp2
             go_ret
             exact⟨ret_bool HN.out.symm,below_drewN(HB2.out.2.2.alloc HB2.out.2.2.size _)_⟩
            have HC5:Hid(∀ w,Calls Tryz.prog 78 #[.int .i64 x.max,.int .i64 1,.int .i64 5] w fun e w'=>e= .returned(.bool true)∧w'=w):=l1In_yes h5
            have H5:Hid(inB x.max 1 5=true):=h5
            clear h5
            cases h6:x.queue
            ·rw [h6] at c2
             have H6:Hid(x.queue=false):=h6
             clear h6
             by_cases h8:x.max=1
             ·have H8:Hid(x.max=1):=h8
              have n8:(x.max != 1)=false:=by simp [h8]
              clear h8
              cases h7:textsB x.items x.max
              ·have HCT:Hid(∀ o n,Calls Tryz.prog 182 #[.slice x.itemsA x.items.length x.itemsC,.int .i64 x.max] ((wr.alloc o).drewN n)fun e w'=>e= .returned(.bool false)∧w'=(wr.alloc o).drewN n):=fun _ n=>texts_is h7 HTX.out n
               have H7:Hid(textsB x.items x.max=false):=h7
               clear h7
               have HN:Hid(thingsOk p=false):=thingsOk_noPort(things_no HX.out(fun hh=>by have h9:=hh.2.2; simp [portB,H7.out] at h9))
               go_wp2_with fail
               go_quiet((first
                | (go_at_call_of 182(x.items.length); exact Calls.quiet_of_same(HCT.out _ _))
                | (go_at_call_of 78(x.id); exact Calls.quiet_of_same(HCI.out _))
                | (go_at_call_of 78(x.max); exact Calls.quiet_of_same(HC5.out _))))
               go_wp2
               go_ret
               exact⟨ret_bool HN.out.symm,below_drewN(HB2.out.2.2.alloc HB2.out.2.2.size _)_⟩
              have HCT:Hid(∀ o n,Calls Tryz.prog 182 #[.slice x.itemsA x.items.length x.itemsC,.int .i64 x.max] ((wr.alloc o).drewN n)fun e w'=>e= .returned(.bool true)∧w'=(wr.alloc o).drewN n):=fun _ n=>texts_is h7 HTX.out n
              have H7:Hid(textsB x.items x.max=true):=h7
              clear h7
              have HY:Hid(thingsB(fun x:PortD=>x.id)(fun x:PortD=>portB x.toPortP)0(p.ports.take((j+1)+1))=true):=things_yes HA.out.1 HX.out HIN.out HLT.out(by simp only [portB,H5.out,H7.out,H6.out]; simp [H8.out])
              go_wp2_with fail
              go_quiet((first
               | (go_at_call_of 182(x.items.length); exact Calls.quiet_of_same(HCT.out _ _))
               | (go_at_call_of 78(x.id); exact Calls.quiet_of_same(HCI.out _))
               | (go_at_call_of 78(x.max); exact Calls.quiet_of_same(HC5.out _))))
              go_wp2
              go_roundw
              case rel=>exact⟨(j+1)+1,by omega,by go_num,⟨HY.out,below_drewN(HA.out.2.alloc HA.out.2.size _)_⟩⟩
              case measure=>simp [intOf]; omega
             have H8:Hid(¬ x.max=1):=h8
             have n8:(x.max != 1)=true:=by simp [h8]
             clear h8
             have HN:Hid(thingsOk p=false):=thingsOk_noPort(things_no HX.out(fun hh=>by have h9:=hh.2.2; simp [portB,H6.out,H8.out] at h9))
             go_wp2_with fail
             go_quiet((first
              | (go_at_call_of 78(x.id); exact Calls.quiet_of_same(HCI.out _))
              | (go_at_call_of 78(x.max); exact Calls.quiet_of_same(HC5.out _))))
             go_wp2
             go_ret
             exact⟨ret_bool HN.out.symm,below_drewN(HB2.out.2.2.alloc HB2.out.2.2.size _)_⟩
            rw [h6] at c2
            have H6:Hid(x.queue=true):=h6
            clear h6
            cases h7:textsB x.items x.max
            ·have HCT:Hid(∀ o n,Calls Tryz.prog 182 #[.slice x.itemsA x.items.length x.itemsC,.int .i64 x.max] ((wr.alloc o).drewN n)fun e w'=>e= .returned(.bool false)∧w'=(wr.alloc o).drewN n):=fun _ n=>texts_is h7 HTX.out n
             have H7:Hid(textsB x.items x.max=false):=h7
             clear h7
             have HN:Hid(thingsOk p=false):=thingsOk_noPort(things_no HX.out(fun hh=>by have h9:=hh.2.2; simp [portB,H7.out] at h9))
             go_wp2_with fail
             go_quiet((first
              | (go_at_call_of 182(x.items.length); exact Calls.quiet_of_same(HCT.out _ _))
              | (go_at_call_of 78(x.id); exact Calls.quiet_of_same(HCI.out _))
              | (go_at_call_of 78(x.max); exact Calls.quiet_of_same(HC5.out _))))
             go_wp2
             go_ret
             exact⟨ret_bool HN.out.symm,below_drewN(HB2.out.2.2.alloc HB2.out.2.2.size _)_⟩
            have HCT:Hid(∀ o n,Calls Tryz.prog 182 #[.slice x.itemsA x.items.length x.itemsC,.int .i64 x.max] ((wr.alloc o).drewN n)fun e w'=>e= .returned(.bool true)∧w'=(wr.alloc o).drewN n):=fun _ n=>texts_is h7 HTX.out n
            have H7:Hid(textsB x.items x.max=true):=h7
            clear h7
            have HY:Hid(thingsB(fun x:PortD=>x.id)(fun x:PortD=>portB x.toPortP)0(p.ports.take((j+1)+1))=true):=things_yes HA.out.1 HX.out HIN.out HLT.out(by simp [portB,H5.out,H7.out,H6.out])
            go_wp2_with fail
            go_quiet((first
             | (go_at_call_of 182(x.items.length); exact Calls.quiet_of_same(HCT.out _ _))
             | (go_at_call_of 78(x.id); exact Calls.quiet_of_same(HCI.out _))
             | (go_at_call_of 78(x.max); exact Calls.quiet_of_same(HC5.out _))))
            go_wp2
            go_roundw
            case rel=>exact⟨(j+1)+1,by omega,by go_num,⟨HY.out,below_drewN(HA.out.2.alloc HA.out.2.size _)_⟩⟩
            case measure=>simp [intOf]; omega
          ·have i1: ¬ (k:Int) < (p.ports.length:Int):=by omega
           have HT4:Hid(thingsB(fun x:PortD=>x.id)(fun x=>portB x.toPortP)0 p.ports=true):=by have:=HA.out.1; rwa [List.take_of_length_le(by omega)] at this
           clear HA HB hlt hk hsz hll
           have hs:=HFT.out.short
           have l0:=hs.sems
           have l1:=hs.events
           have l2:=hs.boards
           have l3:=hs.buffers
           have l4:=hs.ports
           clear hs
           cases d0:decide((p.sems.length:Int)≤5)
           ·have HN:Hid(thingsOk p=false):=thingsOk_len0 d0
            go_wp2
            go_ret
            exact⟨ret_bool HN.out.symm,HB2.out.2.2⟩
           cases d1:decide((p.events.length:Int)≤5)
           ·have HN:Hid(thingsOk p=false):=thingsOk_len1 d1
            go_wp2
            go_ret
            exact⟨ret_bool HN.out.symm,HB2.out.2.2⟩
           cases d2:decide((p.boards.length:Int)≤5)
           ·have HN:Hid(thingsOk p=false):=thingsOk_len2 d2
            go_wp2
            go_ret
            exact⟨ret_bool HN.out.symm,HB2.out.2.2⟩
           cases d3:decide((p.buffers.length:Int)≤5)
           ·have HN:Hid(thingsOk p=false):=thingsOk_len3 d3
            go_wp2
            go_ret
            exact⟨ret_bool HN.out.symm,HB2.out.2.2⟩
           cases d4:decide((p.ports.length:Int)≤5)
           ·have HN:Hid(thingsOk p=false):=thingsOk_len4 d4
            go_wp2
            go_ret
            exact⟨ret_bool HN.out.symm,HB2.out.2.2⟩
           have HY:Hid(thingsOk p=true):=thingsOk_yes HT0.out HT1.out HT2.out HT3.out HT4.out d0 d1 d2 d3 d4
           go_wp2
           go_ret
           exact⟨ret_bool HY.out.symm,HB2.out.2.2⟩
end Go.Proofs.YtkbcplnlehdjfaaGreat
