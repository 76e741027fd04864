/- What the proof leans on, part 11. -/
import Derived.Test.YteidkehoekbcaaaGreatOwnK9
set_option maxRecDepth 100000
set_option maxHeartbeats 8000000
open Array renaming getElem?_eq_some_iff->J2
open Go renaming block_lt_of_cell->Le
open Go.Calls renaming quiet_of_same->L1
open Go.IntKind renaming wrap_i64->K8
open Go.Proofs.Tryz renaming prog->J3
open Go.RowKit.Below renaming refl->Kp
open List renaming getElem?_eq_getElem->Kz,mem_of_getElem?->KA,take_of_length_le->KF
open Nat renaming le_refl->Ki,lt_of_lt_of_le->Kn,zero_le->Ky

namespace Go.Proofs.YteidkehoekbcaaaGreat
open Go.RowKit
theorem gS {n lo hi:Int} (h:cv n lo hi=true) (w:World):Calls J3 34 #[.int .i64 n,.int .i64 lo,.int .i64 hi] w fun e w'=>e= .returned (.bool true)∧w'=w:=by
 refine (dx n lo hi w).mono ?_;rintro e w' ⟨rfl,rfl⟩;exact ⟨al h,rfl⟩
theorem i7 {n lo hi:Int} (h:cv n lo hi=false) (w:World):Calls J3 34 #[.int .i64 n,.int .i64 lo,.int .i64 hi] w fun e w'=>e= .returned (.bool false)∧w'=w:=by
 refine (dx n lo hi w).mono ?_;rintro e w' ⟨rfl,rfl⟩;exact ⟨al h,rfl⟩
def bv (p:af):Bool:=aw (fun x:bD=>x.id) gw 0 p.aj && aw (fun x:aB=>x.id) ey 0 p.L9 && aw (fun x:az=>x.id) cU 0 p.ag && aw (fun x:au=>x.id) (fun x=>ct x.toci) 0 p.ae && aw (fun x:aM=>x.id) (fun x=>dj x.todS) 0 p.ai && decide (p.aj.length≤5) && decide (p.L9.length≤5) && decide (p.ag.length≤5) && decide (p.ae.length≤5) && decide (p.ai.length≤5)
theorem gQ {p:af} (h:aw (fun x:bD=>x.id) gw 0 p.aj=false):bv p=false:=by simp [bv,h]
theorem nk {p:af} (h:aw (fun x:aB=>x.id) ey 0 p.L9=false):bv p=false:=by simp [bv,h]
theorem fJ {p:af} (h:aw (fun x:az=>x.id) cU 0 p.ag=false):bv p=false:=by simp [bv,h]
theorem fv {p:af} (h:aw (fun x:au=>x.id) (fun x=>ct x.toci) 0 p.ae=false):bv p=false:=by simp [bv,h]
theorem eg {p:af} (h:aw (fun x:aM=>x.id) (fun x=>dj x.todS) 0 p.ai=false):bv p=false:=by simp [bv,h]
theorem wP {p:af} (h:decide ((p.aj.length:Int)≤5)=false):bv p=false:=by
 have h1:decide (p.aj.length≤5)=false:=decide_eq_false (by have:=of_decide_eq_false h; omega);simp [bv,h1]
theorem wS {p:af} (h:decide ((p.L9.length:Int)≤5)=false):bv p=false:=by
 have h1:decide (p.L9.length≤5)=false:=decide_eq_false (by have:=of_decide_eq_false h; omega);simp [bv,h1]
theorem wL {p:af} (h:decide ((p.ag.length:Int)≤5)=false):bv p=false:=by
 have h1:decide (p.ag.length≤5)=false:=decide_eq_false (by have:=of_decide_eq_false h; omega);simp [bv,h1]
theorem wJ {p:af} (h:decide ((p.ae.length:Int)≤5)=false):bv p=false:=by
 have h1:decide (p.ae.length≤5)=false:=decide_eq_false (by have:=of_decide_eq_false h; omega);simp [bv,h1]
theorem wv {p:af} (h:decide ((p.ai.length:Int)≤5)=false):bv p=false:=by
 have h1:decide (p.ai.length≤5)=false:=decide_eq_false (by have:=of_decide_eq_false h; omega);simp [bv,h1]
theorem yC {p:af} (t0:aw (fun x:bD=>x.id) gw 0 p.aj=true) (t1:aw (fun x:aB=>x.id) ey 0 p.L9=true) (t2:aw (fun x:az=>x.id) cU 0 p.ag=true) (t3:aw (fun x:au=>x.id) (fun x=>ct x.toci) 0 p.ae=true) (t4:aw (fun x:aM=>x.id) (fun x=>dj x.todS) 0 p.ai=true) (d0:decide ((p.aj.length:Int)≤5)=true) (d1:decide ((p.L9.length:Int)≤5)=true) (d2:decide ((p.ag.length:Int)≤5)=true) (d3:decide ((p.ae.length:Int)≤5)=true) (d4:decide ((p.ai.length:Int)≤5)=true):bv p=true:=by
 have e0:decide (p.aj.length≤5)=true:=decide_eq_true (by have:=of_decide_eq_true d0; omega);have e1:decide (p.L9.length≤5)=true:=decide_eq_true (by have:=of_decide_eq_true d1; omega);have e2:decide (p.ag.length≤5)=true:=decide_eq_true (by have:=of_decide_eq_true d2; omega);have e3:decide (p.ae.length≤5)=true:=decide_eq_true (by have:=of_decide_eq_true d3; omega);have e4:decide (p.ai.length≤5)=true:=decide_eq_true (by have:=of_decide_eq_true d4; omega);simp only [bv,t0,t1,t2,t3,t4,e0,e1,e2,e3,e4,Bool.and_self]
theorem rm {s:ByteArray} {b:Bool} (h:bw s=b) (hs:s.size≤1048576) (w:World):Calls J3 140 #[.string s] w fun e w'=>e= .returned (.bool b)∧w'=w:=by
 refine (jC s w hs).mono ?_;rintro e w' ⟨rfl,rfl⟩;exact ⟨al h,rfl⟩
theorem iz {W:World} {o:Obj} {a:Option Addr} {l:List ByteArray} {cap:Nat} {Me:Int} {b:Bool} (h:dJ l Me=b) (hf:fT W a l) (n:Nat):
  Calls J3 141 #[.slice a l.length cap,.int .i64 Me] ((W.alloc o).drewN n) fun e w'=>e= .returned (.bool b)∧w'=(W.alloc o).drewN n:=by
 refine (Aj a l cap Me ((W.alloc o).drewN n) hf.len hf.short ?_).mono ?_
 ·exact hf.row.below (bd ((Kp _ W).alloc (Ki _) o) n)
 ·rintro e w' ⟨rfl,rfl⟩
  exact ⟨al h,rfl⟩
theorem lx {α:Type} {num:α→Int} {l:List α} :bW num 0 (l.take 0)=0:=by simp [bW]
structure af.Fit (p:af):Prop where
 short:p.dX
 ag: ∀ b∈p.ag,b.text.size≤1048576
 ae: ∀ b∈p.ae,b.Ma.length≤1048576∧ ∀ s∈b.Ma,s.size≤1048576
 ai: ∀ b∈p.ai,b.Ma.length≤1048576∧ ∀ s∈b.Ma,s.size≤1048576
theorem zI (p:af) (w:World) (hf:p.Fit) (h:af.At w p):
  Calls J3 94 #[.agg p.cells] w fun e w'=>e= .returned (.bool (bv p))∧Below w.heap.size w w':=by
 have HB:Hid (av (w.alloc (.cells p.cells 48)) w.heap.size p∧af.At (w.alloc (.cells p.cells 48)) p∧Below w.heap.size w (w.alloc (.cells p.cells 48))):=⟨heap_alloc_new _ _,h.below ((Kp _ _).alloc (Ki _) _),(Kp _ _).alloc (Ki _) _⟩
 have fl:Hid p.Fit:=hf;clear h hf;unfold af.cells at *
 go_enter Tryz.func94,Tryz.ntmps94
 go_wp2_with fail;generalize w.alloc (.cells p.row 48)=W at *
 go_loopw [3] (fun i wr=> ∃ k:Nat,k≤p.aj.length∧i= .int .i64 k∧Hid (aw (fun x:bD=>x.id) gw 0 (p.aj.take k)=true∧Below W.heap.size W wr)) (fun i _=>p.aj.length - (intOf i).toNat)
 case atStart=>exact ⟨0,Ky _,rfl,⟨rfl,Kp _ _⟩⟩
 case round=>
  obtain ⟨k,hk,rfl,HA⟩:=hrel;have hsz:w.heap.size < wr.heap.size:=Kn (J2.1 HB.I.1).1 HA.I.2.size;have cy:Hid (av wr w.heap.size p∧af.At wr p∧Below w.heap.size w wr):=⟨HB.I.1.below HA.I.2,HB.I.2.1.below HA.I.2,HB.I.2.2.trans (HA.I.2.mono HB.I.2.2.size)⟩
  obtain ⟨m0,m1,m2,m3,m4,m5,m6,m7⟩:=cy.I.1.cells;have hll:=fl.I.short.aj;by_cases hlt:k < p.aj.length
  ·as_aux_lemma=>
    have i0:(0:Int)≤(k:Int):=by omega
    have i1:(k:Int) < (p.aj.length:Int):=by omega
    obtain ⟨x,hx⟩: ∃ x,p.aj[k]? =some x:=⟨_,Kz hlt⟩
    have hmem:=KA hx;obtain ⟨gs,ha,hat⟩:=lQ cy.I.2.1.2.1 hx;have hgs:gs < wr.heap.size:=Le hat.1;have HP:Hid (∀ y,p.aj[k - 1]? =some y→wr.cell? ⟨gs,(k - 1) * 3,none⟩=some (.int .i64 y.id)):=fun y hy=>by
     obtain ⟨g2,ha2,g8⟩:=lQ cy.I.2.1.2.1 hy;rw [ha] at ha2;cases ha2;exact g8.1
    obtain ⟨c0,c1,c2⟩:=hat;rw [ha] at m3;have HX:Hid (p.aj[k]? =some x):=hx;clear hx ha hmem HB;cases hin:cv x.id 1 1000
    ·have kI:Hid (∀ w,Calls J3 34 #[.int .i64 x.id,.int .i64 1,.int .i64 1000] w fun e w'=>e= .returned (.bool false)∧w'=w):=i7 hin
     have lN:Hid (cv x.id 1 1000=false):=hin;clear hin;have HN:Hid (bv p=false):=gQ (bS HX.I (fun hh=>by rw [lN.I] at hh; cases hh.1));go_wp2_with fail
     go_quiet ((first
      | (go_at_call_of 34 (x.id); exact L1 (kI.I _))))
     go_wp2;go_ret;exact ⟨al HN.I.symm,bd (cy.I.2.2.alloc cy.I.2.2.size _) _⟩
    have lN:Hid (cv x.id 1 1000=true):=hin;have kI:Hid (∀ w,Calls J3 34 #[.int .i64 x.id,.int .i64 1,.int .i64 1000] w fun e w'=>e= .returned (.bool true)∧w'=w):=gS hin;clear hin;by_cases hk0:k=0
    ·have dk:decide (0 < k)=false:=decide_eq_false (by omega)
     have j6:Hid (bW (fun x:bD=>x.id) 0 (p.aj.take k) < x.id):=by show _ < _; rw [hk0,lx]; have:=bz.1 lN.I; omega
     clear hk0;cases h5:cv x.max 1 1000
     ·have lE:Hid (∀ w,Calls J3 34 #[.int .i64 x.max,.int .i64 1,.int .i64 1000] w fun e w'=>e= .returned (.bool false)∧w'=w):=i7 h5
      have H5:Hid (cv x.max 1 1000=false):=h5;clear h5;have HN:Hid (bv p=false):=gQ (bS HX.I (fun hh=>by have h9:=hh.2.2; simp [gw,H5.I] at h9));go_wp2_with fail
      go_quiet ((first
       | (go_at_call_of 34 (x.id); exact L1 (kI.I _))
       | (go_at_call_of 34 (x.max); exact L1 (lE.I _))))
      go_wp2;go_ret;exact ⟨al HN.I.symm,bd (cy.I.2.2.alloc cy.I.2.2.size _) _⟩
     have lE:Hid (∀ w,Calls J3 34 #[.int .i64 x.max,.int .i64 1,.int .i64 1000] w fun e w'=>e= .returned (.bool true)∧w'=w):=gS h5;have H5:Hid (cv x.max 1 1000=true):=h5;clear h5;cases h6:cv x.n 0 x.max
     ·have HC6:Hid (∀ w,Calls J3 34 #[.int .i64 x.n,.int .i64 0,.int .i64 x.max] w fun e w'=>e= .returned (.bool false)∧w'=w):=i7 h6
      have H6:Hid (cv x.n 0 x.max=false):=h6;clear h6;have HN:Hid (bv p=false):=gQ (bS HX.I (fun hh=>by have h9:=hh.2.2; simp [gw,H6.I] at h9));go_wp2_with fail
      go_quiet ((first
       | (go_at_call_of 34 (x.id); exact L1 (kI.I _))
       | (go_at_call_of 34 (x.n); exact L1 (HC6.I _))
       | (go_at_call_of 34 (x.max); exact L1 (lE.I _))))
      go_wp2;go_ret;exact ⟨al HN.I.symm,bd (cy.I.2.2.alloc cy.I.2.2.size _) _⟩
     have HC6:Hid (∀ w,Calls J3 34 #[.int .i64 x.n,.int .i64 0,.int .i64 x.max] w fun e w'=>e= .returned (.bool true)∧w'=w):=gS h6;have H6:Hid (cv x.n 0 x.max=true):=h6;clear h6;have HY:Hid (aw (fun x:bD=>x.id) gw 0 (p.aj.take (k+1))=true):=ed HA.I.1 HX.I lN.I j6.I (by simp [gw,H5.I,H6.I]);go_wp2_with fail
     go_quiet ((first
      | (go_at_call_of 34 (x.id); exact L1 (kI.I _))
      | (go_at_call_of 34 (x.n); exact L1 (HC6.I _))
      | (go_at_call_of 34 (x.max); exact L1 (lE.I _))))
     go_wp2;go_roundw
     case rel=>exact ⟨k+1,by omega,by go_num,⟨HY.I,bd (HA.I.2.alloc HA.I.2.size _) _⟩⟩
     case measure=>simp [intOf]; omega
    obtain ⟨j,rfl⟩: ∃ j,k=j+1:=⟨k - 1,by omega⟩
    obtain ⟨y,hy⟩: ∃ y,p.aj[j]? =some y:=⟨_,Kz (by omega)⟩
    have cp:wr.cell? ⟨gs,j * 3,none⟩=some (.int .i64 y.id):=HP.I y hy;have j0:(0:Int)≤(j:Int):=by omega
    have j1:(j:Int) < (p.aj.length:Int):=by omega
    have wk:IntKind.i64.wrap (j:Int)=(j:Int):=by rw [K8]; omega
    have wV:Hid (bW (fun x:bD=>x.id) 0 (p.aj.take (j+1))=y.id):=eG hy 0;clear hy hk0;by_cases hle:x.id≤y.id
    ·have dp:decide (x.id≤y.id)=true:=decide_eq_true hle
     have HN:Hid (bv p=false):=gQ (bS HX.I (fun hh=>by have h9:=hh.2.1; rw [wV.I] at h9; have h9:y.id < x.id:=h9; omega));go_wp2_with fail
     go_quiet ((first
      | (go_at_call_of 34 (x.id); exact L1 (kI.I _))))
     go_wp2;go_ret;exact ⟨al HN.I.symm,bd (cy.I.2.2.alloc cy.I.2.2.size _) _⟩
    have dp:decide (x.id≤y.id)=false:=decide_eq_false hle;have j6:Hid (bW (fun x:bD=>x.id) 0 (p.aj.take (j+1)) < x.id):=by show _ < _; rw [wV.I]; show y.id < x.id; omega
    cases h5:cv x.max 1 1000
    ·have lE:Hid (∀ w,Calls J3 34 #[.int .i64 x.max,.int .i64 1,.int .i64 1000] w fun e w'=>e= .returned (.bool false)∧w'=w):=i7 h5
     have H5:Hid (cv x.max 1 1000=false):=h5;clear h5;have HN:Hid (bv p=false):=gQ (bS HX.I (fun hh=>by have h9:=hh.2.2; simp [gw,H5.I] at h9));go_wp2_with fail
     go_quiet ((first
      | (go_at_call_of 34 (x.id); exact L1 (kI.I _))
      | (go_at_call_of 34 (x.max); exact L1 (lE.I _))))
     go_wp2;go_ret;exact ⟨al HN.I.symm,bd (cy.I.2.2.alloc cy.I.2.2.size _) _⟩
    have lE:Hid (∀ w,Calls J3 34 #[.int .i64 x.max,.int .i64 1,.int .i64 1000] w fun e w'=>e= .returned (.bool true)∧w'=w):=gS h5;have H5:Hid (cv x.max 1 1000=true):=h5;clear h5;cases h6:cv x.n 0 x.max
    ·have HC6:Hid (∀ w,Calls J3 34 #[.int .i64 x.n,.int .i64 0,.int .i64 x.max] w fun e w'=>e= .returned (.bool false)∧w'=w):=i7 h6
     have H6:Hid (cv x.n 0 x.max=false):=h6;clear h6;have HN:Hid (bv p=false):=gQ (bS HX.I (fun hh=>by have h9:=hh.2.2; simp [gw,H6.I] at h9));go_wp2_with fail
     go_quiet ((first
      | (go_at_call_of 34 (x.id); exact L1 (kI.I _))
      | (go_at_call_of 34 (x.n); exact L1 (HC6.I _))
      | (go_at_call_of 34 (x.max); exact L1 (lE.I _))))
     go_wp2;go_ret;exact ⟨al HN.I.symm,bd (cy.I.2.2.alloc cy.I.2.2.size _) _⟩
    have HC6:Hid (∀ w,Calls J3 34 #[.int .i64 x.n,.int .i64 0,.int .i64 x.max] w fun e w'=>e= .returned (.bool true)∧w'=w):=gS h6;have H6:Hid (cv x.n 0 x.max=true):=h6;clear h6;have HY:Hid (aw (fun x:bD=>x.id) gw 0 (p.aj.take ((j+1)+1))=true):=ed HA.I.1 HX.I lN.I j6.I (by simp [gw,H5.I,H6.I]);go_wp2_with fail
    go_quiet ((first
     | (go_at_call_of 34 (x.id); exact L1 (kI.I _))
     | (go_at_call_of 34 (x.n); exact L1 (HC6.I _))
     | (go_at_call_of 34 (x.max); exact L1 (lE.I _))))
    go_wp2;go_roundw
    case rel=>exact ⟨(j+1)+1,by omega,by go_num,⟨HY.I,bd (HA.I.2.alloc HA.I.2.size _) _⟩⟩
    case measure=>simp [intOf]; omega
  ·have i1: ¬ (k:Int) < (p.aj.length:Int):=by omega
   have Hz:Hid (aw (fun x:bD=>x.id) gw 0 p.aj=true):=by have:=HA.I.1; rwa [KF (by omega)] at this
   clear HA HB hlt hk hsz hll;go_wp2_with fail;clear i1 m0 m1 m2 m3 m4 m5 m6 m7
   rename World=>W0
   have HB:Hid (av W0 w.heap.size p∧af.At W0 p∧Below w.heap.size w W0):=cy.I;clear cy
   go_loopw [5] (fun i wr=> ∃ k:Nat,k≤p.L9.length∧i= .int .i64 k∧Hid (aw (fun x:aB=>x.id) ey 0 (p.L9.take k)=true∧Below W0.heap.size W0 wr)) (fun i _=>p.L9.length - (intOf i).toNat)
   case atStart=>exact ⟨0,Ky _,rfl,⟨rfl,Kp _ _⟩⟩
   case round=>
    obtain ⟨k,hk,rfl,HA⟩:=hrel;have hsz:w.heap.size < wr.heap.size:=Kn (J2.1 HB.I.1).1 HA.I.2.size;have cy:Hid (av wr w.heap.size p∧af.At wr p∧Below w.heap.size w wr):=⟨HB.I.1.below HA.I.2,HB.I.2.1.below HA.I.2,HB.I.2.2.trans (HA.I.2.mono HB.I.2.2.size)⟩
    obtain ⟨m0,m1,m2,m3,m4,m5,m6,m7⟩:=cy.I.1.cells;have hll:=fl.I.short.L9;by_cases hlt:k < p.L9.length
    ·as_aux_lemma=>
      have i0:(0:Int)≤(k:Int):=by omega
      have i1:(k:Int) < (p.L9.length:Int):=by omega
      obtain ⟨x,hx⟩: ∃ x,p.L9[k]? =some x:=⟨_,Kz hlt⟩
      have hmem:=KA hx;obtain ⟨gs,ha,hat⟩:=j4 cy.I.2.1.2.2.1 hx;have hgs:gs < wr.heap.size:=Le hat.1;have HP:Hid (∀ y,p.L9[k - 1]? =some y→wr.cell? ⟨gs,(k - 1) * 2,none⟩=some (.int .i64 y.id)):=fun y hy=>by
       obtain ⟨g2,ha2,g8⟩:=j4 cy.I.2.1.2.2.1 hy;rw [ha] at ha2;cases ha2;exact g8.1
      obtain ⟨c0,c1⟩:=hat;rw [ha] at m4;have HX:Hid (p.L9[k]? =some x):=hx;clear hx ha hmem HB;cases hin:cv x.id 1 1000
      ·have kI:Hid (∀ w,Calls J3 34 #[.int .i64 x.id,.int .i64 1,.int .i64 1000] w fun e w'=>e= .returned (.bool false)∧w'=w):=i7 hin
       have lN:Hid (cv x.id 1 1000=false):=hin;clear hin;have HN:Hid (bv p=false):=nk (bS HX.I (fun hh=>by rw [lN.I] at hh; cases hh.1));go_wp2_with fail
       go_quiet ((first
        | (go_at_call_of 34 (x.id); exact L1 (kI.I _))))
       go_wp2;go_ret;exact ⟨al HN.I.symm,bd cy.I.2.2 _⟩
      have lN:Hid (cv x.id 1 1000=true):=hin;have kI:Hid (∀ w,Calls J3 34 #[.int .i64 x.id,.int .i64 1,.int .i64 1000] w fun e w'=>e= .returned (.bool true)∧w'=w):=gS hin;clear hin;by_cases hk0:k=0
      ·have dk:decide (0 < k)=false:=decide_eq_false (by omega)
       have j6:Hid (bW (fun x:aB=>x.id) 0 (p.L9.take k) < x.id):=by show _ < _; rw [hk0,lx]; have:=bz.1 lN.I; omega
       clear hk0;have HY:Hid (aw (fun x:aB=>x.id) ey 0 (p.L9.take (k+1))=true):=ed HA.I.1 HX.I lN.I j6.I (rfl);go_wp2_with fail
       go_quiet ((first
        | (go_at_call_of 34 (x.id); exact L1 (kI.I _))))
       go_wp2;go_roundw
       case rel=>exact ⟨k+1,by omega,by go_num,⟨HY.I,bd HA.I.2 _⟩⟩
       case measure=>simp [intOf]; omega
      obtain ⟨j,rfl⟩: ∃ j,k=j+1:=⟨k - 1,by omega⟩
      obtain ⟨y,hy⟩: ∃ y,p.L9[j]? =some y:=⟨_,Kz (by omega)⟩
      have cp:wr.cell? ⟨gs,j * 2,none⟩=some (.int .i64 y.id):=HP.I y hy;have j0:(0:Int)≤(j:Int):=by omega
      have j1:(j:Int) < (p.L9.length:Int):=by omega
      have wk:IntKind.i64.wrap (j:Int)=(j:Int):=by rw [K8]; omega
      have wV:Hid (bW (fun x:aB=>x.id) 0 (p.L9.take (j+1))=y.id):=eG hy 0;clear hy hk0;by_cases hle:x.id≤y.id
      ·have dp:decide (x.id≤y.id)=true:=decide_eq_true hle
       have HN:Hid (bv p=false):=nk (bS HX.I (fun hh=>by have h9:=hh.2.1; rw [wV.I] at h9; have h9:y.id < x.id:=h9; omega));go_wp2_with fail
       go_quiet ((first
        | (go_at_call_of 34 (x.id); exact L1 (kI.I _))))
       go_wp2;go_ret;exact ⟨al HN.I.symm,bd cy.I.2.2 _⟩
      have dp:decide (x.id≤y.id)=false:=decide_eq_false hle;have j6:Hid (bW (fun x:aB=>x.id) 0 (p.L9.take (j+1)) < x.id):=by show _ < _; rw [wV.I]; show y.id < x.id; omega
      have HY:Hid (aw (fun x:aB=>x.id) ey 0 (p.L9.take ((j+1)+1))=true):=ed HA.I.1 HX.I lN.I j6.I (rfl);go_wp2_with fail
      go_quiet ((first
       | (go_at_call_of 34 (x.id); exact L1 (kI.I _))))
      go_wp2;go_roundw
      case rel=>exact ⟨(j+1)+1,by omega,by go_num,⟨HY.I,bd HA.I.2 _⟩⟩
      case measure=>simp [intOf]; omega
    ·have i1: ¬ (k:Int) < (p.L9.length:Int):=by omega
     have wm:Hid (aw (fun x:aB=>x.id) ey 0 p.L9=true):=by have:=HA.I.1; rwa [KF (by omega)] at this
     clear HA HB hlt hk hsz hll;go_wp2_with fail;clear i1 m0 m1 m2 m3 m4 m5 m6 m7
     rename World=>W1
     have HB:Hid (av W1 w.heap.size p∧af.At W1 p∧Below w.heap.size w W1):=cy.I;clear cy
     go_loopw [6] (fun i wr=> ∃ k:Nat,k≤p.ag.length∧i= .int .i64 k∧Hid (aw (fun x:az=>x.id) cU 0 (p.ag.take k)=true∧Below W1.heap.size W1 wr)) (fun i _=>p.ag.length - (intOf i).toNat)
     case atStart=>exact ⟨0,Ky _,rfl,⟨rfl,Kp _ _⟩⟩
     case round=>
      obtain ⟨k,hk,rfl,HA⟩:=hrel;have hsz:w.heap.size < wr.heap.size:=Kn (J2.1 HB.I.1).1 HA.I.2.size;have cy:Hid (av wr w.heap.size p∧af.At wr p∧Below w.heap.size w wr):=⟨HB.I.1.below HA.I.2,HB.I.2.1.below HA.I.2,HB.I.2.2.trans (HA.I.2.mono HB.I.2.2.size)⟩
      obtain ⟨m0,m1,m2,m3,m4,m5,m6,m7⟩:=cy.I.1.cells;have hll:=fl.I.short.ag;by_cases hlt:k < p.ag.length
      ·as_aux_lemma=>
        have i0:(0:Int)≤(k:Int):=by omega
        have i1:(k:Int) < (p.ag.length:Int):=by omega
        obtain ⟨x,hx⟩: ∃ x,p.ag[k]? =some x:=⟨_,Kz hlt⟩
        have hmem:=KA hx;obtain ⟨gs,ha,hat⟩:=jr cy.I.2.1.2.2.2.1 hx;have hgs:gs < wr.heap.size:=Le hat.1;have HP:Hid (∀ y,p.ag[k - 1]? =some y→wr.cell? ⟨gs,(k - 1) * 3,none⟩=some (.int .i64 y.id)):=fun y hy=>by
         obtain ⟨g2,ha2,g8⟩:=jr cy.I.2.1.2.2.2.1 hy;rw [ha] at ha2;cases ha2;exact g8.1
        obtain ⟨c0,c1,c2⟩:=hat;rw [ha] at m5;have HX:Hid (p.ag[k]? =some x):=hx;have hts:=fl.I.ag x hmem;clear hx ha hmem HB;cases hin:cv x.id 1 1000
        ·have kI:Hid (∀ w,Calls J3 34 #[.int .i64 x.id,.int .i64 1,.int .i64 1000] w fun e w'=>e= .returned (.bool false)∧w'=w):=i7 hin
         have lN:Hid (cv x.id 1 1000=false):=hin;clear hin;have HN:Hid (bv p=false):=fJ (bS HX.I (fun hh=>by rw [lN.I] at hh; cases hh.1));go_wp2_with fail
         go_quiet ((first
          | (go_at_call_of 34 (x.id); exact L1 (kI.I _))))
         go_wp2;go_ret;exact ⟨al HN.I.symm,bd (cy.I.2.2.alloc cy.I.2.2.size _) _⟩
        have lN:Hid (cv x.id 1 1000=true):=hin;have kI:Hid (∀ w,Calls J3 34 #[.int .i64 x.id,.int .i64 1,.int .i64 1000] w fun e w'=>e= .returned (.bool true)∧w'=w):=gS hin;clear hin;by_cases hk0:k=0
        ·have dk:decide (0 < k)=false:=decide_eq_false (by omega)
         have j6:Hid (bW (fun x:az=>x.id) 0 (p.ag.take k) < x.id):=by show _ < _; rw [hk0,lx]; have:=bz.1 lN.I; omega
         clear hk0;cases h5:bw x.text
         ·have lE:Hid (∀ w,Calls J3 140 #[.string x.text] w fun e w'=>e= .returned (.bool false)∧w'=w):=rm h5 hts
          have H5:Hid (bw x.text=false):=h5;clear h5;have HN:Hid (bv p=false):=fJ (bS HX.I (fun hh=>by have h9:=hh.2.2; simp [cU,H5.I] at h9));go_wp2_with fail
          go_quiet ((first
           | (go_at_call_of 34 (x.id); exact L1 (kI.I _))
           | (go_at_call_of 140 (x.text); exact L1 (lE.I _))))
          go_wp2;go_ret;exact ⟨al HN.I.symm,bd (cy.I.2.2.alloc cy.I.2.2.size _) _⟩
         have lE:Hid (∀ w,Calls J3 140 #[.string x.text] w fun e w'=>e= .returned (.bool true)∧w'=w):=rm h5 hts;have H5:Hid (bw x.text=true):=h5;clear h5;cases h6:x.shown
         ·rw [h6] at c1
          have H6:Hid (x.shown=false):=h6;clear h6;cases h7:x.text.toList.isEmpty
          ·have H7:Hid (bI x.text=false):=h7
           have HN:Hid (bv p=false):=fJ (bS HX.I (fun hh=>by have h9:=hh.2.2; simp [cU,H6.I,H7.I] at h9));go_wp2_with fail
           go_quiet ((first
            | (go_at_call_of 34 (x.id); exact L1 (kI.I _))
            | (go_at_call_of 140 (x.text); exact L1 (lE.I _))))
           go_wp2;go_ret;exact ⟨al HN.I.symm,bd (cy.I.2.2.alloc cy.I.2.2.size _) _⟩
          have H7:Hid (bI x.text=true):=h7;have HY:Hid (aw (fun x:az=>x.id) cU 0 (p.ag.take (k+1))=true):=ed HA.I.1 HX.I lN.I j6.I (by simp [cU,H5.I,H6.I,H7.I]);go_wp2_with fail
          go_quiet ((first
           | (go_at_call_of 34 (x.id); exact L1 (kI.I _))
           | (go_at_call_of 140 (x.text); exact L1 (lE.I _))))
          go_wp2;go_roundw
          case rel=>exact ⟨k+1,by omega,by go_num,⟨HY.I,bd (HA.I.2.alloc HA.I.2.size _) _⟩⟩
          case measure=>simp [intOf]; omega
         rw [h6] at c1;have H6:Hid (x.shown=true):=h6;clear h6;have HY:Hid (aw (fun x:az=>x.id) cU 0 (p.ag.take (k+1))=true):=ed HA.I.1 HX.I lN.I j6.I (by simp [cU,H5.I,H6.I]);go_wp2_with fail
         go_quiet ((first
          | (go_at_call_of 34 (x.id); exact L1 (kI.I _))
          | (go_at_call_of 140 (x.text); exact L1 (lE.I _))))
         go_wp2;go_roundw
         case rel=>exact ⟨k+1,by omega,by go_num,⟨HY.I,bd (HA.I.2.alloc HA.I.2.size _) _⟩⟩
         case measure=>simp [intOf]; omega
        obtain ⟨j,rfl⟩: ∃ j,k=j+1:=⟨k - 1,by omega⟩
        obtain ⟨y,hy⟩: ∃ y,p.ag[j]? =some y:=⟨_,Kz (by omega)⟩
        have cp:wr.cell? ⟨gs,j * 3,none⟩=some (.int .i64 y.id):=HP.I y hy;have j0:(0:Int)≤(j:Int):=by omega
        have j1:(j:Int) < (p.ag.length:Int):=by omega
        have wk:IntKind.i64.wrap (j:Int)=(j:Int):=by rw [K8]; omega
        have wV:Hid (bW (fun x:az=>x.id) 0 (p.ag.take (j+1))=y.id):=eG hy 0;clear hy hk0;by_cases hle:x.id≤y.id
        ·have dp:decide (x.id≤y.id)=true:=decide_eq_true hle
         have HN:Hid (bv p=false):=fJ (bS HX.I (fun hh=>by have h9:=hh.2.1; rw [wV.I] at h9; have h9:y.id < x.id:=h9; omega));go_wp2_with fail
         go_quiet ((first
          | (go_at_call_of 34 (x.id); exact L1 (kI.I _))))
         go_wp2;go_ret;exact ⟨al HN.I.symm,bd (cy.I.2.2.alloc cy.I.2.2.size _) _⟩
        have dp:decide (x.id≤y.id)=false:=decide_eq_false hle;have j6:Hid (bW (fun x:az=>x.id) 0 (p.ag.take (j+1)) < x.id):=by show _ < _; rw [wV.I]; show y.id < x.id; omega
        cases h5:bw x.text
        ·have lE:Hid (∀ w,Calls J3 140 #[.string x.text] w fun e w'=>e= .returned (.bool false)∧w'=w):=rm h5 hts
         have H5:Hid (bw x.text=false):=h5;clear h5;have HN:Hid (bv p=false):=fJ (bS HX.I (fun hh=>by have h9:=hh.2.2; simp [cU,H5.I] at h9));go_wp2_with fail
         go_quiet ((first
          | (go_at_call_of 34 (x.id); exact L1 (kI.I _))
          | (go_at_call_of 140 (x.text); exact L1 (lE.I _))))
         go_wp2;go_ret;exact ⟨al HN.I.symm,bd (cy.I.2.2.alloc cy.I.2.2.size _) _⟩
        have lE:Hid (∀ w,Calls J3 140 #[.string x.text] w fun e w'=>e= .returned (.bool true)∧w'=w):=rm h5 hts;have H5:Hid (bw x.text=true):=h5;clear h5;cases h6:x.shown
        ·rw [h6] at c1
         have H6:Hid (x.shown=false):=h6;clear h6;cases h7:x.text.toList.isEmpty
         ·have H7:Hid (bI x.text=false):=h7
          have HN:Hid (bv p=false):=fJ (bS HX.I (fun hh=>by have h9:=hh.2.2; simp [cU,H6.I,H7.I] at h9));go_wp2_with fail
          go_quiet ((first
           | (go_at_call_of 34 (x.id); exact L1 (kI.I _))
           | (go_at_call_of 140 (x.text); exact L1 (lE.I _))))
          go_wp2;go_ret;exact ⟨al HN.I.symm,bd (cy.I.2.2.alloc cy.I.2.2.size _) _⟩
         have H7:Hid (bI x.text=true):=h7;have HY:Hid (aw (fun x:az=>x.id) cU 0 (p.ag.take ((j+1)+1))=true):=ed HA.I.1 HX.I lN.I j6.I (by simp [cU,H5.I,H6.I,H7.I]);go_wp2_with fail
         go_quiet ((first
          | (go_at_call_of 34 (x.id); exact L1 (kI.I _))
          | (go_at_call_of 140 (x.text); exact L1 (lE.I _))))
         go_wp2;go_roundw
         case rel=>exact ⟨(j+1)+1,by omega,by go_num,⟨HY.I,bd (HA.I.2.alloc HA.I.2.size _) _⟩⟩
         case measure=>simp [intOf]; omega
        rw [h6] at c1;have H6:Hid (x.shown=true):=h6;clear h6;have HY:Hid (aw (fun x:az=>x.id) cU 0 (p.ag.take ((j+1)+1))=true):=ed HA.I.1 HX.I lN.I j6.I (by simp [cU,H5.I,H6.I]);go_wp2_with fail
        go_quiet ((first
         | (go_at_call_of 34 (x.id); exact L1 (kI.I _))
         | (go_at_call_of 140 (x.text); exact L1 (lE.I _))))
        go_wp2;go_roundw
        case rel=>exact ⟨(j+1)+1,by omega,by go_num,⟨HY.I,bd (HA.I.2.alloc HA.I.2.size _) _⟩⟩
        case measure=>simp [intOf]; omega
      ·have i1: ¬ (k:Int) < (p.ag.length:Int):=by omega
       have xD:Hid (aw (fun x:az=>x.id) cU 0 p.ag=true):=by have:=HA.I.1; rwa [KF (by omega)] at this
       clear HA HB hlt hk hsz hll;go_wp2_with fail;clear i1 m0 m1 m2 m3 m4 m5 m6 m7
       rename World=>W2
       have HB:Hid (av W2 w.heap.size p∧af.At W2 p∧Below w.heap.size w W2):=cy.I;clear cy
       go_loopw [8] (fun i wr=> ∃ k:Nat,k≤p.ae.length∧i= .int .i64 k∧Hid (aw (fun x:au=>x.id) (fun x:au=>ct x.toci) 0 (p.ae.take k)=true∧Below W2.heap.size W2 wr)) (fun i _=>p.ae.length - (intOf i).toNat)
       case atStart=>exact ⟨0,Ky _,rfl,⟨rfl,Kp _ _⟩⟩
       case round=>
        obtain ⟨k,hk,rfl,HA⟩:=hrel;have hsz:w.heap.size < wr.heap.size:=Kn (J2.1 HB.I.1).1 HA.I.2.size;have cy:Hid (av wr w.heap.size p∧af.At wr p∧Below w.heap.size w wr):=⟨HB.I.1.below HA.I.2,HB.I.2.1.below HA.I.2,HB.I.2.2.trans (HA.I.2.mono HB.I.2.2.size)⟩
        obtain ⟨m0,m1,m2,m3,m4,m5,m6,m7⟩:=cy.I.1.cells;have hll:=fl.I.short.ae;by_cases hlt:k < p.ae.length
        ·as_aux_lemma=>
          have i0:(0:Int)≤(k:Int):=by omega
          have i1:(k:Int) < (p.ae.length:Int):=by omega
          obtain ⟨x,hx⟩: ∃ x,p.ae[k]? =some x:=⟨_,Kz hlt⟩
          have hmem:=KA hx;obtain ⟨gs,ha,hat⟩:=iA cy.I.2.1.2.2.2.2.1 hx;have hgs:gs < wr.heap.size:=Le hat.1;have HP:Hid (∀ y,p.ae[k - 1]? =some y→wr.cell? ⟨gs,(k - 1) * 3,none⟩=some (.int .i64 y.id)):=fun y hy=>by
           obtain ⟨g2,ha2,g8⟩:=iA cy.I.2.1.2.2.2.2.1 hy;rw [ha] at ha2;cases ha2;exact g8.1
          obtain ⟨c0,c1,c2⟩:=hat;rw [ha] at m6;have HX:Hid (p.ae[k]? =some x):=hx;have E9:Hid (fT wr x.ak x.Ma):=⟨(fl.I.ae x hmem).1,(fl.I.ae x hmem).2,lj cy.I.2.1.2.2.2.2.1 hx⟩
          clear hx ha hmem HB;cases hin:cv x.id 1 1000
          ·have kI:Hid (∀ w,Calls J3 34 #[.int .i64 x.id,.int .i64 1,.int .i64 1000] w fun e w'=>e= .returned (.bool false)∧w'=w):=i7 hin
           have lN:Hid (cv x.id 1 1000=false):=hin;clear hin;have HN:Hid (bv p=false):=fv (bS HX.I (fun hh=>by rw [lN.I] at hh; cases hh.1));go_wp2_with fail
           go_quiet ((first
            | (go_at_call_of 34 (x.id); exact L1 (kI.I _))))
           go_wp2;go_ret;exact ⟨al HN.I.symm,bd (cy.I.2.2.alloc cy.I.2.2.size _) _⟩
          have lN:Hid (cv x.id 1 1000=true):=hin;have kI:Hid (∀ w,Calls J3 34 #[.int .i64 x.id,.int .i64 1,.int .i64 1000] w fun e w'=>e= .returned (.bool true)∧w'=w):=gS hin;clear hin;by_cases hk0:k=0
          ·have dk:decide (0 < k)=false:=decide_eq_false (by omega)
           have j6:Hid (bW (fun x:au=>x.id) 0 (p.ae.take k) < x.id):=by show _ < _; rw [hk0,lx]; have:=bz.1 lN.I; omega
           clear hk0;cases h5:cv x.max 1 5
           ·have lE:Hid (∀ w,Calls J3 34 #[.int .i64 x.max,.int .i64 1,.int .i64 5] w fun e w'=>e= .returned (.bool false)∧w'=w):=i7 h5
            have H5:Hid (cv x.max 1 5=false):=h5;clear h5;have HN:Hid (bv p=false):=fv (bS HX.I (fun hh=>by have h9:=hh.2.2; simp [ct,H5.I] at h9));go_wp2_with fail
            go_quiet ((first
             | (go_at_call_of 34 (x.id); exact L1 (kI.I _))
             | (go_at_call_of 34 (x.max); exact L1 (lE.I _))))
            go_wp2;go_ret;exact ⟨al HN.I.symm,bd (cy.I.2.2.alloc cy.I.2.2.size _) _⟩
           have lE:Hid (∀ w,Calls J3 34 #[.int .i64 x.max,.int .i64 1,.int .i64 5] w fun e w'=>e= .returned (.bool true)∧w'=w):=gS h5;have H5:Hid (cv x.max 1 5=true):=h5;clear h5;cases h7:dJ x.Ma x.max
           ·have uE:Hid (∀ o n,Calls J3 141 #[.slice x.ak x.Ma.length x.aq,.int .i64 x.max] ((wr.alloc o).drewN n) fun e w'=>e= .returned (.bool false)∧w'=(wr.alloc o).drewN n):=fun _ n=>iz h7 E9.I n
            have H7:Hid (dJ x.Ma x.max=false):=h7;clear h7;have HN:Hid (bv p=false):=fv (bS HX.I (fun hh=>by have h9:=hh.2.2; simp [ct,H7.I] at h9));go_wp2_with fail
            go_quiet ((first
             | (go_at_call_of 141 (x.Ma.length); exact L1 (uE.I _ _))
             | (go_at_call_of 34 (x.id); exact L1 (kI.I _))
             | (go_at_call_of 34 (x.max); exact L1 (lE.I _))))
            go_wp2;go_ret;exact ⟨al HN.I.symm,bd (cy.I.2.2.alloc cy.I.2.2.size _) _⟩
           have uE:Hid (∀ o n,Calls J3 141 #[.slice x.ak x.Ma.length x.aq,.int .i64 x.max] ((wr.alloc o).drewN n) fun e w'=>e= .returned (.bool true)∧w'=(wr.alloc o).drewN n):=fun _ n=>iz h7 E9.I n
           have H7:Hid (dJ x.Ma x.max=true):=h7;clear h7;have HY:Hid (aw (fun x:au=>x.id) (fun x:au=>ct x.toci) 0 (p.ae.take (k+1))=true):=ed HA.I.1 HX.I lN.I j6.I (by simp [ct,H5.I,H7.I]);go_wp2_with fail
           go_quiet ((first
            | (go_at_call_of 141 (x.Ma.length); exact L1 (uE.I _ _))
            | (go_at_call_of 34 (x.id); exact L1 (kI.I _))
            | (go_at_call_of 34 (x.max); exact L1 (lE.I _))))
           go_wp2;go_roundw
           case rel=>exact ⟨k+1,by omega,by go_num,⟨HY.I,bd (HA.I.2.alloc HA.I.2.size _) _⟩⟩
           case measure=>simp [intOf]; omega
          obtain ⟨j,rfl⟩: ∃ j,k=j+1:=⟨k - 1,by omega⟩
          obtain ⟨y,hy⟩: ∃ y,p.ae[j]? =some y:=⟨_,Kz (by omega)⟩
          have cp:wr.cell? ⟨gs,j * 3,none⟩=some (.int .i64 y.id):=HP.I y hy;have j0:(0:Int)≤(j:Int):=by omega
          have j1:(j:Int) < (p.ae.length:Int):=by omega
          have wk:IntKind.i64.wrap (j:Int)=(j:Int):=by rw [K8]; omega
          have wV:Hid (bW (fun x:au=>x.id) 0 (p.ae.take (j+1))=y.id):=eG hy 0;clear hy hk0;by_cases hle:x.id≤y.id
          ·have dp:decide (x.id≤y.id)=true:=decide_eq_true hle
           have HN:Hid (bv p=false):=fv (bS HX.I (fun hh=>by have h9:=hh.2.1; rw [wV.I] at h9; have h9:y.id < x.id:=h9; omega));go_wp2_with fail
           go_quiet ((first
            | (go_at_call_of 34 (x.id); exact L1 (kI.I _))))
           go_wp2;go_ret;exact ⟨al HN.I.symm,bd (cy.I.2.2.alloc cy.I.2.2.size _) _⟩
          have dp:decide (x.id≤y.id)=false:=decide_eq_false hle;have j6:Hid (bW (fun x:au=>x.id) 0 (p.ae.take (j+1)) < x.id):=by show _ < _; rw [wV.I]; show y.id < x.id; omega
          cases h5:cv x.max 1 5
          ·have lE:Hid (∀ w,Calls J3 34 #[.int .i64 x.max,.int .i64 1,.int .i64 5] w fun e w'=>e= .returned (.bool false)∧w'=w):=i7 h5
           have H5:Hid (cv x.max 1 5=false):=h5;clear h5;have HN:Hid (bv p=false):=fv (bS HX.I (fun hh=>by have h9:=hh.2.2; simp [ct,H5.I] at h9));go_wp2_with fail
           go_quiet ((first
            | (go_at_call_of 34 (x.id); exact L1 (kI.I _))
            | (go_at_call_of 34 (x.max); exact L1 (lE.I _))))
           go_wp2;go_ret;exact ⟨al HN.I.symm,bd (cy.I.2.2.alloc cy.I.2.2.size _) _⟩
          have lE:Hid (∀ w,Calls J3 34 #[.int .i64 x.max,.int .i64 1,.int .i64 5] w fun e w'=>e= .returned (.bool true)∧w'=w):=gS h5;have H5:Hid (cv x.max 1 5=true):=h5;clear h5;cases h7:dJ x.Ma x.max
          ·have uE:Hid (∀ o n,Calls J3 141 #[.slice x.ak x.Ma.length x.aq,.int .i64 x.max] ((wr.alloc o).drewN n) fun e w'=>e= .returned (.bool false)∧w'=(wr.alloc o).drewN n):=fun _ n=>iz h7 E9.I n
           have H7:Hid (dJ x.Ma x.max=false):=h7;clear h7;have HN:Hid (bv p=false):=fv (bS HX.I (fun hh=>by have h9:=hh.2.2; simp [ct,H7.I] at h9));go_wp2_with fail
           go_quiet ((first
            | (go_at_call_of 141 (x.Ma.length); exact L1 (uE.I _ _))
            | (go_at_call_of 34 (x.id); exact L1 (kI.I _))
            | (go_at_call_of 34 (x.max); exact L1 (lE.I _))))
           go_wp2;go_ret;exact ⟨al HN.I.symm,bd (cy.I.2.2.alloc cy.I.2.2.size _) _⟩
          have uE:Hid (∀ o n,Calls J3 141 #[.slice x.ak x.Ma.length x.aq,.int .i64 x.max] ((wr.alloc o).drewN n) fun e w'=>e= .returned (.bool true)∧w'=(wr.alloc o).drewN n):=fun _ n=>iz h7 E9.I n
          have H7:Hid (dJ x.Ma x.max=true):=h7;clear h7;have HY:Hid (aw (fun x:au=>x.id) (fun x:au=>ct x.toci) 0 (p.ae.take ((j+1)+1))=true):=ed HA.I.1 HX.I lN.I j6.I (by simp [ct,H5.I,H7.I]);go_wp2_with fail
          go_quiet ((first
           | (go_at_call_of 141 (x.Ma.length); exact L1 (uE.I _ _))
           | (go_at_call_of 34 (x.id); exact L1 (kI.I _))
           | (go_at_call_of 34 (x.max); exact L1 (lE.I _))))
          go_wp2;go_roundw
          case rel=>exact ⟨(j+1)+1,by omega,by go_num,⟨HY.I,bd (HA.I.2.alloc HA.I.2.size _) _⟩⟩
          case measure=>simp [intOf]; omega
        ·have i1: ¬ (k:Int) < (p.ae.length:Int):=by omega
         have Fz:Hid (aw (fun x:au=>x.id) (fun x=>ct x.toci) 0 p.ae=true):=by have:=HA.I.1; rwa [KF (by omega)] at this
         clear HA HB hlt hk hsz hll;go_wp2_with fail;clear i1 m0 m1 m2 m3 m4 m5 m6 m7
         rename World=>W3
         have HB:Hid (av W3 w.heap.size p∧af.At W3 p∧Below w.heap.size w W3):=cy.I;clear cy
         go_loopw [10] (fun i wr=> ∃ k:Nat,k≤p.ai.length∧i= .int .i64 k∧Hid (aw (fun x:aM=>x.id) (fun x:aM=>dj x.todS) 0 (p.ai.take k)=true∧Below W3.heap.size W3 wr)) (fun i _=>p.ai.length - (intOf i).toNat)
         case atStart=>exact ⟨0,Ky _,rfl,⟨rfl,Kp _ _⟩⟩
         case round=>
          obtain ⟨k,hk,rfl,HA⟩:=hrel;have hsz:w.heap.size < wr.heap.size:=Kn (J2.1 HB.I.1).1 HA.I.2.size;have cy:Hid (av wr w.heap.size p∧af.At wr p∧Below w.heap.size w wr):=⟨HB.I.1.below HA.I.2,HB.I.2.1.below HA.I.2,HB.I.2.2.trans (HA.I.2.mono HB.I.2.2.size)⟩
          obtain ⟨m0,m1,m2,m3,m4,m5,m6,m7⟩:=cy.I.1.cells;have hll:=fl.I.short.ai;by_cases hlt:k < p.ai.length
          ·as_aux_lemma=>
            have i0:(0:Int)≤(k:Int):=by omega
            have i1:(k:Int) < (p.ai.length:Int):=by omega
            obtain ⟨x,hx⟩: ∃ x,p.ai[k]? =some x:=⟨_,Kz hlt⟩
            have hmem:=KA hx;obtain ⟨gs,ha,hat⟩:=lm cy.I.2.1.2.2.2.2.2 hx;have hgs:gs < wr.heap.size:=Le hat.1;have HP:Hid (∀ y,p.ai[k - 1]? =some y→wr.cell? ⟨gs,(k - 1) * 5,none⟩=some (.int .i64 y.id)):=fun y hy=>by
             obtain ⟨g2,ha2,g8⟩:=lm cy.I.2.1.2.2.2.2.2 hy;rw [ha] at ha2;cases ha2;exact g8.1
            obtain ⟨c0,c1,c2,c3,c4⟩:=hat;rw [ha] at m7;have HX:Hid (p.ai[k]? =some x):=hx;have E9:Hid (fT wr x.ak x.Ma):=⟨(fl.I.ai x hmem).1,(fl.I.ai x hmem).2,nJ cy.I.2.1.2.2.2.2.2 hx⟩
            clear hx ha hmem HB;cases hin:cv x.id 1 1000
            ·have kI:Hid (∀ w,Calls J3 34 #[.int .i64 x.id,.int .i64 1,.int .i64 1000] w fun e w'=>e= .returned (.bool false)∧w'=w):=i7 hin
             have lN:Hid (cv x.id 1 1000=false):=hin;clear hin;have HN:Hid (bv p=false):=eg (bS HX.I (fun hh=>by rw [lN.I] at hh; cases hh.1));go_wp2_with fail
             go_quiet ((first
              | (go_at_call_of 34 (x.id); exact L1 (kI.I _))))
             go_wp2;go_ret;exact ⟨al HN.I.symm,bd (cy.I.2.2.alloc cy.I.2.2.size _) _⟩
            have lN:Hid (cv x.id 1 1000=true):=hin;have kI:Hid (∀ w,Calls J3 34 #[.int .i64 x.id,.int .i64 1,.int .i64 1000] w fun e w'=>e= .returned (.bool true)∧w'=w):=gS hin;clear hin;by_cases hk0:k=0
            ·have dk:decide (0 < k)=false:=decide_eq_false (by omega)
             have j6:Hid (bW (fun x:aM=>x.id) 0 (p.ai.take k) < x.id):=by show _ < _; rw [hk0,lx]; have:=bz.1 lN.I; omega
             clear hk0;cases h5:cv x.max 1 5
             ·have lE:Hid (∀ w,Calls J3 34 #[.int .i64 x.max,.int .i64 1,.int .i64 5] w fun e w'=>e= .returned (.bool false)∧w'=w):=i7 h5
              have H5:Hid (cv x.max 1 5=false):=h5;clear h5;have HN:Hid (bv p=false):=eg (bS HX.I (fun hh=>by have h9:=hh.2.2; simp [dj,H5.I] at h9));go_wp2_with fail
              go_quiet ((first
               | (go_at_call_of 34 (x.id); exact L1 (kI.I _))
               | (go_at_call_of 34 (x.max); exact L1 (lE.I _))))
              go_wp2;go_ret;exact ⟨al HN.I.symm,bd (cy.I.2.2.alloc cy.I.2.2.size _) _⟩
             have lE:Hid (∀ w,Calls J3 34 #[.int .i64 x.max,.int .i64 1,.int .i64 5] w fun e w'=>e= .returned (.bool true)∧w'=w):=gS h5;have H5:Hid (cv x.max 1 5=true):=h5;clear h5;cases h6:x.Mf
             ·rw [h6] at c2
              have H6:Hid (x.Mf=false):=h6;clear h6;by_cases h8:x.max=1
              ·have H8:Hid (x.max=1):=h8
               have n8:(x.max != 1)=false:=by simp [h8]
               clear h8;cases h7:dJ x.Ma x.max
               ·have uE:Hid (∀ o n,Calls J3 141 #[.slice x.ak x.Ma.length x.aq,.int .i64 x.max] ((wr.alloc o).drewN n) fun e w'=>e= .returned (.bool false)∧w'=(wr.alloc o).drewN n):=fun _ n=>iz h7 E9.I n
                have H7:Hid (dJ x.Ma x.max=false):=h7;clear h7;have HN:Hid (bv p=false):=eg (bS HX.I (fun hh=>by have h9:=hh.2.2; simp [dj,H7.I] at h9));go_wp2_with fail
                go_quiet ((first
                 | (go_at_call_of 141 (x.Ma.length); exact L1 (uE.I _ _))
                 | (go_at_call_of 34 (x.id); exact L1 (kI.I _))
                 | (go_at_call_of 34 (x.max); exact L1 (lE.I _))))
                go_wp2;go_ret;exact ⟨al HN.I.symm,bd (cy.I.2.2.alloc cy.I.2.2.size _) _⟩
               have uE:Hid (∀ o n,Calls J3 141 #[.slice x.ak x.Ma.length x.aq,.int .i64 x.max] ((wr.alloc o).drewN n) fun e w'=>e= .returned (.bool true)∧w'=(wr.alloc o).drewN n):=fun _ n=>iz h7 E9.I n
               have H7:Hid (dJ x.Ma x.max=true):=h7;clear h7;have HY:Hid (aw (fun x:aM=>x.id) (fun x:aM=>dj x.todS) 0 (p.ai.take (k+1))=true):=ed HA.I.1 HX.I lN.I j6.I (by simp only [dj,H5.I,H7.I,H6.I]; simp [H8.I]);go_wp2_with fail
               go_quiet ((first
                | (go_at_call_of 141 (x.Ma.length); exact L1 (uE.I _ _))
                | (go_at_call_of 34 (x.id); exact L1 (kI.I _))
                | (go_at_call_of 34 (x.max); exact L1 (lE.I _))))
               go_wp2;go_roundw
               case rel=>exact ⟨k+1,by omega,by go_num,⟨HY.I,bd (HA.I.2.alloc HA.I.2.size _) _⟩⟩
               case measure=>simp [intOf]; omega
              have H8:Hid (¬ x.max=1):=h8;have n8:(x.max != 1)=true:=by simp [h8]
              clear h8;have HN:Hid (bv p=false):=eg (bS HX.I (fun hh=>by have h9:=hh.2.2; simp [dj,H6.I,H8.I] at h9));go_wp2_with fail
              go_quiet ((first
               | (go_at_call_of 34 (x.id); exact L1 (kI.I _))
               | (go_at_call_of 34 (x.max); exact L1 (lE.I _))))
              go_wp2;go_ret;exact ⟨al HN.I.symm,bd (cy.I.2.2.alloc cy.I.2.2.size _) _⟩
             rw [h6] at c2;have H6:Hid (x.Mf=true):=h6;clear h6;cases h7:dJ x.Ma x.max
             ·have uE:Hid (∀ o n,Calls J3 141 #[.slice x.ak x.Ma.length x.aq,.int .i64 x.max] ((wr.alloc o).drewN n) fun e w'=>e= .returned (.bool false)∧w'=(wr.alloc o).drewN n):=fun _ n=>iz h7 E9.I n
              have H7:Hid (dJ x.Ma x.max=false):=h7;clear h7;have HN:Hid (bv p=false):=eg (bS HX.I (fun hh=>by have h9:=hh.2.2; simp [dj,H7.I] at h9));go_wp2_with fail
              go_quiet ((first
               | (go_at_call_of 141 (x.Ma.length); exact L1 (uE.I _ _))
               | (go_at_call_of 34 (x.id); exact L1 (kI.I _))
               | (go_at_call_of 34 (x.max); exact L1 (lE.I _))))
              go_wp2;go_ret;exact ⟨al HN.I.symm,bd (cy.I.2.2.alloc cy.I.2.2.size _) _⟩
             have uE:Hid (∀ o n,Calls J3 141 #[.slice x.ak x.Ma.length x.aq,.int .i64 x.max] ((wr.alloc o).drewN n) fun e w'=>e= .returned (.bool true)∧w'=(wr.alloc o).drewN n):=fun _ n=>iz h7 E9.I n
             have H7:Hid (dJ x.Ma x.max=true):=h7;clear h7;have HY:Hid (aw (fun x:aM=>x.id) (fun x:aM=>dj x.todS) 0 (p.ai.take (k+1))=true):=ed HA.I.1 HX.I lN.I j6.I (by simp [dj,H5.I,H7.I,H6.I]);go_wp2_with fail
             go_quiet ((first
              | (go_at_call_of 141 (x.Ma.length); exact L1 (uE.I _ _))
              | (go_at_call_of 34 (x.id); exact L1 (kI.I _))
              | (go_at_call_of 34 (x.max); exact L1 (lE.I _))))
             go_wp2;go_roundw
             case rel=>exact ⟨k+1,by omega,by go_num,⟨HY.I,bd (HA.I.2.alloc HA.I.2.size _) _⟩⟩
             case measure=>simp [intOf]; omega
            obtain ⟨j,rfl⟩: ∃ j,k=j+1:=⟨k - 1,by omega⟩
            obtain ⟨y,hy⟩: ∃ y,p.ai[j]? =some y:=⟨_,Kz (by omega)⟩
            have cp:wr.cell? ⟨gs,j * 5,none⟩=some (.int .i64 y.id):=HP.I y hy;have j0:(0:Int)≤(j:Int):=by omega
            have j1:(j:Int) < (p.ai.length:Int):=by omega
            have wk:IntKind.i64.wrap (j:Int)=(j:Int):=by rw [K8]; omega
            have wV:Hid (bW (fun x:aM=>x.id) 0 (p.ai.take (j+1))=y.id):=eG hy 0;clear hy hk0;by_cases hle:x.id≤y.id
            ·have dp:decide (x.id≤y.id)=true:=decide_eq_true hle
             have HN:Hid (bv p=false):=eg (bS HX.I (fun hh=>by have h9:=hh.2.1; rw [wV.I] at h9; have h9:y.id < x.id:=h9; omega));go_wp2_with fail
             go_quiet ((first
              | (go_at_call_of 34 (x.id); exact L1 (kI.I _))))
             go_wp2;go_ret;exact ⟨al HN.I.symm,bd (cy.I.2.2.alloc cy.I.2.2.size _) _⟩
            have dp:decide (x.id≤y.id)=false:=decide_eq_false hle;have j6:Hid (bW (fun x:aM=>x.id) 0 (p.ai.take (j+1)) < x.id):=by show _ < _; rw [wV.I]; show y.id < x.id; omega
            cases h5:cv x.max 1 5
            ·have lE:Hid (∀ w,Calls J3 34 #[.int .i64 x.max,.int .i64 1,.int .i64 5] w fun e w'=>e= .returned (.bool false)∧w'=w):=i7 h5
             have H5:Hid (cv x.max 1 5=false):=h5;clear h5;have HN:Hid (bv p=false):=eg (bS HX.I (fun hh=>by have h9:=hh.2.2; simp [dj,H5.I] at h9));go_wp2_with fail
             go_quiet ((first
              | (go_at_call_of 34 (x.id); exact L1 (kI.I _))
              | (go_at_call_of 34 (x.max); exact L1 (lE.I _))))
             go_wp2;go_ret;exact ⟨al HN.I.symm,bd (cy.I.2.2.alloc cy.I.2.2.size _) _⟩
            have lE:Hid (∀ w,Calls J3 34 #[.int .i64 x.max,.int .i64 1,.int .i64 5] w fun e w'=>e= .returned (.bool true)∧w'=w):=gS h5;have H5:Hid (cv x.max 1 5=true):=h5;clear h5;cases h6:x.Mf
            ·rw [h6] at c2
             have H6:Hid (x.Mf=false):=h6;clear h6;by_cases h8:x.max=1
             ·have H8:Hid (x.max=1):=h8
              have n8:(x.max != 1)=false:=by simp [h8]
              clear h8;cases h7:dJ x.Ma x.max
              ·have uE:Hid (∀ o n,Calls J3 141 #[.slice x.ak x.Ma.length x.aq,.int .i64 x.max] ((wr.alloc o).drewN n) fun e w'=>e= .returned (.bool false)∧w'=(wr.alloc o).drewN n):=fun _ n=>iz h7 E9.I n
               have H7:Hid (dJ x.Ma x.max=false):=h7;clear h7;have HN:Hid (bv p=false):=eg (bS HX.I (fun hh=>by have h9:=hh.2.2; simp [dj,H7.I] at h9));go_wp2_with fail
               go_quiet ((first
                | (go_at_call_of 141 (x.Ma.length); exact L1 (uE.I _ _))
                | (go_at_call_of 34 (x.id); exact L1 (kI.I _))
                | (go_at_call_of 34 (x.max); exact L1 (lE.I _))))
               go_wp2;go_ret;exact ⟨al HN.I.symm,bd (cy.I.2.2.alloc cy.I.2.2.size _) _⟩
              have uE:Hid (∀ o n,Calls J3 141 #[.slice x.ak x.Ma.length x.aq,.int .i64 x.max] ((wr.alloc o).drewN n) fun e w'=>e= .returned (.bool true)∧w'=(wr.alloc o).drewN n):=fun _ n=>iz h7 E9.I n
              have H7:Hid (dJ x.Ma x.max=true):=h7;clear h7;have HY:Hid (aw (fun x:aM=>x.id) (fun x:aM=>dj x.todS) 0 (p.ai.take ((j+1)+1))=true):=ed HA.I.1 HX.I lN.I j6.I (by simp only [dj,H5.I,H7.I,H6.I]; simp [H8.I]);go_wp2_with fail
              go_quiet ((first
               | (go_at_call_of 141 (x.Ma.length); exact L1 (uE.I _ _))
               | (go_at_call_of 34 (x.id); exact L1 (kI.I _))
               | (go_at_call_of 34 (x.max); exact L1 (lE.I _))))
              go_wp2;go_roundw
              case rel=>exact ⟨(j+1)+1,by omega,by go_num,⟨HY.I,bd (HA.I.2.alloc HA.I.2.size _) _⟩⟩
              case measure=>simp [intOf]; omega
             have H8:Hid (¬ x.max=1):=h8;have n8:(x.max != 1)=true:=by simp [h8]
             clear h8;have HN:Hid (bv p=false):=eg (bS HX.I (fun hh=>by have h9:=hh.2.2; simp [dj,H6.I,H8.I] at h9));go_wp2_with fail
             go_quiet ((first
              | (go_at_call_of 34 (x.id); exact L1 (kI.I _))
              | (go_at_call_of 34 (x.max); exact L1 (lE.I _))))
             go_wp2;go_ret;exact ⟨al HN.I.symm,bd (cy.I.2.2.alloc cy.I.2.2.size _) _⟩
            rw [h6] at c2;have H6:Hid (x.Mf=true):=h6;clear h6;cases h7:dJ x.Ma x.max
            ·have uE:Hid (∀ o n,Calls J3 141 #[.slice x.ak x.Ma.length x.aq,.int .i64 x.max] ((wr.alloc o).drewN n) fun e w'=>e= .returned (.bool false)∧w'=(wr.alloc o).drewN n):=fun _ n=>iz h7 E9.I n
             have H7:Hid (dJ x.Ma x.max=false):=h7;clear h7;have HN:Hid (bv p=false):=eg (bS HX.I (fun hh=>by have h9:=hh.2.2; simp [dj,H7.I] at h9));go_wp2_with fail
             go_quiet ((first
              | (go_at_call_of 141 (x.Ma.length); exact L1 (uE.I _ _))
              | (go_at_call_of 34 (x.id); exact L1 (kI.I _))
              | (go_at_call_of 34 (x.max); exact L1 (lE.I _))))
             go_wp2;go_ret;exact ⟨al HN.I.symm,bd (cy.I.2.2.alloc cy.I.2.2.size _) _⟩
            have uE:Hid (∀ o n,Calls J3 141 #[.slice x.ak x.Ma.length x.aq,.int .i64 x.max] ((wr.alloc o).drewN n) fun e w'=>e= .returned (.bool true)∧w'=(wr.alloc o).drewN n):=fun _ n=>iz h7 E9.I n
            have H7:Hid (dJ x.Ma x.max=true):=h7;clear h7;have HY:Hid (aw (fun x:aM=>x.id) (fun x:aM=>dj x.todS) 0 (p.ai.take ((j+1)+1))=true):=ed HA.I.1 HX.I lN.I j6.I (by simp [dj,H5.I,H7.I,H6.I]);go_wp2_with fail
            go_quiet ((first
             | (go_at_call_of 141 (x.Ma.length); exact L1 (uE.I _ _))
             | (go_at_call_of 34 (x.id); exact L1 (kI.I _))
             | (go_at_call_of 34 (x.max); exact L1 (lE.I _))))
            go_wp2;go_roundw
            case rel=>exact ⟨(j+1)+1,by omega,by go_num,⟨HY.I,bd (HA.I.2.alloc HA.I.2.size _) _⟩⟩
            case measure=>simp [intOf]; omega
          ·have i1: ¬ (k:Int) < (p.ai.length:Int):=by omega
           have FA:Hid (aw (fun x:aM=>x.id) (fun x=>dj x.todS) 0 p.ai=true):=by have:=HA.I.1; rwa [KF (by omega)] at this
           clear HA HB hlt hk hsz hll;have hs:=fl.I.short;have l0:=hs.aj;have l1:=hs.L9;have l2:=hs.ag;have l3:=hs.ae;have l4:=hs.ai;clear hs;cases d0:decide ((p.aj.length:Int)≤5)
           ·have HN:Hid (bv p=false):=wP d0
            go_wp2;go_ret;exact ⟨al HN.I.symm,cy.I.2.2⟩
           cases d1:decide ((p.L9.length:Int)≤5)
           ·have HN:Hid (bv p=false):=wS d1
            go_wp2;go_ret;exact ⟨al HN.I.symm,cy.I.2.2⟩
           cases d2:decide ((p.ag.length:Int)≤5)
           ·have HN:Hid (bv p=false):=wL d2
            go_wp2;go_ret;exact ⟨al HN.I.symm,cy.I.2.2⟩
           cases d3:decide ((p.ae.length:Int)≤5)
           ·have HN:Hid (bv p=false):=wJ d3
            go_wp2;go_ret;exact ⟨al HN.I.symm,cy.I.2.2⟩
           cases d4:decide ((p.ai.length:Int)≤5)
           ·have HN:Hid (bv p=false):=wv d4
            go_wp2;go_ret;exact ⟨al HN.I.symm,cy.I.2.2⟩
           have HY:Hid (bv p=true):=yC Hz.I wm.I xD.I Fz.I FA.I d0 d1 d2 d3 d4;go_wp2;go_ret;exact ⟨al HY.I.symm,cy.I.2.2⟩
end Go.Proofs.YteidkehoekbcaaaGreat
