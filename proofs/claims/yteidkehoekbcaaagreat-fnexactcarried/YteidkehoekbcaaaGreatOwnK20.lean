/- What the proof leans on, part 20. -/
import Derived.Test.YteidkehoekbcaaaGreatOwnK18
set_option maxRecDepth 100000
set_option maxHeartbeats 8000000
open Array renaming getElem?_eq_some_iff->J2
open Go renaming bodyPost_ret->KT,heap_alloc_new->Kj,wp_at_succ->Kd,wp_at_zero->Kc
open Go.Proofs.Tryz renaming prog->J3
open Go.RowKit.Below renaming refl->Kp
open List renaming getElem?_eq_getElem->Kz,mem_of_getElem?->KA,take_of_length_le->KF
open Nat renaming le_refl->Ki,zero_add->Li,zero_le->Ky
open Option renaming map_eq_some_iff->Kw
open Prod.mk renaming injEq->Kx

namespace Go.Proofs.YteidkehoekbcaaaGreat
open Go.RowKit
attribute [local go_sem ↓] Kc Kd
theorem F8 (x:aM) (left:Int) (w:World) (hb:(x.Ma.length≤maxLen∧ ∀ s∈x.Ma,s.size≤maxLen)) (hc:bT.ep w x.ak x.Ma) (h0:0≤left) (h1:left≤1048576):
  Calls J3 133 #[.agg #[.int .i64 x.id,.bool x.I,.bool x.Mf,.int .i64 x.max,.slice x.ak x.Ma.length x.aq],.int .i64 left] w fun e w'=>jZ w left (x.Ma.length) ((x.Ma.length≤1048576∧ ∀ s∈x.Ma,s.size≤1048576)) e w':=by
 have HB:Hid ((x.Ma.length≤maxLen∧ ∀ s∈x.Ma,s.size≤maxLen)):=hb;have HC:Hid (bT.ep (w.alloc (.cells #[.int .i64 x.id,.bool x.I,.bool x.Mf,.int .i64 x.max,.slice x.ak x.Ma.length x.aq] 221)) x.ak x.Ma):=hc.below ((Kp _ _).alloc (Ki _) _);clear hc;have HW:Hid (Below w.heap.size w (w.alloc (.cells #[.int .i64 x.id,.bool x.I,.bool x.Mf,.int .i64 x.max,.slice x.ak x.Ma.length x.aq] 221))):=(Kp _ _).alloc (Ki _) _;clear hb
 go_enter Tryz.func133,Tryz.ntmps133
 have HX:Hid ((w.alloc (.cells #[.int .i64 x.id,.bool x.I,.bool x.Mf,.int .i64 x.max,.slice x.ak x.Ma.length x.aq] 221)).heap[w.heap.size]? =some (.cells #[.int .i64 x.id,.bool x.I,.bool x.Mf,.int .i64 x.max,.slice x.ak x.Ma.length x.aq] 221 (0,0))):=Kj _ _;go_wp2_with fail;generalize w.alloc (.cells #[.int .i64 x.id,.bool x.I,.bool x.Mf,.int .i64 x.max,.slice x.ak x.Ma.length x.aq] 221)=W at *;refine (AX x.ak x.Ma x.aq left W HB.I.1 HC.I HB.I.2 h0 h1).mono ?_;rintro e w1 ⟨r1,rfl,q0,q1,q2,hb1⟩;have fQ:Hid (Below w.heap.size w w1):=HW.I.trans (hb1.mono HW.I.size);have xi:Hid (w1.heap[w.heap.size]? =some (.cells #[.int .i64 x.id,.bool x.I,.bool x.Mf,.int .i64 x.max,.slice x.ak x.Ma.length x.aq] 221 (0,0))):=(hb1.block _ (J2.1 HX.I).1).trans HX.I;have HQ:Hid (0≤r1→(x.Ma.length≤1048576∧ ∀ s∈x.Ma,s.size≤1048576)∧r1+(x.Ma.length:Nat)≤left):=q2;clear hb1 HX q2;by_cases hn:r1 < 0
 ·go_wp2
  go_ret;exact cT fQ.I h0
 go_wp2;go_ret;exact ⟨r1,rfl,by omega,by omega,fun _=>HQ.I (by omega),fQ.I⟩
theorem EC (a:Option Addr) (l:List aM) (cap:Nat) (left:Int) (w:World) (hl:l.length≤maxLen) (hc:bX.ep w a l) (hs: ∀ x∈l,(x.Ma.length≤maxLen∧ ∀ s∈x.Ma,s.size≤maxLen)) (h0:0≤left) (h1:left≤1048576):
  Calls J3 83 #[.slice a l.length cap,.int .i64 left] w fun e w'=>jZ w left (l.length+g9 (fun x:aM=>x.Ma.length) l) (l.length≤1048576∧ ∀ x∈l,(x.Ma.length≤1048576∧ ∀ s∈x.Ma,s.size≤1048576)) e w':=by
 have hl':=hl;unfold maxLen at hl';by_cases hn:left - (l.length:Int) < 0
 ·go_enter Tryz.func83,Tryz.ntmps83
  go_wp2;go_ret;exact cT (Kp _ _) h0
 have HC:Hid (bX.ep w a l∧ ∀ x∈l,(x.Ma.length≤maxLen∧ ∀ s∈x.Ma,s.size≤maxLen)):=⟨hc,hs⟩
 clear hc hs hl
 go_enter Tryz.func83,Tryz.ntmps83
 go_wp2_with fail
 go_loopw [1,5] (fun q i wr=> ∃ (k:Nat) (r:Int),k≤l.length∧i= .int .i64 k∧q= .int .i64 r∧0≤r∧r≤left - (l.length:Int)∧Hid ((∀ x∈l.take k,(x.Ma.length≤1048576∧ ∀ s∈x.Ma,s.size≤1048576))∧r+(g9 (fun x:aM=>x.Ma.length) (l.take k):Nat)≤left - (l.length:Int)∧Below w.heap.size w wr)) (fun _ i _=>l.length - (intOf i).toNat)
 case atStart=>exact ⟨0,left - (l.length:Int),Ky _,rfl,rfl,by omega,by omega,⟨by simp,by simp [g9],Kp _ _⟩⟩
 case round=>
  obtain ⟨k,r,hk,rfl,rfl,r0,r1,HA⟩:=hrel;by_cases hlt:k < l.length
  ·have i0:(0:Int)≤(k:Int):=by omega
   have i1:(k:Int) < (l.length:Int):=by omega
   obtain ⟨x,hx⟩: ∃ x,l[k]? =some x:=⟨_,Kz hlt⟩
   have hmem:=KA hx;obtain ⟨b,off,rfl,hat⟩:=(HC.I.1.below HA.I.2.2).at hx;have c0:wr.cell? ⟨b,off+k * 5,none⟩=some (.int .i64 x.id):=hat 0 _ rfl;have c1:wr.cell? ⟨b,off+k * 5+1,none⟩=some (.bool x.I):=hat 1 _ rfl;have c2:wr.cell? ⟨b,off+k * 5+2,none⟩=some (.bool x.Mf):=hat 2 _ rfl;have c3:wr.cell? ⟨b,off+k * 5+3,none⟩=some (.int .i64 x.max):=hat 3 _ rfl;have c4:wr.cell? ⟨b,off+k * 5+4,none⟩=some (.slice x.ak x.Ma.length x.aq):=hat 4 _ rfl;have HX:Hid (l[k]? =some x∧(x.Ma.length≤maxLen∧ ∀ s∈x.Ma,s.size≤maxLen)):=⟨hx,HC.I.2 x hmem⟩
   have HK:Hid (bT.ep wr x.ak x.Ma):=⟨((HC.I.1.below HA.I.2.2).bt hx (r:=(x.ak,bT.flat x.Ma)) (by simp [bX])),fun y _ r hr=>by simp [bT] at hr⟩
   clear hx hmem hat;go_wp2_with fail;refine (F8 x r wr HX.I.2 HK.I r0 (by omega)).mono ?_;rintro e w1 ⟨r2,rfl,q0,q1,q2,hb1⟩;have fQ:Hid (Below w.heap.size w w1∧(0≤r2→(x.Ma.length≤1048576∧ ∀ s∈x.Ma,s.size≤1048576)∧r2+(x.Ma.length:Nat)≤r)):=⟨HA.I.2.2.trans (hb1.mono HA.I.2.2.size),q2⟩
   clear hb1 q2 c0 c1 c2 c3 c4;by_cases hneg:r2 < 0
   ·go_wp2
    go_ret;exact cT fQ.I.1 h0
   go_wp2;go_roundw
   case rel=>exact ⟨k+1,r2,by omega,by go_num,rfl,by omega,by omega,⟨nE HX.I.1 HA.I.1 (fQ.I.2 (by omega)).1,by rw [zg HX.I.1]; have h5:=(fQ.I.2 (by omega)).2; have h6:=HA.I.2.1; omega,fQ.I.1⟩⟩
   case measure=>simp [intOf]; omega
  ·have i1: ¬ (k:Int) < (l.length:Int):=by omega
   go_wp2;go_ret;exact ⟨r,rfl,by omega,by omega,fun _=>⟨⟨by omega,po (by omega) HA.I.1⟩,by have h5:=HA.I.2.1; rw [KF (by omega)] at h5; omega⟩,HA.I.2.2⟩
theorem G8 (x:aM) (w:World) (hl:x.Ma.length≤1048576) (hc:bT.ep w x.ak x.Ma):
  Calls J3 139 #[.agg #[.int .i64 x.id,.bool x.I,.bool x.Mf,.int .i64 x.max,.slice x.ak x.Ma.length x.aq]] w fun e w'=> ∃ a c,e= .returned (.agg (cW (aU.set x a c)))∧aU.cO w' (w.heap.size+1) (aU.set x a c)∧Below w.heap.size w w':=by
 have HB:Hid (Below w.heap.size w (((w.alloc (.cells #[.int .i64 x.id,.bool x.I,.bool x.Mf,.int .i64 x.max,.slice x.ak x.Ma.length x.aq] 221)).alloc (.cells #[.int .i64 0,.bool false,.bool false,.int .i64 0,.slice none 0 0] 85)).alloc (.cells #[.int .i64 x.id,.bool x.I,.bool x.Mf,.int .i64 x.max,.slice none 0 0] 85))):=fg _ _ _ _;have HC:Hid (bT.ep (((w.alloc (.cells #[.int .i64 x.id,.bool x.I,.bool x.Mf,.int .i64 x.max,.slice x.ak x.Ma.length x.aq] 221)).alloc (.cells #[.int .i64 0,.bool false,.bool false,.int .i64 0,.slice none 0 0] 85)).alloc (.cells #[.int .i64 x.id,.bool x.I,.bool x.Mf,.int .i64 x.max,.slice none 0 0] 85)) x.ak x.Ma∧x.Ma.length≤1048576):=⟨hc.below HB.I,hl⟩
 have HX:Hid ((((w.alloc (.cells #[.int .i64 x.id,.bool x.I,.bool x.Mf,.int .i64 x.max,.slice x.ak x.Ma.length x.aq] 221)).alloc (.cells #[.int .i64 0,.bool false,.bool false,.int .i64 0,.slice none 0 0] 85)).alloc (.cells #[.int .i64 x.id,.bool x.I,.bool x.Mf,.int .i64 x.max,.slice none 0 0] 85)).heap[w.heap.size]? =some (.cells #[.int .i64 x.id,.bool x.I,.bool x.Mf,.int .i64 x.max,.slice x.ak x.Ma.length x.aq] 221 (0,0))∧(((w.alloc (.cells #[.int .i64 x.id,.bool x.I,.bool x.Mf,.int .i64 x.max,.slice x.ak x.Ma.length x.aq] 221)).alloc (.cells #[.int .i64 0,.bool false,.bool false,.int .i64 0,.slice none 0 0] 85)).alloc (.cells #[.int .i64 x.id,.bool x.I,.bool x.Mf,.int .i64 x.max,.slice none 0 0] 85)).heap[w.heap.size+1]? =some (.cells #[.int .i64 0,.bool false,.bool false,.int .i64 0,.slice none 0 0] 85 (0,0))∧(((w.alloc (.cells #[.int .i64 x.id,.bool x.I,.bool x.Mf,.int .i64 x.max,.slice x.ak x.Ma.length x.aq] 221)).alloc (.cells #[.int .i64 0,.bool false,.bool false,.int .i64 0,.slice none 0 0] 85)).alloc (.cells #[.int .i64 x.id,.bool x.I,.bool x.Mf,.int .i64 x.max,.slice none 0 0] 85)).heap[w.heap.size+1+1]? =some (.cells #[.int .i64 x.id,.bool x.I,.bool x.Mf,.int .i64 x.max,.slice none 0 0] 85 (0,0))∧(((w.alloc (.cells #[.int .i64 x.id,.bool x.I,.bool x.Mf,.int .i64 x.max,.slice x.ak x.Ma.length x.aq] 221)).alloc (.cells #[.int .i64 0,.bool false,.bool false,.int .i64 0,.slice none 0 0] 85)).alloc (.cells #[.int .i64 x.id,.bool x.I,.bool x.Mf,.int .i64 x.max,.slice none 0 0] 85)).heap.size=w.heap.size+1+1+1):=dR _ _ _ _;clear hl hc
 go_enter Tryz.func139,Tryz.ntmps139
 go_wp2_with fail;generalize ((w.alloc (.cells #[.int .i64 x.id,.bool x.I,.bool x.Mf,.int .i64 x.max,.slice x.ak x.Ma.length x.aq] 221)).alloc (.cells #[.int .i64 0,.bool false,.bool false,.int .i64 0,.slice none 0 0] 85)).alloc (.cells #[.int .i64 x.id,.bool x.I,.bool x.Mf,.int .i64 x.max,.slice none 0 0] 85)=W at *;refine (zV x.ak x.Ma x.aq W HC.I.2 HC.I.1).mono ?_;rintro e w1 ⟨rfl,hown,hb1⟩;have HM:Hid (aU.cO w1 W.heap.size (aU.set x (some ⟨W.heap.size,0,none⟩) x.Ma.length)∧Below w.heap.size w w1):=⟨gd.rJ (N:=aU) hown,HB.I.trans (hb1.mono HB.I.size)⟩
 have y0:w1.heap[w.heap.size]? =some (.cells #[.int .i64 x.id,.bool x.I,.bool x.Mf,.int .i64 x.max,.slice x.ak x.Ma.length x.aq] 221 (0,0)):=(hb1.block _ (by have:=HX.I.2.2.2; omega)).trans HX.I.1;have y1:w1.heap[w.heap.size+1]? =some (.cells #[.int .i64 0,.bool false,.bool false,.int .i64 0,.slice none 0 0] 85 (0,0)):=(hb1.block _ (by have:=HX.I.2.2.2; omega)).trans HX.I.2.1;have y2:w1.heap[w.heap.size+1+1]? =some (.cells #[.int .i64 x.id,.bool x.I,.bool x.Mf,.int .i64 x.max,.slice none 0 0] 85 (0,0)):=(hb1.block _ (by have:=HX.I.2.2.2; omega)).trans HX.I.2.2.1;have t0:w1.cell? ⟨w.heap.size+1+1,0,none⟩=some (.int .i64 x.id):=by simp [World.cell?,y2]
 have u0:w1.frozen? ⟨w.heap.size+1+1,0,none⟩=false:=by simp [World.frozen?,y2]
 have o0:w1.cell? ⟨w.heap.size+1,0,none⟩=some (.int .i64 0):=by simp [World.cell?,y1]
 have p0:w1.frozen? ⟨w.heap.size+1,0,none⟩=false:=by simp [World.frozen?,y1]
 have t1:w1.cell? ⟨w.heap.size+1+1,1,none⟩=some (.bool x.I):=by simp [World.cell?,y2]
 have u1:w1.frozen? ⟨w.heap.size+1+1,1,none⟩=false:=by simp [World.frozen?,y2]
 have o1:w1.cell? ⟨w.heap.size+1,1,none⟩=some (.bool false):=by simp [World.cell?,y1]
 have p1:w1.frozen? ⟨w.heap.size+1,1,none⟩=false:=by simp [World.frozen?,y1]
 have t2:w1.cell? ⟨w.heap.size+1+1,2,none⟩=some (.bool x.Mf):=by simp [World.cell?,y2]
 have u2:w1.frozen? ⟨w.heap.size+1+1,2,none⟩=false:=by simp [World.frozen?,y2]
 have o2:w1.cell? ⟨w.heap.size+1,2,none⟩=some (.bool false):=by simp [World.cell?,y1]
 have p2:w1.frozen? ⟨w.heap.size+1,2,none⟩=false:=by simp [World.frozen?,y1]
 have t3:w1.cell? ⟨w.heap.size+1+1,3,none⟩=some (.int .i64 x.max):=by simp [World.cell?,y2]
 have u3:w1.frozen? ⟨w.heap.size+1+1,3,none⟩=false:=by simp [World.frozen?,y2]
 have o3:w1.cell? ⟨w.heap.size+1,3,none⟩=some (.int .i64 0):=by simp [World.cell?,y1]
 have p3:w1.frozen? ⟨w.heap.size+1,3,none⟩=false:=by simp [World.frozen?,y1]
 have t4:w1.cell? ⟨w.heap.size+1+1,4,none⟩=some (.slice none 0 0):=by simp [World.cell?,y2]
 have u4:w1.frozen? ⟨w.heap.size+1+1,4,none⟩=false:=by simp [World.frozen?,y2]
 have o4:w1.cell? ⟨w.heap.size+1,4,none⟩=some (.slice none 0 0):=by simp [World.cell?,y1]
 have p4:w1.frozen? ⟨w.heap.size+1,4,none⟩=false:=by simp [World.frozen?,y1]
 clear y0 y1 y2 hb1 hown
 dsimp only
 go_wp2;refine KT (v:= .agg #[.int .i64 x.id,.bool x.I,.bool x.Mf,.int .i64 x.max,.slice (some ⟨W.heap.size,0,none⟩) x.Ma.length x.Ma.length]) (by simp [results,Tryz.results139,go_sem, *]) rfl ?_;have hX:=HX.I.2.2.2;have h7:Below w.heap.size w (bn (bn w1 (w.heap.size+1+1) 4 [.slice (some ⟨W.heap.size,0,none⟩) x.Ma.length x.Ma.length]) (w.heap.size+1) 0 [.int .i64 x.id,.bool x.I,.bool x.Mf,.int .i64 x.max,.slice (some ⟨W.heap.size,0,none⟩) x.Ma.length x.Ma.length]):=eU _ (by omega) (eU _ (by omega) HM.I.2);have h8:aU.cO (bn (bn w1 (w.heap.size+1+1) 4 [.slice (some ⟨W.heap.size,0,none⟩) x.Ma.length x.Ma.length]) (w.heap.size+1) 0 [.int .i64 x.id,.bool x.I,.bool x.Mf,.int .i64 x.max,.slice (some ⟨W.heap.size,0,none⟩) x.Ma.length x.Ma.length]) (w.heap.size+1) (aU.set x (some ⟨W.heap.size,0,none⟩) x.Ma.length):=(HM.I.1.low (by omega)).same fun g hg=>by
  have:=(HM.I.1.lt hg).1
  exact (de _ (by omega)).trans (de _ (by omega))
 simp only [bn,Nat.reduceAdd,Li] at h7 h8;exact ⟨_,_,rfl,h8,h7⟩
theorem Hn:(Tryz.prog.info? 85).map (fun i=>(i.zero,i.size,decide (i.bytes≤1000)))=some (some (.agg #[.int .i64 0,.bool false,.bool false,.int .i64 0,.slice none 0 0]),5,true):=by kernel_rfl
theorem F0 (n:Nat) (hn:n≤1048576) (w:World):
  (Instr.makeSlice 46 (.int .i64 (n:Int)) (.int .i64 (n:Int))).run J3 w= .ok (.slice (some ⟨w.heap.size,0,none⟩) n n) (w.alloc (.cells (madeCells #[.int .i64 0,.bool false,.bool false,.int .i64 0,.slice none 0 0] (n * 5)) 85)):=by
 obtain ⟨i,hi,e⟩:=Kw.1 Hn;simp only [Kx,decide_eq_true_eq] at e;obtain ⟨e1,e2,e3⟩:=e;have hby:n * i.bytes≤1048576 * 1000:=Nat.mul_le_mul hn e3
 have:=run_make (P:=J3) w 46 85 i _ Tryz.underlying46 hi e1 .i64 .i64 n n (by omega) (by omega) (by rw [Nat.mul_comm] at hby; first | omega | (rw [Nat.mul_comm]; omega)) (by omega)
 rw [this,e2];simp [Value.cells]
theorem Fh (a:Option Addr) (l:List aM) (cap:Nat) (w:World) (hl:l.length≤1048576) (hk: ∀ x∈l,x.Ma.length≤1048576) (hc:bX.ep w a l):
  Calls J3 89 #[.slice a l.length cap] w fun e w'=>e= .returned (.slice (some ⟨w.heap.size,0,none⟩) l.length l.length)∧ ∃ I,sd aU bX w w' l.length l I:=by
 have hmk:=F0 l.length hl;have HC:Hid (bX.ep w a l):=hc;have HKL:Hid (∀ x∈l,x.Ma.length≤1048576):=hk;clear hk;have HF:Hid (gb bX 85 w (w.alloc (.cells (madeCells #[.int .i64 0,.bool false,.bool false,.int .i64 0,.slice none 0 0] (l.length * 5)) 85)) l.length []):=gb.start (by rw [size_madeCells]; rfl);clear hc
 go_enter Tryz.func89,Tryz.ntmps89
 go_wp2_with fail
 go_loopw [4] (fun i wr=> ∃ k:Nat,k≤l.length∧i= .int .i64 k∧ ∃ I,Hid (iV aU bX w wr l I k)) (fun i _=>l.length - (intOf i).toNat)
 case atStart=>exact ⟨0,Ky _,rfl,[],iV.start HF.I⟩
 case round=>
  clear hmk HF;obtain ⟨k,hk,rfl,I,HR⟩:=hrel;by_cases hlt:k < l.length
  ·have i0:(0:Int)≤(k:Int):=by omega
   have i1:(k:Int) < (l.length:Int):=by omega
   obtain ⟨x,hx⟩: ∃ x,l[k]? =some x:=⟨_,Kz hlt⟩
   obtain ⟨b,off,rfl,hat⟩:=(HC.I.below HR.I.fill.cd).at hx;have c0:wr.cell? ⟨b,off+k * 5,none⟩=some (.int .i64 x.id):=hat 0 _ rfl;have c1:wr.cell? ⟨b,off+k * 5+1,none⟩=some (.bool x.I):=hat 1 _ rfl;have c2:wr.cell? ⟨b,off+k * 5+2,none⟩=some (.bool x.Mf):=hat 2 _ rfl;have c3:wr.cell? ⟨b,off+k * 5+3,none⟩=some (.int .i64 x.max):=hat 3 _ rfl;have c4:wr.cell? ⟨b,off+k * 5+4,none⟩=some (.slice x.ak x.Ma.length x.aq):=hat 4 _ rfl;have HX:Hid (l[k]? =some x):=hx;have HK:Hid (bT.ep wr x.ak x.Ma∧x.Ma.length≤1048576):=⟨⟨((HC.I.below HR.I.fill.cd).bt hx (r:=(x.ak,bT.flat x.Ma)) (by simp [bX])),fun y _ r hr=>by simp [bT] at hr⟩,HKL.I x (KA hx)⟩
   have hfl:=HR.I.fill.lt;clear hx hat;go_wp2_with fail;refine (G8 x wr HK.I.2 HK.I.1).mono ?_;rintro e w1 ⟨a1,DJ,rfl,la,hb1⟩;have pG:Hid (iV aU bX w w1 l I k):=HR.I.below hb1;have fQ:Hid (wr.heap.size≤w1.heap.size):=hb1.size;obtain ⟨⟨u,hu⟩,hf⟩:=pG.I.fill.at;have d0:=hu (k * 5) (by show k * 5 < l.length * 5; omega);have f0:=hf (k * 5);have d1:=hu (k * 5+1) (by show k * 5+1 < l.length * 5; omega);have f1:=hf (k * 5+1);have d2:=hu (k * 5+2) (by show k * 5+2 < l.length * 5; omega);have f2:=hf (k * 5+2);have d3:=hu (k * 5+3) (by show k * 5+3 < l.length * 5; omega);have f3:=hf (k * 5+3);have d4:=hu (k * 5+4) (by show k * 5+4 < l.length * 5; omega);have f4:=hf (k * 5+4);have h5:=pG.I.more hlt HX.I (la.low (by have:=hfl; omega)) (fun g hg=>by have:=(la.lt hg).1; omega) HR.I;rw [show bX.vals (aU.set x a1 DJ)= [.int .i64 x.id,.bool x.I,.bool x.Mf,.int .i64 x.max,.slice a1 x.Ma.length DJ] from rfl,show bX.n=5 from rfl] at h5;simp only [bn,Nat.add_assoc,Nat.reduceAdd] at h5;have HS:Hid (iV aU bX w (((((w1.setCell ⟨w.heap.size,k * 5,none⟩ (.int .i64 x.id)).setCell ⟨w.heap.size,k * 5+1,none⟩ (.bool x.I)).setCell ⟨w.heap.size,k * 5+2,none⟩ (.bool x.Mf)).setCell ⟨w.heap.size,k * 5+3,none⟩ (.int .i64 x.max)).setCell ⟨w.heap.size,k * 5+4,none⟩ (.slice a1 x.Ma.length DJ)) l (I ++ [aU.set x a1 DJ]) (k+1)):=h5;clear h5;unfold cW;clear hu hf hb1 HR pG la c0 c1 c2 c3 c4;go_wp2;go_roundw
   case rel=>exact ⟨k+1,by omega,by go_num,_,HS.I⟩
   case measure=>simp [intOf]; omega
  ·have i1: ¬ (k:Int) < (l.length:Int):=by omega
   have ek:k=l.length:=by omega
   subst ek;go_wp2;go_ret;exact ⟨rfl,I,HR.I.done (by unfold maxLen; omega)⟩
theorem Gl (x y:aM) (w:World) (hp:y.todS=x.todS) (hl:x.Ma.length≤1048576) (hx:Row w x.ak (bT.flat x.Ma)) (hy:Row w y.ak (bT.flat y.Ma)):
  Calls J3 115 #[.agg #[.int .i64 x.id,.bool x.I,.bool x.Mf,.int .i64 x.max,.slice x.ak x.Ma.length x.aq],.agg #[.int .i64 y.id,.bool y.I,.bool y.Mf,.int .i64 y.max,.slice y.ak y.Ma.length y.aq]] w fun e w'=>e= .returned (.bool true)∧Below w.heap.size w w':=by
 obtain ⟨p,xa,xc⟩:=x;obtain ⟨p',ya,yc⟩:=y;simp only at hp;subst hp;obtain ⟨v0,v1,v2,v3,v4⟩:=p';simp only at hl hx hy;have HB:Hid (Below w.heap.size w ((w.alloc (.cells #[.int .i64 v0,.bool v1,.bool v2,.int .i64 v3,.slice xa v4.length xc] 85)).alloc (.cells #[.int .i64 v0,.bool v1,.bool v2,.int .i64 v3,.slice ya v4.length yc] 85))):=dT _ _ _;have HR:Hid (Row ((w.alloc (.cells #[.int .i64 v0,.bool v1,.bool v2,.int .i64 v3,.slice xa v4.length xc] 85)).alloc (.cells #[.int .i64 v0,.bool v1,.bool v2,.int .i64 v3,.slice ya v4.length yc] 85)) xa (bT.flat v4)∧Row ((w.alloc (.cells #[.int .i64 v0,.bool v1,.bool v2,.int .i64 v3,.slice xa v4.length xc] 85)).alloc (.cells #[.int .i64 v0,.bool v1,.bool v2,.int .i64 v3,.slice ya v4.length yc] 85)) ya (bT.flat v4)∧v4.length≤1048576):=⟨hx.below HB.I,hy.below HB.I,hl⟩
 have HX:Hid (((w.alloc (.cells #[.int .i64 v0,.bool v1,.bool v2,.int .i64 v3,.slice xa v4.length xc] 85)).alloc (.cells #[.int .i64 v0,.bool v1,.bool v2,.int .i64 v3,.slice ya v4.length yc] 85)).heap[w.heap.size]? =some (.cells #[.int .i64 v0,.bool v1,.bool v2,.int .i64 v3,.slice xa v4.length xc] 85 (0,0))∧((w.alloc (.cells #[.int .i64 v0,.bool v1,.bool v2,.int .i64 v3,.slice xa v4.length xc] 85)).alloc (.cells #[.int .i64 v0,.bool v1,.bool v2,.int .i64 v3,.slice ya v4.length yc] 85)).heap[w.heap.size+1]? =some (.cells #[.int .i64 v0,.bool v1,.bool v2,.int .i64 v3,.slice ya v4.length yc] 85 (0,0))):=cZ _ _ _;clear hx hy hl
 go_enter Tryz.func115,Tryz.ntmps115
 go_wp2_with fail;generalize (w.alloc (.cells #[.int .i64 v0,.bool v1,.bool v2,.int .i64 v3,.slice xa v4.length xc] 85)).alloc (.cells #[.int .i64 v0,.bool v1,.bool v2,.int .i64 v3,.slice ya v4.length yc] 85)=W at *;refine (Be xa ya v4 xc yc W HR.I.2.2 ⟨HR.I.1,fun _ _ r hr=>by simp [bT] at hr⟩ ⟨HR.I.2.1,fun _ _ r hr=>by simp [bT] at hr⟩).mono ?_;rintro e w1 ⟨rfl,hb1⟩;have fQ:Hid (Below w.heap.size w w1):=HB.I.trans (hb1.mono HB.I.size);have x0:=(hb1.block _ (J2.1 HX.I.1).1).trans HX.I.1;have x1:=(hb1.block _ (J2.1 HX.I.2).1).trans HX.I.2;clear hb1 HX HR x0 x1;go_wp2;go_ret;exact ⟨rfl,fQ.I⟩
def yi (w:World) (a a':Option Addr) (l l':List aM) (x y:aM) (g g' k:Nat) (w':World):Prop:=((w'.cell? ⟨g,k * 5,none⟩=some (.int .i64 x.id)∧w'.cell? ⟨g,k * 5+1,none⟩=some (.bool x.I)∧w'.cell? ⟨g,k * 5+2,none⟩=some (.bool x.Mf)∧w'.cell? ⟨g,k * 5+3,none⟩=some (.int .i64 x.max)∧w'.cell? ⟨g,k * 5+4,none⟩=some (.slice x.ak x.Ma.length x.aq))∧(w'.cell? ⟨g',k * 5,none⟩=some (.int .i64 y.id)∧w'.cell? ⟨g',k * 5+1,none⟩=some (.bool y.I)∧w'.cell? ⟨g',k * 5+2,none⟩=some (.bool y.Mf)∧w'.cell? ⟨g',k * 5+3,none⟩=some (.int .i64 y.max)∧w'.cell? ⟨g',k * 5+4,none⟩=some (.slice y.ak y.Ma.length y.aq)))∧Hid (bX.bU w' a l∧bX.bU w' a' l'∧Below w.heap.size w w')
theorem qs {w w':World} {a a':Option Addr} {l l':List aM} {x y:aM} {g g' k:Nat} (ha:a=some ⟨g,0,none⟩) (ha':a'=some ⟨g',0,none⟩) (hx:l[k]? =some x) (hy:l'[k]? =some y) (h:bX.bU w' a l∧bX.bU w' a' l'∧Below w.heap.size w w'):yi w a a' l l' x y g g' k w':=by
 obtain ⟨g1,e1,h1⟩:=h.1.at hx;obtain ⟨g2,e2,h2⟩:=h.2.1.at hy;rw [ha] at e1;rw [ha'] at e2;cases e1;cases e2;exact ⟨⟨⟨h1 0 _ rfl,h1 1 _ rfl,h1 2 _ rfl,h1 3 _ rfl,h1 4 _ rfl⟩,⟨h2 0 _ rfl,h2 1 _ rfl,h2 2 _ rfl,h2 3 _ rfl,h2 4 _ rfl⟩⟩,h⟩
theorem Ef (a a':Option Addr) (l l':List aM) (cap cap':Nat) (w:World) (hl:l.length≤1048576) (hk: ∀ x∈l,x.Ma.length≤1048576) (hp:l'.map (·.todS)=l.map (·.todS)) (h:bX.bU w a l) (h':bX.bU w a' l'):
  Calls J3 53 #[.slice a l.length cap,.slice a' l.length cap'] w fun e w'=>e= .returned (.bool true)∧Below w.heap.size w w':=by
 have HL:Hid (bX.bU w a l∧bX.bU w a' l'∧(∀ x∈l,x.Ma.length≤1048576)∧l'.map (·.todS)=l.map (·.todS)):=⟨h,h',hk,hp⟩
 clear h h' hk hp
 go_enter Tryz.func53,Tryz.ntmps53
 go_wp2_with fail
 go_loopw [5] (fun i wr=> ∃ k:Nat,k≤l.length∧i= .int .i64 k∧Hid (Below w.heap.size w wr)) (fun i _=>l.length - (intOf i).toNat)
 case atStart=>exact ⟨0,Ky _,rfl,Kp _ _⟩
 case round=>
  obtain ⟨k,hk,rfl,HB⟩:=hrel;by_cases hlt:k < l.length
  ·have i0:(0:Int)≤(k:Int):=by omega
   have i1:(k:Int) < (l.length:Int):=by omega
   obtain ⟨x,hx⟩: ∃ x,l[k]? =some x:=⟨_,Kz hlt⟩
   obtain ⟨g,ha,-⟩:=HL.I.1.at hx;obtain ⟨y,hy,hpy⟩:=uH HL.I.2.2.2 hx;obtain ⟨g',ha',-⟩:=HL.I.2.1.at hy;have HX:Hid (a=some ⟨g,0,none⟩∧a'=some ⟨g',0,none⟩∧l[k]? =some x∧l'[k]? =some y∧y.todS=x.todS∧x.Ma.length≤1048576):=⟨ha,ha',hx,hy,hpy,HL.I.2.2.1 x (KA hx)⟩
   have HS:Hid (yi w a a' l l' x y g g' k wr):=qs ha ha' hx hy ⟨HL.I.1.below HB.I,HL.I.2.1.below HB.I,HB.I⟩;clear hx hy hpy;rw [ha,ha'];clear ha ha';go_wp2_with fail;refine aT (yi w a a' l l' x y g g' k) (by kernel_rfl) (qs HX.I.1 HX.I.2.1 HX.I.2.2.1 HX.I.2.2.2.1 ⟨HS.I.2.I.1.below (Kp _ _).drew,HS.I.2.I.2.1.below (Kp _ _).drew,HS.I.2.I.2.2.drew⟩) ?_
   iterate 8 (refine PI ?_ (hy:=fun w0 hS0=>by obtain ⟨⟨⟨q0,q1,q2,q3,q4⟩,⟨r0,r1,r2,r3,r4⟩⟩,hH⟩:=hS0; go_simp; try with_reducible rfl))
   refine cl (.bool true) 115 #[.agg #[.int .i64 x.id,.bool x.I,.bool x.Mf,.int .i64 x.max,.slice x.ak x.Ma.length x.aq],.agg #[.int .i64 y.id,.bool y.I,.bool y.Mf,.int .i64 y.max,.slice y.ak y.Ma.length y.aq]] ?_ ?_ ?_
   ·intro w0 hS0
    obtain ⟨⟨⟨q0,q1,q2,q3,q4⟩,⟨r0,r1,r2,r3,r4⟩⟩,hH⟩:=hS0
    go_simp
    try with_reducible rfl
   ·intro w0 hS0
    refine (Gl x y w0 HX.I.2.2.2.2.1 HX.I.2.2.2.2.2 (hS0.2.I.1.bt HX.I.2.2.1 (r:=(x.ak,bT.flat x.Ma)) (by simp [bX])) (hS0.2.I.2.1.bt HX.I.2.2.2.1 (r:=(y.ak,bT.flat y.Ma)) (by simp [bX]))).mono ?_;rintro e w2 ⟨rfl,hb2⟩;exact ⟨rfl,qs HX.I.1 HX.I.2.1 HX.I.2.2.1 HX.I.2.2.2.1 ⟨hS0.2.I.1.below hb2,hS0.2.I.2.1.below hb2,hS0.2.I.2.2.trans (hb2.mono hS0.2.I.2.2.size)⟩⟩
   simp only [pt,sb,s0,s1]
   (refine PI ?_ (hy:=fun w0 hS0=>by obtain ⟨⟨⟨q0,q1,q2,q3,q4⟩,⟨r0,r1,r2,r3,r4⟩⟩,hH⟩:=hS0; go_simp; try with_reducible rfl))
   refine bk (by kernel_rfl) ?_ _;intro w1 cm;have HZ:Hid (Below w.heap.size w w1):=cm.2.I.2.2;clear cm;go_wp2;go_roundw
   case rel=>exact ⟨k+1,by omega,by go_num,HZ.I⟩
   case measure=>simp [intOf]; omega
  ·have i1: ¬ (k:Int) < (l.length:Int):=by omega
   go_wp2;go_ret;exact ⟨rfl,HB.I⟩
end Go.Proofs.YteidkehoekbcaaaGreat

namespace Go.Proofs.YteidkehoekbcaaaGreat
open Go.RowKit
attribute [local go_sem ↓] Kc Kd
theorem Cx (x:au) (left:Int) (w:World) (hb:(x.Ma.length≤maxLen∧ ∀ s∈x.Ma,s.size≤maxLen)) (hc:bT.ep w x.ak x.Ma) (h0:0≤left) (h1:left≤1048576):
  Calls J3 132 #[.agg #[.int .i64 x.id,.int .i64 x.max,.slice x.ak x.Ma.length x.aq],.int .i64 left] w fun e w'=>jZ w left (x.Ma.length) ((x.Ma.length≤1048576∧ ∀ s∈x.Ma,s.size≤1048576)) e w':=by
 have HB:Hid ((x.Ma.length≤maxLen∧ ∀ s∈x.Ma,s.size≤maxLen)):=hb;have HC:Hid (bT.ep (w.alloc (.cells #[.int .i64 x.id,.int .i64 x.max,.slice x.ak x.Ma.length x.aq] 219)) x.ak x.Ma):=hc.below ((Kp _ _).alloc (Ki _) _);clear hc;have HW:Hid (Below w.heap.size w (w.alloc (.cells #[.int .i64 x.id,.int .i64 x.max,.slice x.ak x.Ma.length x.aq] 219))):=(Kp _ _).alloc (Ki _) _;clear hb
 go_enter Tryz.func132,Tryz.ntmps132
 have HX:Hid ((w.alloc (.cells #[.int .i64 x.id,.int .i64 x.max,.slice x.ak x.Ma.length x.aq] 219)).heap[w.heap.size]? =some (.cells #[.int .i64 x.id,.int .i64 x.max,.slice x.ak x.Ma.length x.aq] 219 (0,0))):=Kj _ _;go_wp2_with fail;generalize w.alloc (.cells #[.int .i64 x.id,.int .i64 x.max,.slice x.ak x.Ma.length x.aq] 219)=W at *;refine (AX x.ak x.Ma x.aq left W HB.I.1 HC.I HB.I.2 h0 h1).mono ?_;rintro e w1 ⟨r1,rfl,q0,q1,q2,hb1⟩;have fQ:Hid (Below w.heap.size w w1):=HW.I.trans (hb1.mono HW.I.size);have xi:Hid (w1.heap[w.heap.size]? =some (.cells #[.int .i64 x.id,.int .i64 x.max,.slice x.ak x.Ma.length x.aq] 219 (0,0))):=(hb1.block _ (J2.1 HX.I).1).trans HX.I;have HQ:Hid (0≤r1→(x.Ma.length≤1048576∧ ∀ s∈x.Ma,s.size≤1048576)∧r1+(x.Ma.length:Nat)≤left):=q2;clear hb1 HX q2;by_cases hn:r1 < 0
 ·go_wp2
  go_ret;exact cT fQ.I h0
 go_wp2;go_ret;exact ⟨r1,rfl,by omega,by omega,fun _=>HQ.I (by omega),fQ.I⟩
theorem Ca (a:Option Addr) (l:List au) (cap:Nat) (left:Int) (w:World) (hl:l.length≤maxLen) (hc:bm.ep w a l) (hs: ∀ x∈l,(x.Ma.length≤maxLen∧ ∀ s∈x.Ma,s.size≤maxLen)) (h0:0≤left) (h1:left≤1048576):
  Calls J3 82 #[.slice a l.length cap,.int .i64 left] w fun e w'=>jZ w left (l.length+g9 (fun x:au=>x.Ma.length) l) (l.length≤1048576∧ ∀ x∈l,(x.Ma.length≤1048576∧ ∀ s∈x.Ma,s.size≤1048576)) e w':=by
 have hl':=hl;unfold maxLen at hl';by_cases hn:left - (l.length:Int) < 0
 ·go_enter Tryz.func82,Tryz.ntmps82
  go_wp2;go_ret;exact cT (Kp _ _) h0
 have HC:Hid (bm.ep w a l∧ ∀ x∈l,(x.Ma.length≤maxLen∧ ∀ s∈x.Ma,s.size≤maxLen)):=⟨hc,hs⟩
 clear hc hs hl
 go_enter Tryz.func82,Tryz.ntmps82
 go_wp2_with fail
 go_loopw [1,5] (fun q i wr=> ∃ (k:Nat) (r:Int),k≤l.length∧i= .int .i64 k∧q= .int .i64 r∧0≤r∧r≤left - (l.length:Int)∧Hid ((∀ x∈l.take k,(x.Ma.length≤1048576∧ ∀ s∈x.Ma,s.size≤1048576))∧r+(g9 (fun x:au=>x.Ma.length) (l.take k):Nat)≤left - (l.length:Int)∧Below w.heap.size w wr)) (fun _ i _=>l.length - (intOf i).toNat)
 case atStart=>exact ⟨0,left - (l.length:Int),Ky _,rfl,rfl,by omega,by omega,⟨by simp,by simp [g9],Kp _ _⟩⟩
 case round=>
  obtain ⟨k,r,hk,rfl,rfl,r0,r1,HA⟩:=hrel;by_cases hlt:k < l.length
  ·have i0:(0:Int)≤(k:Int):=by omega
   have i1:(k:Int) < (l.length:Int):=by omega
   obtain ⟨x,hx⟩: ∃ x,l[k]? =some x:=⟨_,Kz hlt⟩
   have hmem:=KA hx;obtain ⟨b,off,rfl,hat⟩:=(HC.I.1.below HA.I.2.2).at hx;have c0:wr.cell? ⟨b,off+k * 3,none⟩=some (.int .i64 x.id):=hat 0 _ rfl;have c1:wr.cell? ⟨b,off+k * 3+1,none⟩=some (.int .i64 x.max):=hat 1 _ rfl;have c2:wr.cell? ⟨b,off+k * 3+2,none⟩=some (.slice x.ak x.Ma.length x.aq):=hat 2 _ rfl;have HX:Hid (l[k]? =some x∧(x.Ma.length≤maxLen∧ ∀ s∈x.Ma,s.size≤maxLen)):=⟨hx,HC.I.2 x hmem⟩
   have HK:Hid (bT.ep wr x.ak x.Ma):=⟨((HC.I.1.below HA.I.2.2).bt hx (r:=(x.ak,bT.flat x.Ma)) (by simp [bm])),fun y _ r hr=>by simp [bT] at hr⟩
   clear hx hmem hat;go_wp2_with fail;refine (Cx x r wr HX.I.2 HK.I r0 (by omega)).mono ?_;rintro e w1 ⟨r2,rfl,q0,q1,q2,hb1⟩;have fQ:Hid (Below w.heap.size w w1∧(0≤r2→(x.Ma.length≤1048576∧ ∀ s∈x.Ma,s.size≤1048576)∧r2+(x.Ma.length:Nat)≤r)):=⟨HA.I.2.2.trans (hb1.mono HA.I.2.2.size),q2⟩
   clear hb1 q2 c0 c1 c2;by_cases hneg:r2 < 0
   ·go_wp2
    go_ret;exact cT fQ.I.1 h0
   go_wp2;go_roundw
   case rel=>exact ⟨k+1,r2,by omega,by go_num,rfl,by omega,by omega,⟨nE HX.I.1 HA.I.1 (fQ.I.2 (by omega)).1,by rw [zg HX.I.1]; have h5:=(fQ.I.2 (by omega)).2; have h6:=HA.I.2.1; omega,fQ.I.1⟩⟩
   case measure=>simp [intOf]; omega
  ·have i1: ¬ (k:Int) < (l.length:Int):=by omega
   go_wp2;go_ret;exact ⟨r,rfl,by omega,by omega,fun _=>⟨⟨by omega,po (by omega) HA.I.1⟩,by have h5:=HA.I.2.1; rw [KF (by omega)] at h5; omega⟩,HA.I.2.2⟩
theorem Cq (x:au) (w:World) (hl:x.Ma.length≤1048576) (hc:bT.ep w x.ak x.Ma):
  Calls J3 138 #[.agg #[.int .i64 x.id,.int .i64 x.max,.slice x.ak x.Ma.length x.aq]] w fun e w'=> ∃ a c,e= .returned (.agg (bQ (aC.set x a c)))∧aC.cO w' (w.heap.size+1) (aC.set x a c)∧Below w.heap.size w w':=by
 have HB:Hid (Below w.heap.size w (((w.alloc (.cells #[.int .i64 x.id,.int .i64 x.max,.slice x.ak x.Ma.length x.aq] 219)).alloc (.cells #[.int .i64 0,.int .i64 0,.slice none 0 0] 160)).alloc (.cells #[.int .i64 x.id,.int .i64 x.max,.slice none 0 0] 160))):=fg _ _ _ _;have HC:Hid (bT.ep (((w.alloc (.cells #[.int .i64 x.id,.int .i64 x.max,.slice x.ak x.Ma.length x.aq] 219)).alloc (.cells #[.int .i64 0,.int .i64 0,.slice none 0 0] 160)).alloc (.cells #[.int .i64 x.id,.int .i64 x.max,.slice none 0 0] 160)) x.ak x.Ma∧x.Ma.length≤1048576):=⟨hc.below HB.I,hl⟩
 have HX:Hid ((((w.alloc (.cells #[.int .i64 x.id,.int .i64 x.max,.slice x.ak x.Ma.length x.aq] 219)).alloc (.cells #[.int .i64 0,.int .i64 0,.slice none 0 0] 160)).alloc (.cells #[.int .i64 x.id,.int .i64 x.max,.slice none 0 0] 160)).heap[w.heap.size]? =some (.cells #[.int .i64 x.id,.int .i64 x.max,.slice x.ak x.Ma.length x.aq] 219 (0,0))∧(((w.alloc (.cells #[.int .i64 x.id,.int .i64 x.max,.slice x.ak x.Ma.length x.aq] 219)).alloc (.cells #[.int .i64 0,.int .i64 0,.slice none 0 0] 160)).alloc (.cells #[.int .i64 x.id,.int .i64 x.max,.slice none 0 0] 160)).heap[w.heap.size+1]? =some (.cells #[.int .i64 0,.int .i64 0,.slice none 0 0] 160 (0,0))∧(((w.alloc (.cells #[.int .i64 x.id,.int .i64 x.max,.slice x.ak x.Ma.length x.aq] 219)).alloc (.cells #[.int .i64 0,.int .i64 0,.slice none 0 0] 160)).alloc (.cells #[.int .i64 x.id,.int .i64 x.max,.slice none 0 0] 160)).heap[w.heap.size+1+1]? =some (.cells #[.int .i64 x.id,.int .i64 x.max,.slice none 0 0] 160 (0,0))∧(((w.alloc (.cells #[.int .i64 x.id,.int .i64 x.max,.slice x.ak x.Ma.length x.aq] 219)).alloc (.cells #[.int .i64 0,.int .i64 0,.slice none 0 0] 160)).alloc (.cells #[.int .i64 x.id,.int .i64 x.max,.slice none 0 0] 160)).heap.size=w.heap.size+1+1+1):=dR _ _ _ _;clear hl hc
 go_enter Tryz.func138,Tryz.ntmps138
 go_wp2_with fail;generalize ((w.alloc (.cells #[.int .i64 x.id,.int .i64 x.max,.slice x.ak x.Ma.length x.aq] 219)).alloc (.cells #[.int .i64 0,.int .i64 0,.slice none 0 0] 160)).alloc (.cells #[.int .i64 x.id,.int .i64 x.max,.slice none 0 0] 160)=W at *;refine (zV x.ak x.Ma x.aq W HC.I.2 HC.I.1).mono ?_;rintro e w1 ⟨rfl,hown,hb1⟩;have HM:Hid (aC.cO w1 W.heap.size (aC.set x (some ⟨W.heap.size,0,none⟩) x.Ma.length)∧Below w.heap.size w w1):=⟨gd.rJ (N:=aC) hown,HB.I.trans (hb1.mono HB.I.size)⟩
 have y0:w1.heap[w.heap.size]? =some (.cells #[.int .i64 x.id,.int .i64 x.max,.slice x.ak x.Ma.length x.aq] 219 (0,0)):=(hb1.block _ (by have:=HX.I.2.2.2; omega)).trans HX.I.1;have y1:w1.heap[w.heap.size+1]? =some (.cells #[.int .i64 0,.int .i64 0,.slice none 0 0] 160 (0,0)):=(hb1.block _ (by have:=HX.I.2.2.2; omega)).trans HX.I.2.1;have y2:w1.heap[w.heap.size+1+1]? =some (.cells #[.int .i64 x.id,.int .i64 x.max,.slice none 0 0] 160 (0,0)):=(hb1.block _ (by have:=HX.I.2.2.2; omega)).trans HX.I.2.2.1;have t0:w1.cell? ⟨w.heap.size+1+1,0,none⟩=some (.int .i64 x.id):=by simp [World.cell?,y2]
 have u0:w1.frozen? ⟨w.heap.size+1+1,0,none⟩=false:=by simp [World.frozen?,y2]
 have o0:w1.cell? ⟨w.heap.size+1,0,none⟩=some (.int .i64 0):=by simp [World.cell?,y1]
 have p0:w1.frozen? ⟨w.heap.size+1,0,none⟩=false:=by simp [World.frozen?,y1]
 have t1:w1.cell? ⟨w.heap.size+1+1,1,none⟩=some (.int .i64 x.max):=by simp [World.cell?,y2]
 have u1:w1.frozen? ⟨w.heap.size+1+1,1,none⟩=false:=by simp [World.frozen?,y2]
 have o1:w1.cell? ⟨w.heap.size+1,1,none⟩=some (.int .i64 0):=by simp [World.cell?,y1]
 have p1:w1.frozen? ⟨w.heap.size+1,1,none⟩=false:=by simp [World.frozen?,y1]
 have t2:w1.cell? ⟨w.heap.size+1+1,2,none⟩=some (.slice none 0 0):=by simp [World.cell?,y2]
 have u2:w1.frozen? ⟨w.heap.size+1+1,2,none⟩=false:=by simp [World.frozen?,y2]
 have o2:w1.cell? ⟨w.heap.size+1,2,none⟩=some (.slice none 0 0):=by simp [World.cell?,y1]
 have p2:w1.frozen? ⟨w.heap.size+1,2,none⟩=false:=by simp [World.frozen?,y1]
 clear y0 y1 y2 hb1 hown
 dsimp only
 go_wp2;refine KT (v:= .agg #[.int .i64 x.id,.int .i64 x.max,.slice (some ⟨W.heap.size,0,none⟩) x.Ma.length x.Ma.length]) (by simp [results,Tryz.results138,go_sem, *]) rfl ?_;have hX:=HX.I.2.2.2;have h7:Below w.heap.size w (bn (bn w1 (w.heap.size+1+1) 2 [.slice (some ⟨W.heap.size,0,none⟩) x.Ma.length x.Ma.length]) (w.heap.size+1) 0 [.int .i64 x.id,.int .i64 x.max,.slice (some ⟨W.heap.size,0,none⟩) x.Ma.length x.Ma.length]):=eU _ (by omega) (eU _ (by omega) HM.I.2);have h8:aC.cO (bn (bn w1 (w.heap.size+1+1) 2 [.slice (some ⟨W.heap.size,0,none⟩) x.Ma.length x.Ma.length]) (w.heap.size+1) 0 [.int .i64 x.id,.int .i64 x.max,.slice (some ⟨W.heap.size,0,none⟩) x.Ma.length x.Ma.length]) (w.heap.size+1) (aC.set x (some ⟨W.heap.size,0,none⟩) x.Ma.length):=(HM.I.1.low (by omega)).same fun g hg=>by
  have:=(HM.I.1.lt hg).1
  exact (de _ (by omega)).trans (de _ (by omega))
 simp only [bn,Nat.reduceAdd,Li] at h7 h8;exact ⟨_,_,rfl,h8,h7⟩
theorem CG:(Tryz.prog.info? 160).map (fun i=>(i.zero,i.size,decide (i.bytes≤1000)))=some (some (.agg #[.int .i64 0,.int .i64 0,.slice none 0 0]),3,true):=by kernel_rfl
theorem De (n:Nat) (hn:n≤1048576) (w:World):
  (Instr.makeSlice 45 (.int .i64 (n:Int)) (.int .i64 (n:Int))).run J3 w= .ok (.slice (some ⟨w.heap.size,0,none⟩) n n) (w.alloc (.cells (madeCells #[.int .i64 0,.int .i64 0,.slice none 0 0] (n * 3)) 160)):=by
 obtain ⟨i,hi,e⟩:=Kw.1 CG;simp only [Kx,decide_eq_true_eq] at e;obtain ⟨e1,e2,e3⟩:=e;have hby:n * i.bytes≤1048576 * 1000:=Nat.mul_le_mul hn e3
 have:=run_make (P:=J3) w 45 160 i _ Tryz.underlying45 hi e1 .i64 .i64 n n (by omega) (by omega) (by rw [Nat.mul_comm] at hby; first | omega | (rw [Nat.mul_comm]; omega)) (by omega)
 rw [this,e2];simp [Value.cells]
theorem Br (a:Option Addr) (l:List au) (cap:Nat) (w:World) (hl:l.length≤1048576) (hk: ∀ x∈l,x.Ma.length≤1048576) (hc:bm.ep w a l):
  Calls J3 88 #[.slice a l.length cap] w fun e w'=>e= .returned (.slice (some ⟨w.heap.size,0,none⟩) l.length l.length)∧ ∃ I,sd aC bm w w' l.length l I:=by
 have hmk:=De l.length hl;have HC:Hid (bm.ep w a l):=hc;have HKL:Hid (∀ x∈l,x.Ma.length≤1048576):=hk;clear hk;have HF:Hid (gb bm 160 w (w.alloc (.cells (madeCells #[.int .i64 0,.int .i64 0,.slice none 0 0] (l.length * 3)) 160)) l.length []):=gb.start (by rw [size_madeCells]; rfl);clear hc
 go_enter Tryz.func88,Tryz.ntmps88
 go_wp2_with fail
 go_loopw [4] (fun i wr=> ∃ k:Nat,k≤l.length∧i= .int .i64 k∧ ∃ I,Hid (iV aC bm w wr l I k)) (fun i _=>l.length - (intOf i).toNat)
 case atStart=>exact ⟨0,Ky _,rfl,[],iV.start HF.I⟩
 case round=>
  clear hmk HF;obtain ⟨k,hk,rfl,I,HR⟩:=hrel;by_cases hlt:k < l.length
  ·have i0:(0:Int)≤(k:Int):=by omega
   have i1:(k:Int) < (l.length:Int):=by omega
   obtain ⟨x,hx⟩: ∃ x,l[k]? =some x:=⟨_,Kz hlt⟩
   obtain ⟨b,off,rfl,hat⟩:=(HC.I.below HR.I.fill.cd).at hx;have c0:wr.cell? ⟨b,off+k * 3,none⟩=some (.int .i64 x.id):=hat 0 _ rfl;have c1:wr.cell? ⟨b,off+k * 3+1,none⟩=some (.int .i64 x.max):=hat 1 _ rfl;have c2:wr.cell? ⟨b,off+k * 3+2,none⟩=some (.slice x.ak x.Ma.length x.aq):=hat 2 _ rfl;have HX:Hid (l[k]? =some x):=hx;have HK:Hid (bT.ep wr x.ak x.Ma∧x.Ma.length≤1048576):=⟨⟨((HC.I.below HR.I.fill.cd).bt hx (r:=(x.ak,bT.flat x.Ma)) (by simp [bm])),fun y _ r hr=>by simp [bT] at hr⟩,HKL.I x (KA hx)⟩
   have hfl:=HR.I.fill.lt;clear hx hat;go_wp2_with fail;refine (Cq x wr HK.I.2 HK.I.1).mono ?_;rintro e w1 ⟨a1,DJ,rfl,la,hb1⟩;have pG:Hid (iV aC bm w w1 l I k):=HR.I.below hb1;have fQ:Hid (wr.heap.size≤w1.heap.size):=hb1.size;obtain ⟨⟨u,hu⟩,hf⟩:=pG.I.fill.at;have d0:=hu (k * 3) (by show k * 3 < l.length * 3; omega);have f0:=hf (k * 3);have d1:=hu (k * 3+1) (by show k * 3+1 < l.length * 3; omega);have f1:=hf (k * 3+1);have d2:=hu (k * 3+2) (by show k * 3+2 < l.length * 3; omega);have f2:=hf (k * 3+2);have h5:=pG.I.more hlt HX.I (la.low (by have:=hfl; omega)) (fun g hg=>by have:=(la.lt hg).1; omega) HR.I;rw [show bm.vals (aC.set x a1 DJ)= [.int .i64 x.id,.int .i64 x.max,.slice a1 x.Ma.length DJ] from rfl,show bm.n=3 from rfl] at h5;simp only [bn,Nat.add_assoc,Nat.reduceAdd] at h5;have HS:Hid (iV aC bm w (((w1.setCell ⟨w.heap.size,k * 3,none⟩ (.int .i64 x.id)).setCell ⟨w.heap.size,k * 3+1,none⟩ (.int .i64 x.max)).setCell ⟨w.heap.size,k * 3+2,none⟩ (.slice a1 x.Ma.length DJ)) l (I ++ [aC.set x a1 DJ]) (k+1)):=h5;clear h5;unfold bQ;clear hu hf hb1 HR pG la c0 c1 c2;go_wp2;go_roundw
   case rel=>exact ⟨k+1,by omega,by go_num,_,HS.I⟩
   case measure=>simp [intOf]; omega
  ·have i1: ¬ (k:Int) < (l.length:Int):=by omega
   have ek:k=l.length:=by omega
   subst ek;go_wp2;go_ret;exact ⟨rfl,I,HR.I.done (by unfold maxLen; omega)⟩
theorem Ds (x y:au) (w:World) (hp:y.toci=x.toci) (hl:x.Ma.length≤1048576) (hx:Row w x.ak (bT.flat x.Ma)) (hy:Row w y.ak (bT.flat y.Ma)):
  Calls J3 114 #[.agg #[.int .i64 x.id,.int .i64 x.max,.slice x.ak x.Ma.length x.aq],.agg #[.int .i64 y.id,.int .i64 y.max,.slice y.ak y.Ma.length y.aq]] w fun e w'=>e= .returned (.bool true)∧Below w.heap.size w w':=by
 obtain ⟨p,xa,xc⟩:=x;obtain ⟨p',ya,yc⟩:=y;simp only at hp;subst hp;obtain ⟨v0,v1,v2⟩:=p';simp only at hl hx hy;have HB:Hid (Below w.heap.size w ((w.alloc (.cells #[.int .i64 v0,.int .i64 v1,.slice xa v2.length xc] 160)).alloc (.cells #[.int .i64 v0,.int .i64 v1,.slice ya v2.length yc] 160))):=dT _ _ _;have HR:Hid (Row ((w.alloc (.cells #[.int .i64 v0,.int .i64 v1,.slice xa v2.length xc] 160)).alloc (.cells #[.int .i64 v0,.int .i64 v1,.slice ya v2.length yc] 160)) xa (bT.flat v2)∧Row ((w.alloc (.cells #[.int .i64 v0,.int .i64 v1,.slice xa v2.length xc] 160)).alloc (.cells #[.int .i64 v0,.int .i64 v1,.slice ya v2.length yc] 160)) ya (bT.flat v2)∧v2.length≤1048576):=⟨hx.below HB.I,hy.below HB.I,hl⟩
 have HX:Hid (((w.alloc (.cells #[.int .i64 v0,.int .i64 v1,.slice xa v2.length xc] 160)).alloc (.cells #[.int .i64 v0,.int .i64 v1,.slice ya v2.length yc] 160)).heap[w.heap.size]? =some (.cells #[.int .i64 v0,.int .i64 v1,.slice xa v2.length xc] 160 (0,0))∧((w.alloc (.cells #[.int .i64 v0,.int .i64 v1,.slice xa v2.length xc] 160)).alloc (.cells #[.int .i64 v0,.int .i64 v1,.slice ya v2.length yc] 160)).heap[w.heap.size+1]? =some (.cells #[.int .i64 v0,.int .i64 v1,.slice ya v2.length yc] 160 (0,0))):=cZ _ _ _;clear hx hy hl
 go_enter Tryz.func114,Tryz.ntmps114
 go_wp2_with fail;generalize (w.alloc (.cells #[.int .i64 v0,.int .i64 v1,.slice xa v2.length xc] 160)).alloc (.cells #[.int .i64 v0,.int .i64 v1,.slice ya v2.length yc] 160)=W at *;refine (Be xa ya v2 xc yc W HR.I.2.2 ⟨HR.I.1,fun _ _ r hr=>by simp [bT] at hr⟩ ⟨HR.I.2.1,fun _ _ r hr=>by simp [bT] at hr⟩).mono ?_;rintro e w1 ⟨rfl,hb1⟩;have fQ:Hid (Below w.heap.size w w1):=HB.I.trans (hb1.mono HB.I.size);have x0:=(hb1.block _ (J2.1 HX.I.1).1).trans HX.I.1;have x1:=(hb1.block _ (J2.1 HX.I.2).1).trans HX.I.2;clear hb1 HX HR x0 x1;go_wp2;go_ret;exact ⟨rfl,fQ.I⟩
def rR (w:World) (a a':Option Addr) (l l':List au) (x y:au) (g g' k:Nat) (w':World):Prop:=((w'.cell? ⟨g,k * 3,none⟩=some (.int .i64 x.id)∧w'.cell? ⟨g,k * 3+1,none⟩=some (.int .i64 x.max)∧w'.cell? ⟨g,k * 3+2,none⟩=some (.slice x.ak x.Ma.length x.aq))∧(w'.cell? ⟨g',k * 3,none⟩=some (.int .i64 y.id)∧w'.cell? ⟨g',k * 3+1,none⟩=some (.int .i64 y.max)∧w'.cell? ⟨g',k * 3+2,none⟩=some (.slice y.ak y.Ma.length y.aq)))∧Hid (bm.bU w' a l∧bm.bU w' a' l'∧Below w.heap.size w w')
theorem nS {w w':World} {a a':Option Addr} {l l':List au} {x y:au} {g g' k:Nat} (ha:a=some ⟨g,0,none⟩) (ha':a'=some ⟨g',0,none⟩) (hx:l[k]? =some x) (hy:l'[k]? =some y) (h:bm.bU w' a l∧bm.bU w' a' l'∧Below w.heap.size w w'):rR w a a' l l' x y g g' k w':=by
 obtain ⟨g1,e1,h1⟩:=h.1.at hx;obtain ⟨g2,e2,h2⟩:=h.2.1.at hy;rw [ha] at e1;rw [ha'] at e2;cases e1;cases e2;exact ⟨⟨⟨h1 0 _ rfl,h1 1 _ rfl,h1 2 _ rfl⟩,⟨h2 0 _ rfl,h2 1 _ rfl,h2 2 _ rfl⟩⟩,h⟩
theorem AK (a a':Option Addr) (l l':List au) (cap cap':Nat) (w:World) (hl:l.length≤1048576) (hk: ∀ x∈l,x.Ma.length≤1048576) (hp:l'.map (·.toci)=l.map (·.toci)) (h:bm.bU w a l) (h':bm.bU w a' l'):
  Calls J3 52 #[.slice a l.length cap,.slice a' l.length cap'] w fun e w'=>e= .returned (.bool true)∧Below w.heap.size w w':=by
 have HL:Hid (bm.bU w a l∧bm.bU w a' l'∧(∀ x∈l,x.Ma.length≤1048576)∧l'.map (·.toci)=l.map (·.toci)):=⟨h,h',hk,hp⟩
 clear h h' hk hp
 go_enter Tryz.func52,Tryz.ntmps52
 go_wp2_with fail
 go_loopw [5] (fun i wr=> ∃ k:Nat,k≤l.length∧i= .int .i64 k∧Hid (Below w.heap.size w wr)) (fun i _=>l.length - (intOf i).toNat)
 case atStart=>exact ⟨0,Ky _,rfl,Kp _ _⟩
 case round=>
  obtain ⟨k,hk,rfl,HB⟩:=hrel;by_cases hlt:k < l.length
  ·have i0:(0:Int)≤(k:Int):=by omega
   have i1:(k:Int) < (l.length:Int):=by omega
   obtain ⟨x,hx⟩: ∃ x,l[k]? =some x:=⟨_,Kz hlt⟩
   obtain ⟨g,ha,-⟩:=HL.I.1.at hx;obtain ⟨y,hy,hpy⟩:=uH HL.I.2.2.2 hx;obtain ⟨g',ha',-⟩:=HL.I.2.1.at hy;have HX:Hid (a=some ⟨g,0,none⟩∧a'=some ⟨g',0,none⟩∧l[k]? =some x∧l'[k]? =some y∧y.toci=x.toci∧x.Ma.length≤1048576):=⟨ha,ha',hx,hy,hpy,HL.I.2.2.1 x (KA hx)⟩
   have HS:Hid (rR w a a' l l' x y g g' k wr):=nS ha ha' hx hy ⟨HL.I.1.below HB.I,HL.I.2.1.below HB.I,HB.I⟩;clear hx hy hpy;rw [ha,ha'];clear ha ha';go_wp2_with fail;refine aT (rR w a a' l l' x y g g' k) (by kernel_rfl) (nS HX.I.1 HX.I.2.1 HX.I.2.2.1 HX.I.2.2.2.1 ⟨HS.I.2.I.1.below (Kp _ _).drew,HS.I.2.I.2.1.below (Kp _ _).drew,HS.I.2.I.2.2.drew⟩) ?_
   iterate 8 (refine PI ?_ (hy:=fun w0 hS0=>by obtain ⟨⟨⟨q0,q1,q2⟩,⟨r0,r1,r2⟩⟩,hH⟩:=hS0; go_simp; try with_reducible rfl))
   refine cl (.bool true) 114 #[.agg #[.int .i64 x.id,.int .i64 x.max,.slice x.ak x.Ma.length x.aq],.agg #[.int .i64 y.id,.int .i64 y.max,.slice y.ak y.Ma.length y.aq]] ?_ ?_ ?_
   ·intro w0 hS0
    obtain ⟨⟨⟨q0,q1,q2⟩,⟨r0,r1,r2⟩⟩,hH⟩:=hS0
    go_simp
    try with_reducible rfl
   ·intro w0 hS0
    refine (Ds x y w0 HX.I.2.2.2.2.1 HX.I.2.2.2.2.2 (hS0.2.I.1.bt HX.I.2.2.1 (r:=(x.ak,bT.flat x.Ma)) (by simp [bm])) (hS0.2.I.2.1.bt HX.I.2.2.2.1 (r:=(y.ak,bT.flat y.Ma)) (by simp [bm]))).mono ?_;rintro e w2 ⟨rfl,hb2⟩;exact ⟨rfl,nS HX.I.1 HX.I.2.1 HX.I.2.2.1 HX.I.2.2.2.1 ⟨hS0.2.I.1.below hb2,hS0.2.I.2.1.below hb2,hS0.2.I.2.2.trans (hb2.mono hS0.2.I.2.2.size)⟩⟩
   simp only [pt,sb,s0,s1]
   (refine PI ?_ (hy:=fun w0 hS0=>by obtain ⟨⟨⟨q0,q1,q2⟩,⟨r0,r1,r2⟩⟩,hH⟩:=hS0; go_simp; try with_reducible rfl))
   refine bk (by kernel_rfl) ?_ _;intro w1 cm;have HZ:Hid (Below w.heap.size w w1):=cm.2.I.2.2;clear cm;go_wp2;go_roundw
   case rel=>exact ⟨k+1,by omega,by go_num,HZ.I⟩
   case measure=>simp [intOf]; omega
  ·have i1: ¬ (k:Int) < (l.length:Int):=by omega
   go_wp2;go_ret;exact ⟨rfl,HB.I⟩
end Go.Proofs.YteidkehoekbcaaaGreat
