/- What the proof leans on, part 19. -/
import Derived.Test.YteidkehoekbcaaaGreatOwnK17
import Derived.Test.YteidkehoekbcaaaGreatOwnK18
set_option maxRecDepth 100000
set_option maxHeartbeats 8000000
open Array renaming getElem?_eq_some_iff->J2,getElem?_toList->QJ
open Go.Proofs.Tryz renaming prog->J3
open Go.Result renaming andThen_ok->QT
open Go.RowKit.Below renaming refl->Kp
open Go.Sem renaming run_bind->QR,run_pure->QS
open List renaming getElem?_append_right->Qo,getElem?_eq_getElem->Kz,getElem?_eq_some_iff->Lj,getElem?_take->QW,length_cons->Lg,mem_of_getElem?->KA
open Nat renaming le_refl->Ki,mul_le_mul_right->Rs,succ_mul->Lh,zero_le->Ky

namespace Go.Proofs.YteidkehoekbcaaaGreat
section
open Go.RowKit
attribute [local go_sem ↓] Go.wp_at_zero Go.wp_at_succ
theorem GX (x:ao) (left:Int) (w:World) (hb:((x.prog.length≤maxLen∧ ∀ o∈x.prog,o.2.2.2.size≤maxLen)∧x.held.size≤maxLen∧x.got.size≤maxLen)) (hc:fk.ep w x.aY x.prog) (h0:0≤left) (h1:left≤1048576):
  Calls J3 130 #[.agg x.row,.int .i64 left] w fun e w'=>jZ w left (x.prog.length) (x.dX) e w':=by
 have HB:Hid (((x.prog.length≤maxLen∧ ∀ o∈x.prog,o.2.2.2.size≤maxLen)∧x.held.size≤maxLen∧x.got.size≤maxLen)):=hb;have HC:Hid (fk.ep (w.alloc (.cells x.row 215)) x.aY x.prog):=hc.below ((Kp _ _).alloc (Ki _) _);clear hc;have HW:Hid (Below w.heap.size w (w.alloc (.cells x.row 215))):=(Kp _ _).alloc (Ki _) _;clear hb
 go_enter Tryz.func130,Tryz.ntmps130
 have HX:Hid ((w.alloc (.cells x.row 215)).heap[w.heap.size]? =some (.cells x.row 215 (0,0))):=heap_alloc_new _ _;go_wp2_with fail;generalize w.alloc (.cells x.row 215)=W at *;refine (Io x.aY x.prog x.bH left W HB.I.1.1 HC.I HB.I.1.2 h0 h1).mono ?_;rintro e w1 ⟨r1,rfl,q0,q1,q2,hb1⟩;have fQ:Hid (Below w.heap.size w w1):=HW.I.trans (hb1.mono HW.I.size);have xi:Hid (w1.heap[w.heap.size]? =some (.cells x.row 215 (0,0))):=(hb1.block _ (J2.1 HX.I).1).trans HX.I;have HQ:Hid (0≤r1→(x.prog.length≤1048576∧ ∀ s∈x.prog,(s.2.2.2.size≤1048576))∧r1+(x.prog.length:Nat)≤left):=q2;clear hb1 HX q2;by_cases hn:r1 < 0
 ·go_wp2
  go_ret;exact cT fQ.I h0
 have k8:w1.cell? ⟨w.heap.size,8,none⟩=some (.string x.held):=by have:=xi.I; simp [World.cell?,this]
 have k9:w1.cell? ⟨w.heap.size,9,none⟩=some (.string x.got):=by have:=xi.I; simp [World.cell?,this]
 have z0:x.held.size≤9223372036854775807:=HB.I.2.1;by_cases s0:r1 - (x.held.size:Int) < 0
 ·go_wp2
  go_ret;exact cT fQ.I h0
 have z1:x.got.size≤9223372036854775807:=HB.I.2.2;by_cases s1:r1 - (x.held.size:Int) - (x.got.size:Int) < 0
 ·go_wp2
  go_ret;exact cT fQ.I h0
 go_wp2;go_ret;exact ⟨r1 - (x.held.size:Int) - (x.got.size:Int),rfl,by omega,by omega,fun _=>⟨⟨(HQ.I (by omega)).1.1,(HQ.I (by omega)).1.2,by omega,by omega⟩,by have:=(HQ.I (by omega)).2; omega⟩,fQ.I⟩
theorem E1 (a:Option Addr) (l:List ao) (cap:Nat) (left:Int) (w:World) (hl:l.length≤maxLen) (hc:bg.ep w a l) (hs: ∀ x∈l,((x.prog.length≤maxLen∧ ∀ o∈x.prog,o.2.2.2.size≤maxLen)∧x.held.size≤maxLen∧x.got.size≤maxLen)) (h0:0≤left) (h1:left≤1048576):
  Calls J3 78 #[.slice a l.length cap,.int .i64 left] w fun e w'=>jZ w left (l.length+g9 (fun x:ao=>x.prog.length) l) (l.length≤1048576∧ ∀ x∈l,x.dX) e w':=by
 have hl':=hl;unfold maxLen at hl';by_cases hn:left - (l.length:Int) < 0
 ·go_enter Tryz.func78,Tryz.ntmps78
  go_wp2;go_ret;exact cT (Kp _ _) h0
 have HC:Hid (bg.ep w a l∧ ∀ x∈l,((x.prog.length≤maxLen∧ ∀ o∈x.prog,o.2.2.2.size≤maxLen)∧x.held.size≤maxLen∧x.got.size≤maxLen)):=⟨hc,hs⟩
 clear hc hs hl
 go_enter Tryz.func78,Tryz.ntmps78
 go_wp2_with fail
 go_loopw [1,5] (fun q i wr=> ∃ (k:Nat) (r:Int),k≤l.length∧i= .int .i64 k∧q= .int .i64 r∧0≤r∧r≤left - (l.length:Int)∧Hid ((∀ x∈l.take k,x.dX)∧r+(g9 (fun x:ao=>x.prog.length) (l.take k):Nat)≤left - (l.length:Int)∧Below w.heap.size w wr)) (fun _ i _=>l.length - (Go.RowKit.intOf i).toNat)
 case atStart=>exact ⟨0,left - (l.length:Int),Ky _,rfl,rfl,by omega,by omega,⟨by simp,by simp [g9],Kp _ _⟩⟩
 case round=>
  obtain ⟨k,r,hk,rfl,rfl,r0,r1,HA⟩:=hrel;by_cases hlt:k < l.length
  ·have i0:(0:Int)≤(k:Int):=by omega
   have i1:(k:Int) < (l.length:Int):=by omega
   obtain ⟨x,hx⟩: ∃ x,l[k]? =some x:=⟨_,Kz hlt⟩
   have hmem:=KA hx;obtain ⟨b,off,rfl,hat⟩:=(HC.I.1.below HA.I.2.2).at hx;have c0:wr.cell? ⟨b,off+k * 12,none⟩=some (.int .i64 x.id):=hat 0 _ rfl;have c1:wr.cell? ⟨b,off+k * 12+1,none⟩=some (.int .i64 x.RX):=hat 1 _ rfl;have c2:wr.cell? ⟨b,off+k * 12+2,none⟩=some (.slice x.aY x.prog.length x.bH):=hat 2 _ rfl;have c3:wr.cell? ⟨b,off+k * 12+3,none⟩=some (.int .i64 x.Md):=hat 3 _ rfl;have c4:wr.cell? ⟨b,off+k * 12+4,none⟩=some (.int .i64 x.pc):=hat 4 _ rfl;have c5:wr.cell? ⟨b,off+k * 12+5,none⟩=some (.int .i64 x.left):=hat 5 _ rfl;have c6:wr.cell? ⟨b,off+k * 12+6,none⟩=some (.int .i64 x.Mg):=hat 6 _ rfl;have c7:wr.cell? ⟨b,off+k * 12+7,none⟩=some (.int .i64 x.on):=hat 7 _ rfl;have c8:wr.cell? ⟨b,off+k * 12+8,none⟩=some (.string x.held):=hat 8 _ rfl;have c9:wr.cell? ⟨b,off+k * 12+9,none⟩=some (.string x.got):=hat 9 _ rfl;have qF:wr.cell? ⟨b,off+k * 12+10,none⟩=some (.int .i64 x.code):=hat 10 _ rfl;have pe:wr.cell? ⟨b,off+k * 12+11,none⟩=some (.int .i64 x.RU):=hat 11 _ rfl;have HX:Hid (l[k]? =some x∧((x.prog.length≤maxLen∧ ∀ o∈x.prog,o.2.2.2.size≤maxLen)∧x.held.size≤maxLen∧x.got.size≤maxLen)):=⟨hx,HC.I.2 x hmem⟩
   have HK:Hid (fk.ep wr x.aY x.prog):=⟨((HC.I.1.below HA.I.2.2).bt hx (r:=(x.aY,fk.flat x.prog)) (by simp [bg])),fun y _ r hr=>by simp [fk] at hr⟩
   clear hx hmem hat;go_wp2_with fail;refine (GX x r wr HX.I.2 HK.I r0 (by omega)).mono ?_;rintro e w1 ⟨r2,rfl,q0,q1,q2,hb1⟩;have fQ:Hid (Below w.heap.size w w1∧(0≤r2→x.dX∧r2+(x.prog.length:Nat)≤r)):=⟨HA.I.2.2.trans (hb1.mono HA.I.2.2.size),q2⟩
   clear hb1 q2 c0 c1 c2 c3 c4 c5 c6 c7 c8 c9 qF pe;by_cases hneg:r2 < 0
   ·go_wp2
    go_ret;exact cT fQ.I.1 h0
   go_wp2;go_roundw
   case rel=>exact ⟨k+1,r2,by omega,by go_num,rfl,by omega,by omega,⟨nE HX.I.1 HA.I.1 (fQ.I.2 (by omega)).1,by rw [zg HX.I.1]; have h5:=(fQ.I.2 (by omega)).2; have h6:=HA.I.2.1; omega,fQ.I.1⟩⟩
   case measure=>simp [Go.RowKit.intOf]; omega
  ·have i1: ¬ (k:Int) < (l.length:Int):=by omega
   go_wp2;go_ret;exact ⟨r,rfl,by omega,by omega,fun _=>⟨⟨by omega,po (by omega) HA.I.1⟩,by have h5:=HA.I.2.1; rw [List.take_of_length_le (by omega)] at h5; omega⟩,HA.I.2.2⟩
theorem GB (x:ao) (w:World) (hl:x.prog.length≤1048576) (hc:fk.ep w x.aY x.prog):
  Calls J3 134 #[.agg x.row] w fun e w'=> ∃ a c,e= .returned (.agg (aX (aR.set x a c)))∧aR.cO w' (w.heap.size+1) (aR.set x a c)∧Below w.heap.size w w':=by
 have HB:Hid (Below w.heap.size w (((w.alloc (.cells x.row 215)).alloc (.cells cE 148)).alloc (.cells #[.int .i64 x.id,.int .i64 x.RX,.slice none 0 0,.int .i64 0,.int .i64 0,.int .i64 0,.int .i64 0,.int .i64 0,.string ⟨#[]⟩,.string ⟨#[]⟩,.int .i64 0,.int .i64 0] 148))):=fg _ _ _ _;have HC:Hid (fk.ep (((w.alloc (.cells x.row 215)).alloc (.cells cE 148)).alloc (.cells #[.int .i64 x.id,.int .i64 x.RX,.slice none 0 0,.int .i64 0,.int .i64 0,.int .i64 0,.int .i64 0,.int .i64 0,.string ⟨#[]⟩,.string ⟨#[]⟩,.int .i64 0,.int .i64 0] 148)) x.aY x.prog∧x.prog.length≤1048576):=⟨hc.below HB.I,hl⟩
 have HX:Hid ((((w.alloc (.cells x.row 215)).alloc (.cells cE 148)).alloc (.cells #[.int .i64 x.id,.int .i64 x.RX,.slice none 0 0,.int .i64 0,.int .i64 0,.int .i64 0,.int .i64 0,.int .i64 0,.string ⟨#[]⟩,.string ⟨#[]⟩,.int .i64 0,.int .i64 0] 148)).heap[w.heap.size]? =some (.cells x.row 215 (0,0))∧(((w.alloc (.cells x.row 215)).alloc (.cells cE 148)).alloc (.cells #[.int .i64 x.id,.int .i64 x.RX,.slice none 0 0,.int .i64 0,.int .i64 0,.int .i64 0,.int .i64 0,.int .i64 0,.string ⟨#[]⟩,.string ⟨#[]⟩,.int .i64 0,.int .i64 0] 148)).heap[w.heap.size+1]? =some (.cells cE 148 (0,0))∧(((w.alloc (.cells x.row 215)).alloc (.cells cE 148)).alloc (.cells #[.int .i64 x.id,.int .i64 x.RX,.slice none 0 0,.int .i64 0,.int .i64 0,.int .i64 0,.int .i64 0,.int .i64 0,.string ⟨#[]⟩,.string ⟨#[]⟩,.int .i64 0,.int .i64 0] 148)).heap[w.heap.size+1+1]? =some (.cells #[.int .i64 x.id,.int .i64 x.RX,.slice none 0 0,.int .i64 0,.int .i64 0,.int .i64 0,.int .i64 0,.int .i64 0,.string ⟨#[]⟩,.string ⟨#[]⟩,.int .i64 0,.int .i64 0] 148 (0,0))∧(((w.alloc (.cells x.row 215)).alloc (.cells cE 148)).alloc (.cells #[.int .i64 x.id,.int .i64 x.RX,.slice none 0 0,.int .i64 0,.int .i64 0,.int .i64 0,.int .i64 0,.int .i64 0,.string ⟨#[]⟩,.string ⟨#[]⟩,.int .i64 0,.int .i64 0] 148)).heap.size=w.heap.size+1+1+1):=dR _ _ _ _;clear hl hc
 go_enter Tryz.func134,Tryz.ntmps134
 go_wp2_with fail;generalize ((w.alloc (.cells x.row 215)).alloc (.cells cE 148)).alloc (.cells #[.int .i64 x.id,.int .i64 x.RX,.slice none 0 0,.int .i64 0,.int .i64 0,.int .i64 0,.int .i64 0,.int .i64 0,.string ⟨#[]⟩,.string ⟨#[]⟩,.int .i64 0,.int .i64 0] 148)=W at *;refine (Jc x.aY x.prog x.bH W HC.I.2 HC.I.1).mono ?_;rintro e w1 ⟨rfl,hown,hb1⟩;have HM:Hid (aR.cO w1 W.heap.size (aR.set x (some ⟨W.heap.size,0,none⟩) x.prog.length)∧Below w.heap.size w w1):=⟨gd.rJ (N:=aR) hown,HB.I.trans (hb1.mono HB.I.size)⟩
 have y0:w1.heap[w.heap.size]? =some (.cells x.row 215 (0,0)):=(hb1.block _ (by have:=HX.I.2.2.2; omega)).trans HX.I.1;have y1:w1.heap[w.heap.size+1]? =some (.cells cE 148 (0,0)):=(hb1.block _ (by have:=HX.I.2.2.2; omega)).trans HX.I.2.1;have y2:w1.heap[w.heap.size+1+1]? =some (.cells #[.int .i64 x.id,.int .i64 x.RX,.slice none 0 0,.int .i64 0,.int .i64 0,.int .i64 0,.int .i64 0,.int .i64 0,.string ⟨#[]⟩,.string ⟨#[]⟩,.int .i64 0,.int .i64 0] 148 (0,0)):=(hb1.block _ (by have:=HX.I.2.2.2; omega)).trans HX.I.2.2.1;have t0:w1.cell? ⟨w.heap.size+1+1,0,none⟩=some (.int .i64 x.id):=by simp [World.cell?,y2]
 have u0:w1.frozen? ⟨w.heap.size+1+1,0,none⟩=false:=by simp [World.frozen?,y2]
 have t1:w1.cell? ⟨w.heap.size+1+1,1,none⟩=some (.int .i64 x.RX):=by simp [World.cell?,y2]
 have u1:w1.frozen? ⟨w.heap.size+1+1,1,none⟩=false:=by simp [World.frozen?,y2]
 have t2:w1.cell? ⟨w.heap.size+1+1,2,none⟩=some (.slice none 0 0):=by simp [World.cell?,y2]
 have u2:w1.frozen? ⟨w.heap.size+1+1,2,none⟩=false:=by simp [World.frozen?,y2]
 have s3:w1.cell? ⟨w.heap.size,3,none⟩=some (.int .i64 x.Md):=by simp [World.cell?,y0]
 have t3:w1.cell? ⟨w.heap.size+1+1,3,none⟩=some (.int .i64 0):=by simp [World.cell?,y2]
 have u3:w1.frozen? ⟨w.heap.size+1+1,3,none⟩=false:=by simp [World.frozen?,y2]
 have s4:w1.cell? ⟨w.heap.size,4,none⟩=some (.int .i64 x.pc):=by simp [World.cell?,y0]
 have t4:w1.cell? ⟨w.heap.size+1+1,4,none⟩=some (.int .i64 0):=by simp [World.cell?,y2]
 have u4:w1.frozen? ⟨w.heap.size+1+1,4,none⟩=false:=by simp [World.frozen?,y2]
 have s5:w1.cell? ⟨w.heap.size,5,none⟩=some (.int .i64 x.left):=by simp [World.cell?,y0]
 have t5:w1.cell? ⟨w.heap.size+1+1,5,none⟩=some (.int .i64 0):=by simp [World.cell?,y2]
 have u5:w1.frozen? ⟨w.heap.size+1+1,5,none⟩=false:=by simp [World.frozen?,y2]
 have s6:w1.cell? ⟨w.heap.size,6,none⟩=some (.int .i64 x.Mg):=by simp [World.cell?,y0]
 have t6:w1.cell? ⟨w.heap.size+1+1,6,none⟩=some (.int .i64 0):=by simp [World.cell?,y2]
 have u6:w1.frozen? ⟨w.heap.size+1+1,6,none⟩=false:=by simp [World.frozen?,y2]
 have s7:w1.cell? ⟨w.heap.size,7,none⟩=some (.int .i64 x.on):=by simp [World.cell?,y0]
 have t7:w1.cell? ⟨w.heap.size+1+1,7,none⟩=some (.int .i64 0):=by simp [World.cell?,y2]
 have u7:w1.frozen? ⟨w.heap.size+1+1,7,none⟩=false:=by simp [World.frozen?,y2]
 have s8:w1.cell? ⟨w.heap.size,8,none⟩=some (.string x.held):=by simp [World.cell?,y0]
 have t8:w1.cell? ⟨w.heap.size+1+1,8,none⟩=some (.string ⟨#[]⟩):=by simp [World.cell?,y2]
 have u8:w1.frozen? ⟨w.heap.size+1+1,8,none⟩=false:=by simp [World.frozen?,y2]
 have s9:w1.cell? ⟨w.heap.size,9,none⟩=some (.string x.got):=by simp [World.cell?,y0]
 have t9:w1.cell? ⟨w.heap.size+1+1,9,none⟩=some (.string ⟨#[]⟩):=by simp [World.cell?,y2]
 have u9:w1.frozen? ⟨w.heap.size+1+1,9,none⟩=false:=by simp [World.frozen?,y2]
 have s10:w1.cell? ⟨w.heap.size,10,none⟩=some (.int .i64 x.code):=by simp [World.cell?,y0]
 have t10:w1.cell? ⟨w.heap.size+1+1,10,none⟩=some (.int .i64 0):=by simp [World.cell?,y2]
 have u10:w1.frozen? ⟨w.heap.size+1+1,10,none⟩=false:=by simp [World.frozen?,y2]
 have s11:w1.cell? ⟨w.heap.size,11,none⟩=some (.int .i64 x.RU):=by simp [World.cell?,y0]
 have t11:w1.cell? ⟨w.heap.size+1+1,11,none⟩=some (.int .i64 0):=by simp [World.cell?,y2]
 have u11:w1.frozen? ⟨w.heap.size+1+1,11,none⟩=false:=by simp [World.frozen?,y2]
 have h5:=jc (off:=2) [.slice (some ⟨W.heap.size,0,none⟩) x.prog.length x.prog.length,.int .i64 x.Md,.int .i64 x.pc,.int .i64 x.left,.int .i64 x.Mg,.int .i64 x.on,.string x.held,.string x.got,.int .i64 x.code,.int .i64 x.RU] y2;have h6:=(de (off:=2) [.slice (some ⟨W.heap.size,0,none⟩) x.prog.length x.prog.length,.int .i64 x.Md,.int .i64 x.pc,.int .i64 x.left,.int .i64 x.Mg,.int .i64 x.on,.string x.held,.string x.got,.int .i64 x.code,.int .i64 x.RU] (w:=w1) (g:=w.heap.size+1+1) (k:=w.heap.size+1) (by omega)).trans y1;have h7:Below w.heap.size w (bn w1 (w.heap.size+1+1) 2 [.slice (some ⟨W.heap.size,0,none⟩) x.prog.length x.prog.length,.int .i64 x.Md,.int .i64 x.pc,.int .i64 x.left,.int .i64 x.Mg,.int .i64 x.on,.string x.held,.string x.got,.int .i64 x.code,.int .i64 x.RU]):=eU _ (by omega) HM.I.2;have h8:aR.cO (bn w1 (w.heap.size+1+1) 2 [.slice (some ⟨W.heap.size,0,none⟩) x.prog.length x.prog.length,.int .i64 x.Md,.int .i64 x.pc,.int .i64 x.left,.int .i64 x.Mg,.int .i64 x.on,.string x.held,.string x.got,.int .i64 x.code,.int .i64 x.RU]) (w.heap.size+1) (aR.set x (some ⟨W.heap.size,0,none⟩) x.prog.length):=(HM.I.1.low (by have:=HX.I.2.2.2; omega)).same fun g hg=>by
  have:=(HM.I.1.lt hg).1
  have:=HX.I.2.2.2
  exact de _ (by omega)
 simp only [bn,Nat.reduceAdd] at h5 h6 h7 h8;have H5:Hid (((((((((((w1.setCell ⟨w.heap.size+1+1,2,none⟩ (.slice (some ⟨W.heap.size,0,none⟩) x.prog.length x.prog.length)).setCell ⟨w.heap.size+1+1,3,none⟩ (.int .i64 x.Md)).setCell ⟨w.heap.size+1+1,4,none⟩ (.int .i64 x.pc)).setCell ⟨w.heap.size+1+1,5,none⟩ (.int .i64 x.left)).setCell ⟨w.heap.size+1+1,6,none⟩ (.int .i64 x.Mg)).setCell ⟨w.heap.size+1+1,7,none⟩ (.int .i64 x.on)).setCell ⟨w.heap.size+1+1,8,none⟩ (.string x.held)).setCell ⟨w.heap.size+1+1,9,none⟩ (.string x.got)).setCell ⟨w.heap.size+1+1,10,none⟩ (.int .i64 x.code)).setCell ⟨w.heap.size+1+1,11,none⟩ (.int .i64 x.RU)).heap[w.heap.size+1+1]? =some (.cells #[.int .i64 x.id,.int .i64 x.RX,.slice (some ⟨W.heap.size,0,none⟩) x.prog.length x.prog.length,.int .i64 x.Md,.int .i64 x.pc,.int .i64 x.left,.int .i64 x.Mg,.int .i64 x.on,.string x.held,.string x.got,.int .i64 x.code,.int .i64 x.RU] 148 (0,0))):=h5.trans (by simp [iD]);have H6:Hid (((((((((((w1.setCell ⟨w.heap.size+1+1,2,none⟩ (.slice (some ⟨W.heap.size,0,none⟩) x.prog.length x.prog.length)).setCell ⟨w.heap.size+1+1,3,none⟩ (.int .i64 x.Md)).setCell ⟨w.heap.size+1+1,4,none⟩ (.int .i64 x.pc)).setCell ⟨w.heap.size+1+1,5,none⟩ (.int .i64 x.left)).setCell ⟨w.heap.size+1+1,6,none⟩ (.int .i64 x.Mg)).setCell ⟨w.heap.size+1+1,7,none⟩ (.int .i64 x.on)).setCell ⟨w.heap.size+1+1,8,none⟩ (.string x.held)).setCell ⟨w.heap.size+1+1,9,none⟩ (.string x.got)).setCell ⟨w.heap.size+1+1,10,none⟩ (.int .i64 x.code)).setCell ⟨w.heap.size+1+1,11,none⟩ (.int .i64 x.RU)).heap[w.heap.size+1]? =some (.cells cE 148 (0,0))):=h6;have H7:Hid (Below w.heap.size w ((((((((((w1.setCell ⟨w.heap.size+1+1,2,none⟩ (.slice (some ⟨W.heap.size,0,none⟩) x.prog.length x.prog.length)).setCell ⟨w.heap.size+1+1,3,none⟩ (.int .i64 x.Md)).setCell ⟨w.heap.size+1+1,4,none⟩ (.int .i64 x.pc)).setCell ⟨w.heap.size+1+1,5,none⟩ (.int .i64 x.left)).setCell ⟨w.heap.size+1+1,6,none⟩ (.int .i64 x.Mg)).setCell ⟨w.heap.size+1+1,7,none⟩ (.int .i64 x.on)).setCell ⟨w.heap.size+1+1,8,none⟩ (.string x.held)).setCell ⟨w.heap.size+1+1,9,none⟩ (.string x.got)).setCell ⟨w.heap.size+1+1,10,none⟩ (.int .i64 x.code)).setCell ⟨w.heap.size+1+1,11,none⟩ (.int .i64 x.RU))∧aR.cO ((((((((((w1.setCell ⟨w.heap.size+1+1,2,none⟩ (.slice (some ⟨W.heap.size,0,none⟩) x.prog.length x.prog.length)).setCell ⟨w.heap.size+1+1,3,none⟩ (.int .i64 x.Md)).setCell ⟨w.heap.size+1+1,4,none⟩ (.int .i64 x.pc)).setCell ⟨w.heap.size+1+1,5,none⟩ (.int .i64 x.left)).setCell ⟨w.heap.size+1+1,6,none⟩ (.int .i64 x.Mg)).setCell ⟨w.heap.size+1+1,7,none⟩ (.int .i64 x.on)).setCell ⟨w.heap.size+1+1,8,none⟩ (.string x.held)).setCell ⟨w.heap.size+1+1,9,none⟩ (.string x.got)).setCell ⟨w.heap.size+1+1,10,none⟩ (.int .i64 x.code)).setCell ⟨w.heap.size+1+1,11,none⟩ (.int .i64 x.RU)) (w.heap.size+1) (aR.set x (some ⟨W.heap.size,0,none⟩) x.prog.length)):=⟨h7,h8⟩
 clear y0 y1 y2 hb1 hown h5 h6 h7 h8
 dsimp only
 repeat (first | (go_big_may; refine wpList_store_mid rfl 148 (Operand.tmp 2) (Operand.tmp 41) rfl (w.heap.size+1) 0 #[.int .i64 x.id,.int .i64 x.RX,.slice (some ⟨W.heap.size,0,none⟩) x.prog.length x.prog.length,.int .i64 x.Md,.int .i64 x.pc,.int .i64 x.left,.int .i64 x.Mg,.int .i64 x.on,.string x.held,.string x.got,.int .i64 x.code,.int .i64 x.RU] rfl rfl ?ht ?hi ?h1 ?_) | go_values | go_skip | go_guarded | go_step | go_upon | go_back)
 case ht=>exact G7 H6.I (Ki _)
 case hi=>(show _=some 12; kernel_rfl)
 case h1=>simp [Value.oneCell']
 generalize ((((((((((w1.setCell ⟨w.heap.size+1+1,2,none⟩ (.slice (some ⟨W.heap.size,0,none⟩) x.prog.length x.prog.length)).setCell ⟨w.heap.size+1+1,3,none⟩ (.int .i64 x.Md)).setCell ⟨w.heap.size+1+1,4,none⟩ (.int .i64 x.pc)).setCell ⟨w.heap.size+1+1,5,none⟩ (.int .i64 x.left)).setCell ⟨w.heap.size+1+1,6,none⟩ (.int .i64 x.Mg)).setCell ⟨w.heap.size+1+1,7,none⟩ (.int .i64 x.on)).setCell ⟨w.heap.size+1+1,8,none⟩ (.string x.held)).setCell ⟨w.heap.size+1+1,9,none⟩ (.string x.got)).setCell ⟨w.heap.size+1+1,10,none⟩ (.int .i64 x.code)).setCell ⟨w.heap.size+1+1,11,none⟩ (.int .i64 x.RU))=WZ at *
 repeat (first | go_values | go_skip | go_guarded | go_step | go_upon)
 have h9:(WZ.setCells (w.heap.size+1) 0 [.int .i64 x.id,.int .i64 x.RX,.slice (some ⟨W.heap.size,0,none⟩) x.prog.length x.prog.length,.int .i64 x.Md,.int .i64 x.pc,.int .i64 x.left,.int .i64 x.Mg,.int .i64 x.on,.string x.held,.string x.got,.int .i64 x.code,.int .i64 x.RU]).heap[w.heap.size+1]? =some (.cells #[.int .i64 x.id,.int .i64 x.RX,.slice (some ⟨W.heap.size,0,none⟩) x.prog.length x.prog.length,.int .i64 x.Md,.int .i64 x.pc,.int .i64 x.left,.int .i64 x.Mg,.int .i64 x.on,.string x.held,.string x.got,.int .i64 x.code,.int .i64 x.RU] 148 (0,0)):=by rw [iL]; exact ri H6.I rfl
 refine bodyPost_ret (v:= .agg #[.int .i64 x.id,.int .i64 x.RX,.slice (some ⟨W.heap.size,0,none⟩) x.prog.length x.prog.length,.int .i64 x.Md,.int .i64 x.pc,.int .i64 x.left,.int .i64 x.Mg,.int .i64 x.on,.string x.held,.string x.got,.int .i64 x.code,.int .i64 x.RU]) (results_cell_row Tryz.results134 _ _ (w.heap.size+1) _ _ (0,0) _ rfl h9 Tryz.underlying148 rfl (by kernel_rfl)) rfl ?_;refine ⟨some ⟨W.heap.size,0,none⟩,x.prog.length,rfl,?_,?_⟩
 ·rw [iL]
  exact H7.I.2.same fun g hg=>de _ (by have:=(HM.I.1.lt hg).1; have:=HX.I.2.2.2; omega)
 ·rw [iL]
  exact eU _ (by omega) H7.I.1
theorem Gd:(Tryz.prog.info? 148).map (fun i=>(i.zero,i.size,decide (i.bytes≤1000)))=some (some (.agg cE),12,true):=by kernel_rfl
theorem GZ (n:Nat) (hn:n≤1048576) (w:World):
  (Instr.makeSlice 41 (.int .i64 (n:Int)) (.int .i64 (n:Int))).run J3 w= .ok (.slice (some ⟨w.heap.size,0,none⟩) n n) (w.alloc (.cells (madeCells cE (n * 12)) 148)):=by
 obtain ⟨i,hi,e⟩:=Option.map_eq_some_iff.1 Gd;simp only [Prod.mk.injEq,decide_eq_true_eq] at e;obtain ⟨e1,e2,e3⟩:=e;have hby:n * i.bytes≤1048576 * 1000:=Nat.mul_le_mul hn e3
 have:=run_make (P:=J3) w 41 148 i _ Tryz.underlying41 hi e1 .i64 .i64 n n (by omega) (by omega) (by rw [Nat.mul_comm] at hby; first | omega | (rw [Nat.mul_comm]; omega)) (by omega)
 rw [this,e2];simp [Value.cells]
theorem ET (a:Option Addr) (l:List ao) (cap:Nat) (w:World) (hl:l.length≤1048576) (hk: ∀ x∈l,x.prog.length≤1048576) (hc:bg.ep w a l):
  Calls J3 84 #[.slice a l.length cap] w fun e w'=>e= .returned (.slice (some ⟨w.heap.size,0,none⟩) l.length l.length)∧ ∃ I,sd aR bg w w' l.length l I:=by
 have hmk:=GZ l.length hl;have HC:Hid (bg.ep w a l):=hc;have HKL:Hid (∀ x∈l,x.prog.length≤1048576):=hk;clear hk;have HF:Hid (gb bg 148 w (w.alloc (.cells (madeCells cE (l.length * 12)) 148)) l.length []):=gb.start (by rw [size_madeCells]; rfl);clear hc
 go_enter Tryz.func84,Tryz.ntmps84
 go_wp2_with fail
 go_loopw [4] (fun i wr=> ∃ k:Nat,k≤l.length∧i= .int .i64 k∧ ∃ I,Hid (iV aR bg w wr l I k)) (fun i _=>l.length - (Go.RowKit.intOf i).toNat)
 case atStart=>exact ⟨0,Ky _,rfl,[],iV.start HF.I⟩
 case round=>
  clear hmk HF;obtain ⟨k,hk,rfl,I,HR⟩:=hrel;by_cases hlt:k < l.length
  ·have i0:(0:Int)≤(k:Int):=by omega
   have i1:(k:Int) < (l.length:Int):=by omega
   obtain ⟨x,hx⟩: ∃ x,l[k]? =some x:=⟨_,Kz hlt⟩
   obtain ⟨b,off,rfl,hat⟩:=(HC.I.below HR.I.fill.cd).at hx;have c0:wr.cell? ⟨b,off+k * 12,none⟩=some (.int .i64 x.id):=hat 0 _ rfl;have c1:wr.cell? ⟨b,off+k * 12+1,none⟩=some (.int .i64 x.RX):=hat 1 _ rfl;have c2:wr.cell? ⟨b,off+k * 12+2,none⟩=some (.slice x.aY x.prog.length x.bH):=hat 2 _ rfl;have c3:wr.cell? ⟨b,off+k * 12+3,none⟩=some (.int .i64 x.Md):=hat 3 _ rfl;have c4:wr.cell? ⟨b,off+k * 12+4,none⟩=some (.int .i64 x.pc):=hat 4 _ rfl;have c5:wr.cell? ⟨b,off+k * 12+5,none⟩=some (.int .i64 x.left):=hat 5 _ rfl;have c6:wr.cell? ⟨b,off+k * 12+6,none⟩=some (.int .i64 x.Mg):=hat 6 _ rfl;have c7:wr.cell? ⟨b,off+k * 12+7,none⟩=some (.int .i64 x.on):=hat 7 _ rfl;have c8:wr.cell? ⟨b,off+k * 12+8,none⟩=some (.string x.held):=hat 8 _ rfl;have c9:wr.cell? ⟨b,off+k * 12+9,none⟩=some (.string x.got):=hat 9 _ rfl;have qF:wr.cell? ⟨b,off+k * 12+10,none⟩=some (.int .i64 x.code):=hat 10 _ rfl;have pe:wr.cell? ⟨b,off+k * 12+11,none⟩=some (.int .i64 x.RU):=hat 11 _ rfl;have HX:Hid (l[k]? =some x):=hx;have HK:Hid (fk.ep wr x.aY x.prog∧x.prog.length≤1048576):=⟨⟨((HC.I.below HR.I.fill.cd).bt hx (r:=(x.aY,fk.flat x.prog)) (by simp [bg])),fun y _ r hr=>by simp [fk] at hr⟩,HKL.I x (KA hx)⟩
   have hfl:=HR.I.fill.lt;clear hx hat;go_wp2_with fail;refine (GB x wr HK.I.2 HK.I.1).mono ?_;rintro e w1 ⟨a1,DJ,rfl,la,hb1⟩;have pG:Hid (iV aR bg w w1 l I k):=HR.I.below hb1;have fQ:Hid (wr.heap.size≤w1.heap.size):=hb1.size;obtain ⟨⟨u,hu⟩,hf⟩:=pG.I.fill.at;have d0:=hu (k * 12) (by show k * 12 < l.length * 12; omega);have f0:=hf (k * 12);have d1:=hu (k * 12+1) (by show k * 12+1 < l.length * 12; omega);have f1:=hf (k * 12+1);have d2:=hu (k * 12+2) (by show k * 12+2 < l.length * 12; omega);have f2:=hf (k * 12+2);have d3:=hu (k * 12+3) (by show k * 12+3 < l.length * 12; omega);have f3:=hf (k * 12+3);have d4:=hu (k * 12+4) (by show k * 12+4 < l.length * 12; omega);have f4:=hf (k * 12+4);have d5:=hu (k * 12+5) (by show k * 12+5 < l.length * 12; omega);have f5:=hf (k * 12+5);have d6:=hu (k * 12+6) (by show k * 12+6 < l.length * 12; omega);have f6:=hf (k * 12+6);have d7:=hu (k * 12+7) (by show k * 12+7 < l.length * 12; omega);have f7:=hf (k * 12+7);have d8:=hu (k * 12+8) (by show k * 12+8 < l.length * 12; omega);have f8:=hf (k * 12+8);have d9:=hu (k * 12+9) (by show k * 12+9 < l.length * 12; omega);have f9:=hf (k * 12+9);have tH:=hu (k * 12+10) (by show k * 12+10 < l.length * 12; omega);have f10:=hf (k * 12+10);have tS:=hu (k * 12+11) (by show k * 12+11 < l.length * 12; omega);have f11:=hf (k * 12+11);have h5:=pG.I.more hlt HX.I (la.low (by have:=hfl; omega)) (fun g hg=>by have:=(la.lt hg).1; omega) HR.I;rw [show bg.vals (aR.set x a1 DJ)= [.int .i64 x.id,.int .i64 x.RX,.slice a1 x.prog.length DJ,.int .i64 x.Md,.int .i64 x.pc,.int .i64 x.left,.int .i64 x.Mg,.int .i64 x.on,.string x.held,.string x.got,.int .i64 x.code,.int .i64 x.RU] from rfl,show bg.n=12 from rfl] at h5;simp only [bn,Nat.add_assoc,Nat.reduceAdd] at h5;have HS:Hid (iV aR bg w ((((((((((((w1.setCell ⟨w.heap.size,k * 12,none⟩ (.int .i64 x.id)).setCell ⟨w.heap.size,k * 12+1,none⟩ (.int .i64 x.RX)).setCell ⟨w.heap.size,k * 12+2,none⟩ (.slice a1 x.prog.length DJ)).setCell ⟨w.heap.size,k * 12+3,none⟩ (.int .i64 x.Md)).setCell ⟨w.heap.size,k * 12+4,none⟩ (.int .i64 x.pc)).setCell ⟨w.heap.size,k * 12+5,none⟩ (.int .i64 x.left)).setCell ⟨w.heap.size,k * 12+6,none⟩ (.int .i64 x.Mg)).setCell ⟨w.heap.size,k * 12+7,none⟩ (.int .i64 x.on)).setCell ⟨w.heap.size,k * 12+8,none⟩ (.string x.held)).setCell ⟨w.heap.size,k * 12+9,none⟩ (.string x.got)).setCell ⟨w.heap.size,k * 12+10,none⟩ (.int .i64 x.code)).setCell ⟨w.heap.size,k * 12+11,none⟩ (.int .i64 x.RU)) l (I ++ [aR.set x a1 DJ]) (k+1)):=h5;clear h5;unfold aX;clear hu hf hb1 HR pG la c0 c1 c2 c3 c4 c5 c6 c7 c8 c9 qF pe;go_wp2;go_roundw
   case rel=>exact ⟨k+1,by omega,by go_num,_,HS.I⟩
   case measure=>simp [Go.RowKit.intOf]; omega
  ·have i1: ¬ (k:Int) < (l.length:Int):=by omega
   have ek:k=l.length:=by omega
   subst ek;go_wp2;go_ret;exact ⟨rfl,I,HR.I.done (by unfold maxLen; omega)⟩
theorem G9 (x y:ao) (w:World) (hp:y.toaD=x.toaD) (hl:x.prog.length≤1048576) (hx:Row w x.aY (fk.flat x.prog)) (hy:Row w y.aY (fk.flat y.prog)):
  Calls J3 110 #[.agg x.row,.agg y.row] w fun e w'=>e= .returned (.bool true)∧Below w.heap.size w w':=by
 obtain ⟨p,xa,xc⟩:=x;obtain ⟨p',ya,yc⟩:=y;simp only at hp;subst hp;obtain ⟨v0,v1,v2,v3,v4,v5,v6,v7,v8,v9,v10,v11⟩:=p';simp only at hl hx hy;have HB:Hid (Below w.heap.size w ((w.alloc (.cells #[.int .i64 v0,.int .i64 v1,.slice xa v2.length xc,.int .i64 v3,.int .i64 v4,.int .i64 v5,.int .i64 v6,.int .i64 v7,.string v8,.string v9,.int .i64 v10,.int .i64 v11] 148)).alloc (.cells #[.int .i64 v0,.int .i64 v1,.slice ya v2.length yc,.int .i64 v3,.int .i64 v4,.int .i64 v5,.int .i64 v6,.int .i64 v7,.string v8,.string v9,.int .i64 v10,.int .i64 v11] 148))):=dT _ _ _;have HR:Hid (Row ((w.alloc (.cells #[.int .i64 v0,.int .i64 v1,.slice xa v2.length xc,.int .i64 v3,.int .i64 v4,.int .i64 v5,.int .i64 v6,.int .i64 v7,.string v8,.string v9,.int .i64 v10,.int .i64 v11] 148)).alloc (.cells #[.int .i64 v0,.int .i64 v1,.slice ya v2.length yc,.int .i64 v3,.int .i64 v4,.int .i64 v5,.int .i64 v6,.int .i64 v7,.string v8,.string v9,.int .i64 v10,.int .i64 v11] 148)) xa (fk.flat v2)∧Row ((w.alloc (.cells #[.int .i64 v0,.int .i64 v1,.slice xa v2.length xc,.int .i64 v3,.int .i64 v4,.int .i64 v5,.int .i64 v6,.int .i64 v7,.string v8,.string v9,.int .i64 v10,.int .i64 v11] 148)).alloc (.cells #[.int .i64 v0,.int .i64 v1,.slice ya v2.length yc,.int .i64 v3,.int .i64 v4,.int .i64 v5,.int .i64 v6,.int .i64 v7,.string v8,.string v9,.int .i64 v10,.int .i64 v11] 148)) ya (fk.flat v2)∧v2.length≤1048576):=⟨hx.below HB.I,hy.below HB.I,hl⟩
 have HX:Hid (((w.alloc (.cells #[.int .i64 v0,.int .i64 v1,.slice xa v2.length xc,.int .i64 v3,.int .i64 v4,.int .i64 v5,.int .i64 v6,.int .i64 v7,.string v8,.string v9,.int .i64 v10,.int .i64 v11] 148)).alloc (.cells #[.int .i64 v0,.int .i64 v1,.slice ya v2.length yc,.int .i64 v3,.int .i64 v4,.int .i64 v5,.int .i64 v6,.int .i64 v7,.string v8,.string v9,.int .i64 v10,.int .i64 v11] 148)).heap[w.heap.size]? =some (.cells #[.int .i64 v0,.int .i64 v1,.slice xa v2.length xc,.int .i64 v3,.int .i64 v4,.int .i64 v5,.int .i64 v6,.int .i64 v7,.string v8,.string v9,.int .i64 v10,.int .i64 v11] 148 (0,0))∧((w.alloc (.cells #[.int .i64 v0,.int .i64 v1,.slice xa v2.length xc,.int .i64 v3,.int .i64 v4,.int .i64 v5,.int .i64 v6,.int .i64 v7,.string v8,.string v9,.int .i64 v10,.int .i64 v11] 148)).alloc (.cells #[.int .i64 v0,.int .i64 v1,.slice ya v2.length yc,.int .i64 v3,.int .i64 v4,.int .i64 v5,.int .i64 v6,.int .i64 v7,.string v8,.string v9,.int .i64 v10,.int .i64 v11] 148)).heap[w.heap.size+1]? =some (.cells #[.int .i64 v0,.int .i64 v1,.slice ya v2.length yc,.int .i64 v3,.int .i64 v4,.int .i64 v5,.int .i64 v6,.int .i64 v7,.string v8,.string v9,.int .i64 v10,.int .i64 v11] 148 (0,0))):=cZ _ _ _;clear hx hy hl
 go_enter Tryz.func110,Tryz.ntmps110
 go_wp2_with fail;generalize (w.alloc (.cells #[.int .i64 v0,.int .i64 v1,.slice xa v2.length xc,.int .i64 v3,.int .i64 v4,.int .i64 v5,.int .i64 v6,.int .i64 v7,.string v8,.string v9,.int .i64 v10,.int .i64 v11] 148)).alloc (.cells #[.int .i64 v0,.int .i64 v1,.slice ya v2.length yc,.int .i64 v3,.int .i64 v4,.int .i64 v5,.int .i64 v6,.int .i64 v7,.string v8,.string v9,.int .i64 v10,.int .i64 v11] 148)=W at *;refine (I6 xa ya v2 xc yc W HR.I.2.2 ⟨HR.I.1,fun _ _ r hr=>by simp [fk] at hr⟩ ⟨HR.I.2.1,fun _ _ r hr=>by simp [fk] at hr⟩).mono ?_;rintro e w1 ⟨rfl,hb1⟩;have fQ:Hid (Below w.heap.size w w1):=HB.I.trans (hb1.mono HB.I.size);have x0:=(hb1.block _ (J2.1 HX.I.1).1).trans HX.I.1;have x1:=(hb1.block _ (J2.1 HX.I.2).1).trans HX.I.2;have a3:w1.cell? ⟨w.heap.size,3,none⟩=some (.int .i64 v3):=by simp [World.cell?,x0]
 have b3:w1.cell? ⟨w.heap.size+1,3,none⟩=some (.int .i64 v3):=by simp [World.cell?,x1]
 have a4:w1.cell? ⟨w.heap.size,4,none⟩=some (.int .i64 v4):=by simp [World.cell?,x0]
 have b4:w1.cell? ⟨w.heap.size+1,4,none⟩=some (.int .i64 v4):=by simp [World.cell?,x1]
 have a5:w1.cell? ⟨w.heap.size,5,none⟩=some (.int .i64 v5):=by simp [World.cell?,x0]
 have b5:w1.cell? ⟨w.heap.size+1,5,none⟩=some (.int .i64 v5):=by simp [World.cell?,x1]
 have a6:w1.cell? ⟨w.heap.size,6,none⟩=some (.int .i64 v6):=by simp [World.cell?,x0]
 have b6:w1.cell? ⟨w.heap.size+1,6,none⟩=some (.int .i64 v6):=by simp [World.cell?,x1]
 have a7:w1.cell? ⟨w.heap.size,7,none⟩=some (.int .i64 v7):=by simp [World.cell?,x0]
 have b7:w1.cell? ⟨w.heap.size+1,7,none⟩=some (.int .i64 v7):=by simp [World.cell?,x1]
 have a8:w1.cell? ⟨w.heap.size,8,none⟩=some (.string v8):=by simp [World.cell?,x0]
 have b8:w1.cell? ⟨w.heap.size+1,8,none⟩=some (.string v8):=by simp [World.cell?,x1]
 have a9:w1.cell? ⟨w.heap.size,9,none⟩=some (.string v9):=by simp [World.cell?,x0]
 have b9:w1.cell? ⟨w.heap.size+1,9,none⟩=some (.string v9):=by simp [World.cell?,x1]
 have a10:w1.cell? ⟨w.heap.size,10,none⟩=some (.int .i64 v10):=by simp [World.cell?,x0]
 have b10:w1.cell? ⟨w.heap.size+1,10,none⟩=some (.int .i64 v10):=by simp [World.cell?,x1]
 have a11:w1.cell? ⟨w.heap.size,11,none⟩=some (.int .i64 v11):=by simp [World.cell?,x0]
 have b11:w1.cell? ⟨w.heap.size+1,11,none⟩=some (.int .i64 v11):=by simp [World.cell?,x1]
 clear hb1 HX HR x0 x1;go_wp2;go_ret;exact ⟨rfl,fQ.I⟩
def yR (w:World) (a a':Option Addr) (l l':List ao) (x y:ao) (g g' k:Nat) (w':World):Prop:=((w'.cell? ⟨g,k * 12,none⟩=some (.int .i64 x.id)∧w'.cell? ⟨g,k * 12+1,none⟩=some (.int .i64 x.RX)∧w'.cell? ⟨g,k * 12+2,none⟩=some (.slice x.aY x.prog.length x.bH)∧w'.cell? ⟨g,k * 12+3,none⟩=some (.int .i64 x.Md)∧w'.cell? ⟨g,k * 12+4,none⟩=some (.int .i64 x.pc)∧w'.cell? ⟨g,k * 12+5,none⟩=some (.int .i64 x.left)∧w'.cell? ⟨g,k * 12+6,none⟩=some (.int .i64 x.Mg)∧w'.cell? ⟨g,k * 12+7,none⟩=some (.int .i64 x.on)∧w'.cell? ⟨g,k * 12+8,none⟩=some (.string x.held)∧w'.cell? ⟨g,k * 12+9,none⟩=some (.string x.got)∧w'.cell? ⟨g,k * 12+10,none⟩=some (.int .i64 x.code)∧w'.cell? ⟨g,k * 12+11,none⟩=some (.int .i64 x.RU))∧(w'.cell? ⟨g',k * 12,none⟩=some (.int .i64 y.id)∧w'.cell? ⟨g',k * 12+1,none⟩=some (.int .i64 y.RX)∧w'.cell? ⟨g',k * 12+2,none⟩=some (.slice y.aY y.prog.length y.bH)∧w'.cell? ⟨g',k * 12+3,none⟩=some (.int .i64 y.Md)∧w'.cell? ⟨g',k * 12+4,none⟩=some (.int .i64 y.pc)∧w'.cell? ⟨g',k * 12+5,none⟩=some (.int .i64 y.left)∧w'.cell? ⟨g',k * 12+6,none⟩=some (.int .i64 y.Mg)∧w'.cell? ⟨g',k * 12+7,none⟩=some (.int .i64 y.on)∧w'.cell? ⟨g',k * 12+8,none⟩=some (.string y.held)∧w'.cell? ⟨g',k * 12+9,none⟩=some (.string y.got)∧w'.cell? ⟨g',k * 12+10,none⟩=some (.int .i64 y.code)∧w'.cell? ⟨g',k * 12+11,none⟩=some (.int .i64 y.RU)))∧Hid (bg.bU w' a l∧bg.bU w' a' l'∧Below w.heap.size w w')
theorem qa {w w':World} {a a':Option Addr} {l l':List ao} {x y:ao} {g g' k:Nat} (ha:a=some ⟨g,0,none⟩) (ha':a'=some ⟨g',0,none⟩) (hx:l[k]? =some x) (hy:l'[k]? =some y) (h:bg.bU w' a l∧bg.bU w' a' l'∧Below w.heap.size w w'):yR w a a' l l' x y g g' k w':=by
 obtain ⟨g1,e1,h1⟩:=h.1.at hx;obtain ⟨g2,e2,h2⟩:=h.2.1.at hy;rw [ha] at e1;rw [ha'] at e2;cases e1;cases e2;exact ⟨⟨⟨h1 0 _ rfl,h1 1 _ rfl,h1 2 _ rfl,h1 3 _ rfl,h1 4 _ rfl,h1 5 _ rfl,h1 6 _ rfl,h1 7 _ rfl,h1 8 _ rfl,h1 9 _ rfl,h1 10 _ rfl,h1 11 _ rfl⟩,⟨h2 0 _ rfl,h2 1 _ rfl,h2 2 _ rfl,h2 3 _ rfl,h2 4 _ rfl,h2 5 _ rfl,h2 6 _ rfl,h2 7 _ rfl,h2 8 _ rfl,h2 9 _ rfl,h2 10 _ rfl,h2 11 _ rfl⟩⟩,h⟩
theorem Ff (a a':Option Addr) (l l':List ao) (cap cap':Nat) (w:World) (hl:l.length≤1048576) (hk: ∀ x∈l,x.prog.length≤1048576) (hp:l'.map (·.toaD)=l.map (·.toaD)) (h:bg.bU w a l) (h':bg.bU w a' l'):
  Calls J3 48 #[.slice a l.length cap,.slice a' l.length cap'] w fun e w'=>e= .returned (.bool true)∧Below w.heap.size w w':=by
 have HL:Hid (bg.bU w a l∧bg.bU w a' l'∧(∀ x∈l,x.prog.length≤1048576)∧l'.map (·.toaD)=l.map (·.toaD)):=⟨h,h',hk,hp⟩
 clear h h' hk hp
 go_enter Tryz.func48,Tryz.ntmps48
 go_wp2_with fail
 go_loopw [5] (fun i wr=> ∃ k:Nat,k≤l.length∧i= .int .i64 k∧Hid (Below w.heap.size w wr)) (fun i _=>l.length - (Go.RowKit.intOf i).toNat)
 case atStart=>exact ⟨0,Ky _,rfl,Kp _ _⟩
 case round=>
  obtain ⟨k,hk,rfl,HB⟩:=hrel;by_cases hlt:k < l.length
  ·have i0:(0:Int)≤(k:Int):=by omega
   have i1:(k:Int) < (l.length:Int):=by omega
   obtain ⟨x,hx⟩: ∃ x,l[k]? =some x:=⟨_,Kz hlt⟩
   obtain ⟨g,ha,-⟩:=HL.I.1.at hx;obtain ⟨y,hy,hpy⟩:=uH HL.I.2.2.2 hx;obtain ⟨g',ha',-⟩:=HL.I.2.1.at hy;have HX:Hid (a=some ⟨g,0,none⟩∧a'=some ⟨g',0,none⟩∧l[k]? =some x∧l'[k]? =some y∧y.toaD=x.toaD∧x.prog.length≤1048576):=⟨ha,ha',hx,hy,hpy,HL.I.2.2.1 x (KA hx)⟩
   have HS:Hid (yR w a a' l l' x y g g' k wr):=qa ha ha' hx hy ⟨HL.I.1.below HB.I,HL.I.2.1.below HB.I,HB.I⟩;clear hx hy hpy;rw [ha,ha'];clear ha ha';go_wp2_with fail;refine aT (yR w a a' l l' x y g g' k) (by kernel_rfl) (qa HX.I.1 HX.I.2.1 HX.I.2.2.1 HX.I.2.2.2.1 ⟨HS.I.2.I.1.below (Kp _ _).drew,HS.I.2.I.2.1.below (Kp _ _).drew,HS.I.2.I.2.2.drew⟩) ?_
   iterate 8 (refine PI ?_ (hy:=fun w0 hS0=>by obtain ⟨⟨⟨q0,q1,q2,q3,q4,q5,q6,q7,q8,q9,kY,kV⟩,⟨r0,r1,r2,r3,r4,r5,r6,r7,r8,r9,Ju,Jq⟩⟩,hH⟩:=hS0; go_simp; try with_reducible rfl))
   refine cl (.bool true) 110 #[.agg x.row,.agg y.row] ?_ ?_ ?_
   ·intro w0 hS0
    obtain ⟨⟨⟨q0,q1,q2,q3,q4,q5,q6,q7,q8,q9,kY,kV⟩,⟨r0,r1,r2,r3,r4,r5,r6,r7,r8,r9,Ju,Jq⟩⟩,hH⟩:=hS0
    go_simp
    try with_reducible rfl
   ·intro w0 hS0
    refine (G9 x y w0 HX.I.2.2.2.2.1 HX.I.2.2.2.2.2 (hS0.2.I.1.bt HX.I.2.2.1 (r:=(x.aY,fk.flat x.prog)) (by simp [bg])) (hS0.2.I.2.1.bt HX.I.2.2.2.1 (r:=(y.aY,fk.flat y.prog)) (by simp [bg]))).mono ?_;rintro e w2 ⟨rfl,hb2⟩;exact ⟨rfl,qa HX.I.1 HX.I.2.1 HX.I.2.2.1 HX.I.2.2.2.1 ⟨hS0.2.I.1.below hb2,hS0.2.I.2.1.below hb2,hS0.2.I.2.2.trans (hb2.mono hS0.2.I.2.2.size)⟩⟩
   simp only [pt,sb,s0,s1]
   (refine PI ?_ (hy:=fun w0 hS0=>by obtain ⟨⟨⟨q0,q1,q2,q3,q4,q5,q6,q7,q8,q9,kY,kV⟩,⟨r0,r1,r2,r3,r4,r5,r6,r7,r8,r9,Ju,Jq⟩⟩,hH⟩:=hS0; go_simp; try with_reducible rfl))
   refine bk (by kernel_rfl) ?_ _;intro w1 cm;have HZ:Hid (Below w.heap.size w w1):=cm.2.I.2.2;clear cm;go_wp2;go_roundw
   case rel=>exact ⟨k+1,by omega,by go_num,HZ.I⟩
   case measure=>simp [Go.RowKit.intOf]; omega
  ·have i1: ¬ (k:Int) < (l.length:Int):=by omega
   go_wp2;go_ret;exact ⟨rfl,HB.I⟩
end
section
open Go.RowKit
structure aI (w w':World) (bs:List Nat):Prop where
 os:w'.os=w.os
 tape:w'.tape=w.tape
 output:w'.output=w.output
 size:w.heap.size≤w'.heap.size
 same: ∀ g,g < w.heap.size→g∉bs→w'.heap[g]? =w.heap[g]?
section
variable {w w1 w2:World} {bs bs':List Nat}
theorem aI.refl (w:World) (bs:List Nat):aI w w bs:=⟨rfl,rfl,rfl,Ki _,fun _ _ _=>rfl⟩
theorem aI.trans (h:aI w w1 bs) (h':aI w1 w2 bs):aI w w2 bs:=
 ⟨h'.os.trans h.os,h'.tape.trans h.tape,h'.output.trans h.output,Nat.le_trans h.size h'.size,fun g hg hn=>(h'.same g (Nat.lt_of_lt_of_le hg h.size) hn).trans (h.same g hg hn)⟩
theorem aI.mono (h:aI w w1 bs) (hs: ∀ g∈bs,g∈bs'):aI w w1 bs':=⟨h.os,h.tape,h.output,h.size,fun g hg hn=>h.same g hg fun hm=>hn (hs g hm)⟩
theorem aI.dI (h:Below w.heap.size w w1):aI w w1 bs:=⟨h.os,h.tape,h.output,h.size,fun g hg _=>h.block g hg⟩
theorem aI.below {base:Nat} (h:aI w w1 bs) (hb:base≤w.heap.size) (hs: ∀ g∈bs,base≤g):Below base w w1:=⟨h.os,h.tape,h.output,h.size,fun g hg=>h.same g (by omega) fun hm=>by have:=hs g hm; omega⟩
theorem aI.set {g off:Nat} (vs:List Value) (hg:g∈bs):aI w (bn w g off vs) bs:=
 have hb: ∀ (vs:List Value) (w:World) (off:Nat),(bn w g off vs).os=w.os∧(bn w g off vs).tape=w.tape∧(bn w g off vs).output=w.output:=fun vs=>by
  induction vs with
  | nil=>exact fun _ _=>⟨rfl,rfl,rfl⟩
  | cons v r ih=>exact fun w off=>ih (w.setCell ⟨g,off,none⟩ v) (off+1)
 ⟨(hb vs w off).1,(hb vs w off).2.1,(hb vs w off).2.2,by rw [fH]; exact Ki _,fun k _ hn=>de vs fun e=>hn (by rw [e]; exact hg)⟩
end
theorem oY: ∀ (vs:List Value) (cur:Array Value) (off j:Nat),off+vs.length≤j→(iD cur off vs)[j]? =cur[j]?
 | [],_,_,_,_=>rfl
 | v :: r,cur,off,j,h=>by
  simp only [Lg] at h;rw [iD,oY r _ _ _ (by omega),Array.getElem?_setIfInBounds_ne (by omega)]
section
variable {α:Type} {K:Kind α}
theorem Kind.GG {xs:List Value} {l:List α} (hl:xs.length=l.length * K.n) (h: ∀ i y r,l[i]? =some y→r < K.n→xs[i * K.n+r]? =(K.vals y)[r]?):xs=K.flat l:=by
 apply List.ext_getElem?;intro q;by_cases hq:q < l.length * K.n
 ·have hi:q / K.n < l.length:=Nat.div_lt_of_lt_mul (by rw [Nat.mul_comm]; exact hq)
  have hr:q % K.n < K.n:=Nat.mod_lt _ K.pos;have e:q / K.n * K.n+q % K.n=q:=by rw [Nat.mul_comm]; exact Nat.div_add_mod q K.n
  obtain ⟨y,hy⟩: ∃ y,l[q / K.n]? =some y:=⟨_,Kz hi⟩
  have h1:=h _ y _ hy hr;rw [← K.jw hy hr,e] at h1;exact h1
 ·rw [List.getElem?_eq_none (by omega),List.getElem?_eq_none (by rw [K.dM]; omega)]
theorem Gf {cur:Array Value} {A B:List α} {x y:α} {j:Nat} {vs:List Value} (h:cur.toList.take ((A ++ x :: B).length * K.n)=K.flat (A ++ x :: B)) (hs:(A ++ x :: B).length * K.n≤cur.size) (hj:j+vs.length≤K.n)
  (h1: ∀ r,r < vs.length→(K.vals y)[j+r]? =vs[r]?) (h2: ∀ r,r < K.n→ ¬ (j≤r∧r < j+vs.length)→(K.vals y)[r]? =(K.vals x)[r]?):
  (iD cur (A.length * K.n+j) vs).toList.take ((A ++ y :: B).length * K.n)=K.flat (A ++ y :: B):=by
 have hlen:(A ++ y :: B).length=(A ++ x :: B).length:=by simp
 have hA:A.length < (A ++ x :: B).length:=by rw [List.length_append,Lg]; omega
 have hle:A.length * K.n+K.n≤(A ++ x :: B).length * K.n:=by rw [← Lh]; exact Rs _ hA
 have hcur: ∀ q,q < (A ++ x :: B).length * K.n→cur[q]? =(K.flat (A ++ x :: B))[q]? :=fun q hq=>by
  rw [← h,QW,if_pos hq,QJ]
 have e0:(iD cur (A.length * K.n+j) vs).toList.length=cur.size:=by rw [Array.length_toList,kM]
 refine Kind.GG (by rw [List.length_take,e0,hlen]; omega) fun i z r hz hr=> ?_
 have hi:i < (A ++ x :: B).length:=by rw [← hlen]; exact (Lj.1 hz).1
 have hq:i * K.n+r < (A ++ x :: B).length * K.n:=by
  have:(i+1) * K.n≤(A ++ x :: B).length * K.n:=Rs _ hi
  rw [Lh] at this;omega
 rw [QW,hlen,if_pos hq,QJ];by_cases e:i=A.length
 ·subst e
  have hzy:z=y:=by
   rw [Qo (Ki _)] at hz;simpa using hz.symm
  subst hzy;have hx:(A ++ x :: B)[A.length]? =some x:=by rw [Qo (Ki _)]; simp
  by_cases hr2:j≤r∧r < j+vs.length
  ·obtain ⟨d,rfl⟩: ∃ d,r=j+d:=⟨r - j,by omega⟩
   rw [h1 d (by omega),show A.length * K.n+(j+d)=A.length * K.n+j+d by omega,Kz (by omega)];exact sv vs cur (A.length * K.n+j) d _ (by omega) (Kz (by omega))
  ·rw [h2 r hr hr2,← K.jw hx hr,← hcur _ hq]
   by_cases h3:r < j
   ·exact lL vs cur _ _ (by omega)
   ·exact oY vs cur _ _ (by omega)
 ·have hx:(A ++ x :: B)[i]? =some z:=by
   by_cases h3:i < A.length
   ·rw [List.getElem?_append_left h3] at hz ⊢
    exact hz
   ·rw [Qo (by omega)] at hz ⊢
    obtain ⟨d,hd⟩: ∃ d,i - A.length=d+1:=⟨i - A.length - 1,by omega⟩
    rw [hd] at hz ⊢;exact hz
  rw [← K.jw hx hr,← hcur _ hq];by_cases h3:i < A.length
  ·have:(i+1) * K.n≤A.length * K.n:=Rs _ h3
   rw [Lh] at this;exact lL vs cur _ _ (by omega)
  ·have:(A.length+1) * K.n≤i * K.n:=Rs _ (by omega)
   rw [Lh] at this;exact oY vs cur _ _ (by omega)
def bl (K:Kind α) (T:TypeId) (w:World) (base g cap:Nat) (l:List α):Prop:= ∃ cur:Array Value,w.heap[g]? =some (.cells cur T (0,0))∧base≤g∧l.length≤cap∧cap≤maxLen∧cur.size=cap * K.n∧cur.toList.take (l.length * K.n)=K.flat l
theorem bl.same {T:TypeId} {w w':World} {base g cap:Nat} {l:List α} (h:bl K T w base g cap l) (hs:w'.heap[g]? =w.heap[g]?):bl K T w' base g cap l:=by
 obtain ⟨cur,h1,h2⟩:=h;exact ⟨cur,hs.trans h1,h2⟩
theorem bl.lt {T:TypeId} {w:World} {base g cap:Nat} {l:List α} (h:bl K T w base g cap l):g < w.heap.size:=by
 obtain ⟨cur,h1,_⟩:=h;exact (J2.1 h1).1
theorem bl.cell {T:TypeId} {w:World} {base g cap:Nat} {l:List α} (h:bl K T w base g cap l) {i:Nat} {x:α} (hx:l[i]? =some x) {r:Nat} (hr:r < K.n):w.cell? ⟨g,i * K.n+r,none⟩=(K.vals x)[r]? ∧w.frozen? ⟨g,i * K.n+r,none⟩=false:=by
 obtain ⟨cur,h1,h2,h3,h4,h5,h6⟩:=h;refine ⟨?_,frozen_of_row _ _ _ _ _ h1⟩;have hi:i < l.length:=(Lj.1 hx).1;have hq:i * K.n+r < l.length * K.n:=by
  have:(i+1) * K.n≤l.length * K.n:=Rs _ hi
  rw [Lh] at this;omega
 rw [cell_of_row _ _ _ _ _ _ h1,← K.jw hx hr,← h6,QW,if_pos hq,QJ]
theorem bl.part {T:TypeId} {w:World} {base g cap:Nat} {A B:List α} {x y:α} {j:Nat} {vs:List Value} (h:bl K T w base g cap (A ++ x :: B)) (hj:j+vs.length≤K.n)
  (h1: ∀ r,r < vs.length→(K.vals y)[j+r]? =vs[r]?) (h2: ∀ r,r < K.n→ ¬ (j≤r∧r < j+vs.length)→(K.vals y)[r]? =(K.vals x)[r]?):
  bl K T (bn w g (A.length * K.n+j) vs) base g cap (A ++ y :: B):=by
 obtain ⟨cur,c1,c2,c3,c4,c5,c6⟩:=h;have hl:(A ++ y :: B).length=(A ++ x :: B).length:=by simp
 refine ⟨_,jc vs c1,c2,by rw [hl]; exact c3,c4,by rw [kM]; exact c5,?_⟩;exact Gf c6 (by rw [c5]; exact Rs _ c3) hj h1 h2
end
section
variable {P:Program} {Q:Exit→Act→World→Prop} {K:Act→World→Prop} {o:Oper} {a:Act} {w:World}
theorem cM (s x:Operand) (t:TypeId) (ho:o.op= .call { callee:= .builtin .append,args:= #[s,x],argTypes:= #[t,t] }) (v u r:Value) (w':World) (hs:a.eval s=v) (hx:a.eval x=u) (hr:(Builtin.append_ #[t,t] o.type #[v,u]).run P w= .ok r w')
  (h:K (a.put o.dst r) w'):Oper.wp P o a w K Q:=by
 unfold Oper.wp execOp;simp only [ho,resolve,invoke,builtin,QR,QS,QT,List.map_toArray,List.map_cons,List.map_nil,hs,hx,hr];exact h
theorem qd (ty:TypeId) (x y:Operand) (ho:o.op= .store ty x y) (g:Nat) (t:TypeId) (old cells:Array Value) (hx:a.eval x= .pointer (some ⟨g,0,none⟩)) (hy:a.eval y= .agg cells) (hg:w.heap[g]? =some (.cells old t (0,0))) (hi:(P.info? ty).map (·.size)=some cells.size)
  (hs:old.size=cells.size) (h1:cells.all (·.oneCell')=true) (h:K (a.put o.dst undef) (w.setRow g cells)):Oper.wp P o a w K Q:=by
 unfold Oper.wp execOp;simp only [ho,hx,hy,Instr.storeAt,Instr.sureAddr,QR,QS,QT,run_storeVar_row w g t ty old cells hg hi hs h1];exact h
theorem wpList_store_row {ops:Array Oper} {rest:List Oper} (hgd:o.guard=none) (ty:TypeId) (x y:Operand) (ho:o.op= .store ty x y) (g:Nat) (t:TypeId) (old cells:Array Value) (hx:a.eval x= .pointer (some ⟨g,0,none⟩)) (hy:a.eval y= .agg cells) (hg:w.heap[g]? =some (.cells old t (0,0))) (hi:(P.info? ty).map (·.size)=some cells.size)
  (hs:old.size=cells.size) (h1:cells.all (·.oneCell')=true) (h:wpList P ops Q rest (a.put o.dst undef) (w.setRow g cells)):wpList P ops Q (o :: rest) a w:=
 wpList_plain hgd fun _ hK=>qd ty x y ho g t old cells hx hy hg hi hs h1 (hK _ _ h)
end
structure su (w:World) (base:Nat) (T:TypeId) (size len:Nat) (xs:List Value) (b c:Bool) (g:Nat) (a:Option Addr) (cap:Nat):Prop where
 made:b=true→c=false→w.heap[g]? =some (.cells #[] T (0,0))∧base≤g
 done:c=true→w.ownsRow base T size (.slice a len cap) len xs
def bM (b c:Bool) (g:Nat) (a:Option Addr):List Nat:=bif c then blk a else bif b then [g] else []
theorem su.same {w w':World} {base:Nat} {T:TypeId} {size len:Nat} {xs:List Value} {b c:Bool} {g:Nat} {a:Option Addr} {cap:Nat} (h:su w base T size len xs b c g a cap) (hs: ∀ q∈bM b c g a,w'.heap[q]? =w.heap[q]?):su w' base T size len xs b c g a cap:=by
 refine ⟨fun hb hc=> ?_,fun hc=> ?_⟩
 ·subst hb hc
  exact ⟨(hs g (by simp [bM])).trans (h.made rfl rfl).1,(h.made rfl rfl).2⟩
 ·subst hc
  exact aL (h.done rfl) fun q hq=>hs q (by simpa [bM] using hq)
end
end Go.Proofs.YteidkehoekbcaaaGreat
