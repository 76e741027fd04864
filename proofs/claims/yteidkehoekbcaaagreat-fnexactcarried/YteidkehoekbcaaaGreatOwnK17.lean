/- What the proof leans on, part 17. -/
import Derived.Test.YteidkehoekbcaaaGreatOwnK15
set_option maxRecDepth 100000
set_option maxHeartbeats 8000000
open Go renaming bodyPost_ret->KT,wp_at_succ->Kd,wp_at_zero->Kc
open Go.Proofs.Tryz renaming prog->J3
open Go.RowKit.Below renaming refl->Kp
open List renaming getElem?_eq_getElem->Kz,length_take->Lk,mem_of_getElem?->KA,take_length->LQ
open Nat renaming zero_le->Ky
open Option renaming map_eq_some_iff->Kw
open Prod.mk renaming injEq->Kx

namespace Go.Proofs.YteidkehoekbcaaaGreat
open Go.RowKit
attribute [local go_sem ↓] Kc Kd
theorem Ft (x:az) (left:Int) (w:World) (hb:(x.text.size≤maxLen)) (h0:0≤left) (h1:left≤1048576):
  Calls J3 131 #[.agg #[.int .i64 x.id,.bool x.shown,.string x.text],.int .i64 left] w fun e w'=>jZ w left (0) ((x.text.size≤1048576)) e w':=by
 have HB:Hid ((x.text.size≤maxLen)):=hb;have HW:Hid (Below w.heap.size w (w.alloc (.cells #[.int .i64 x.id,.bool x.shown,.string x.text] 217))):=(Kp _ _).alloc (Nat.le_refl _) _;clear hb
 go_enter Tryz.func131,Tryz.ntmps131
 have z0:x.text.size≤9223372036854775807:=HB.I;by_cases s0:left - (x.text.size:Int) < 0
 ·go_wp2
  go_ret;exact cT HW.I h0
 go_wp2;go_ret;exact ⟨left - (x.text.size:Int),rfl,by omega,by omega,fun _=>⟨by omega,by omega⟩,HW.I⟩
theorem C4 (a:Option Addr) (l:List az) (cap:Nat) (left:Int) (w:World) (hl:l.length≤maxLen) (hc:bG.ep w a l) (hs: ∀ x∈l,(x.text.size≤maxLen)) (h0:0≤left) (h1:left≤1048576):
  Calls J3 81 #[.slice a l.length cap,.int .i64 left] w fun e w'=>jZ w left (l.length) (l.length≤1048576∧ ∀ x∈l,(x.text.size≤1048576)) e w':=by
 have hl':=hl;unfold maxLen at hl';by_cases hn:left - (l.length:Int) < 0
 ·go_enter Tryz.func81,Tryz.ntmps81
  go_wp2;go_ret;exact cT (Kp _ _) h0
 have HC:Hid (bG.ep w a l∧ ∀ x∈l,(x.text.size≤maxLen)):=⟨hc,hs⟩
 clear hc hs hl
 go_enter Tryz.func81,Tryz.ntmps81
 go_wp2_with fail
 go_loopw [1,5] (fun q i wr=> ∃ (k:Nat) (r:Int),k≤l.length∧i= .int .i64 k∧q= .int .i64 r∧0≤r∧r≤left - (l.length:Int)∧Hid ((∀ x∈l.take k,(x.text.size≤1048576))∧Below w.heap.size w wr)) (fun _ i _=>l.length - (intOf i).toNat)
 case atStart=>exact ⟨0,left - (l.length:Int),Ky _,rfl,rfl,by omega,by omega,⟨by simp,Kp _ _⟩⟩
 case round=>
  obtain ⟨k,r,hk,rfl,rfl,r0,r1,HA⟩:=hrel;by_cases hlt:k < l.length
  ·have i0:(0:Int)≤(k:Int):=by omega
   have i1:(k:Int) < (l.length:Int):=by omega
   obtain ⟨x,hx⟩: ∃ x,l[k]? =some x:=⟨_,Kz hlt⟩
   have hmem:=KA hx;obtain ⟨b,off,rfl,hat⟩:=(HC.I.1.below HA.I.2).at hx;have c0:wr.cell? ⟨b,off+k * 3,none⟩=some (.int .i64 x.id):=hat 0 _ rfl;have c1:wr.cell? ⟨b,off+k * 3+1,none⟩=some (.bool x.shown):=hat 1 _ rfl;have c2:wr.cell? ⟨b,off+k * 3+2,none⟩=some (.string x.text):=hat 2 _ rfl;have HX:Hid (l[k]? =some x∧(x.text.size≤maxLen)):=⟨hx,HC.I.2 x hmem⟩
   clear hx hmem hat;go_wp2_with fail;refine (Ft x r wr HX.I.2 r0 (by omega)).mono ?_;rintro e w1 ⟨r2,rfl,q0,q1,q2,hb1⟩;have fQ:Hid (Below w.heap.size w w1∧(0≤r2→(x.text.size≤1048576)∧r2+(0:Nat)≤r)):=⟨HA.I.2.trans (hb1.mono HA.I.2.size),q2⟩
   clear hb1 q2 c0 c1 c2;by_cases hneg:r2 < 0
   ·go_wp2
    go_ret;exact cT fQ.I.1 h0
   go_wp2;go_roundw
   case rel=>exact ⟨k+1,r2,by omega,by go_num,rfl,by omega,by omega,⟨nE HX.I.1 HA.I.1 (fQ.I.2 (by omega)).1,fQ.I.1⟩⟩
   case measure=>simp [intOf]; omega
  ·have i1: ¬ (k:Int) < (l.length:Int):=by omega
   go_wp2;go_ret;exact ⟨r,rfl,by omega,by omega,fun _=>⟨⟨by omega,po (by omega) HA.I.1⟩,by omega⟩,HA.I.2⟩
theorem EQ (x:az) (w:World):Calls J3 137 #[.agg #[.int .i64 x.id,.bool x.shown,.string x.text]] w fun e w'=>e= .returned (.agg #[.int .i64 x.id,.bool x.shown,.string x.text])∧Below w.heap.size w w':=by
 go_enter Tryz.func137,Tryz.ntmps137
 go_wp2;exact KT (v:= .agg #[.int .i64 x.id,.bool x.shown,.string x.text]) (by simp [results,Tryz.results137,go_sem]) rfl ⟨rfl,by go_grown⟩
theorem EM:(Tryz.prog.info? 190).map (fun i=>(i.zero,i.size,decide (i.bytes≤1000)))=some (some (.agg #[.int .i64 0,.bool false,.string ⟨#[]⟩]),3,true):=by kernel_rfl
theorem Ex (n:Nat) (hn:n≤1048576) (w:World):
  (Instr.makeSlice 44 (.int .i64 (n:Int)) (.int .i64 (n:Int))).run J3 w= .ok (.slice (some ⟨w.heap.size,0,none⟩) n n) (w.alloc (.cells (madeCells #[.int .i64 0,.bool false,.string ⟨#[]⟩] (n * 3)) 190)):=by
 obtain ⟨i,hi,e⟩:=Kw.1 EM;simp only [Kx,decide_eq_true_eq] at e;obtain ⟨e1,e2,e3⟩:=e;have hby:n * i.bytes≤1048576 * 1000:=Nat.mul_le_mul hn e3
 have:=run_make (P:=J3) w 44 190 i _ Tryz.underlying44 hi e1 .i64 .i64 n n (by omega) (by omega) (by rw [Nat.mul_comm] at hby; first | omega | (rw [Nat.mul_comm]; omega)) (by omega)
 rw [this,e2];simp [Value.cells]
theorem CQ (a:Option Addr) (l:List az) (cap:Nat) (w:World) (hl:l.length≤1048576) (hc:bG.ep w a l):
  Calls J3 87 #[.slice a l.length cap] w fun e w'=>e= .returned (.slice (some ⟨w.heap.size,0,none⟩) l.length l.length)∧w'.ownsRow w.heap.size 190 3 (.slice (some ⟨w.heap.size,0,none⟩) l.length l.length) l.length (bG.flat l)∧Below w.heap.size w w':=by
 have hmk:=Ex l.length hl;have HC:Hid (bG.ep w a l):=hc;have HF:Hid (gb bG 190 w (w.alloc (.cells (madeCells #[.int .i64 0,.bool false,.string ⟨#[]⟩] (l.length * 3)) 190)) l.length []):=gb.start (by rw [size_madeCells]; rfl);clear hc
 go_enter Tryz.func87,Tryz.ntmps87
 go_wp2_with fail
 go_loopw [4] (fun i wr=> ∃ k:Nat,k≤l.length∧i= .int .i64 k∧Hid (gb bG 190 w wr l.length (l.take k))) (fun i _=>l.length - (intOf i).toNat)
 case atStart=>exact ⟨0,Ky _,rfl,HF.I⟩
 case round=>
  clear hmk HF;obtain ⟨k,hk,rfl,HR⟩:=hrel;by_cases hlt:k < l.length
  ·have i0:(0:Int)≤(k:Int):=by omega
   have i1:(k:Int) < (l.length:Int):=by omega
   obtain ⟨x,hx⟩: ∃ x,l[k]? =some x:=⟨_,Kz hlt⟩
   obtain ⟨b,off,rfl,hat⟩:=(HC.I.below HR.I.cd).at hx;have c0:wr.cell? ⟨b,off+k * 3,none⟩=some (.int .i64 x.id):=hat 0 _ rfl;have c1:wr.cell? ⟨b,off+k * 3+1,none⟩=some (.bool x.shown):=hat 1 _ rfl;have c2:wr.cell? ⟨b,off+k * 3+2,none⟩=some (.string x.text):=hat 2 _ rfl;have HX:Hid (l[k]? =some x):=hx;have hfl:=HR.I.lt;clear hx hat;go_wp2_with fail;refine (EQ x wr).mono ?_;rintro e w1 ⟨rfl,hb1⟩;have pG:Hid (gb bG 190 w w1 l.length (l.take k)):=HR.I.below hb1;obtain ⟨⟨u,hu⟩,hf⟩:=pG.I.at;have d0:=hu (k * 3) (by show k * 3 < l.length * 3; omega);have f0:=hf (k * 3);have d1:=hu (k * 3+1) (by show k * 3+1 < l.length * 3; omega);have f1:=hf (k * 3+1);have d2:=hu (k * 3+2) (by show k * 3+2 < l.length * 3; omega);have f2:=hf (k * 3+2);have HS:Hid (gb bG 190 w (((w1.setCell ⟨w.heap.size,k * 3,none⟩ (.int .i64 x.id)).setCell ⟨w.heap.size,k * 3+1,none⟩ (.bool x.shown)).setCell ⟨w.heap.size,k * 3+2,none⟩ (.string x.text)) l.length (l.take (k+1))):=by
    have h5:=pG.I.more (by rw [Lk]; omega) x;rw [← cj HX.I,Lk,Nat.min_eq_left hk,show bG.vals x= [.int .i64 x.id,.bool x.shown,.string x.text] from rfl,show bG.n=3 from rfl] at h5;simp only [bn,Nat.add_assoc,Nat.reduceAdd] at h5;exact h5
   clear hu hf hb1 HR pG c0 c1 c2;go_wp2;go_roundw
   case rel=>exact ⟨k+1,by omega,by go_num,HS.I⟩
   case measure=>simp [intOf]; omega
  ·have i1: ¬ (k:Int) < (l.length:Int):=by omega
   have ek:k=l.length:=by omega
   subst ek;go_wp2;go_ret;have h6:=HR.I.done (by rw [Lk]; omega) (by unfold maxLen; omega);rw [LQ] at h6;exact ⟨rfl,h6,HR.I.cd⟩
theorem EW (x:az) (w:World):Calls J3 113 #[.agg #[.int .i64 x.id,.bool x.shown,.string x.text],.agg #[.int .i64 x.id,.bool x.shown,.string x.text]] w fun e w'=>e= .returned (.bool true)∧Below w.heap.size w w':=by
 go_enter Tryz.func113,Tryz.ntmps113
 go_wp2;go_ret;exact ⟨al (by simp),by go_grown⟩
def uF (w:World) (a a':Option Addr) (l:List az) (x:az) (g g' k:Nat) (w':World):Prop:=((w'.cell? ⟨g,k * 3,none⟩=some (.int .i64 x.id)∧w'.cell? ⟨g,k * 3+1,none⟩=some (.bool x.shown)∧w'.cell? ⟨g,k * 3+2,none⟩=some (.string x.text))∧(w'.cell? ⟨g',k * 3,none⟩=some (.int .i64 x.id)∧w'.cell? ⟨g',k * 3+1,none⟩=some (.bool x.shown)∧w'.cell? ⟨g',k * 3+2,none⟩=some (.string x.text)))∧Hid (bG.bU w' a l∧bG.bU w' a' l∧Below w.heap.size w w')
theorem oZ {w w':World} {a a':Option Addr} {l:List az} {x:az} {g g' k:Nat} (ha:a=some ⟨g,0,none⟩) (ha':a'=some ⟨g',0,none⟩) (hx:l[k]? =some x) (h:bG.bU w' a l∧bG.bU w' a' l∧Below w.heap.size w w'):uF w a a' l x g g' k w':=by
 obtain ⟨g1,e1,h1⟩:=h.1.at hx;obtain ⟨g2,e2,h2⟩:=h.2.1.at hx;rw [ha] at e1;rw [ha'] at e2;cases e1;cases e2;exact ⟨⟨⟨h1 0 _ rfl,h1 1 _ rfl,h1 2 _ rfl⟩,⟨h2 0 _ rfl,h2 1 _ rfl,h2 2 _ rfl⟩⟩,h⟩
theorem Cs (a a':Option Addr) (l:List az) (cap cap':Nat) (w:World) (hl:l.length≤1048576) (h:bG.bU w a l) (h':bG.bU w a' l):
  Calls J3 51 #[.slice a l.length cap,.slice a' l.length cap'] w fun e w'=>e= .returned (.bool true)∧Below w.heap.size w w':=by
 have HL:Hid (bG.bU w a l∧bG.bU w a' l):=⟨h,h'⟩
 clear h h'
 go_enter Tryz.func51,Tryz.ntmps51
 go_wp2_with fail
 go_loopw [5] (fun i wr=> ∃ k:Nat,k≤l.length∧i= .int .i64 k∧Hid (Below w.heap.size w wr)) (fun i _=>l.length - (intOf i).toNat)
 case atStart=>exact ⟨0,Ky _,rfl,Kp _ _⟩
 case round=>
  obtain ⟨k,hk,rfl,HB⟩:=hrel;by_cases hlt:k < l.length
  ·have i0:(0:Int)≤(k:Int):=by omega
   have i1:(k:Int) < (l.length:Int):=by omega
   obtain ⟨x,hx⟩: ∃ x,l[k]? =some x:=⟨_,Kz hlt⟩
   obtain ⟨g,ha,-⟩:=HL.I.1.at hx;obtain ⟨g',ha',-⟩:=HL.I.2.at hx;have HX:Hid (a=some ⟨g,0,none⟩∧a'=some ⟨g',0,none⟩∧l[k]? =some x):=⟨ha,ha',hx⟩
   have HS:Hid (uF w a a' l x g g' k wr):=oZ ha ha' hx ⟨HL.I.1.below HB.I,HL.I.2.below HB.I,HB.I⟩;clear hx;rw [ha,ha'];clear ha ha';go_wp2_with fail;refine aT (uF w a a' l x g g' k) (by kernel_rfl) (oZ HX.I.1 HX.I.2.1 HX.I.2.2 ⟨HS.I.2.I.1.below (Kp _ _).drew,HS.I.2.I.2.1.below (Kp _ _).drew,HS.I.2.I.2.2.drew⟩) ?_
   iterate 8 (refine PI ?_ (hy:=fun w0 hS0=>by obtain ⟨⟨⟨q0,q1,q2⟩,⟨r0,r1,r2⟩⟩,hH⟩:=hS0; go_simp; try with_reducible rfl))
   refine cl (.bool true) 113 #[.agg #[.int .i64 x.id,.bool x.shown,.string x.text],.agg #[.int .i64 x.id,.bool x.shown,.string x.text]] ?_ ?_ ?_
   ·intro w0 hS0
    obtain ⟨⟨⟨q0,q1,q2⟩,⟨r0,r1,r2⟩⟩,hH⟩:=hS0
    go_simp
    try with_reducible rfl
   ·intro w0 hS0
    refine (EW x w0).mono ?_;rintro e w2 ⟨rfl,hb2⟩;exact ⟨rfl,oZ HX.I.1 HX.I.2.1 HX.I.2.2 ⟨hS0.2.I.1.below hb2,hS0.2.I.2.1.below hb2,hS0.2.I.2.2.trans (hb2.mono hS0.2.I.2.2.size)⟩⟩
   simp only [pt,sb,s0,s1]
   (refine PI ?_ (hy:=fun w0 hS0=>by obtain ⟨⟨⟨q0,q1,q2⟩,⟨r0,r1,r2⟩⟩,hH⟩:=hS0; go_simp; try with_reducible rfl))
   refine bk (by kernel_rfl) ?_ _;intro w1 cm;have HZ:Hid (Below w.heap.size w w1):=cm.2.I.2.2;clear cm;go_wp2;go_roundw
   case rel=>exact ⟨k+1,by omega,by go_num,HZ.I⟩
   case measure=>simp [intOf]; omega
  ·have i1: ¬ (k:Int) < (l.length:Int):=by omega
   go_wp2;go_ret;exact ⟨rfl,HB.I⟩
end Go.Proofs.YteidkehoekbcaaaGreat

namespace Go.Proofs.YteidkehoekbcaaaGreat
open Go.RowKit
attribute [local go_sem ↓] Kc Kd
def AT (l:List dN):Prop:=l.length≤1048576∧ ∀ x∈l,x.2.2.2.size≤1048576
theorem Io (a:Option Addr) (l:List dN) (cap:Nat) (left:Int) (w:World) (hl:l.length≤maxLen) (hc:fk.ep w a l) (hs: ∀ x∈l,(x.2.2.2.size≤maxLen)) (h0:0≤left) (h1:left≤1048576):
  Calls J3 166 #[.slice a l.length cap,.int .i64 left] w fun e w'=>jZ w left (l.length) (AT l) e w':=by
 have hl':=hl;unfold maxLen at hl';by_cases hn:left - (l.length:Int) < 0
 ·go_enter Tryz.func166,Tryz.ntmps166
  go_wp2;go_ret;exact cT (Kp _ _) h0
 have HC:Hid (fk.ep w a l∧ ∀ x∈l,(x.2.2.2.size≤maxLen)):=⟨hc,hs⟩
 clear hc hs hl
 go_enter Tryz.func166,Tryz.ntmps166
 go_wp2_with fail
 go_loopw [1,5] (fun q i wr=> ∃ (k:Nat) (r:Int),k≤l.length∧i= .int .i64 k∧q= .int .i64 r∧0≤r∧r≤left - (l.length:Int)∧Hid ((∀ x∈l.take k,(x.2.2.2.size≤1048576))∧Below w.heap.size w wr)) (fun _ i _=>l.length - (intOf i).toNat)
 case atStart=>exact ⟨0,left - (l.length:Int),Ky _,rfl,rfl,by omega,by omega,⟨by simp,Kp _ _⟩⟩
 case round=>
  obtain ⟨k,r,hk,rfl,rfl,r0,r1,HA⟩:=hrel;by_cases hlt:k < l.length
  ·have i0:(0:Int)≤(k:Int):=by omega
   have i1:(k:Int) < (l.length:Int):=by omega
   obtain ⟨x,hx⟩: ∃ x,l[k]? =some x:=⟨_,Kz hlt⟩
   have hmem:=KA hx;obtain ⟨b,off,rfl,hat⟩:=(HC.I.1.below HA.I.2).at hx;have c0:wr.cell? ⟨b,off+k * 4,none⟩=some (.int .i64 x.1):=hat 0 _ rfl;have c1:wr.cell? ⟨b,off+k * 4+1,none⟩=some (.int .i64 x.2.1):=hat 1 _ rfl;have c2:wr.cell? ⟨b,off+k * 4+2,none⟩=some (.int .i64 x.2.2.1):=hat 2 _ rfl;have c3:wr.cell? ⟨b,off+k * 4+3,none⟩=some (.string x.2.2.2):=hat 3 _ rfl;have HX:Hid (l[k]? =some x∧(x.2.2.2.size≤maxLen)):=⟨hx,HC.I.2 x hmem⟩
   clear hx hmem hat;go_wp2_with fail;refine (GA x.1 x.2.1 x.2.2.1 x.2.2.2 r wr HX.I.2 r0 (by omega)).mono ?_;rintro e w1 ⟨rfl,hb1⟩;have fQ:Hid (Below w.heap.size w w1):=HA.I.2.trans (hb1.mono HA.I.2.size);clear hb1 c0 c1 c2 c3;by_cases hsz:r < x.2.2.2.size
   ·rw [Bj hsz]
    go_wp2;go_ret;exact cT fQ.I h0
   rw [AQ (by omega)];have hnn: ¬ r - (x.2.2.2.size:Int) < 0:=by omega
   go_wp2;go_roundw
   case rel=>exact ⟨k+1,r - x.2.2.2.size,by omega,by go_num,rfl,by omega,by omega,⟨nE HX.I.1 HA.I.1 (by omega),fQ.I⟩⟩
   case measure=>simp [intOf]; omega
  ·have i1: ¬ (k:Int) < (l.length:Int):=by omega
   go_wp2;go_ret;exact ⟨r,rfl,by omega,by omega,fun _=>⟨(show AT l from ⟨by omega,po (by omega) HA.I.1⟩),by omega⟩,HA.I.2⟩
theorem infoOp:(Tryz.prog.info? 234).map (fun i=>(i.zero,i.size,decide (i.bytes≤1000)))=some (some (.agg #[.int .i64 0,.int .i64 0,.int .i64 0,.string ⟨#[]⟩]),4,true):=by kernel_rfl
theorem makeOp (n:Nat) (hn:n≤1048576) (w:World):
  (Instr.makeSlice 146 (.int .i64 (n:Int)) (.int .i64 (n:Int))).run J3 w= .ok (.slice (some ⟨w.heap.size,0,none⟩) n n) (w.alloc (.cells (madeCells #[.int .i64 0,.int .i64 0,.int .i64 0,.string ⟨#[]⟩] (n * 4)) 234)):=by
 obtain ⟨i,hi,e⟩:=Kw.1 infoOp;simp only [Kx,decide_eq_true_eq] at e;obtain ⟨e1,e2,e3⟩:=e;have hby:n * i.bytes≤1048576 * 1000:=Nat.mul_le_mul hn e3
 have:=run_make (P:=J3) w 146 234 i _ Tryz.underlying146 hi e1 .i64 .i64 n n (by omega) (by omega) (by rw [Nat.mul_comm] at hby; first | omega | (rw [Nat.mul_comm]; omega)) (by omega)
 rw [this,e2];simp [Value.cells]
theorem Jc (a:Option Addr) (l:List dN) (cap:Nat) (w:World) (hl:l.length≤1048576) (hc:fk.ep w a l):
  Calls J3 168 #[.slice a l.length cap] w fun e w'=>e= .returned (.slice (some ⟨w.heap.size,0,none⟩) l.length l.length)∧w'.ownsRow w.heap.size 234 4 (.slice (some ⟨w.heap.size,0,none⟩) l.length l.length) l.length (fk.flat l)∧Below w.heap.size w w':=by
 have hmk:=makeOp l.length hl;have HC:Hid (fk.ep w a l):=hc;have HF:Hid (gb fk 234 w (w.alloc (.cells (madeCells #[.int .i64 0,.int .i64 0,.int .i64 0,.string ⟨#[]⟩] (l.length * 4)) 234)) l.length []):=gb.start (by rw [size_madeCells]; rfl);clear hc
 go_enter Tryz.func168,Tryz.ntmps168
 go_wp2_with fail
 go_loopw [4] (fun i wr=> ∃ k:Nat,k≤l.length∧i= .int .i64 k∧Hid (gb fk 234 w wr l.length (l.take k))) (fun i _=>l.length - (intOf i).toNat)
 case atStart=>exact ⟨0,Ky _,rfl,HF.I⟩
 case round=>
  clear hmk HF;obtain ⟨k,hk,rfl,HR⟩:=hrel;by_cases hlt:k < l.length
  ·have i0:(0:Int)≤(k:Int):=by omega
   have i1:(k:Int) < (l.length:Int):=by omega
   obtain ⟨x,hx⟩: ∃ x,l[k]? =some x:=⟨_,Kz hlt⟩
   obtain ⟨b,off,rfl,hat⟩:=(HC.I.below HR.I.cd).at hx;have c0:wr.cell? ⟨b,off+k * 4,none⟩=some (.int .i64 x.1):=hat 0 _ rfl;have c1:wr.cell? ⟨b,off+k * 4+1,none⟩=some (.int .i64 x.2.1):=hat 1 _ rfl;have c2:wr.cell? ⟨b,off+k * 4+2,none⟩=some (.int .i64 x.2.2.1):=hat 2 _ rfl;have c3:wr.cell? ⟨b,off+k * 4+3,none⟩=some (.string x.2.2.2):=hat 3 _ rfl;have HX:Hid (l[k]? =some x):=hx;have hfl:=HR.I.lt;clear hx hat;go_wp2_with fail;refine (Hg x.1 x.2.1 x.2.2.1 x.2.2.2 wr).mono ?_;rintro e w1 ⟨rfl,hb1⟩;have pG:Hid (gb fk 234 w w1 l.length (l.take k)):=HR.I.below hb1;obtain ⟨⟨u,hu⟩,hf⟩:=pG.I.at;have d0:=hu (k * 4) (by show k * 4 < l.length * 4; omega);have f0:=hf (k * 4);have d1:=hu (k * 4+1) (by show k * 4+1 < l.length * 4; omega);have f1:=hf (k * 4+1);have d2:=hu (k * 4+2) (by show k * 4+2 < l.length * 4; omega);have f2:=hf (k * 4+2);have d3:=hu (k * 4+3) (by show k * 4+3 < l.length * 4; omega);have f3:=hf (k * 4+3);have HS:Hid (gb fk 234 w ((((w1.setCell ⟨w.heap.size,k * 4,none⟩ (.int .i64 x.1)).setCell ⟨w.heap.size,k * 4+1,none⟩ (.int .i64 x.2.1)).setCell ⟨w.heap.size,k * 4+2,none⟩ (.int .i64 x.2.2.1)).setCell ⟨w.heap.size,k * 4+3,none⟩ (.string x.2.2.2)) l.length (l.take (k+1))):=by
    have h5:=pG.I.more (by rw [Lk]; omega) x;rw [← cj HX.I,Lk,Nat.min_eq_left hk,show fk.vals x= [.int .i64 x.1,.int .i64 x.2.1,.int .i64 x.2.2.1,.string x.2.2.2] from rfl,show fk.n=4 from rfl] at h5;simp only [bn,Nat.add_assoc,Nat.reduceAdd] at h5;exact h5
   clear hu hf hb1 HR pG c0 c1 c2 c3;go_wp2;go_roundw
   case rel=>exact ⟨k+1,by omega,by go_num,HS.I⟩
   case measure=>simp [intOf]; omega
  ·have i1: ¬ (k:Int) < (l.length:Int):=by omega
   have ek:k=l.length:=by omega
   subst ek;go_wp2;go_ret;have h6:=HR.I.done (by rw [Lk]; omega) (by unfold maxLen; omega);rw [LQ] at h6;exact ⟨rfl,h6,HR.I.cd⟩
def Hk (w:World) (a a':Option Addr) (l:List dN) (x:dN) (g g' k:Nat) (w':World):Prop:=((w'.cell? ⟨g,k * 4,none⟩=some (.int .i64 x.1)∧w'.cell? ⟨g,k * 4+1,none⟩=some (.int .i64 x.2.1)∧w'.cell? ⟨g,k * 4+2,none⟩=some (.int .i64 x.2.2.1)∧w'.cell? ⟨g,k * 4+3,none⟩=some (.string x.2.2.2))∧(w'.cell? ⟨g',k * 4,none⟩=some (.int .i64 x.1)∧w'.cell? ⟨g',k * 4+1,none⟩=some (.int .i64 x.2.1)∧w'.cell? ⟨g',k * 4+2,none⟩=some (.int .i64 x.2.2.1)∧w'.cell? ⟨g',k * 4+3,none⟩=some (.string x.2.2.2)))∧Hid (fk.bU w' a l∧fk.bU w' a' l∧Below w.heap.size w w')
theorem ux {w w':World} {a a':Option Addr} {l:List dN} {x:dN} {g g' k:Nat} (ha:a=some ⟨g,0,none⟩) (ha':a'=some ⟨g',0,none⟩) (hx:l[k]? =some x) (h:fk.bU w' a l∧fk.bU w' a' l∧Below w.heap.size w w'):Hk w a a' l x g g' k w':=by
 obtain ⟨g1,e1,h1⟩:=h.1.at hx;obtain ⟨g2,e2,h2⟩:=h.2.1.at hx;rw [ha] at e1;rw [ha'] at e2;cases e1;cases e2;exact ⟨⟨⟨h1 0 _ rfl,h1 1 _ rfl,h1 2 _ rfl,h1 3 _ rfl⟩,⟨h2 0 _ rfl,h2 1 _ rfl,h2 2 _ rfl,h2 3 _ rfl⟩⟩,h⟩
theorem I6 (a a':Option Addr) (l:List dN) (cap cap':Nat) (w:World) (hl:l.length≤1048576) (h:fk.bU w a l) (h':fk.bU w a' l):
  Calls J3 155 #[.slice a l.length cap,.slice a' l.length cap'] w fun e w'=>e= .returned (.bool true)∧Below w.heap.size w w':=by
 have HL:Hid (fk.bU w a l∧fk.bU w a' l):=⟨h,h'⟩
 clear h h'
 go_enter Tryz.func155,Tryz.ntmps155
 go_wp2_with fail
 go_loopw [5] (fun i wr=> ∃ k:Nat,k≤l.length∧i= .int .i64 k∧Hid (Below w.heap.size w wr)) (fun i _=>l.length - (intOf i).toNat)
 case atStart=>exact ⟨0,Ky _,rfl,Kp _ _⟩
 case round=>
  obtain ⟨k,hk,rfl,HB⟩:=hrel;by_cases hlt:k < l.length
  ·have i0:(0:Int)≤(k:Int):=by omega
   have i1:(k:Int) < (l.length:Int):=by omega
   obtain ⟨x,hx⟩: ∃ x,l[k]? =some x:=⟨_,Kz hlt⟩
   obtain ⟨g,ha,-⟩:=HL.I.1.at hx;obtain ⟨g',ha',-⟩:=HL.I.2.at hx;have HX:Hid (a=some ⟨g,0,none⟩∧a'=some ⟨g',0,none⟩∧l[k]? =some x):=⟨ha,ha',hx⟩
   have HS:Hid (Hk w a a' l x g g' k wr):=ux ha ha' hx ⟨HL.I.1.below HB.I,HL.I.2.below HB.I,HB.I⟩;clear hx;rw [ha,ha'];clear ha ha';go_wp2_with fail;refine aT (Hk w a a' l x g g' k) (by kernel_rfl) (ux HX.I.1 HX.I.2.1 HX.I.2.2 ⟨HS.I.2.I.1.below (Kp _ _).drew,HS.I.2.I.2.1.below (Kp _ _).drew,HS.I.2.I.2.2.drew⟩) ?_
   iterate 8 (refine PI ?_ (hy:=fun w0 hS0=>by obtain ⟨⟨⟨q0,q1,q2,q3⟩,⟨r0,r1,r2,r3⟩⟩,hH⟩:=hS0; go_simp; try with_reducible rfl))
   refine cl (.bool true) 194 #[.agg #[.int .i64 x.1,.int .i64 x.2.1,.int .i64 x.2.2.1,.string x.2.2.2],.agg #[.int .i64 x.1,.int .i64 x.2.1,.int .i64 x.2.2.1,.string x.2.2.2]] ?_ ?_ ?_
   ·intro w0 hS0
    obtain ⟨⟨⟨q0,q1,q2,q3⟩,⟨r0,r1,r2,r3⟩⟩,hH⟩:=hS0
    go_simp
    try with_reducible rfl
   ·intro w0 hS0
    refine (EN x.1 x.2.1 x.2.2.1 x.2.2.2 w0).mono ?_;rintro e w2 ⟨rfl,hb2⟩;exact ⟨rfl,ux HX.I.1 HX.I.2.1 HX.I.2.2 ⟨hS0.2.I.1.below hb2,hS0.2.I.2.1.below hb2,hS0.2.I.2.2.trans (hb2.mono hS0.2.I.2.2.size)⟩⟩
   simp only [pt,sb,s0,s1]
   (refine PI ?_ (hy:=fun w0 hS0=>by obtain ⟨⟨⟨q0,q1,q2,q3⟩,⟨r0,r1,r2,r3⟩⟩,hH⟩:=hS0; go_simp; try with_reducible rfl))
   refine bk (by kernel_rfl) ?_ _;intro w1 cm;have HZ:Hid (Below w.heap.size w w1):=cm.2.I.2.2;clear cm;go_wp2;go_roundw
   case rel=>exact ⟨k+1,by omega,by go_num,HZ.I⟩
   case measure=>simp [intOf]; omega
  ·have i1: ¬ (k:Int) < (l.length:Int):=by omega
   go_wp2;go_ret;exact ⟨rfl,HB.I⟩
end Go.Proofs.YteidkehoekbcaaaGreat

namespace Go.Proofs.YteidkehoekbcaaaGreat
open Go.RowKit
attribute [local go_sem ↓] Kc Kd
theorem UB (a:Option Addr) (l:List eQ) (cap:Nat) (left:Int) (w:World) (hl:l.length≤maxLen) (h0:0≤left) (h1:left≤1048576):
  Calls J3 33 #[.slice a l.length cap,.int .i64 left] w fun e w'=>jZ w left (l.length) (l.length≤1048576) e w':=by
 have hl':=hl;unfold maxLen at hl';by_cases hn:left - (l.length:Int) < 0
 ·go_enter Tryz.func33,Tryz.ntmps33
  go_wp2;go_ret;exact cT (Kp _ _) h0
 go_enter Tryz.func33,Tryz.ntmps33
 go_wp2;go_ret;exact ⟨left - (l.length:Int),rfl,by omega,by omega,fun _=>⟨by omega,by omega⟩,Kp _ _⟩
theorem U9 (x:eQ) (w:World):Calls J3 98 #[.agg #[.int .i64 x.src,.int .i64 x.ga,.int .i64 x.dst,.int .i64 x.hI]] w fun e w'=>e= .returned (.agg #[.int .i64 x.src,.int .i64 x.ga,.int .i64 x.dst,.int .i64 x.hI])∧Below w.heap.size w w':=by
 go_enter Tryz.func98,Tryz.ntmps98
 go_wp2;exact KT (v:= .agg #[.int .i64 x.src,.int .i64 x.ga,.int .i64 x.dst,.int .i64 x.hI]) (by simp [results,Tryz.results98,go_sem]) rfl ⟨rfl,by go_grown⟩
theorem UZ:(Tryz.prog.info? 80).map (fun i=>(i.zero,i.size,decide (i.bytes≤1000)))=some (some (.agg #[.int .i64 0,.int .i64 0,.int .i64 0,.int .i64 0]),4,true):=by kernel_rfl
theorem makeChan (n:Nat) (hn:n≤1048576) (w:World):
  (Instr.makeSlice 35 (.int .i64 (n:Int)) (.int .i64 (n:Int))).run J3 w= .ok (.slice (some ⟨w.heap.size,0,none⟩) n n) (w.alloc (.cells (madeCells #[.int .i64 0,.int .i64 0,.int .i64 0,.int .i64 0] (n * 4)) 80)):=by
 obtain ⟨i,hi,e⟩:=Kw.1 UZ;simp only [Kx,decide_eq_true_eq] at e;obtain ⟨e1,e2,e3⟩:=e;have hby:n * i.bytes≤1048576 * 1000:=Nat.mul_le_mul hn e3
 have:=run_make (P:=J3) w 35 80 i _ Tryz.underlying35 hi e1 .i64 .i64 n n (by omega) (by omega) (by rw [Nat.mul_comm] at hby; first | omega | (rw [Nat.mul_comm]; omega)) (by omega)
 rw [this,e2];simp [Value.cells]
theorem UG (a:Option Addr) (l:List eQ) (cap:Nat) (w:World) (hl:l.length≤1048576) (hc:hM.ep w a l):
  Calls J3 40 #[.slice a l.length cap] w fun e w'=>e= .returned (.slice (some ⟨w.heap.size,0,none⟩) l.length l.length)∧w'.ownsRow w.heap.size 80 4 (.slice (some ⟨w.heap.size,0,none⟩) l.length l.length) l.length (hM.flat l)∧Below w.heap.size w w':=by
 have hmk:=makeChan l.length hl;have HC:Hid (hM.ep w a l):=hc;have HF:Hid (gb hM 80 w (w.alloc (.cells (madeCells #[.int .i64 0,.int .i64 0,.int .i64 0,.int .i64 0] (l.length * 4)) 80)) l.length []):=gb.start (by rw [size_madeCells]; rfl);clear hc
 go_enter Tryz.func40,Tryz.ntmps40
 go_wp2_with fail
 go_loopw [4] (fun i wr=> ∃ k:Nat,k≤l.length∧i= .int .i64 k∧Hid (gb hM 80 w wr l.length (l.take k))) (fun i _=>l.length - (intOf i).toNat)
 case atStart=>exact ⟨0,Ky _,rfl,HF.I⟩
 case round=>
  clear hmk HF;obtain ⟨k,hk,rfl,HR⟩:=hrel;by_cases hlt:k < l.length
  ·have i0:(0:Int)≤(k:Int):=by omega
   have i1:(k:Int) < (l.length:Int):=by omega
   obtain ⟨x,hx⟩: ∃ x,l[k]? =some x:=⟨_,Kz hlt⟩
   obtain ⟨b,off,rfl,hat⟩:=(HC.I.below HR.I.cd).at hx;have c0:wr.cell? ⟨b,off+k * 4,none⟩=some (.int .i64 x.src):=hat 0 _ rfl;have c1:wr.cell? ⟨b,off+k * 4+1,none⟩=some (.int .i64 x.ga):=hat 1 _ rfl;have c2:wr.cell? ⟨b,off+k * 4+2,none⟩=some (.int .i64 x.dst):=hat 2 _ rfl;have c3:wr.cell? ⟨b,off+k * 4+3,none⟩=some (.int .i64 x.hI):=hat 3 _ rfl;have HX:Hid (l[k]? =some x):=hx;have hfl:=HR.I.lt;clear hx hat;go_wp2_with fail;refine (U9 x wr).mono ?_;rintro e w1 ⟨rfl,hb1⟩;have pG:Hid (gb hM 80 w w1 l.length (l.take k)):=HR.I.below hb1;obtain ⟨⟨u,hu⟩,hf⟩:=pG.I.at;have d0:=hu (k * 4) (by show k * 4 < l.length * 4; omega);have f0:=hf (k * 4);have d1:=hu (k * 4+1) (by show k * 4+1 < l.length * 4; omega);have f1:=hf (k * 4+1);have d2:=hu (k * 4+2) (by show k * 4+2 < l.length * 4; omega);have f2:=hf (k * 4+2);have d3:=hu (k * 4+3) (by show k * 4+3 < l.length * 4; omega);have f3:=hf (k * 4+3);have HS:Hid (gb hM 80 w ((((w1.setCell ⟨w.heap.size,k * 4,none⟩ (.int .i64 x.src)).setCell ⟨w.heap.size,k * 4+1,none⟩ (.int .i64 x.ga)).setCell ⟨w.heap.size,k * 4+2,none⟩ (.int .i64 x.dst)).setCell ⟨w.heap.size,k * 4+3,none⟩ (.int .i64 x.hI)) l.length (l.take (k+1))):=by
    have h5:=pG.I.more (by rw [Lk]; omega) x;rw [← cj HX.I,Lk,Nat.min_eq_left hk,show hM.vals x= [.int .i64 x.src,.int .i64 x.ga,.int .i64 x.dst,.int .i64 x.hI] from rfl,show hM.n=4 from rfl] at h5;simp only [bn,Nat.add_assoc,Nat.reduceAdd] at h5;exact h5
   clear hu hf hb1 HR pG c0 c1 c2 c3;go_wp2;go_roundw
   case rel=>exact ⟨k+1,by omega,by go_num,HS.I⟩
   case measure=>simp [intOf]; omega
  ·have i1: ¬ (k:Int) < (l.length:Int):=by omega
   have ek:k=l.length:=by omega
   subst ek;go_wp2;go_ret;have h6:=HR.I.done (by rw [Lk]; omega) (by unfold maxLen; omega);rw [LQ] at h6;exact ⟨rfl,h6,HR.I.cd⟩
theorem U4 (x:eQ) (w:World):Calls J3 103 #[.agg #[.int .i64 x.src,.int .i64 x.ga,.int .i64 x.dst,.int .i64 x.hI],.agg #[.int .i64 x.src,.int .i64 x.ga,.int .i64 x.dst,.int .i64 x.hI]] w fun e w'=>e= .returned (.bool true)∧Below w.heap.size w w':=by
 go_enter Tryz.func103,Tryz.ntmps103
 go_wp2;go_ret;exact ⟨al (by simp),by go_grown⟩
def TD (w:World) (a a':Option Addr) (l:List eQ) (x:eQ) (g g' k:Nat) (w':World):Prop:=((w'.cell? ⟨g,k * 4,none⟩=some (.int .i64 x.src)∧w'.cell? ⟨g,k * 4+1,none⟩=some (.int .i64 x.ga)∧w'.cell? ⟨g,k * 4+2,none⟩=some (.int .i64 x.dst)∧w'.cell? ⟨g,k * 4+3,none⟩=some (.int .i64 x.hI))∧(w'.cell? ⟨g',k * 4,none⟩=some (.int .i64 x.src)∧w'.cell? ⟨g',k * 4+1,none⟩=some (.int .i64 x.ga)∧w'.cell? ⟨g',k * 4+2,none⟩=some (.int .i64 x.dst)∧w'.cell? ⟨g',k * 4+3,none⟩=some (.int .i64 x.hI)))∧Hid (hM.bU w' a l∧hM.bU w' a' l∧Below w.heap.size w w')
theorem zi {w w':World} {a a':Option Addr} {l:List eQ} {x:eQ} {g g' k:Nat} (ha:a=some ⟨g,0,none⟩) (ha':a'=some ⟨g',0,none⟩) (hx:l[k]? =some x) (h:hM.bU w' a l∧hM.bU w' a' l∧Below w.heap.size w w'):TD w a a' l x g g' k w':=by
 obtain ⟨g1,e1,h1⟩:=h.1.at hx;obtain ⟨g2,e2,h2⟩:=h.2.1.at hx;rw [ha] at e1;rw [ha'] at e2;cases e1;cases e2;exact ⟨⟨⟨h1 0 _ rfl,h1 1 _ rfl,h1 2 _ rfl,h1 3 _ rfl⟩,⟨h2 0 _ rfl,h2 1 _ rfl,h2 2 _ rfl,h2 3 _ rfl⟩⟩,h⟩
theorem UC (a a':Option Addr) (l:List eQ) (cap cap':Nat) (w:World) (hl:l.length≤1048576) (h:hM.bU w a l) (h':hM.bU w a' l):
  Calls J3 44 #[.slice a l.length cap,.slice a' l.length cap'] w fun e w'=>e= .returned (.bool true)∧Below w.heap.size w w':=by
 have HL:Hid (hM.bU w a l∧hM.bU w a' l):=⟨h,h'⟩
 clear h h'
 go_enter Tryz.func44,Tryz.ntmps44
 go_wp2_with fail
 go_loopw [5] (fun i wr=> ∃ k:Nat,k≤l.length∧i= .int .i64 k∧Hid (Below w.heap.size w wr)) (fun i _=>l.length - (intOf i).toNat)
 case atStart=>exact ⟨0,Ky _,rfl,Kp _ _⟩
 case round=>
  obtain ⟨k,hk,rfl,HB⟩:=hrel;by_cases hlt:k < l.length
  ·have i0:(0:Int)≤(k:Int):=by omega
   have i1:(k:Int) < (l.length:Int):=by omega
   obtain ⟨x,hx⟩: ∃ x,l[k]? =some x:=⟨_,Kz hlt⟩
   obtain ⟨g,ha,-⟩:=HL.I.1.at hx;obtain ⟨g',ha',-⟩:=HL.I.2.at hx;have HX:Hid (a=some ⟨g,0,none⟩∧a'=some ⟨g',0,none⟩∧l[k]? =some x):=⟨ha,ha',hx⟩
   have HS:Hid (TD w a a' l x g g' k wr):=zi ha ha' hx ⟨HL.I.1.below HB.I,HL.I.2.below HB.I,HB.I⟩;clear hx;rw [ha,ha'];clear ha ha';go_wp2_with fail;refine aT (TD w a a' l x g g' k) (by kernel_rfl) (zi HX.I.1 HX.I.2.1 HX.I.2.2 ⟨HS.I.2.I.1.below (Kp _ _).drew,HS.I.2.I.2.1.below (Kp _ _).drew,HS.I.2.I.2.2.drew⟩) ?_
   iterate 8 (refine yl (v:= ?_) ?_ ?_; rotate_left; (intro w0 hS0; obtain ⟨⟨⟨q0,q1,q2,q3⟩,⟨r0,r1,r2,r3⟩⟩,hH⟩:=hS0; go_simp; try with_reducible rfl); simp only [pt,sb,s0,s1])
   refine cl (.bool true) 103 #[.agg #[.int .i64 x.src,.int .i64 x.ga,.int .i64 x.dst,.int .i64 x.hI],.agg #[.int .i64 x.src,.int .i64 x.ga,.int .i64 x.dst,.int .i64 x.hI]] ?_ ?_ ?_
   ·intro w0 hS0
    obtain ⟨⟨⟨q0,q1,q2,q3⟩,⟨r0,r1,r2,r3⟩⟩,hH⟩:=hS0
    go_simp
    try with_reducible rfl
   ·intro w0 hS0
    refine (U4 x w0).mono ?_;rintro e w2 ⟨rfl,hb2⟩;exact ⟨rfl,zi HX.I.1 HX.I.2.1 HX.I.2.2 ⟨hS0.2.I.1.below hb2,hS0.2.I.2.1.below hb2,hS0.2.I.2.2.trans (hb2.mono hS0.2.I.2.2.size)⟩⟩
   simp only [pt,sb,s0,s1]
   (refine yl (v:= ?_) ?_ ?_; rotate_left; (intro w0 hS0; obtain ⟨⟨⟨q0,q1,q2,q3⟩,⟨r0,r1,r2,r3⟩⟩,hH⟩:=hS0; go_simp; try with_reducible rfl); simp only [pt,sb,s0,s1])
   refine bk (by kernel_rfl) ?_ _;intro w1 cm;have HZ:Hid (Below w.heap.size w w1):=cm.2.I.2.2;clear cm;go_wp2;go_roundw
   case rel=>exact ⟨k+1,by omega,by go_num,HZ.I⟩
   case measure=>simp [intOf]; omega
  ·have i1: ¬ (k:Int) < (l.length:Int):=by omega
   go_wp2;go_ret;exact ⟨rfl,HB.I⟩
end Go.Proofs.YteidkehoekbcaaaGreat

namespace Go.Proofs.YteidkehoekbcaaaGreat
open Go.RowKit
attribute [local go_sem ↓] Kc Kd
theorem Va (a:Option Addr) (l:List pA) (cap:Nat) (left:Int) (w:World) (hl:l.length≤maxLen) (h0:0≤left) (h1:left≤1048576):
  Calls J3 93 #[.slice a l.length cap,.int .i64 left] w fun e w'=>jZ w left (l.length) (l.length≤1048576) e w':=by
 have hl':=hl;unfold maxLen at hl';by_cases hn:left - (l.length:Int) < 0
 ·go_enter Tryz.func93,Tryz.ntmps93
  go_wp2;go_ret;exact cT (Kp _ _) h0
 go_enter Tryz.func93,Tryz.ntmps93
 go_wp2;go_ret;exact ⟨left - (l.length:Int),rfl,by omega,by omega,fun _=>⟨by omega,by omega⟩,Kp _ _⟩
theorem VA (x:pA) (w:World):Calls J3 144 #[.agg #[.int .i64 x.at_,.int .i64 x.len,.int .i64 x.part]] w fun e w'=>e= .returned (.agg #[.int .i64 x.at_,.int .i64 x.len,.int .i64 x.part])∧Below w.heap.size w w':=by
 go_enter Tryz.func144,Tryz.ntmps144
 go_wp2;exact KT (v:= .agg #[.int .i64 x.at_,.int .i64 x.len,.int .i64 x.part]) (by simp [results,Tryz.results144,go_sem]) rfl ⟨rfl,by go_grown⟩
theorem Vt:(Tryz.prog.info? 100).map (fun i=>(i.zero,i.size,decide (i.bytes≤1000)))=some (some (.agg #[.int .i64 0,.int .i64 0,.int .i64 0]),3,true):=by kernel_rfl
theorem Vr (n:Nat) (hn:n≤1048576) (w:World):
  (Instr.makeSlice 31 (.int .i64 (n:Int)) (.int .i64 (n:Int))).run J3 w= .ok (.slice (some ⟨w.heap.size,0,none⟩) n n) (w.alloc (.cells (madeCells #[.int .i64 0,.int .i64 0,.int .i64 0] (n * 3)) 100)):=by
 obtain ⟨i,hi,e⟩:=Kw.1 Vt;simp only [Kx,decide_eq_true_eq] at e;obtain ⟨e1,e2,e3⟩:=e;have hby:n * i.bytes≤1048576 * 1000:=Nat.mul_le_mul hn e3
 have:=run_make (P:=J3) w 31 100 i _ Tryz.underlying31 hi e1 .i64 .i64 n n (by omega) (by omega) (by rw [Nat.mul_comm] at hby; first | omega | (rw [Nat.mul_comm]; omega)) (by omega)
 rw [this,e2];simp [Value.cells]
theorem Vd (a:Option Addr) (l:List pA) (cap:Nat) (w:World) (hl:l.length≤1048576) (hc:jq.ep w a l):
  Calls J3 97 #[.slice a l.length cap] w fun e w'=>e= .returned (.slice (some ⟨w.heap.size,0,none⟩) l.length l.length)∧w'.ownsRow w.heap.size 100 3 (.slice (some ⟨w.heap.size,0,none⟩) l.length l.length) l.length (jq.flat l)∧Below w.heap.size w w':=by
 have hmk:=Vr l.length hl;have HC:Hid (jq.ep w a l):=hc;have HF:Hid (gb jq 100 w (w.alloc (.cells (madeCells #[.int .i64 0,.int .i64 0,.int .i64 0] (l.length * 3)) 100)) l.length []):=gb.start (by rw [size_madeCells]; rfl);clear hc
 go_enter Tryz.func97,Tryz.ntmps97
 go_wp2_with fail
 go_loopw [4] (fun i wr=> ∃ k:Nat,k≤l.length∧i= .int .i64 k∧Hid (gb jq 100 w wr l.length (l.take k))) (fun i _=>l.length - (intOf i).toNat)
 case atStart=>exact ⟨0,Ky _,rfl,HF.I⟩
 case round=>
  clear hmk HF;obtain ⟨k,hk,rfl,HR⟩:=hrel;by_cases hlt:k < l.length
  ·have i0:(0:Int)≤(k:Int):=by omega
   have i1:(k:Int) < (l.length:Int):=by omega
   obtain ⟨x,hx⟩: ∃ x,l[k]? =some x:=⟨_,Kz hlt⟩
   obtain ⟨b,off,rfl,hat⟩:=(HC.I.below HR.I.cd).at hx;have c0:wr.cell? ⟨b,off+k * 3,none⟩=some (.int .i64 x.at_):=hat 0 _ rfl;have c1:wr.cell? ⟨b,off+k * 3+1,none⟩=some (.int .i64 x.len):=hat 1 _ rfl;have c2:wr.cell? ⟨b,off+k * 3+2,none⟩=some (.int .i64 x.part):=hat 2 _ rfl;have HX:Hid (l[k]? =some x):=hx;have hfl:=HR.I.lt;clear hx hat;go_wp2_with fail;refine (VA x wr).mono ?_;rintro e w1 ⟨rfl,hb1⟩;have pG:Hid (gb jq 100 w w1 l.length (l.take k)):=HR.I.below hb1;obtain ⟨⟨u,hu⟩,hf⟩:=pG.I.at;have d0:=hu (k * 3) (by show k * 3 < l.length * 3; omega);have f0:=hf (k * 3);have d1:=hu (k * 3+1) (by show k * 3+1 < l.length * 3; omega);have f1:=hf (k * 3+1);have d2:=hu (k * 3+2) (by show k * 3+2 < l.length * 3; omega);have f2:=hf (k * 3+2);have HS:Hid (gb jq 100 w (((w1.setCell ⟨w.heap.size,k * 3,none⟩ (.int .i64 x.at_)).setCell ⟨w.heap.size,k * 3+1,none⟩ (.int .i64 x.len)).setCell ⟨w.heap.size,k * 3+2,none⟩ (.int .i64 x.part)) l.length (l.take (k+1))):=by
    have h5:=pG.I.more (by rw [Lk]; omega) x;rw [← cj HX.I,Lk,Nat.min_eq_left hk,show jq.vals x= [.int .i64 x.at_,.int .i64 x.len,.int .i64 x.part] from rfl,show jq.n=3 from rfl] at h5;simp only [bn,Nat.add_assoc,Nat.reduceAdd] at h5;exact h5
   clear hu hf hb1 HR pG c0 c1 c2;go_wp2;go_roundw
   case rel=>exact ⟨k+1,by omega,by go_num,HS.I⟩
   case measure=>simp [intOf]; omega
  ·have i1: ¬ (k:Int) < (l.length:Int):=by omega
   have ek:k=l.length:=by omega
   subst ek;go_wp2;go_ret;have h6:=HR.I.done (by rw [Lk]; omega) (by unfold maxLen; omega);rw [LQ] at h6;exact ⟨rfl,h6,HR.I.cd⟩
theorem Vw (x:pA) (w:World):Calls J3 148 #[.agg #[.int .i64 x.at_,.int .i64 x.len,.int .i64 x.part],.agg #[.int .i64 x.at_,.int .i64 x.len,.int .i64 x.part]] w fun e w'=>e= .returned (.bool true)∧Below w.heap.size w w':=by
 go_enter Tryz.func148,Tryz.ntmps148
 go_wp2;go_ret;exact ⟨al (by simp),by go_grown⟩
def Uf (w:World) (a a':Option Addr) (l:List pA) (x:pA) (g g' k:Nat) (w':World):Prop:=((w'.cell? ⟨g,k * 3,none⟩=some (.int .i64 x.at_)∧w'.cell? ⟨g,k * 3+1,none⟩=some (.int .i64 x.len)∧w'.cell? ⟨g,k * 3+2,none⟩=some (.int .i64 x.part))∧(w'.cell? ⟨g',k * 3,none⟩=some (.int .i64 x.at_)∧w'.cell? ⟨g',k * 3+1,none⟩=some (.int .i64 x.len)∧w'.cell? ⟨g',k * 3+2,none⟩=some (.int .i64 x.part)))∧Hid (jq.bU w' a l∧jq.bU w' a' l∧Below w.heap.size w w')
theorem H9 {w w':World} {a a':Option Addr} {l:List pA} {x:pA} {g g' k:Nat} (ha:a=some ⟨g,0,none⟩) (ha':a'=some ⟨g',0,none⟩) (hx:l[k]? =some x) (h:jq.bU w' a l∧jq.bU w' a' l∧Below w.heap.size w w'):Uf w a a' l x g g' k w':=by
 obtain ⟨g1,e1,h1⟩:=h.1.at hx;obtain ⟨g2,e2,h2⟩:=h.2.1.at hx;rw [ha] at e1;rw [ha'] at e2;cases e1;cases e2;exact ⟨⟨⟨h1 0 _ rfl,h1 1 _ rfl,h1 2 _ rfl⟩,⟨h2 0 _ rfl,h2 1 _ rfl,h2 2 _ rfl⟩⟩,h⟩
theorem UX (a a':Option Addr) (l:List pA) (cap cap':Nat) (w:World) (hl:l.length≤1048576) (h:jq.bU w a l) (h':jq.bU w a' l):
  Calls J3 102 #[.slice a l.length cap,.slice a' l.length cap'] w fun e w'=>e= .returned (.bool true)∧Below w.heap.size w w':=by
 have HL:Hid (jq.bU w a l∧jq.bU w a' l):=⟨h,h'⟩
 clear h h'
 go_enter Tryz.func102,Tryz.ntmps102
 go_wp2_with fail
 go_loopw [5] (fun i wr=> ∃ k:Nat,k≤l.length∧i= .int .i64 k∧Hid (Below w.heap.size w wr)) (fun i _=>l.length - (intOf i).toNat)
 case atStart=>exact ⟨0,Ky _,rfl,Kp _ _⟩
 case round=>
  obtain ⟨k,hk,rfl,HB⟩:=hrel;by_cases hlt:k < l.length
  ·have i0:(0:Int)≤(k:Int):=by omega
   have i1:(k:Int) < (l.length:Int):=by omega
   obtain ⟨x,hx⟩: ∃ x,l[k]? =some x:=⟨_,Kz hlt⟩
   obtain ⟨g,ha,-⟩:=HL.I.1.at hx;obtain ⟨g',ha',-⟩:=HL.I.2.at hx;have HX:Hid (a=some ⟨g,0,none⟩∧a'=some ⟨g',0,none⟩∧l[k]? =some x):=⟨ha,ha',hx⟩
   have HS:Hid (Uf w a a' l x g g' k wr):=H9 ha ha' hx ⟨HL.I.1.below HB.I,HL.I.2.below HB.I,HB.I⟩;clear hx;rw [ha,ha'];clear ha ha';go_wp2_with fail;refine aT (Uf w a a' l x g g' k) (by kernel_rfl) (H9 HX.I.1 HX.I.2.1 HX.I.2.2 ⟨HS.I.2.I.1.below (Kp _ _).drew,HS.I.2.I.2.1.below (Kp _ _).drew,HS.I.2.I.2.2.drew⟩) ?_
   iterate 8 (refine yl (v:= ?_) ?_ ?_; rotate_left; (intro w0 hS0; obtain ⟨⟨⟨q0,q1,q2⟩,⟨r0,r1,r2⟩⟩,hH⟩:=hS0; go_simp; try with_reducible rfl); simp only [pt,sb,s0,s1])
   refine cl (.bool true) 148 #[.agg #[.int .i64 x.at_,.int .i64 x.len,.int .i64 x.part],.agg #[.int .i64 x.at_,.int .i64 x.len,.int .i64 x.part]] ?_ ?_ ?_
   ·intro w0 hS0
    obtain ⟨⟨⟨q0,q1,q2⟩,⟨r0,r1,r2⟩⟩,hH⟩:=hS0
    go_simp
    try with_reducible rfl
   ·intro w0 hS0
    refine (Vw x w0).mono ?_;rintro e w2 ⟨rfl,hb2⟩;exact ⟨rfl,H9 HX.I.1 HX.I.2.1 HX.I.2.2 ⟨hS0.2.I.1.below hb2,hS0.2.I.2.1.below hb2,hS0.2.I.2.2.trans (hb2.mono hS0.2.I.2.2.size)⟩⟩
   simp only [pt,sb,s0,s1]
   (refine yl (v:= ?_) ?_ ?_; rotate_left; (intro w0 hS0; obtain ⟨⟨⟨q0,q1,q2⟩,⟨r0,r1,r2⟩⟩,hH⟩:=hS0; go_simp; try with_reducible rfl); simp only [pt,sb,s0,s1])
   refine bk (by kernel_rfl) ?_ _;intro w1 cm;have HZ:Hid (Below w.heap.size w w1):=cm.2.I.2.2;clear cm;go_wp2;go_roundw
   case rel=>exact ⟨k+1,by omega,by go_num,HZ.I⟩
   case measure=>simp [intOf]; omega
  ·have i1: ¬ (k:Int) < (l.length:Int):=by omega
   go_wp2;go_ret;exact ⟨rfl,HB.I⟩
end Go.Proofs.YteidkehoekbcaaaGreat

namespace Go.Proofs.YteidkehoekbcaaaGreat
open Go.RowKit
attribute [local go_sem ↓] Kc Kd
theorem Hq (a:Option Addr) (l:List bD) (cap:Nat) (left:Int) (w:World) (hl:l.length≤maxLen) (h0:0≤left) (h1:left≤1048576):
  Calls J3 79 #[.slice a l.length cap,.int .i64 left] w fun e w'=>jZ w left (l.length) (l.length≤1048576) e w':=by
 have hl':=hl;unfold maxLen at hl';by_cases hn:left - (l.length:Int) < 0
 ·go_enter Tryz.func79,Tryz.ntmps79
  go_wp2;go_ret;exact cT (Kp _ _) h0
 go_enter Tryz.func79,Tryz.ntmps79
 go_wp2;go_ret;exact ⟨left - (l.length:Int),rfl,by omega,by omega,fun _=>⟨by omega,by omega⟩,Kp _ _⟩
theorem Ja (x:bD) (w:World):Calls J3 135 #[.agg #[.int .i64 x.id,.int .i64 x.n,.int .i64 x.max]] w fun e w'=>e= .returned (.agg #[.int .i64 x.id,.int .i64 x.n,.int .i64 x.max])∧Below w.heap.size w w':=by
 go_enter Tryz.func135,Tryz.ntmps135
 go_wp2;exact KT (v:= .agg #[.int .i64 x.id,.int .i64 x.n,.int .i64 x.max]) (by simp [results,Tryz.results135,go_sem]) rfl ⟨rfl,by go_grown⟩
theorem Im:(Tryz.prog.info? 184).map (fun i=>(i.zero,i.size,decide (i.bytes≤1000)))=some (some (.agg #[.int .i64 0,.int .i64 0,.int .i64 0]),3,true):=by kernel_rfl
theorem Ir (n:Nat) (hn:n≤1048576) (w:World):
  (Instr.makeSlice 42 (.int .i64 (n:Int)) (.int .i64 (n:Int))).run J3 w= .ok (.slice (some ⟨w.heap.size,0,none⟩) n n) (w.alloc (.cells (madeCells #[.int .i64 0,.int .i64 0,.int .i64 0] (n * 3)) 184)):=by
 obtain ⟨i,hi,e⟩:=Kw.1 Im;simp only [Kx,decide_eq_true_eq] at e;obtain ⟨e1,e2,e3⟩:=e;have hby:n * i.bytes≤1048576 * 1000:=Nat.mul_le_mul hn e3
 have:=run_make (P:=J3) w 42 184 i _ Tryz.underlying42 hi e1 .i64 .i64 n n (by omega) (by omega) (by rw [Nat.mul_comm] at hby; first | omega | (rw [Nat.mul_comm]; omega)) (by omega)
 rw [this,e2];simp [Value.cells]
theorem Hf (a:Option Addr) (l:List bD) (cap:Nat) (w:World) (hl:l.length≤1048576) (hc:dm.ep w a l):
  Calls J3 85 #[.slice a l.length cap] w fun e w'=>e= .returned (.slice (some ⟨w.heap.size,0,none⟩) l.length l.length)∧w'.ownsRow w.heap.size 184 3 (.slice (some ⟨w.heap.size,0,none⟩) l.length l.length) l.length (dm.flat l)∧Below w.heap.size w w':=by
 have hmk:=Ir l.length hl;have HC:Hid (dm.ep w a l):=hc;have HF:Hid (gb dm 184 w (w.alloc (.cells (madeCells #[.int .i64 0,.int .i64 0,.int .i64 0] (l.length * 3)) 184)) l.length []):=gb.start (by rw [size_madeCells]; rfl);clear hc
 go_enter Tryz.func85,Tryz.ntmps85
 go_wp2_with fail
 go_loopw [4] (fun i wr=> ∃ k:Nat,k≤l.length∧i= .int .i64 k∧Hid (gb dm 184 w wr l.length (l.take k))) (fun i _=>l.length - (intOf i).toNat)
 case atStart=>exact ⟨0,Ky _,rfl,HF.I⟩
 case round=>
  clear hmk HF;obtain ⟨k,hk,rfl,HR⟩:=hrel;by_cases hlt:k < l.length
  ·have i0:(0:Int)≤(k:Int):=by omega
   have i1:(k:Int) < (l.length:Int):=by omega
   obtain ⟨x,hx⟩: ∃ x,l[k]? =some x:=⟨_,Kz hlt⟩
   obtain ⟨b,off,rfl,hat⟩:=(HC.I.below HR.I.cd).at hx;have c0:wr.cell? ⟨b,off+k * 3,none⟩=some (.int .i64 x.id):=hat 0 _ rfl;have c1:wr.cell? ⟨b,off+k * 3+1,none⟩=some (.int .i64 x.n):=hat 1 _ rfl;have c2:wr.cell? ⟨b,off+k * 3+2,none⟩=some (.int .i64 x.max):=hat 2 _ rfl;have HX:Hid (l[k]? =some x):=hx;have hfl:=HR.I.lt;clear hx hat;go_wp2_with fail;refine (Ja x wr).mono ?_;rintro e w1 ⟨rfl,hb1⟩;have pG:Hid (gb dm 184 w w1 l.length (l.take k)):=HR.I.below hb1;obtain ⟨⟨u,hu⟩,hf⟩:=pG.I.at;have d0:=hu (k * 3) (by show k * 3 < l.length * 3; omega);have f0:=hf (k * 3);have d1:=hu (k * 3+1) (by show k * 3+1 < l.length * 3; omega);have f1:=hf (k * 3+1);have d2:=hu (k * 3+2) (by show k * 3+2 < l.length * 3; omega);have f2:=hf (k * 3+2);have HS:Hid (gb dm 184 w (((w1.setCell ⟨w.heap.size,k * 3,none⟩ (.int .i64 x.id)).setCell ⟨w.heap.size,k * 3+1,none⟩ (.int .i64 x.n)).setCell ⟨w.heap.size,k * 3+2,none⟩ (.int .i64 x.max)) l.length (l.take (k+1))):=by
    have h5:=pG.I.more (by rw [Lk]; omega) x;rw [← cj HX.I,Lk,Nat.min_eq_left hk,show dm.vals x= [.int .i64 x.id,.int .i64 x.n,.int .i64 x.max] from rfl,show dm.n=3 from rfl] at h5;simp only [bn,Nat.add_assoc,Nat.reduceAdd] at h5;exact h5
   clear hu hf hb1 HR pG c0 c1 c2;go_wp2;go_roundw
   case rel=>exact ⟨k+1,by omega,by go_num,HS.I⟩
   case measure=>simp [intOf]; omega
  ·have i1: ¬ (k:Int) < (l.length:Int):=by omega
   have ek:k=l.length:=by omega
   subst ek;go_wp2;go_ret;have h6:=HR.I.done (by rw [Lk]; omega) (by unfold maxLen; omega);rw [LQ] at h6;exact ⟨rfl,h6,HR.I.cd⟩
theorem Is (x:bD) (w:World):Calls J3 111 #[.agg #[.int .i64 x.id,.int .i64 x.n,.int .i64 x.max],.agg #[.int .i64 x.id,.int .i64 x.n,.int .i64 x.max]] w fun e w'=>e= .returned (.bool true)∧Below w.heap.size w w':=by
 go_enter Tryz.func111,Tryz.ntmps111
 go_wp2;go_ret;exact ⟨al (by simp),by go_grown⟩
def Cy (w:World) (a a':Option Addr) (l:List bD) (x:bD) (g g' k:Nat) (w':World):Prop:=((w'.cell? ⟨g,k * 3,none⟩=some (.int .i64 x.id)∧w'.cell? ⟨g,k * 3+1,none⟩=some (.int .i64 x.n)∧w'.cell? ⟨g,k * 3+2,none⟩=some (.int .i64 x.max))∧(w'.cell? ⟨g',k * 3,none⟩=some (.int .i64 x.id)∧w'.cell? ⟨g',k * 3+1,none⟩=some (.int .i64 x.n)∧w'.cell? ⟨g',k * 3+2,none⟩=some (.int .i64 x.max)))∧Hid (dm.bU w' a l∧dm.bU w' a' l∧Below w.heap.size w w')
theorem sg {w w':World} {a a':Option Addr} {l:List bD} {x:bD} {g g' k:Nat} (ha:a=some ⟨g,0,none⟩) (ha':a'=some ⟨g',0,none⟩) (hx:l[k]? =some x) (h:dm.bU w' a l∧dm.bU w' a' l∧Below w.heap.size w w'):Cy w a a' l x g g' k w':=by
 obtain ⟨g1,e1,h1⟩:=h.1.at hx;obtain ⟨g2,e2,h2⟩:=h.2.1.at hx;rw [ha] at e1;rw [ha'] at e2;cases e1;cases e2;exact ⟨⟨⟨h1 0 _ rfl,h1 1 _ rfl,h1 2 _ rfl⟩,⟨h2 0 _ rfl,h2 1 _ rfl,h2 2 _ rfl⟩⟩,h⟩
theorem Hr (a a':Option Addr) (l:List bD) (cap cap':Nat) (w:World) (hl:l.length≤1048576) (h:dm.bU w a l) (h':dm.bU w a' l):
  Calls J3 49 #[.slice a l.length cap,.slice a' l.length cap'] w fun e w'=>e= .returned (.bool true)∧Below w.heap.size w w':=by
 have HL:Hid (dm.bU w a l∧dm.bU w a' l):=⟨h,h'⟩
 clear h h'
 go_enter Tryz.func49,Tryz.ntmps49
 go_wp2_with fail
 go_loopw [5] (fun i wr=> ∃ k:Nat,k≤l.length∧i= .int .i64 k∧Hid (Below w.heap.size w wr)) (fun i _=>l.length - (intOf i).toNat)
 case atStart=>exact ⟨0,Ky _,rfl,Kp _ _⟩
 case round=>
  obtain ⟨k,hk,rfl,HB⟩:=hrel;by_cases hlt:k < l.length
  ·have i0:(0:Int)≤(k:Int):=by omega
   have i1:(k:Int) < (l.length:Int):=by omega
   obtain ⟨x,hx⟩: ∃ x,l[k]? =some x:=⟨_,Kz hlt⟩
   obtain ⟨g,ha,-⟩:=HL.I.1.at hx;obtain ⟨g',ha',-⟩:=HL.I.2.at hx;have HX:Hid (a=some ⟨g,0,none⟩∧a'=some ⟨g',0,none⟩∧l[k]? =some x):=⟨ha,ha',hx⟩
   have HS:Hid (Cy w a a' l x g g' k wr):=sg ha ha' hx ⟨HL.I.1.below HB.I,HL.I.2.below HB.I,HB.I⟩;clear hx;rw [ha,ha'];clear ha ha';go_wp2_with fail;refine aT (Cy w a a' l x g g' k) (by kernel_rfl) (sg HX.I.1 HX.I.2.1 HX.I.2.2 ⟨HS.I.2.I.1.below (Kp _ _).drew,HS.I.2.I.2.1.below (Kp _ _).drew,HS.I.2.I.2.2.drew⟩) ?_
   iterate 8 (refine PI ?_ (hy:=fun w0 hS0=>by obtain ⟨⟨⟨q0,q1,q2⟩,⟨r0,r1,r2⟩⟩,hH⟩:=hS0; go_simp; try with_reducible rfl))
   refine cl (.bool true) 111 #[.agg #[.int .i64 x.id,.int .i64 x.n,.int .i64 x.max],.agg #[.int .i64 x.id,.int .i64 x.n,.int .i64 x.max]] ?_ ?_ ?_
   ·intro w0 hS0
    obtain ⟨⟨⟨q0,q1,q2⟩,⟨r0,r1,r2⟩⟩,hH⟩:=hS0
    go_simp
    try with_reducible rfl
   ·intro w0 hS0
    refine (Is x w0).mono ?_;rintro e w2 ⟨rfl,hb2⟩;exact ⟨rfl,sg HX.I.1 HX.I.2.1 HX.I.2.2 ⟨hS0.2.I.1.below hb2,hS0.2.I.2.1.below hb2,hS0.2.I.2.2.trans (hb2.mono hS0.2.I.2.2.size)⟩⟩
   simp only [pt,sb,s0,s1]
   (refine PI ?_ (hy:=fun w0 hS0=>by obtain ⟨⟨⟨q0,q1,q2⟩,⟨r0,r1,r2⟩⟩,hH⟩:=hS0; go_simp; try with_reducible rfl))
   refine bk (by kernel_rfl) ?_ _;intro w1 cm;have HZ:Hid (Below w.heap.size w w1):=cm.2.I.2.2;clear cm;go_wp2;go_roundw
   case rel=>exact ⟨k+1,by omega,by go_num,HZ.I⟩
   case measure=>simp [intOf]; omega
  ·have i1: ¬ (k:Int) < (l.length:Int):=by omega
   go_wp2;go_ret;exact ⟨rfl,HB.I⟩
end Go.Proofs.YteidkehoekbcaaaGreat
