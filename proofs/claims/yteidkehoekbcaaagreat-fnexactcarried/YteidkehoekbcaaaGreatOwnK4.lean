/- What the proof leans on, part 4. -/
import Derived.Test.YteidkehoekbcaaaGreatOwnK3
set_option maxRecDepth 100000
set_option maxHeartbeats 8000000
open Array renaming getElem?_eq_some_iff->J2
open Bool renaming and_eq_true->J7,and_false->PP,false_or->Qg
open Go renaming cell_of_row->K5,heap_alloc_new->Kj
open Go.Proofs.Tryz renaming prog->J3
open Go.RowKit.Below renaming refl->Kp
open List renaming all_eq_true->PZ,cons_append->Qw,filter_cons->LN,getElem?_eq_getElem->Kz,getElem?_eq_some_iff->Lj,getElem?_map->Kk,length_map->KG,map_cons->Lt,mem_append->Kg,mem_filter->L2,mem_map->Lr,mem_of_getElem?->KA,nil_append->Ll,nodup_cons->Lp,pairwise_cons->LM,take_append_drop->Qn,take_of_length_le->KF,take_succ_eq_append_getElem->QE
open Nat renaming le_refl->Ki,zero_le->Ky
open Option.some renaming inj->KC

namespace Go.Proofs.YteidkehoekbcaaaGreat
section
open Go.RowKit
theorem nh {l:List Int} {k:Nat} {id x:Int} (h:id∉l.take k) (hx:l[k]? =some x) (hne: ¬ x=id):id∉l.take (k+1):=by
 have hk:k < l.length:=(Lj.1 hx).1;rw [QE hk,Kg,List.mem_singleton];rw [Kz hk] at hx;cases hx;rintro (h1 | h1)
 ·exact h h1
 ·exact hne h1.symm
theorem jg {l:List Int} {k:Nat} {id:Int} (h:id∉l.take k) (hk:l.length≤k):place l id 0= -1:=by
 rw [KF hk] at h;exact nN.2 h
theorem lw (p:af) (id:Int) (w:World) (hl:p.aj.length≤1048576) (h:af.At w p):
  Calls J3 171 #[.agg p.cells,.int .i64 id] w fun e w'=>e= .returned (.int .i64 (place (p.aj.map (·.id)) id 0))∧Below w.heap.size w w':=by
 have H:Hid (dm.bU (w.alloc (.cells p.cells 48)) p.bc p.aj∧Below w.heap.size w (w.alloc (.cells p.cells 48))):=⟨h.2.1.below ((Kp _ _).alloc (Ki _) _),(Kp _ _).alloc (Ki _) _⟩
 have q:(w.alloc (.cells p.cells 48)).cell? ⟨w.heap.size,3,none⟩=some (.slice p.bc p.aj.length p.bF):=by rw [K5 _ _ _ _ _ _ (Kj _ _)]; rfl
 clear h;unfold af.cells at *
 go_enter Tryz.func171,Tryz.ntmps171
 go_wp2_with fail;generalize w.alloc (.cells p.row 48)=W at *
 go_loop [5] (fun i=> ∃ k:Nat,k≤p.aj.length∧i= .int .i64 k∧Hid (id∉(p.aj.map (·.id)).take k)) (fun i=>p.aj.length - (intOf i).toNat)
 case atStart=>exact ⟨0,Ky _,rfl,(by simp:id∉(p.aj.map (·.id)).take 0)⟩
 case round=>
  obtain ⟨k,hk,rfl,HA⟩:=hrel;by_cases hlt:k < p.aj.length
  ·have i0:(0:Int)≤(k:Int):=by omega
   have i1:(k:Int) < (p.aj.length:Int):=by omega
   obtain ⟨x,hx⟩: ∃ x,p.aj[k]? =some x:=⟨_,Kz hlt⟩
   have HX:Hid ((p.aj.map (·.id))[k]? =some x.id):=by show _=_; rw [Kk,hx]; rfl
   obtain ⟨g,ha,hat⟩:=lQ H.I.1 hx;have c0:=hat.1;rw [ha] at q;clear hat hx;by_cases hc:x.id=id
   ·have HC:Hid (x.id=id):=hc
    have h1:(x.id == id)=true:=by simp [hc]
    clear hc;go_wp2;go_ret;exact ⟨ck (ku HA.I HX.I HC.I).symm,H.I.2⟩
   ·have HC:Hid (¬ x.id=id):=hc
    have h1:(x.id == id)=false:=by simp [hc]
    clear hc;go_wp2
    go_round
    case rel=>exact ⟨k+1,by omega,by go_num,nh HA.I HX.I HC.I⟩
    case measure=>simp [intOf]; omega
  ·have i1: ¬ (k:Int) < (p.aj.length:Int):=by omega
   go_wp2;go_ret;exact ⟨ck (jg HA.I (by rw [KG]; omega)).symm,H.I.2⟩
theorem ml (p:af) (id:Int) (w:World) (hl:p.L9.length≤1048576) (h:af.At w p):
  Calls J3 172 #[.agg p.cells,.int .i64 id] w fun e w'=>e= .returned (.int .i64 (place (p.L9.map (·.id)) id 0))∧Below w.heap.size w w':=by
 have H:Hid (bJ.bU (w.alloc (.cells p.cells 48)) p.ay p.L9∧Below w.heap.size w (w.alloc (.cells p.cells 48))):=⟨h.2.2.1.below ((Kp _ _).alloc (Ki _) _),(Kp _ _).alloc (Ki _) _⟩
 have q:(w.alloc (.cells p.cells 48)).cell? ⟨w.heap.size,4,none⟩=some (.slice p.ay p.L9.length p.aO):=by rw [K5 _ _ _ _ _ _ (Kj _ _)]; rfl
 clear h;unfold af.cells at *
 go_enter Tryz.func172,Tryz.ntmps172
 go_wp2_with fail;generalize w.alloc (.cells p.row 48)=W at *
 go_loop [5] (fun i=> ∃ k:Nat,k≤p.L9.length∧i= .int .i64 k∧Hid (id∉(p.L9.map (·.id)).take k)) (fun i=>p.L9.length - (intOf i).toNat)
 case atStart=>exact ⟨0,Ky _,rfl,(by simp:id∉(p.L9.map (·.id)).take 0)⟩
 case round=>
  obtain ⟨k,hk,rfl,HA⟩:=hrel;by_cases hlt:k < p.L9.length
  ·have i0:(0:Int)≤(k:Int):=by omega
   have i1:(k:Int) < (p.L9.length:Int):=by omega
   obtain ⟨x,hx⟩: ∃ x,p.L9[k]? =some x:=⟨_,Kz hlt⟩
   have HX:Hid ((p.L9.map (·.id))[k]? =some x.id):=by show _=_; rw [Kk,hx]; rfl
   obtain ⟨g,ha,hat⟩:=j4 H.I.1 hx;have c0:=hat.1;rw [ha] at q;clear hat hx;by_cases hc:x.id=id
   ·have HC:Hid (x.id=id):=hc
    have h1:(x.id == id)=true:=by simp [hc]
    clear hc;go_wp2;go_ret;exact ⟨ck (ku HA.I HX.I HC.I).symm,H.I.2⟩
   ·have HC:Hid (¬ x.id=id):=hc
    have h1:(x.id == id)=false:=by simp [hc]
    clear hc;go_wp2
    go_round
    case rel=>exact ⟨k+1,by omega,by go_num,nh HA.I HX.I HC.I⟩
    case measure=>simp [intOf]; omega
  ·have i1: ¬ (k:Int) < (p.L9.length:Int):=by omega
   go_wp2;go_ret;exact ⟨ck (jg HA.I (by rw [KG]; omega)).symm,H.I.2⟩
theorem mg (p:af) (id:Int) (w:World) (hl:p.ag.length≤1048576) (h:af.At w p):
  Calls J3 174 #[.agg p.cells,.int .i64 id] w fun e w'=>e= .returned (.int .i64 (place (p.ag.map (·.id)) id 0))∧Below w.heap.size w w':=by
 have H:Hid (bG.bU (w.alloc (.cells p.cells 48)) p.ax p.ag∧Below w.heap.size w (w.alloc (.cells p.cells 48))):=⟨h.2.2.2.1.below ((Kp _ _).alloc (Ki _) _),(Kp _ _).alloc (Ki _) _⟩
 have q:(w.alloc (.cells p.cells 48)).cell? ⟨w.heap.size,5,none⟩=some (.slice p.ax p.ag.length p.aP):=by rw [K5 _ _ _ _ _ _ (Kj _ _)]; rfl
 clear h;unfold af.cells at *
 go_enter Tryz.func174,Tryz.ntmps174
 go_wp2_with fail;generalize w.alloc (.cells p.row 48)=W at *
 go_loop [5] (fun i=> ∃ k:Nat,k≤p.ag.length∧i= .int .i64 k∧Hid (id∉(p.ag.map (·.id)).take k)) (fun i=>p.ag.length - (intOf i).toNat)
 case atStart=>exact ⟨0,Ky _,rfl,(by simp:id∉(p.ag.map (·.id)).take 0)⟩
 case round=>
  obtain ⟨k,hk,rfl,HA⟩:=hrel;by_cases hlt:k < p.ag.length
  ·have i0:(0:Int)≤(k:Int):=by omega
   have i1:(k:Int) < (p.ag.length:Int):=by omega
   obtain ⟨x,hx⟩: ∃ x,p.ag[k]? =some x:=⟨_,Kz hlt⟩
   have HX:Hid ((p.ag.map (·.id))[k]? =some x.id):=by show _=_; rw [Kk,hx]; rfl
   obtain ⟨g,ha,hat⟩:=jr H.I.1 hx;have c0:=hat.1;rw [ha] at q;clear hat hx;by_cases hc:x.id=id
   ·have HC:Hid (x.id=id):=hc
    have h1:(x.id == id)=true:=by simp [hc]
    clear hc;go_wp2;go_ret;exact ⟨ck (ku HA.I HX.I HC.I).symm,H.I.2⟩
   ·have HC:Hid (¬ x.id=id):=hc
    have h1:(x.id == id)=false:=by simp [hc]
    clear hc;go_wp2
    go_round
    case rel=>exact ⟨k+1,by omega,by go_num,nh HA.I HX.I HC.I⟩
    case measure=>simp [intOf]; omega
  ·have i1: ¬ (k:Int) < (p.ag.length:Int):=by omega
   go_wp2;go_ret;exact ⟨ck (jg HA.I (by rw [KG]; omega)).symm,H.I.2⟩
theorem lr (p:af) (id:Int) (w:World) (hl:p.ae.length≤1048576) (h:af.At w p):
  Calls J3 173 #[.agg p.cells,.int .i64 id] w fun e w'=>e= .returned (.int .i64 (place (p.ae.map (·.id)) id 0))∧Below w.heap.size w w':=by
 have H:Hid (bm.bU (w.alloc (.cells p.cells 48)) p.am p.ae∧Below w.heap.size w (w.alloc (.cells p.cells 48))):=⟨h.2.2.2.2.1.below ((Kp _ _).alloc (Ki _) _),(Kp _ _).alloc (Ki _) _⟩
 have q:(w.alloc (.cells p.cells 48)).cell? ⟨w.heap.size,6,none⟩=some (.slice p.am p.ae.length p.aG):=by rw [K5 _ _ _ _ _ _ (Kj _ _)]; rfl
 clear h;unfold af.cells at *
 go_enter Tryz.func173,Tryz.ntmps173
 go_wp2_with fail;generalize w.alloc (.cells p.row 48)=W at *
 go_loop [5] (fun i=> ∃ k:Nat,k≤p.ae.length∧i= .int .i64 k∧Hid (id∉(p.ae.map (·.id)).take k)) (fun i=>p.ae.length - (intOf i).toNat)
 case atStart=>exact ⟨0,Ky _,rfl,(by simp:id∉(p.ae.map (·.id)).take 0)⟩
 case round=>
  obtain ⟨k,hk,rfl,HA⟩:=hrel;by_cases hlt:k < p.ae.length
  ·have i0:(0:Int)≤(k:Int):=by omega
   have i1:(k:Int) < (p.ae.length:Int):=by omega
   obtain ⟨x,hx⟩: ∃ x,p.ae[k]? =some x:=⟨_,Kz hlt⟩
   have HX:Hid ((p.ae.map (·.id))[k]? =some x.id):=by show _=_; rw [Kk,hx]; rfl
   obtain ⟨g,ha,hat⟩:=iA H.I.1 hx;have c0:=hat.1;rw [ha] at q;clear hat hx;by_cases hc:x.id=id
   ·have HC:Hid (x.id=id):=hc
    have h1:(x.id == id)=true:=by simp [hc]
    clear hc;go_wp2;go_ret;exact ⟨ck (ku HA.I HX.I HC.I).symm,H.I.2⟩
   ·have HC:Hid (¬ x.id=id):=hc
    have h1:(x.id == id)=false:=by simp [hc]
    clear hc;go_wp2
    go_round
    case rel=>exact ⟨k+1,by omega,by go_num,nh HA.I HX.I HC.I⟩
    case measure=>simp [intOf]; omega
  ·have i1: ¬ (k:Int) < (p.ae.length:Int):=by omega
   go_wp2;go_ret;exact ⟨ck (jg HA.I (by rw [KG]; omega)).symm,H.I.2⟩
theorem uV (p:af) (id:Int) (w:World) (hl:p.ai.length≤1048576) (h:af.At w p):
  Calls J3 96 #[.agg p.cells,.int .i64 id] w fun e w'=>e= .returned (.int .i64 (place (p.ai.map (·.id)) id 0))∧Below w.heap.size w w':=by
 have H:Hid (bX.bU (w.alloc (.cells p.cells 48)) p.aK p.ai∧Below w.heap.size w (w.alloc (.cells p.cells 48))):=⟨h.2.2.2.2.2.below ((Kp _ _).alloc (Ki _) _),(Kp _ _).alloc (Ki _) _⟩
 have q:(w.alloc (.cells p.cells 48)).cell? ⟨w.heap.size,7,none⟩=some (.slice p.aK p.ai.length p.aV):=by rw [K5 _ _ _ _ _ _ (Kj _ _)]; rfl
 clear h;unfold af.cells at *
 go_enter Tryz.func96,Tryz.ntmps96
 go_wp2_with fail;generalize w.alloc (.cells p.row 48)=W at *
 go_loop [5] (fun i=> ∃ k:Nat,k≤p.ai.length∧i= .int .i64 k∧Hid (id∉(p.ai.map (·.id)).take k)) (fun i=>p.ai.length - (intOf i).toNat)
 case atStart=>exact ⟨0,Ky _,rfl,(by simp:id∉(p.ai.map (·.id)).take 0)⟩
 case round=>
  obtain ⟨k,hk,rfl,HA⟩:=hrel;by_cases hlt:k < p.ai.length
  ·have i0:(0:Int)≤(k:Int):=by omega
   have i1:(k:Int) < (p.ai.length:Int):=by omega
   obtain ⟨x,hx⟩: ∃ x,p.ai[k]? =some x:=⟨_,Kz hlt⟩
   have HX:Hid ((p.ai.map (·.id))[k]? =some x.id):=by show _=_; rw [Kk,hx]; rfl
   obtain ⟨g,ha,hat⟩:=lm H.I.1 hx;have c0:=hat.1;rw [ha] at q;clear hat hx;by_cases hc:x.id=id
   ·have HC:Hid (x.id=id):=hc
    have h1:(x.id == id)=true:=by simp [hc]
    clear hc;go_wp2;go_ret;exact ⟨ck (ku HA.I HX.I HC.I).symm,H.I.2⟩
   ·have HC:Hid (¬ x.id=id):=hc
    have h1:(x.id == id)=false:=by simp [hc]
    clear hc;go_wp2
    go_round
    case rel=>exact ⟨k+1,by omega,by go_num,nh HA.I HX.I HC.I⟩
    case measure=>simp [intOf]; omega
  ·have i1: ¬ (k:Int) < (p.ai.length:Int):=by omega
   go_wp2;go_ret;exact ⟨ck (jg HA.I (by rw [KG]; omega)).symm,H.I.2⟩
def dJ (l:List ByteArray) (Me:Int):Bool:=l.all bw && decide ((l.length:Int)≤Me)
theorem xL {l:List ByteArray} {Me:Int} {k:Nat} {x:ByteArray} (hx:l[k]? =some x) (h:bw x=false):dJ l Me=false:=by
 have:l.all bw=false:=by
  rw [List.all_eq_false];exact ⟨x,KA hx,by simp [h]⟩
 simp [dJ,this]
theorem pQ {l:List ByteArray} {k:Nat} {x:ByteArray} (h:(l.take k).all bw=true) (hx:l[k]? =some x) (hp:bw x=true):(l.take (k+1)).all bw=true:=by
 have hk:k < l.length:=(Lj.1 hx).1;rw [QE hk,List.all_append,h];rw [Kz hk] at hx;cases hx;simp [hp]
theorem zl {w:World} {a:Option Addr} {l:List ByteArray} (h:Row w a (bT.flat l)) {k:Nat} {x:ByteArray} (hx:l[k]? =some x): ∃ g,a=some ⟨g,0,none⟩∧w.cell? ⟨g,k,none⟩=some (.string x):=by
 have h1:(bT.flat l)[k]? =some (.string x):=by
  have:=bT.jw hx (j:=0) (by decide)
  simpa [bT] using this
 exact h k _ h1
theorem Aj (a:Option Addr) (l:List ByteArray) (cap:Nat) (Me:Int) (w:World) (hl:l.length≤1048576) (hs: ∀ x∈l,x.size≤1048576) (h:Row w a (bT.flat l)):
  Calls J3 141 #[.slice a l.length cap,.int .i64 Me] w fun e w'=>e= .returned (.bool (dJ l Me))∧w'=w:=by
 have H:Hid (Row w a (bT.flat l)∧ ∀ x∈l,x.size≤1048576):=⟨h,hs⟩
 clear h hs
 go_enter Tryz.func141,Tryz.ntmps141
 go_wp2_with fail
 go_loop [5] (fun i=> ∃ k:Nat,k≤l.length∧i= .int .i64 k∧Hid ((l.take k).all bw=true)) (fun i=>l.length - (intOf i).toNat)
 case atStart=>exact ⟨0,Ky _,rfl,(by simp:(l.take 0).all bw=true)⟩
 case round=>
  obtain ⟨k,hk,rfl,HA⟩:=hrel;by_cases hlt:k < l.length
  ·have i0:(0:Int)≤(k:Int):=by omega
   have i1:(k:Int) < (l.length:Int):=by omega
   obtain ⟨x,hx⟩: ∃ x,l[k]? =some x:=⟨_,Kz hlt⟩
   have HX:Hid (l[k]? =some x):=hx;obtain ⟨g,rfl,c0⟩:=zl H.I.1 hx;have hxs:=H.I.2 x (KA hx);clear hx;go_wp2_with fail;refine (jC x w hxs).mono ?_;rintro e w' ⟨rfl,rfl⟩;cases hp:bw x with
   | true=>
    have HP:Hid (bw x=true):=hp;clear hp;go_wp2
    go_round
    case rel=>exact ⟨k+1,by omega,by go_num,pQ HA.I HX.I HP.I⟩
    case measure=>simp [intOf]; omega
   | false=>
    have HP:Hid (bw x=false):=hp;clear hp;go_wp2;go_ret;exact ⟨al (xL HX.I HP.I).symm,rfl⟩
  ·have i1: ¬ (k:Int) < (l.length:Int):=by omega
   have HT:Hid (l.all bw=true):=by have:=HA.I; rwa [KF (by omega)] at this
   have e1:wrap64 (l.length:Int)=l.length:=by unfold wrap64; omega
   go_wp2;go_ret;exact ⟨al (by rw [dJ,HT.I]; simp),rfl⟩
def hasB (p:aE) (Md id:Int):Bool:=
 if Md=3 then decide (id∈p.aj.map (·.id)) else if Md=4 then decide (id∈p.L9.map (·.id))
 else if Md=5∨Md=6 then decide (id∈p.ae.map (·.id)) else if Md=7 then decide (id∈p.ag.map (·.id)) else false
theorem mV (l:List Int) (id:Int):decide (0≤place l id 0)=decide (id∈l):=by
 by_cases h:id∈l
 ·rw [decide_eq_true h]
  rcases z8 l id 0 with h1 | h1
  ·exact absurd h (nN.1 h1)
  ·exact decide_eq_true (by simpa using h1)
 ·rw [decide_eq_false h,nN.2 h]
  rfl
structure af.dX (p:af):Prop where
 L8:p.L8.length≤1048576
 aj:p.aj.length≤1048576
 L9:p.L9.length≤1048576
 ag:p.ag.length≤1048576
 ae:p.ae.length≤1048576
 ai:p.ai.length≤1048576
theorem xT (p:af) (Md id:Int) (w:World) (hl:p.dX) (h:af.At w p):
  Calls J3 143 #[.agg p.cells,.int .i64 Md,.int .i64 id] w fun e w'=>e= .returned (.bool (hasB p.pure Md id))∧Below w.heap.size w w':=by
 have hp:p.cells=p.row:=rfl;have H:Hid ((af.At (w.alloc (.cells p.cells 48)) p∧Below w.heap.size w (w.alloc (.cells p.cells 48)))∧p.dX):=⟨⟨h.below ((Kp _ _).alloc (Ki _) _),(Kp _ _).alloc (Ki _) _⟩,hl⟩
 rw [hp] at H;rw [hp];clear h hl hp;by_cases s3:Md=3
 ·subst s3
  go_enter Tryz.func143,Tryz.ntmps143
  go_wp2_with fail;refine (lw p id _ H.I.2.aj H.I.1.1).mono ?_;rintro e w1 ⟨rfl,hb1⟩;have HB:Hid (Below w.heap.size w w1):=H.I.1.2.trans (hb1.mono (by simp));have HM:Hid (decide (0≤place (p.aj.map (·.id)) id 0)=decide (id∈p.aj.map (·.id))):=mV _ id;clear hb1;go_wp2;go_ret;exact ⟨al (HM.I.trans (by simp [hasB,af.pure])),HB.I⟩
 by_cases s4:Md=4
 ·subst s4
  go_enter Tryz.func143,Tryz.ntmps143
  go_wp2_with fail;refine (ml p id _ H.I.2.L9 H.I.1.1).mono ?_;rintro e w1 ⟨rfl,hb1⟩;have HB:Hid (Below w.heap.size w w1):=H.I.1.2.trans (hb1.mono (by simp));have HM:Hid (decide (0≤place (p.L9.map (·.id)) id 0)=decide (id∈p.L9.map (·.id))):=mV _ id;clear hb1;go_wp2;go_ret;exact ⟨al (HM.I.trans (by simp [hasB,af.pure])),HB.I⟩
 by_cases s5:Md=5
 ·subst s5
  go_enter Tryz.func143,Tryz.ntmps143
  go_wp2_with fail;refine (lr p id _ H.I.2.ae H.I.1.1).mono ?_;rintro e w1 ⟨rfl,hb1⟩;have HB:Hid (Below w.heap.size w w1):=H.I.1.2.trans (hb1.mono (by simp));have HM:Hid (decide (0≤place (p.ae.map (·.id)) id 0)=decide (id∈p.ae.map (·.id))):=mV _ id;clear hb1;go_wp2;go_ret;exact ⟨al (HM.I.trans (by simp [hasB,af.pure])),HB.I⟩
 by_cases s6:Md=6
 ·subst s6
  go_enter Tryz.func143,Tryz.ntmps143
  go_wp2_with fail;refine (lr p id _ H.I.2.ae H.I.1.1).mono ?_;rintro e w1 ⟨rfl,hb1⟩;have HB:Hid (Below w.heap.size w w1):=H.I.1.2.trans (hb1.mono (by simp));have HM:Hid (decide (0≤place (p.ae.map (·.id)) id 0)=decide (id∈p.ae.map (·.id))):=mV _ id;clear hb1;go_wp2;go_ret;exact ⟨al (HM.I.trans (by simp [hasB,af.pure])),HB.I⟩
 by_cases s7:Md=7
 ·subst s7
  go_enter Tryz.func143,Tryz.ntmps143
  go_wp2_with fail;refine (mg p id _ H.I.2.ag H.I.1.1).mono ?_;rintro e w1 ⟨rfl,hb1⟩;have HB:Hid (Below w.heap.size w w1):=H.I.1.2.trans (hb1.mono (by simp));have HM:Hid (decide (0≤place (p.ag.map (·.id)) id 0)=decide (id∈p.ag.map (·.id))):=mV _ id;clear hb1;go_wp2;go_ret;exact ⟨al (HM.I.trans (by simp [hasB,af.pure])),HB.I⟩
 have e3:(Md == 3)=false:=by simp [s3]
 have e4:(Md == 4)=false:=by simp [s4]
 have e5:(Md == 5)=false:=by simp [s5]
 have e6:(Md == 6)=false:=by simp [s6]
 have e7:(Md == 7)=false:=by simp [s7]
 have HN:Hid (hasB p.pure Md id=false):=by show hasB p.pure Md id=false; simp [hasB,s3,s4,s5,s6,s7]
 clear s3 s4 s5 s6 s7
 go_enter Tryz.func143,Tryz.ntmps143
 go_wp2;go_ret;exact ⟨al HN.I.symm,H.I.1.2⟩
structure pA where
 at_:Int
 len:Int
 part:Int
def VE (x:pA):List Value:= [.int .i64 x.at_,.int .i64 x.len,.int .i64 x.part]
def jq:Kind pA:=⟨3,VE,fun _=> [],by decide,fun _=>rfl⟩
structure eQ where
 src:Int
 ga:Int
 dst:Int
 hI:Int
def eQ.Wf (c:eQ):Prop:=(Lit.int .i64 c.src).wf=true∧(Lit.int .i64 c.ga).wf=true∧(Lit.int .i64 c.dst).wf=true∧(Lit.int .i64 c.hI).wf=true
abbrev nx (c:eQ):Array Value:= #[.int .i64 c.src,.int .i64 c.ga,.int .i64 c.dst,.int .i64 c.hI]
def Vg (x:eQ):List Value:= [.int .i64 x.src,.int .i64 x.ga,.int .i64 x.dst,.int .i64 x.hI]
def hM:Kind eQ:=⟨4,Vg,fun _=> [],by decide,fun _=>rfl⟩
def eQ.At (w:World) (g i:Nat) (x:eQ):Prop:=w.cell? ⟨g,i * 4,none⟩=some (.int .i64 x.src)∧w.cell? ⟨g,i * 4+1,none⟩=some (.int .i64 x.ga)∧w.cell? ⟨g,i * 4+2,none⟩=some (.int .i64 x.dst)∧w.cell? ⟨g,i * 4+3,none⟩=some (.int .i64 x.hI)
theorem TH {w:World} {a:Option Addr} {l:List eQ} (h:hM.bU w a l) {i:Nat} {x:eQ} (hx:l[i]? =some x): ∃ g,a=some ⟨g,0,none⟩∧eQ.At w g i x:=by
 obtain ⟨g,e,hc⟩:=h.at hx;exact ⟨g,e,hc 0 _ rfl,hc 1 _ rfl,hc 2 _ rfl,hc 3 _ rfl⟩
def UU (p:af):List Value:=p.cells.toList
def il (p:af):List (Option Addr × List Value):= [(p.aN,bg.flat p.L8),(p.bc,dm.flat p.aj),(p.ay,bJ.flat p.L9),(p.ax,bG.flat p.ag),(p.am,bm.flat p.ae),(p.aK,bX.flat p.ai)] ++ p.L8.flatMap bg.kids ++ p.ae.flatMap bm.kids ++ p.ai.flatMap bX.kids
def kp:Kind af:=⟨8,UU,il,by decide,fun _=>rfl⟩
theorem U2 {w:World} {p:af} (h: ∀ r∈il p,Row w r.1 r.2):af.At w p:=by
 have h1: ∀ r∈ [(p.aN,bg.flat p.L8),(p.bc,dm.flat p.aj),(p.ay,bJ.flat p.L9),(p.ax,bG.flat p.ag),(p.am,bm.flat p.ae),(p.aK,bX.flat p.ai)],Row w r.1 r.2:=fun r hr=>h r (by simp only [il,Kg]; exact .inl (.inl (.inl hr)))
 refine ⟨⟨h1 (p.aN,bg.flat p.L8) (by simp),fun x hx r hr=>h r ?_⟩,⟨h1 (p.bc,dm.flat p.aj) (by simp),fun x _ r hr=>by simp [dm] at hr⟩,⟨h1 (p.ay,bJ.flat p.L9) (by simp),fun x _ r hr=>by simp [bJ] at hr⟩,⟨h1 (p.ax,bG.flat p.ag) (by simp),fun x _ r hr=>by simp [bG] at hr⟩,⟨h1 (p.am,bm.flat p.ae) (by simp),fun x hx r hr=>h r ?_⟩,⟨h1 (p.aK,bX.flat p.ai) (by simp),fun x hx r hr=>h r ?_⟩⟩
 all_goals simp only [il,Kg,List.mem_flatMap]
 ·exact .inl (.inl (.inr ⟨x,hx,hr⟩))
 ·exact .inl (.inr ⟨x,hx,hr⟩)
 ·exact .inr ⟨x,hx,hr⟩
def af.In (w:World) (g i:Nat) (p:af):Prop:=w.cell? ⟨g,i * 8,none⟩=some (.int .i64 p.id)∧w.cell? ⟨g,i * 8+1,none⟩=some (.int .i64 p.next)∧w.cell? ⟨g,i * 8+2,none⟩=some (.slice p.aN p.L8.length p.aW)∧w.cell? ⟨g,i * 8+3,none⟩=some (.slice p.bc p.aj.length p.bF)∧w.cell? ⟨g,i * 8+4,none⟩=some (.slice p.ay p.L9.length p.aO)∧w.cell? ⟨g,i * 8+5,none⟩=some (.slice p.ax p.ag.length p.aP)∧w.cell? ⟨g,i * 8+6,none⟩=some (.slice p.am p.ae.length p.aG)∧w.cell? ⟨g,i * 8+7,none⟩=some (.slice p.aK p.ai.length p.aV)
theorem ic {w:World} {a:Option Addr} {l:List af} (h:kp.bU w a l) {i:Nat} {p:af} (hp:l[i]? =some p): ∃ g,a=some ⟨g,0,none⟩∧af.In w g i p∧af.At w p:=by
 obtain ⟨g,e,hc⟩:=h.at hp;exact ⟨g,e,⟨hc 0 _ rfl,hc 1 _ rfl,hc 2 _ rfl,hc 3 _ rfl,hc 4 _ rfl,hc 5 _ rfl,hc 6 _ rfl,hc 7 _ rfl⟩,U2 (h.2 p (KA hp))⟩
structure eA where
 now:Int
 major:Int
 fn:List pA
 vb:Option Addr
 Te:Nat
 parts:List af
 qn:Option Addr
 sa:Nat
 eC:List eQ
 qi:Option Addr
 tC:Nat
abbrev eA.row (k:eA):Array Value:= #[.int .i64 k.now,.int .i64 k.major,.slice k.vb k.fn.length k.Te,.slice k.qn k.parts.length k.sa,.slice k.qi k.eC.length k.tC]
structure eA.At (w:World) (k:eA):Prop where
 fn:jq.bU w k.vb k.fn
 parts:kp.bU w k.qn k.parts
 eC:hM.bU w k.qi k.eC
theorem eA.At.below {w w':World} {k:eA} (h:eA.At w k) (hb:Below w.heap.size w w'):eA.At w' k:=⟨h.fn.below hb,h.parts.below hb,h.eC.below hb⟩
structure kd where
 now:Int
 major:Int
 fn:List pA
 parts:List aE
 eC:List eQ
def eA.pure (k:eA):kd:=⟨k.now,k.major,k.fn,k.parts.map (·.pure),k.eC⟩
def rM:ByteArray:=⟨#[]⟩
def jm (l:List dN):Bool:=nq l.length (Cd l) (Cg l) (Ea l) (Ce l)
def gw (x:bD):Bool:=cv x.max 1 1000 && cv x.n 0 x.max
def ey (_:aB):Bool:=true
def cU (x:az):Bool:=bw x.text && (x.shown || bI x.text)
def ct (x:ci):Bool:=cv x.max 1 5 && dJ x.Ma x.max
def dj (x:dS):Bool:=cv x.max 1 5 && (x.Mf || decide (x.max=1)) && dJ x.Ma x.max
def aw {α:Type} (num:α→Int) (ok:α→Bool):Int→List α→Bool
 | _,[] =>true
 | last,x :: r=>cv (num x) 1 1000 && decide (last < num x) && ok x && aw num ok (num x) r
def bW {α:Type} (num:α→Int):Int→List α→Int
 | last,[] =>last
 | _,x :: r=>bW num (num x) r
section
variable {α:Type} {num:α→Int} {ok:α→Bool}
theorem lH: ∀ (l r:List α) (last:Int),aw num ok last (l ++ r)=(aw num ok last l && aw num ok (bW num last l) r)
 | [],r,last=>by simp [aw,bW]
 | x :: l,r,last=>by
  simp only [Qw,aw,bW,lH l r (num x),Bool.and_assoc]
theorem pL: ∀ (l:List α) (x:α) (last:Int),bW num last (l ++ [x])=num x
 | [],_,_=>rfl
 | y :: l,x,_=>pL l x (num y)
theorem kL {l:List α} {k:Nat} {x:α} (hx:l[k]? =some x):l=l.take k ++ x :: l.drop (k+1):=by
 have hk:k < l.length:=(Lj.1 hx).1;rw [Kz hk] at hx;cases hx
 have:=Qn k l
 rw [List.drop_eq_getElem_cons hk] at this;exact this.symm
theorem cj {l:List α} {k:Nat} {x:α} (hx:l[k]? =some x):l.take (k+1)=l.take k ++ [x] :=by
 have hk:k < l.length:=(Lj.1 hx).1;rw [Kz hk] at hx;cases hx;exact QE hk
theorem eG {l:List α} {k:Nat} {x:α} (hx:l[k]? =some x) (last:Int):bW num last (l.take (k+1))=num x:=by
 rw [cj hx,pL]
theorem ed {l:List α} {k:Nat} {x:α} {last:Int} (h:aw num ok last (l.take k)=true) (hx:l[k]? =some x) (h1:cv (num x) 1 1000=true) (h2:bW num last (l.take k) < num x) (h3:ok x=true):aw num ok last (l.take (k+1))=true:=by
 rw [cj hx,lH,h];simp [aw,h1,h2,h3]
theorem bS {l:List α} {k:Nat} {x:α} {last:Int} (hx:l[k]? =some x) (h: ¬ (cv (num x) 1 1000=true∧bW num last (l.take k) < num x∧ok x=true)):aw num ok last l=false:=by
 rw [kL hx,lH]
 have:aw num ok (bW num last (l.take k)) (x :: l.drop (k+1))=false:=by
  simp only [aw];cases h1:cv (num x) 1 1000 <;> simp
  by_cases h2:bW num last (l.take k) < num x
  ·cases h3:ok x
   ·simp
   ·exact absurd ⟨h1,h2,h3⟩ h
  ·simp [h2]
 rw [this,PP]
theorem cK {l:List α} {last:Int} (h:aw num ok last l=true): ∀ x∈l,cv (num x) 1 1000=true∧ok x=true:=by
 induction l generalizing last with
 | nil=>intro x hx; cases hx
 | cons y r ih=>
  simp only [aw,J7] at h;intro x hx;rcases List.mem_cons.1 hx with rfl | hx
  ·exact ⟨h.1.1.1,h.1.2⟩
  ·exact ih h.2 x hx
theorem nC {ok':α→Bool} {l:List α} {last:Int} :aw num (fun x=>ok x && ok' x) last l=(aw num ok last l && l.all ok'):=by
 induction l generalizing last with
 | nil=>rfl
 | cons y r ih=>
  simp only [aw,ih,List.all_cons];cases cv (num y) 1 1000 <;> cases decide (last < num y) <;> cases ok y <;> cases ok' y <;> simp
end
theorem jL {α β:Type} (f:α→β) (num:β→Int) (ok:β→Bool) (l:List α) (last:Int):aw num ok last (l.map f)=aw (fun x=>num (f x)) (fun x=>ok (f x)) last l:=by
 induction l generalizing last with
 | nil=>rfl
 | cons y r ih=>simp only [Lt,aw,ih]
def opAt (x:aD):dN:=x.prog[x.pc.toNat]?.getD (0,0,0,rM)
def dU (x:aD):Bool:=cv x.pc 0 ((x.prog.length:Int) - 1)
def jJ (x:aD):Bool:=if (opAt x).1=1 then decide (0≤x.left) && decide (x.left < (opAt x).2.1) else decide (x.left=0)
def lh (t:Int):Bool:=cv t 1 2000000000 || decide (t= -1)
def bO (x:aD):Bool:=
 if x.Md=0 then decide (x.pc=0) && decide (x.left=0) && decide (x.Mg=0) && decide (x.on=0) && decide (x.RU=0) && bI x.held
 else if x.Md=1 then dU x && jJ x && decide (x.Mg=0) && decide (x.on=0) && bI x.held
 else if x.Md=2 then dU x && decide (x.left=0) && cv x.Mg 1 2000000000 && decide (x.on=0) && bI x.held
 else if x.Md=5 then dU x && decide (x.left=0) && lh x.Mg
 else if x.Md=3∨x.Md=4∨x.Md=6∨x.Md=7 then dU x && decide (x.left=0) && lh x.Mg && bI x.held
 else false
def cH (x:aD):Bool:=cv x.RX 1 50 && jm x.prog && bw x.held && bw x.got && cv x.code 0 3 && bO x
def fF (next:Int) (x:aD):Bool:=decide (x.Md=0) || cv x.RU 1 (next - 1)
def dG (p:aE) (x:aD):Bool:=if 3≤x.Md then hasB p x.Md x.on else true
def rb (l:List aD):Prop:=(l.map (·.RU)).Pairwise (fun a b=> ¬ (a=b∧0 < b))
structure aQ (p:aE):Prop where
 id:cv p.id 1 6=true
 next:cv p.next 1 1000000000=true
 dl:p.L8.length≤6
 fx:p.aj.length≤5
 cD:p.L9.length≤5
 cC:p.ag.length≤5
 cb:p.ae.length≤5
 dH:p.ai.length≤5
 L8:aw (·.id) (fun x=>cH x && fF p.next x && dG p x) 0 p.L8=true
 aj:aw (·.id) gw 0 p.aj=true
 L9:aw (·.id) ey 0 p.L9=true
 ag:aw (·.id) cU 0 p.ag=true
 ae:aw (·.id) ct 0 p.ae=true
 ai:aw (·.id) dj 0 p.ai=true
 apart:rb p.L8
def bK (p:aE):Bool:=cv p.id 1 6 && cv p.next 1 1000000000 && decide (p.L8.length≤6) && decide (p.aj.length≤5) && decide (p.L9.length≤5) && decide (p.ag.length≤5) && decide (p.ae.length≤5) && decide (p.ai.length≤5) &&
 aw (·.id) (fun x=>cH x && fF p.next x && dG p x) 0 p.L8 && aw (·.id) gw 0 p.aj && aw (·.id) ey 0 p.L9 && aw (·.id) cU 0 p.ag && aw (·.id) ct 0 p.ae && aw (·.id) dj 0 p.ai && decide ((p.L8.map (·.RU)).Pairwise (fun a b=> ¬ (a=b∧0 < b)))
theorem ch (p:aE):bK p=true↔aQ p:=by
 simp only [bK,J7,decide_eq_true_eq];constructor
 ·rintro ⟨⟨⟨⟨⟨⟨⟨⟨⟨⟨⟨⟨⟨⟨h1,h2⟩,h3⟩,h4⟩,h5⟩,h6⟩,h7⟩,h8⟩,h9⟩,h10⟩,h11⟩,h12⟩,h13⟩,h14⟩,h15⟩
  exact ⟨h1,h2,h3,h4,h5,h6,h7,h8,h9,h10,h11,h12,h13,h14,h15⟩
 ·intro h
  exact ⟨⟨⟨⟨⟨⟨⟨⟨⟨⟨⟨⟨⟨⟨h.id,h.next⟩,h.dl⟩,h.fx⟩,h.cD⟩,h.cC⟩,h.cb⟩,h.dH⟩,h.L8⟩,h.aj⟩,h.L9⟩,h.ag⟩,h.ae⟩,h.ai⟩,h.apart⟩
theorem fP {p:aE} (h:aQ p):bK p=true:=(ch p).2 h
theorem dL {p:aE} (h: ¬ aQ p):bK p=false:=by
 cases hb:bK p with
 | false=>rfl
 | true=>exact absurd ((ch p).1 hb) h
def Tk (W:World) (X:Nat) (k:eA):Prop:=W.heap[X]? =some (.cells k.row 37 (0,0))
theorem Tk.cells {W:World} {X:Nat} {k:eA} (h:Tk W X k):W.cell? ⟨X,0,none⟩=some (.int .i64 k.now)∧W.cell? ⟨X,1,none⟩=some (.int .i64 k.major)∧W.cell? ⟨X,2,none⟩=some (.slice k.vb k.fn.length k.Te)∧W.cell? ⟨X,3,none⟩=some (.slice k.qn k.parts.length k.sa)∧W.cell? ⟨X,4,none⟩=some (.slice k.qi k.eC.length k.tC):=by
 unfold Tk at h;simp [World.cell?,h]
structure dr (w:World) (X:Nat) (k:eA) (W:World):Prop where
 box:Tk W X k
 MT:eA.At W k
 low:Below w.heap.size w W
theorem dr.below {w W W2:World} {X:Nat} {k:eA} (h:dr w X k W) (hb:Below W.heap.size W W2):dr w X k W2:=
 ⟨(hb.block _ (J2.1 h.box).1).trans h.box,h.MT.below hb,h.low.trans (hb.mono h.low.size)⟩
theorem dr.first {w:World} {k:eA} (h:eA.At w k):dr w w.heap.size k (w.alloc (.cells k.row 37)):=
 ⟨Kj _ _,h.below ((Kp _ _).alloc (Ki _) _),(Kp _ _).alloc (Ki _) _⟩
def Hu (l:List aD):List Int:=(l.filter (fun x=> !decide (x.Md=0))).map (·.RU)
def nQ (next:Int) (l:List aD):Prop:=(∀ x∈l,¬ x.Md=0→1≤x.RU∧x.RU < next)∧(Hu l).Nodup
structure OpenR (p:aE):Prop where
 id:cv p.id 1 6=true
 next:cv p.next 1 1000000000=true
 dl:p.L8.length≤6
 fx:p.aj.length≤5
 cD:p.L9.length≤5
 cC:p.ag.length≤5
 cb:p.ae.length≤5
 dH:p.ai.length≤5
 L8:aw (·.id) cH 0 p.L8=true
 aj:aw (·.id) gw 0 p.aj=true
 L9:aw (·.id) ey 0 p.L9=true
 ag:aw (·.id) cU 0 p.ag=true
 ae:aw (·.id) ct 0 p.ae=true
 ai:aw (·.id) dj 0 p.ai=true
 turns:nQ p.next p.L8
 waits:p.L8.all (dG p)=true
theorem bz {n lo hi:Int} :cv n lo hi=true↔lo≤n∧n≤hi:=by simp [cv]
theorem kx {x:aD} (h:cH x=true) (h0:x.Md=0):x.RU=0:=by
 simp only [cH,J7] at h
 have:=h.2
 simp only [bO,h0,if_true,J7,decide_eq_true_eq] at this;exact this.1.2
theorem tW {next:Int} {l:List aD} (hb: ∀ x∈l,cH x=true) (h:nQ next l):rb l:=by
 induction l with
 | nil=>exact List.Pairwise.nil
 | cons x r ih=>
  have hr:nQ next r:=⟨fun y hy=>h.1 y (by simp [hy]),by
   have:=h.2
   unfold Hu at this ⊢;rw [LN] at this
   split at this
   ·exact (Lp.1 this).2
   ·exact this⟩
  refine LM.2 ⟨fun b wU hab=> ?_,ih (fun y hy=>hb y (by simp [hy])) hr⟩;obtain ⟨y,hy,rfl⟩:=Lr.1 wU;have e1:x.RU=y.RU:=hab.1;have e2:0 < y.RU:=hab.2;have hxs: ¬ x.Md=0:=fun e=>by
   have:=kx (hb x (by simp)) e
   omega
  have hys: ¬ y.Md=0:=fun e=>by
   have:=kx (hb y (by simp [hy])) e
   omega
  have:=h.2
  unfold Hu at this;rw [LN,if_pos (by simp [hxs]),Lt,Lp] at this;exact this.1 (Lr.2 ⟨y,L2.2 ⟨hy,by simp [hys]⟩,hab.1.symm⟩)
theorem uf {next:Int} {l:List aD} (ht: ∀ x∈l,fF next x=true) (h:rb l):nQ next l:=by
 have h1: ∀ x∈l,¬ x.Md=0→1≤x.RU∧x.RU < next:=fun x hx h0=>by
  have:=ht x hx
  simp only [fF,h0,decide_false,Qg] at this
  have:=bz.1 this
  omega
 refine ⟨h1,?_⟩
 induction l with
 | nil=>exact List.nodup_nil
 | cons x r ih=>
  obtain ⟨h2,h3⟩:=LM.1 h;have ih':=ih (fun y hy=>ht y (by simp [hy])) h3 (fun y hy=>h1 y (by simp [hy]));unfold Hu at ih' ⊢;rw [LN]
  split
  ·rename_i hx
   have hx0: ¬ x.Md=0:=by simpa using hx
   rw [Lt,Lp];refine ⟨fun hm=> ?_,ih'⟩;obtain ⟨y,hy,e⟩:=Lr.1 hm;have hy':=(L2.1 hy).1
   have:=h1 x (by simp) hx0
   exact h2 y.RU (Lr.2 ⟨y,hy',rfl⟩) ⟨e.symm,by omega⟩
  ·exact ih'
theorem i5 (p:aE):OpenR p↔aQ p:=by
 constructor
 ·intro h
  refine ⟨h.id,h.next,h.dl,h.fx,h.cD,h.cC,h.cb,h.dH,?_,h.aj,h.L9,h.ag,h.ae,h.ai,tW (fun x hx=>(cK h.L8 x hx).2) h.turns⟩;rw [nC,nC,h.L8,h.waits,Bool.true_and,Bool.and_true,PZ];intro x hx;by_cases h0:x.Md=0
  ·simp [fF,h0]
  ·have:=h.turns.1 x hx h0
   simp only [fF,h0,decide_false,Qg];exact bz.2 (by omega)
 ·intro h
  have hp:=h.L8;rw [nC,nC,J7,J7] at hp;exact ⟨h.id,h.next,h.dl,h.fx,h.cD,h.cC,h.cb,h.dH,hp.1.1,h.aj,h.L9,h.ag,h.ae,h.ai,uf (fun x hx=>PZ.1 hp.1.2 x hx) h.apart,hp.2⟩
theorem vz (l:List dN) {j:Nat} (hj:j < l.length * 4):(fk.flat l)[j]? =some (xe (Cd l) (Cg l) (Ea l) (Ce l) j):=by
 have hi:j / 4 < l.length:=by omega
 have hx:l[j / 4]? =some l[j / 4] :=Kz hi;have hr:j % 4 < 4:=by omega
 have:=fk.jw hx (j:=j % 4) hr
 have e:j / 4 * fk.n+j % 4=j:=by show j / 4 * 4+j % 4=j; omega
 rw [e] at this;rw [this];have h4:j % 4=0∨j % 4=1∨j % 4=2∨j % 4=3:=by omega
 rcases h4 with h | h | h | h <;> rw [h] <;> simp [fk,CC,xe,h,Cd,Cg,Ea,Ce,hx]
theorem wa {w:World} {a:Option Addr} {l:List dN} (h:Row w a (fk.flat l)) (hl:0 < l.length): ∃ g,a=some ⟨g,0,none⟩∧y9 w g l:=by
 obtain ⟨g,e,hc⟩:=h 0 _ (vz l (j:=0) (by omega));refine ⟨g,e,block_lt_of_cell hc,fun j hj=> ?_⟩;obtain ⟨g',e',hc'⟩:=h j _ (vz l hj);rw [e] at e';cases e';exact hc'
theorem Jm {w:World} {a:Option Addr} {l:List dN} (h:Row w a (fk.flat l)) {i:Nat} {x:dN} (hx:l[i]? =some x): ∃ g,a=some ⟨g,0,none⟩∧w.cell? ⟨g,i * 4,none⟩=some (.int .i64 x.1)∧w.cell? ⟨g,i * 4+1,none⟩=some (.int .i64 x.2.1)∧w.cell? ⟨g,i * 4+2,none⟩=some (.int .i64 x.2.2.1)∧w.cell? ⟨g,i * 4+3,none⟩=some (.string x.2.2.2):=by
 have h':fk.bU w a l:=⟨h,fun _ _ r hr=>by cases hr⟩
 obtain ⟨g,e,hc⟩:=h'.at hx;exact ⟨g,e,hc 0 _ rfl,hc 1 _ rfl,hc 2 _ rfl,hc 3 _ rfl⟩
theorem xd {l:List dN} (hs: ∀ o∈l,o.2.2.2.size≤1048576): ∀ i,i < l.length→(Ce l i).size≤1048576:=fun i hi=>by
 simp only [Ce,Kz hi,Option.getD_some];exact hs _ (List.getElem_mem hi)
structure ao.dX (x:ao):Prop where
 prog:x.prog.length≤1048576
 ops: ∀ o∈x.prog,o.2.2.2.size≤1048576
 held:x.held.size≤1048576
 got:x.got.size≤1048576
theorem xf:jm [] =false:=iS (fun h=>by have:=h.1; simp at this)
theorem tz (a:Option Addr) (cap:Nat) (w:World):
  Calls J3 142 #[.slice a 0 cap] w fun e w'=>e= .returned (.bool false)∧Below w.heap.size w w':=by
 go_enter Tryz.func142,Tryz.ntmps142
 go_wp2
 go_loop [3] (fun i=>i= .int .i64 0) (fun _=>0)
 case atStart=>rfl
 case round=>
  subst hrel;go_wp2;go_ret;exact ⟨rfl,Kp _ _⟩
theorem wQ (a:Option Addr) (l:List dN) (cap:Nat) (w:World) (hl:l.length≤1048576) (hs: ∀ o∈l,o.2.2.2.size≤1048576) (h:Row w a (fk.flat l)):
  Calls J3 142 #[.slice a l.length cap] w fun e w'=>e= .returned (.bool (jm l))∧Below w.heap.size w w':=by
 cases l with
 | nil=>rw [xf]; exact tz a cap w
 | cons x r=>
  obtain ⟨g,rfl,hr⟩:=wa h (by simp);exact vv g _ cap _ _ _ _ w hl (xd hs) hr
theorem tu (a:Option Addr) (cap:Nat) (w:World):
  Calls J3 262 #[.slice a 0 cap] w fun e w'=>e= .returned (.bool false)∧Below w.heap.size w w':=by
 go_enter Tryz.func262,Tryz.ntmps262
 go_wp2;go_ret;exact ⟨rfl,Kp _ _⟩
theorem wI (a:Option Addr) (l:List dN) (cap:Nat) (w:World) (hl:l.length≤1048576) (hs: ∀ o∈l,o.2.2.2.size≤1048576) (h:Row w a (fk.flat l)):
  Calls J3 262 #[.slice a l.length cap] w fun e w'=>e= .returned (.bool (jm l))∧Below w.heap.size w w':=by
 cases l with
 | nil=>rw [xf]; exact tu a cap w
 | cons x r=>
  obtain ⟨g,rfl,hr⟩:=wa h (by simp);exact tV g _ cap _ _ _ _ w hl (xd hs) hr
def sz (l:List pA) (j:Nat):Int:=match l[j / 3]? with
 | none=>0
 | some x=>if j % 3=0 then x.at_ else if j % 3=1 then x.len else x.part
theorem Vf (l:List pA) {j:Nat} (hj:j < l.length * 3):(jq.flat l)[j]? =some (.int .i64 (sz l j)):=by
 have hd:j / 3 < l.length:=by omega
 obtain ⟨x,hx⟩: ∃ x,l[j / 3]? =some x:=⟨_,Kz hd⟩
 have h:=jq.jw hx (j:=j % 3) (Nat.mod_lt _ (by decide));have e:j / 3 * jq.n+j % 3=j:=by show j / 3 * 3+j % 3=j; omega
 rw [e] at h;rw [h];unfold sz;rw [hx];have h3:j % 3 < 3:=Nat.mod_lt _ (by decide);rcases (by omega:j % 3=0∨j % 3=1∨j % 3=2) with e | e | e <;> rw [e] <;> rfl
theorem Uq {w:World} {g:Nat} {l:List pA} (hg:g < w.heap.size) (h:jq.bU w (some ⟨g,0,none⟩) l):lT w g l.length (sz l):=by
 refine ⟨hg,fun j hj=> ?_⟩;obtain ⟨g',e,hc⟩:=h.1 j _ (Vf l hj);cases e;exact hc
def E4 (major:Int) (l:List pA):Bool:=nn major l.length (sz l)
def hP {α:Type} (num:α→Int) (id:Int) (l:List α):Option α:=l.find? fun x=>decide (num x=id)
def endP (ps:List aE) (part port:Int):Option dS:=(hP (·.id) part ps).bind fun p=>hP (·.id) port p.ai
def pa (ps:List aE) (c:eQ):Bool:=match endP ps c.src c.ga,endP ps c.dst c.hI with
 | some q,some r=> !decide (c.src=c.dst) && q.I && !r.I && (q.Mf == r.Mf)
 | _,_=>false
def zo (ps:List aE) (c:eQ):Bool:=match endP ps c.src c.ga with
 | some q=>q.Mf
 | none=>false
def hR (ps:List aE) (c d:eQ):Bool:=decide (d.dst=c.dst) && decide (d.hI=c.hI) || decide (d.src=c.src) && decide (d.ga=c.ga) && zo ps c
def fA (ps:List aE):List eQ→List eQ→Bool
 | _,[] =>true
 | l,c :: r=>pa ps c && !l.any (hR ps c) && fA ps (l ++ [c]) r
def eP (k:kd):Bool:=cv k.now 0 500000000 && E4 k.major k.fn && decide (k.parts.length≤6) && decide (k.eC.length≤10) && aw (·.id) bK 0 k.parts && fA k.parts [] k.eC
section
variable {ps:List aE}
theorem st: ∀ (m l r:List eQ),fA ps m (l ++ r)=(fA ps m l && fA ps (m ++ l) r)
 | m,[],r=>by simp [fA]
 | m,c :: l,r=>by
  simp only [Qw,fA];rw [st (m ++ [c]) l r];simp [Bool.and_assoc]
theorem Tz {l:List eQ} {k:Nat} {c:eQ} (h:fA ps [] (l.take k)=true) (hc:l[k]? =some c) (h1:pa ps c=true) (h2:(l.take k).any (hR ps c)=false):fA ps [] (l.take (k+1))=true:=by
 have e:l.take (k+1)=l.take k ++ [c] :=by rw [List.take_add_one,hc]; rfl
 rw [e,st,h,Ll];simp [fA,h1,h2]
theorem kq {l:List eQ} {k:Nat} {c:eQ} (hc:l[k]? =some c) (h:pa ps c=false∨(l.take k).any (hR ps c)=true):fA ps [] l=false:=by
 have hk:k < l.length:=(Lj.1 hc).1;have e:l=l.take k ++ c :: l.drop (k+1):=by
  have h1:=Qn k l;rw [List.drop_eq_getElem_cons hk] at h1;rw [Kz hk] at hc;cases hc;exact h1.symm
 rw [e,st,Ll];simp only [fA];rcases h with h | h <;> simp [h]
end
theorem ua {α:Type} {num:α→Int} (id:Int): ∀ (l:List α) (k:Nat),(place (l.map num) id k= -1∧hP num id l=none)∨ ∃ n x,place (l.map num) id k=((k+n:Nat):Int)∧l[n]? =some x∧num x=id∧hP num id l=some x
 | [],k=> .inl ⟨rfl,rfl⟩
 | y :: r,k=>by
  by_cases h:num y=id
  ·exact .inr ⟨0,y,by simp [place,h],rfl,h,by simp [hP,h]⟩
  ·rcases ua id r (k+1) with ⟨h1,h2⟩ | ⟨n,x,h1,h2,h3,h4⟩
   ·exact .inl ⟨by simpa [place,h] using h1,by simp only [hP] at h2 ⊢; simpa [h] using h2⟩
   ·exact .inr ⟨n+1,x,by simp only [Lt,place,h,if_false]; rw [h1]; congr 1; omega,by simpa using h2,h3,by simp only [hP] at h4 ⊢; simpa [h] using h4⟩
end
section
open Go.RowKit Go.Maps
structure fT (w:World) (a:Option Addr) (l:List ByteArray):Prop where
 len:l.length≤1048576
 short: ∀ s∈l,s.size≤1048576
 row:Row w a (bT.flat l)
theorem fT.below {w w':World} {a:Option Addr} {l:List ByteArray} (h:fT w a l) (hb:Below w.heap.size w w'):fT w' a l:=⟨h.len,h.short,h.row.below hb⟩
theorem oy (a:Option Addr) (l:List ByteArray) (cap:Nat) (Me:Int) (w:World) (h:fT w a l):
  Calls J3 256 #[.slice a l.length cap,.int .i64 Me] w fun e w'=>e= .returned (.bool (cv Me 1 5 && dJ l Me))∧w'=w:=by
 have H:Hid (fT w a l):=h;have hl:=h.len;clear h;by_cases h1:Me < 1
 ·go_enter Tryz.func256,Tryz.ntmps256
  go_wp2;go_ret;exact ⟨al (by rw [mA h1]; rfl),rfl⟩
 by_cases h2:5 < Me
 ·go_enter Tryz.func256,Tryz.ntmps256
  go_wp2;go_ret;exact ⟨al (by rw [kR h2]; rfl),rfl⟩
 have HIn:Hid (cv Me 1 5=true):=eB (by omega) (by omega);by_cases h3:Me < (l.length:Int)
 ·have HT:Hid (dJ l Me=false):=by show dJ l Me=false; simp [dJ]; intro _; omega
  have e1:wrap64 (l.length:Int)=l.length:=by unfold wrap64; omega
  go_enter Tryz.func256,Tryz.ntmps256
  go_wp2;go_ret;exact ⟨al (by rw [HT.I,PP]),rfl⟩
 have HL:Hid (decide ((l.length:Int)≤Me)=true):=decide_eq_true (by omega);have e1:wrap64 (l.length:Int)=l.length:=by unfold wrap64; omega
 go_enter Tryz.func256,Tryz.ntmps256
 go_wp2_with fail
 go_loop [21] (fun i=> ∃ k:Nat,k≤l.length∧i= .int .i64 k∧Hid ((l.take k).all bw=true)) (fun i=>l.length - (intOf i).toNat)
 case atStart=>exact ⟨0,Ky _,rfl,(by simp:(l.take 0).all bw=true)⟩
 case round=>
  obtain ⟨k,hk,rfl,HA⟩:=hrel;by_cases hlt:k < l.length
  ·have i0:(0:Int)≤(k:Int):=by omega
   have i1:(k:Int) < (l.length:Int):=by omega
   obtain ⟨x,hx⟩: ∃ x,l[k]? =some x:=⟨_,Kz hlt⟩
   have HX:Hid (l[k]? =some x):=hx;obtain ⟨g,rfl,c0⟩:=zl H.I.row hx;have hxs:=H.I.short x (KA hx);clear hx;go_wp2_with fail;refine (iM x w hxs).mono ?_;rintro e w' ⟨rfl,rfl⟩;cases hp:bw x with
   | true=>
    have HP:Hid (bw x=true):=hp;clear hp;go_wp2
    go_round
    case rel=>exact ⟨k+1,by omega,by go_num,pQ HA.I HX.I HP.I⟩
    case measure=>simp [intOf]; omega
   | false=>
    have HP:Hid (bw x=false):=hp;clear hp;go_wp2;go_ret;exact ⟨al (by rw [xL HX.I HP.I,PP]),rfl⟩
  ·have i1: ¬ (k:Int) < (l.length:Int):=by omega
   have HT:Hid (l.all bw=true):=by have:=HA.I; rwa [KF (by omega)] at this
   go_wp2;go_ret;exact ⟨al (by rw [HIn.I,dJ,HT.I,HL.I]; rfl),rfl⟩
theorem zS {id:Int} {I Mf:Bool} {max:Int} {Ma:List ByteArray} (h:(cv max 1 5 && dJ Ma max)=false):dj ⟨id,I,Mf,max,Ma⟩=false:=by
 simp only [dj];cases h1:cv max 1 5 <;> cases h2:dJ Ma max <;> simp_all
theorem Cu {id:Int} {I:Bool} {max:Int} {Ma:List ByteArray} (h:(cv max 1 5 && dJ Ma max)=true) (q:Bool):dj ⟨id,I,q,max,Ma⟩=(q || decide (max=1)):=by
 simp only [J7] at h;simp [dj,h.1,h.2]
def iI (Me:Int) (m:df) (id:Int) (ok:Bool):Bool:= !(cz m id).isSome && decide ((m.length:Int) < Me) && cv id 1 1000 && ok
def dD (w:World) (b:Nat) (m:df) (ok:Bool) (id:Int) (cs:Array Value) (T:TypeId) (e:Ending) (w':World):Prop:=
 e= .returned (.bool ok)∧(ok=false→Below w.heap.size w w')∧(ok=true→ ∃ g,w.heap.size≤g∧w'.heap[g]? =some (.cells cs T (0,0))∧cF w' b (oK (id,g) m)∧w.grownBy w' (some b))
theorem ki {w w':World} {b:Nat} {m:df} {ok:Bool} {id:Int} {cs:Array Value} {T:TypeId} (h:ok=false) (hb:Below w.heap.size w w'):dD w b m ok id cs T (.returned (.bool false)) w':=by
 subst h;exact ⟨rfl,fun _=>hb,fun h=>by cases h⟩
structure fe (w W:World) (S X b:Nat) (m:df) (Me:Int) (cs:Array Value) (T TS:TypeId):Prop where
 sh:W.heap[S]? =some (.cells #[.int .i64 Me,.map (some b)] TS (0,0))
 bx:W.heap[X]? =some (.cells cs T (0,0))
 mp:cF W b m
 cd:Below w.heap.size w W
section
variable {w W W':World} {S X b:Nat} {m:df} {Me:Int} {cs:Array Value} {T TS:TypeId}
theorem fe.below (h:fe w W S X b m Me cs T TS) (hb:Below W.heap.size W W'):fe w W' S X b m Me cs T TS:=
 ⟨(hb.block _ (J2.1 h.sh).1).trans h.sh,(hb.block _ (J2.1 h.bx).1).trans h.bx,h.mp.below hb,h.cd.trans (hb.mono h.cd.size)⟩
theorem fe.start (w:World) {b:Nat} {m:df} (h:cF w b m) (Me:Int) (cs:Array Value) (T TS:TypeId):fe w ((w.alloc (.cells #[.int .i64 Me,.map (some b)] TS)).alloc (.cells cs T)) w.heap.size (w.heap.size+1) b m Me cs T TS:=by
 have b1:Below w.heap.size w (w.alloc (.cells #[.int .i64 Me,.map (some b)] TS)):=(Kp _ _).alloc (Ki _) _;have b2:Below w.heap.size w ((w.alloc (.cells #[.int .i64 Me,.map (some b)] TS)).alloc (.cells cs T)):=b1.alloc b1.size _;exact ⟨(PU (by simp)).trans (Kj _ _),heap_alloc2_new _ _ _,h.below b2,b2⟩
theorem fe.drew (h:fe w W S X b m Me cs T TS):fe w W.drew S X b m Me cs T TS:=⟨h.sh,h.bx,h.mp.same rfl,h.cd.drew⟩
theorem fe.cells (h:fe w W S X b m Me cs T TS):W.cell? ⟨S,0,none⟩=some (.int .i64 Me)∧W.cell? ⟨S,1,none⟩=some (.map (some b)):=by
 have:=h.sh
 simp [World.cell?,this]
theorem fe.put (h:fe w W S X b m Me cs T TS) (hX:w.heap.size≤X) {t e:TypeId} (ht:Tryz.prog.underlying t=some (.map 2 e)) {id:Int} (hid:(Lit.int .i64 id).wf=true) (hn:cz m id=none) (hm:m.length≤1048576) (hXb: ¬ X=b):
  ∃ w',(Instr.mapUpdate t (.map (some b)) (.int .i64 id) (.pointer (some ⟨X,0,none⟩))).run J3 W= .ok () w'∧dD w b m true id cs T (.returned (.bool true)) w':=by
 obtain ⟨w',hrun,hmp,htn⟩:=h.mp.put ht hid X hn hm;refine ⟨w',hrun,⟨rfl,(fun h=>by cases h),fun _=>⟨X,hX,?_,hmp,?_⟩⟩⟩
 ·have:=htn.grown
  exact (this.block X (J2.1 h.bx).1 (fun e=>hXb (KC e))).trans h.bx
 ·have hg:=htn.grown
  exact ⟨hg.os.trans h.cd.os,hg.tape.trans h.cd.tape,hg.output.trans h.cd.output,Nat.le_trans h.cd.size hg.size,fun k hk hne=>(hg.block k (Nat.lt_of_lt_of_le hk h.cd.size) hne).trans (h.cd.block k hk)⟩
end
end
end Go.Proofs.YteidkehoekbcaaaGreat
