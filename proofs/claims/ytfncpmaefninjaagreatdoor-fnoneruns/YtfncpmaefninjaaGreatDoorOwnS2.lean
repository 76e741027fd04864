/- What the proof leans on, part 2. -/
import Derived.Test.YtfncpmaefninjaaGreatDoorOwnS0
import Derived.Test.YtfncpmaefninjaaGreatDoorOwnS1
set_option linter.unusedVariables false
set_option maxRecDepth 100000
set_option maxHeartbeats 8000000
open Go.Proofs.Tryz
open Go renaming World->w_,Value->v_,Calls->k_,Addr->d_,TypeId->T_
open Go.Ending renaming returned->r_
open Go.IntKind renaming i64->j_
open Go.Obj renaming cells->c_
open Go.RowKit renaming Below->B_
open Go.Value renaming int->i_,slice->s_,bool->b_,string->t_,agg->a_,pointer->p_,tuple->u_
open Option renaming some->o_,none->n_
open Array renaming getElem?_eq_some_iff->J2
open Bool renaming and_eq_true->J7,and_false->PP,false_eq_true->J5,false_or->Qg
open Go renaming callsIn_wide->LO,cell_of_row->K5,frozen_of_row->Ko,heap_alloc2_new->Kq,heap_alloc_new->Kj,wp_at_succ->Kd,wp_at_zero->Kc
open Go.Proofs.Tryz renaming prog->J3
open Go.RowKit.Below renaming heap_setCell->K6,refl->Kp
open List renaming all_eq_true->PZ,filter_cons->LN,getElem?_eq_getElem->Kz,getElem?_eq_some_iff->Lj,getElem?_map->Kk,length_map->KG,length_take->Lk,map_cons->Lt,map_map->Lv,mem_cons->Kt,mem_cons_of_mem->LB,mem_filter->L2,mem_map->Lr,mem_of_getElem?->KA,nodup_cons->Lp,pairwise_cons->LM,take_of_length_le->KF,take_succ_eq_append_getElem->QE
open List.Perm renaming refl->RA
open Nat renaming le_refl->Ki,le_trans->LG,zero_le->Ky
open Option renaming isNone_iff_eq_none->PX,isSome_eq_false_iff->PY
open Option.some renaming inj->KC

namespace Go.Proofs.YtfncpmaefninjaaGreatDoor
open Go.RowKit
theorem nh {l:List Int} {k:Nat} {id x:Int} (h:id∉l.take k) (hx:l[k]? =o_ x) (hne: ¬ x=id):id∉l.take (k+1):=by
 have hk:k < l.length:=(Lj.1 hx).1;rw [QE hk,List.mem_append,List.mem_singleton];rw [Kz hk] at hx;cases hx;rintro (h1 | h1)
 ·exact h h1
 ·exact hne h1.symm
theorem jg {l:List Int} {k:Nat} {id:Int} (h:id∉l.take k) (hk:l.length≤k):place l id 0= -1:=by
 rw [KF hk] at h;exact nN.2 h
theorem lS (p:af) (id:Int) (w:w_) (hl:p.L8.length≤1048576) (h:af.At w p):
  k_ J3 117 #[a_ p.cells,i_ j_ id] w fun e w'=>e=r_ (i_ j_ (place (p.L8.map (·.id)) id 0))∧B_ w.heap.size w w':=by
 have H:Hid (bg.bU (w.alloc (c_ p.cells 31)) p.aN p.L8∧B_ w.heap.size w (w.alloc (c_ p.cells 31))):=⟨h.1.below ((Kp _ _).alloc (Ki _) _),(Kp _ _).alloc (Ki _) _⟩
 have q:(w.alloc (c_ p.cells 31)).cell? ⟨w.heap.size,2,n_⟩=o_ (s_ p.aN p.L8.length p.aW):=by rw [K5 _ _ _ _ _ _ (Kj _ _)]; rfl
 clear h;unfold af.cells at *
 go_enter func117,ntmps117
 go_wp2_with fail;generalize w.alloc (c_ p.row 31)=W at *
 go_loop [5] (fun i=> ∃ k:Nat,k≤p.L8.length∧i=i_ j_ k∧Hid (id∉(p.L8.map (·.id)).take k)) (fun i=>p.L8.length - (intOf i).toNat)
 case atStart=>exact ⟨0,Ky _,rfl,(by simp:id∉(p.L8.map (·.id)).take 0)⟩
 case round=>
  obtain ⟨k,hk,rfl,HA⟩:=hrel;by_cases hlt:k < p.L8.length
  ·have i0:(0:Int)≤(k:Int):=by omega
   have i1:(k:Int) < (p.L8.length:Int):=by omega
   obtain ⟨x,hx⟩: ∃ x,p.L8[k]? =o_ x:=⟨_,Kz hlt⟩
   have HX:Hid ((p.L8.map (·.id))[k]? =o_ x.id):=by show _=_; rw [Kk,hx]; rfl
   obtain ⟨g,ha,hat⟩:=cn H.I.1 hx;exact ba
  ·have i1: ¬ (k:Int) < (p.L8.length:Int):=by omega
   exact V_
theorem lw (p:af) (id:Int) (w:w_) (hl:p.aj.length≤1048576) (h:af.At w p):
  k_ J3 120 #[a_ p.cells,i_ j_ id] w fun e w'=>e=r_ (i_ j_ (place (p.aj.map (·.id)) id 0))∧B_ w.heap.size w w':=by
 have H:Hid (dm.bU (w.alloc (c_ p.cells 31)) p.bc p.aj∧B_ w.heap.size w (w.alloc (c_ p.cells 31))):=⟨h.2.1.below ((Kp _ _).alloc (Ki _) _),(Kp _ _).alloc (Ki _) _⟩
 have q:(w.alloc (c_ p.cells 31)).cell? ⟨w.heap.size,3,n_⟩=o_ (s_ p.bc p.aj.length p.bF):=by rw [K5 _ _ _ _ _ _ (Kj _ _)]; rfl
 clear h;unfold af.cells at *
 go_enter func120,ntmps120
 go_wp2_with fail;generalize w.alloc (c_ p.row 31)=W at *
 go_loop [5] (fun i=> ∃ k:Nat,k≤p.aj.length∧i=i_ j_ k∧Hid (id∉(p.aj.map (·.id)).take k)) (fun i=>p.aj.length - (intOf i).toNat)
 case atStart=>exact ⟨0,Ky _,rfl,(by simp:id∉(p.aj.map (·.id)).take 0)⟩
 case round=>
  obtain ⟨k,hk,rfl,HA⟩:=hrel;by_cases hlt:k < p.aj.length
  ·have i0:(0:Int)≤(k:Int):=by omega
   have i1:(k:Int) < (p.aj.length:Int):=by omega
   obtain ⟨x,hx⟩: ∃ x,p.aj[k]? =o_ x:=⟨_,Kz hlt⟩
   have HX:Hid ((p.aj.map (·.id))[k]? =o_ x.id):=by show _=_; rw [Kk,hx]; rfl
   obtain ⟨g,ha,hat⟩:=lQ H.I.1 hx;exact ba
  ·have i1: ¬ (k:Int) < (p.aj.length:Int):=by omega
   exact V_
theorem ml (p:af) (id:Int) (w:w_) (hl:p.L9.length≤1048576) (h:af.At w p):
  k_ J3 121 #[a_ p.cells,i_ j_ id] w fun e w'=>e=r_ (i_ j_ (place (p.L9.map (·.id)) id 0))∧B_ w.heap.size w w':=by
 have H:Hid (bJ.bU (w.alloc (c_ p.cells 31)) p.ay p.L9∧B_ w.heap.size w (w.alloc (c_ p.cells 31))):=⟨h.2.2.1.below ((Kp _ _).alloc (Ki _) _),(Kp _ _).alloc (Ki _) _⟩
 have q:(w.alloc (c_ p.cells 31)).cell? ⟨w.heap.size,4,n_⟩=o_ (s_ p.ay p.L9.length p.aO):=by rw [K5 _ _ _ _ _ _ (Kj _ _)]; rfl
 clear h;unfold af.cells at *
 go_enter func121,ntmps121
 go_wp2_with fail;generalize w.alloc (c_ p.row 31)=W at *
 go_loop [5] (fun i=> ∃ k:Nat,k≤p.L9.length∧i=i_ j_ k∧Hid (id∉(p.L9.map (·.id)).take k)) (fun i=>p.L9.length - (intOf i).toNat)
 case atStart=>exact ⟨0,Ky _,rfl,(by simp:id∉(p.L9.map (·.id)).take 0)⟩
 case round=>
  obtain ⟨k,hk,rfl,HA⟩:=hrel;by_cases hlt:k < p.L9.length
  ·have i0:(0:Int)≤(k:Int):=by omega
   have i1:(k:Int) < (p.L9.length:Int):=by omega
   obtain ⟨x,hx⟩: ∃ x,p.L9[k]? =o_ x:=⟨_,Kz hlt⟩
   have HX:Hid ((p.L9.map (·.id))[k]? =o_ x.id):=by show _=_; rw [Kk,hx]; rfl
   obtain ⟨g,ha,hat⟩:=j4 H.I.1 hx;exact ba
  ·have i1: ¬ (k:Int) < (p.L9.length:Int):=by omega
   exact V_
theorem mg (p:af) (id:Int) (w:w_) (hl:p.ag.length≤1048576) (h:af.At w p):
  k_ J3 123 #[a_ p.cells,i_ j_ id] w fun e w'=>e=r_ (i_ j_ (place (p.ag.map (·.id)) id 0))∧B_ w.heap.size w w':=by
 have H:Hid (bG.bU (w.alloc (c_ p.cells 31)) p.ax p.ag∧B_ w.heap.size w (w.alloc (c_ p.cells 31))):=⟨h.2.2.2.1.below ((Kp _ _).alloc (Ki _) _),(Kp _ _).alloc (Ki _) _⟩
 have q:(w.alloc (c_ p.cells 31)).cell? ⟨w.heap.size,5,n_⟩=o_ (s_ p.ax p.ag.length p.aP):=by rw [K5 _ _ _ _ _ _ (Kj _ _)]; rfl
 clear h;unfold af.cells at *
 go_enter func123,ntmps123
 go_wp2_with fail;generalize w.alloc (c_ p.row 31)=W at *
 go_loop [5] (fun i=> ∃ k:Nat,k≤p.ag.length∧i=i_ j_ k∧Hid (id∉(p.ag.map (·.id)).take k)) (fun i=>p.ag.length - (intOf i).toNat)
 case atStart=>exact ⟨0,Ky _,rfl,(by simp:id∉(p.ag.map (·.id)).take 0)⟩
 case round=>
  obtain ⟨k,hk,rfl,HA⟩:=hrel;by_cases hlt:k < p.ag.length
  ·have i0:(0:Int)≤(k:Int):=by omega
   have i1:(k:Int) < (p.ag.length:Int):=by omega
   obtain ⟨x,hx⟩: ∃ x,p.ag[k]? =o_ x:=⟨_,Kz hlt⟩
   have HX:Hid ((p.ag.map (·.id))[k]? =o_ x.id):=by show _=_; rw [Kk,hx]; rfl
   obtain ⟨g,ha,hat⟩:=jr H.I.1 hx;exact ba
  ·have i1: ¬ (k:Int) < (p.ag.length:Int):=by omega
   exact V_
theorem lr (p:af) (id:Int) (w:w_) (hl:p.ae.length≤1048576) (h:af.At w p):
  k_ J3 122 #[a_ p.cells,i_ j_ id] w fun e w'=>e=r_ (i_ j_ (place (p.ae.map (·.id)) id 0))∧B_ w.heap.size w w':=by
 have H:Hid (bm.bU (w.alloc (c_ p.cells 31)) p.am p.ae∧B_ w.heap.size w (w.alloc (c_ p.cells 31))):=⟨h.2.2.2.2.1.below ((Kp _ _).alloc (Ki _) _),(Kp _ _).alloc (Ki _) _⟩
 have q:(w.alloc (c_ p.cells 31)).cell? ⟨w.heap.size,6,n_⟩=o_ (s_ p.am p.ae.length p.aG):=by rw [K5 _ _ _ _ _ _ (Kj _ _)]; rfl
 clear h;unfold af.cells at *
 go_enter func122,ntmps122
 go_wp2_with fail;generalize w.alloc (c_ p.row 31)=W at *
 go_loop [5] (fun i=> ∃ k:Nat,k≤p.ae.length∧i=i_ j_ k∧Hid (id∉(p.ae.map (·.id)).take k)) (fun i=>p.ae.length - (intOf i).toNat)
 case atStart=>exact ⟨0,Ky _,rfl,(by simp:id∉(p.ae.map (·.id)).take 0)⟩
 case round=>
  obtain ⟨k,hk,rfl,HA⟩:=hrel;by_cases hlt:k < p.ae.length
  ·have i0:(0:Int)≤(k:Int):=by omega
   have i1:(k:Int) < (p.ae.length:Int):=by omega
   obtain ⟨x,hx⟩: ∃ x,p.ae[k]? =o_ x:=⟨_,Kz hlt⟩
   have HX:Hid ((p.ae.map (·.id))[k]? =o_ x.id):=by show _=_; rw [Kk,hx]; rfl
   obtain ⟨g,ha,hat⟩:=iA H.I.1 hx;exact ba
  ·have i1: ¬ (k:Int) < (p.ae.length:Int):=by omega
   exact V_
theorem uV (p:af) (id:Int) (w:w_) (hl:p.ai.length≤1048576) (h:af.At w p):
  k_ J3 126 #[a_ p.cells,i_ j_ id] w fun e w'=>e=r_ (i_ j_ (place (p.ai.map (·.id)) id 0))∧B_ w.heap.size w w':=by
 have H:Hid (bX.bU (w.alloc (c_ p.cells 31)) p.aK p.ai∧B_ w.heap.size w (w.alloc (c_ p.cells 31))):=⟨h.2.2.2.2.2.below ((Kp _ _).alloc (Ki _) _),(Kp _ _).alloc (Ki _) _⟩
 have q:(w.alloc (c_ p.cells 31)).cell? ⟨w.heap.size,7,n_⟩=o_ (s_ p.aK p.ai.length p.aV):=by rw [K5 _ _ _ _ _ _ (Kj _ _)]; rfl
 clear h;unfold af.cells at *
 go_enter func126,ntmps126
 go_wp2_with fail;generalize w.alloc (c_ p.row 31)=W at *
 go_loop [5] (fun i=> ∃ k:Nat,k≤p.ai.length∧i=i_ j_ k∧Hid (id∉(p.ai.map (·.id)).take k)) (fun i=>p.ai.length - (intOf i).toNat)
 case atStart=>exact ⟨0,Ky _,rfl,(by simp:id∉(p.ai.map (·.id)).take 0)⟩
 case round=>
  obtain ⟨k,hk,rfl,HA⟩:=hrel;by_cases hlt:k < p.ai.length
  ·have i0:(0:Int)≤(k:Int):=by omega
   have i1:(k:Int) < (p.ai.length:Int):=by omega
   obtain ⟨x,hx⟩: ∃ x,p.ai[k]? =o_ x:=⟨_,Kz hlt⟩
   have HX:Hid ((p.ai.map (·.id))[k]? =o_ x.id):=by show _=_; rw [Kk,hx]; rfl
   obtain ⟨g,ha,hat⟩:=lm H.I.1 hx;exact ba
  ·have i1: ¬ (k:Int) < (p.ai.length:Int):=by omega
   exact V_
def dJ (l:List ByteArray) (Me:Int):Bool:=l.all bw && decide ((l.length:Int)≤Me)
theorem xL {l:List ByteArray} {Me:Int} {k:Nat} {x:ByteArray} (hx:l[k]? =o_ x) (h:bw x=false):dJ l Me=false:=by
 have:l.all bw=false:=by
  rw [List.all_eq_false];exact ⟨x,KA hx,by simp [h]⟩
 simp [dJ,this]
theorem pQ {l:List ByteArray} {k:Nat} {x:ByteArray} (h:(l.take k).all bw=true) (hx:l[k]? =o_ x) (hp:bw x=true):(l.take (k+1)).all bw=true:=by
 have hk:k < l.length:=(Lj.1 hx).1;rw [QE hk,List.all_append,h];rw [Kz hk] at hx;cases hx;simp [hp]
theorem zl {w:w_} {a:Option d_} {l:List ByteArray} (h:Row w a (bT.flat l)) {k:Nat} {x:ByteArray} (hx:l[k]? =o_ x): ∃ g,a=o_ ⟨g,0,n_⟩∧w.cell? ⟨g,k,n_⟩=o_ (t_ x):=by
 have h1:(bT.flat l)[k]? =o_ (t_ x):=by
  have:=bT.jw hx (j:=0) (by decide)
  simpa [bT] using this
 exact h k _ h1
theorem Aj (a:Option d_) (l:List ByteArray) (cap:Nat) (Me:Int) (w:w_) (hl:l.length≤1048576) (hs: ∀ x∈l,x.size≤1048576) (h:Row w a (bT.flat l)):
  k_ J3 83 #[s_ a l.length cap,i_ j_ Me] w fun e w'=>e=r_ (b_ (dJ l Me))∧w'=w:=by
 have H:Hid (Row w a (bT.flat l)∧ ∀ x∈l,x.size≤1048576):=⟨h,hs⟩
 clear h hs
 go_enter func83,ntmps83
 go_wp2_with fail
 go_loop [5] (fun i=> ∃ k:Nat,k≤l.length∧i=i_ j_ k∧Hid ((l.take k).all bw=true)) (fun i=>l.length - (intOf i).toNat)
 case atStart=>exact ⟨0,Ky _,rfl,(by simp:(l.take 0).all bw=true)⟩
 case round=>
  obtain ⟨k,hk,rfl,HA⟩:=hrel;by_cases hlt:k < l.length
  ·have i0:(0:Int)≤(k:Int):=by omega
   have i1:(k:Int) < (l.length:Int):=by omega
   obtain ⟨x,hx⟩: ∃ x,l[k]? =o_ x:=⟨_,Kz hlt⟩
   have HX:Hid (l[k]? =o_ x):=hx;obtain ⟨g,rfl,c0⟩:=zl H.I.1 hx;have hxs:=H.I.2 x (KA hx);clear hx;go_wp2_with fail;refine (jC x w hxs).mono ?_;rintro e w' ⟨rfl,rfl⟩;cases hp:bw x with
   | true=>
    exact Za0
   | false=>
    have HP:Hid (bw x=false):=hp;clear hp;go_wp2;go_ret;exact ⟨al (xL HX.I HP.I).symm,rfl⟩
  ·have i1: ¬ (k:Int) < (l.length:Int):=by omega
   have HT:Hid (l.all bw=true):=by have:=HA.I; rwa [KF (by omega)] at this
   have e1:wrap64 (l.length:Int)=l.length:=by unfold wrap64; omega
   go_wp2;go_ret;exact ⟨al (by rw [dJ,HT.I]; simp),rfl⟩
def hasB (p:aE) (Md id:Int):Bool:=
 if Md=3 then decide (id∈p.aj.map (·.id)) else if Md=4 then decide (id∈p.L9.map (·.id))
 else if Md=5∨Md=6 then decide (id∈p.ae.map (·.id)) else if Md=7 then decide (id∈p.ag.map (·.id)) else false
theorem mV (l:List Int) (id:Int):decide (0≤place l id 0)=decide (id∈l):=by
 by_cases h:id∈l
 ·rw [decide_eq_true h]
  rcases z8 l id 0 with h1 | h1
  ·exact absurd h (nN.1 h1)
  ·exact decide_eq_true (by simpa using h1)
 ·rw [decide_eq_false h,nN.2 h]
  rfl
structure af.dX (p:af):Prop where
 L8:p.L8.length≤1048576
 aj:p.aj.length≤1048576
 L9:p.L9.length≤1048576
 ag:p.ag.length≤1048576
 ae:p.ae.length≤1048576
 ai:p.ai.length≤1048576
theorem xT (p:af) (Md id:Int) (w:w_) (hl:p.dX) (h:af.At w p):
  k_ J3 85 #[a_ p.cells,i_ j_ Md,i_ j_ id] w fun e w'=>e=r_ (b_ (hasB p.pure Md id))∧B_ w.heap.size w w':=by
 have hp:p.cells=p.row:=rfl;have H:Hid ((af.At (w.alloc (c_ p.cells 31)) p∧B_ w.heap.size w (w.alloc (c_ p.cells 31)))∧p.dX):=⟨⟨h.below ((Kp _ _).alloc (Ki _) _),(Kp _ _).alloc (Ki _) _⟩,hl⟩
 rw [hp] at H;rw [hp];clear h hl hp;by_cases s3:Md=3
 ·subst s3
  go_enter func85,ntmps85
  go_wp2_with fail;refine (lw p id _ H.I.2.aj H.I.1.1).mono ?_;rintro e w1 ⟨rfl,hb1⟩;have HB:Hid (B_ w.heap.size w w1):=H.I.1.2.trans (hb1.mono (by simp));have HM:Hid (decide (0≤place (p.aj.map (·.id)) id 0)=decide (id∈p.aj.map (·.id))):=mV _ id;exact Y_
 by_cases s4:Md=4
 ·subst s4
  go_enter func85,ntmps85
  go_wp2_with fail;refine (ml p id _ H.I.2.L9 H.I.1.1).mono ?_;rintro e w1 ⟨rfl,hb1⟩;have HB:Hid (B_ w.heap.size w w1):=H.I.1.2.trans (hb1.mono (by simp));have HM:Hid (decide (0≤place (p.L9.map (·.id)) id 0)=decide (id∈p.L9.map (·.id))):=mV _ id;exact Y_
 by_cases s5:Md=5
 ·subst s5
  exact PC
 by_cases s6:Md=6
 ·subst s6
  exact PC
 by_cases s7:Md=7
 ·subst s7
  go_enter func85,ntmps85
  go_wp2_with fail;refine (mg p id _ H.I.2.ag H.I.1.1).mono ?_;rintro e w1 ⟨rfl,hb1⟩;have HB:Hid (B_ w.heap.size w w1):=H.I.1.2.trans (hb1.mono (by simp));have HM:Hid (decide (0≤place (p.ag.map (·.id)) id 0)=decide (id∈p.ag.map (·.id))):=mV _ id;exact Y_
 have e3:(Md == 3)=false:=by simp [s3]
 have e4:(Md == 4)=false:=by simp [s4]
 have e5:(Md == 5)=false:=by simp [s5]
 have e6:(Md == 6)=false:=by simp [s6]
 have e7:(Md == 7)=false:=by simp [s7]
 have HN:Hid (hasB p.pure Md id=false):=by show hasB p.pure Md id=false; simp [hasB,s3,s4,s5,s6,s7]
 clear s3 s4 s5 s6 s7
 go_enter func85,ntmps85
 go_wp2;go_ret;exact ⟨al HN.I.symm,H.I.1.2⟩
end Go.Proofs.YtfncpmaefninjaaGreatDoor

namespace Go.Proofs.YtfncpmaefninjaaGreatDoor
open Go.RowKit
end Go.Proofs.YtfncpmaefninjaaGreatDoor

namespace Go.Proofs.YtfncpmaefninjaaGreatDoor
open Go.RowKit
def rM:ByteArray:=⟨#[]⟩
def jm (l:List dN):Bool:=nq l.length (Cd l) (Cg l) (Ea l) (Ce l)
def gw (x:bD):Bool:=cv x.max 1 1000 && cv x.n 0 x.max
def ey (_:aB):Bool:=true
def cU (x:az):Bool:=bw x.text && (x.shown || bI x.text)
def ct (x:ci):Bool:=cv x.max 1 5 && dJ x.Ma x.max
def dj (x:dS):Bool:=cv x.max 1 5 && (x.Mf || decide (x.max=1)) && dJ x.Ma x.max
def aw {α:Type} (num:α→Int) (ok:α→Bool):Int→List α→Bool
 | _,[] =>true
 | last,x :: r=>cv (num x) 1 1000 && decide (last < num x) && ok x && aw num ok (num x) r
def bW {α:Type} (num:α→Int):Int→List α→Int
 | last,[] =>last
 | _,x :: r=>bW num (num x) r
section
variable {α:Type} {num:α→Int} {ok:α→Bool}
theorem lH: ∀ (l r:List α) (last:Int),aw num ok last (l ++ r)=(aw num ok last l && aw num ok (bW num last l) r)
 | [],r,last=>by simp [aw,bW]
 | x :: l,r,last=>by
  simp only [List.cons_append,aw,bW,lH l r (num x),Bool.and_assoc]
theorem pL: ∀ (l:List α) (x:α) (last:Int),bW num last (l ++ [x])=num x
 | [],_,_=>rfl
 | y :: l,x,_=>pL l x (num y)
theorem kL {l:List α} {k:Nat} {x:α} (hx:l[k]? =o_ x):l=l.take k ++ x :: l.drop (k+1):=by
 have hk:k < l.length:=(Lj.1 hx).1;rw [Kz hk] at hx;cases hx
 have:=List.take_append_drop k l
 rw [List.drop_eq_getElem_cons hk] at this;exact this.symm
theorem cj {l:List α} {k:Nat} {x:α} (hx:l[k]? =o_ x):l.take (k+1)=l.take k ++ [x] :=by
 have hk:k < l.length:=(Lj.1 hx).1;rw [Kz hk] at hx;cases hx;exact QE hk
theorem eG {l:List α} {k:Nat} {x:α} (hx:l[k]? =o_ x) (last:Int):bW num last (l.take (k+1))=num x:=by
 rw [cj hx,pL]
theorem ed {l:List α} {k:Nat} {x:α} {last:Int} (h:aw num ok last (l.take k)=true) (hx:l[k]? =o_ x) (h1:cv (num x) 1 1000=true) (h2:bW num last (l.take k) < num x) (h3:ok x=true):aw num ok last (l.take (k+1))=true:=by
 rw [cj hx,lH,h];simp [aw,h1,h2,h3]
theorem bS {l:List α} {k:Nat} {x:α} {last:Int} (hx:l[k]? =o_ x) (h: ¬ (cv (num x) 1 1000=true∧bW num last (l.take k) < num x∧ok x=true)):aw num ok last l=false:=by
 rw [kL hx,lH]
 have:aw num ok (bW num last (l.take k)) (x :: l.drop (k+1))=false:=by
  simp only [aw];cases h1:cv (num x) 1 1000 <;> simp
  by_cases h2:bW num last (l.take k) < num x
  ·cases h3:ok x
   ·simp
   ·exact absurd ⟨h1,h2,h3⟩ h
  ·simp [h2]
 rw [this,PP]
theorem cK {l:List α} {last:Int} (h:aw num ok last l=true): ∀ x∈l,cv (num x) 1 1000=true∧ok x=true:=by
 induction l generalizing last with
 | nil=>intro x hx; cases hx
 | cons y r ih=>
  simp only [aw,J7] at h;intro x hx;rcases Kt.1 hx with rfl | hx
  ·exact ⟨h.1.1.1,h.1.2⟩
  ·exact ih h.2 x hx
theorem nC {ok':α→Bool} {l:List α} {last:Int} :aw num (fun x=>ok x && ok' x) last l=(aw num ok last l && l.all ok'):=by
 induction l generalizing last with
 | nil=>rfl
 | cons y r ih=>
  simp only [aw,ih,List.all_cons];cases cv (num y) 1 1000 <;> cases decide (last < num y) <;> cases ok y <;> cases ok' y <;> simp
end
theorem jL {α β:Type} (f:α→β) (num:β→Int) (ok:β→Bool) (l:List α) (last:Int):aw num ok last (l.map f)=aw (fun x=>num (f x)) (fun x=>ok (f x)) last l:=by
 induction l generalizing last with
 | nil=>rfl
 | cons y r ih=>simp only [Lt,aw,ih]
def opAt (x:aD):dN:=x.prog[x.pc.toNat]?.getD (0,0,0,rM)
def dU (x:aD):Bool:=cv x.pc 0 ((x.prog.length:Int) - 1)
def jJ (x:aD):Bool:=if (opAt x).1=1 then decide (0≤x.left) && decide (x.left < (opAt x).2.1) else decide (x.left=0)
def lh (t:Int):Bool:=cv t 1 2000000000 || decide (t= -1)
def bO (x:aD):Bool:=
 if x.Md=0 then decide (x.pc=0) && decide (x.left=0) && decide (x.Mg=0) && decide (x.on=0) && decide (x.RU=0) && bI x.held
 else if x.Md=1 then dU x && jJ x && decide (x.Mg=0) && decide (x.on=0) && bI x.held
 else if x.Md=2 then dU x && decide (x.left=0) && cv x.Mg 1 2000000000 && decide (x.on=0) && bI x.held
 else if x.Md=5 then dU x && decide (x.left=0) && lh x.Mg
 else if x.Md=3∨x.Md=4∨x.Md=6∨x.Md=7 then dU x && decide (x.left=0) && lh x.Mg && bI x.held
 else false
def cH (x:aD):Bool:=cv x.RX 1 50 && jm x.prog && bw x.held && bw x.got && cv x.code 0 3 && bO x
def fF (next:Int) (x:aD):Bool:=decide (x.Md=0) || cv x.RU 1 (next - 1)
def dG (p:aE) (x:aD):Bool:=if 3≤x.Md then hasB p x.Md x.on else true
def rb (l:List aD):Prop:=(l.map (·.RU)).Pairwise (fun a b=> ¬ (a=b∧0 < b))
structure aQ (p:aE):Prop where
 id:cv p.id 1 6=true
 next:cv p.next 1 1000000000=true
 dl:p.L8.length≤6
 fx:p.aj.length≤5
 cD:p.L9.length≤5
 cC:p.ag.length≤5
 cb:p.ae.length≤5
 dH:p.ai.length≤5
 L8:aw (·.id) (fun x=>cH x && fF p.next x && dG p x) 0 p.L8=true
 aj:aw (·.id) gw 0 p.aj=true
 L9:aw (·.id) ey 0 p.L9=true
 ag:aw (·.id) cU 0 p.ag=true
 ae:aw (·.id) ct 0 p.ae=true
 ai:aw (·.id) dj 0 p.ai=true
 apart:rb p.L8
def bK (p:aE):Bool:=cv p.id 1 6 && cv p.next 1 1000000000 && decide (p.L8.length≤6) && decide (p.aj.length≤5) && decide (p.L9.length≤5) && decide (p.ag.length≤5) && decide (p.ae.length≤5) && decide (p.ai.length≤5) &&
 aw (·.id) (fun x=>cH x && fF p.next x && dG p x) 0 p.L8 && aw (·.id) gw 0 p.aj && aw (·.id) ey 0 p.L9 && aw (·.id) cU 0 p.ag && aw (·.id) ct 0 p.ae && aw (·.id) dj 0 p.ai && decide ((p.L8.map (·.RU)).Pairwise (fun a b=> ¬ (a=b∧0 < b)))
theorem ch (p:aE):bK p=true↔aQ p:=by
 simp only [bK,J7,decide_eq_true_eq];constructor
 ·rintro ⟨⟨⟨⟨⟨⟨⟨⟨⟨⟨⟨⟨⟨⟨h1,h2⟩,h3⟩,h4⟩,h5⟩,h6⟩,h7⟩,h8⟩,h9⟩,h10⟩,h11⟩,h12⟩,h13⟩,h14⟩,h15⟩
  exact ⟨h1,h2,h3,h4,h5,h6,h7,h8,h9,h10,h11,h12,h13,h14,h15⟩
 ·intro h
  exact ⟨⟨⟨⟨⟨⟨⟨⟨⟨⟨⟨⟨⟨⟨h.id,h.next⟩,h.dl⟩,h.fx⟩,h.cD⟩,h.cC⟩,h.cb⟩,h.dH⟩,h.L8⟩,h.aj⟩,h.L9⟩,h.ag⟩,h.ae⟩,h.ai⟩,h.apart⟩
theorem fP {p:aE} (h:aQ p):bK p=true:=(ch p).2 h
theorem dL {p:aE} (h: ¬ aQ p):bK p=false:=by
 cases hb:bK p with
 | false=>rfl
 | true=>exact absurd ((ch p).1 hb) h
end Go.Proofs.YtfncpmaefninjaaGreatDoor

namespace Go.Proofs.YtfncpmaefninjaaGreatDoor
open Go.RowKit
def Hu (l:List aD):List Int:=(l.filter (fun x=> !decide (x.Md=0))).map (·.RU)
def nQ (next:Int) (l:List aD):Prop:=(∀ x∈l,¬ x.Md=0→1≤x.RU∧x.RU < next)∧(Hu l).Nodup
structure OpenR (p:aE):Prop where
 id:cv p.id 1 6=true
 next:cv p.next 1 1000000000=true
 dl:p.L8.length≤6
 fx:p.aj.length≤5
 cD:p.L9.length≤5
 cC:p.ag.length≤5
 cb:p.ae.length≤5
 dH:p.ai.length≤5
 L8:aw (·.id) cH 0 p.L8=true
 aj:aw (·.id) gw 0 p.aj=true
 L9:aw (·.id) ey 0 p.L9=true
 ag:aw (·.id) cU 0 p.ag=true
 ae:aw (·.id) ct 0 p.ae=true
 ai:aw (·.id) dj 0 p.ai=true
 turns:nQ p.next p.L8
 waits:p.L8.all (dG p)=true
theorem bz {n lo hi:Int} :cv n lo hi=true↔lo≤n∧n≤hi:=by simp [cv]
theorem kx {x:aD} (h:cH x=true) (h0:x.Md=0):x.RU=0:=by
 simp only [cH,J7] at h
 have:=h.2
 simp only [bO,h0,if_true,J7,decide_eq_true_eq] at this;exact this.1.2
theorem tW {next:Int} {l:List aD} (hb: ∀ x∈l,cH x=true) (h:nQ next l):rb l:=by
 induction l with
 | nil=>exact List.Pairwise.nil
 | cons x r ih=>
  have hr:nQ next r:=⟨fun y hy=>h.1 y ZdH,by
   have:=h.2
   unfold Hu at this ⊢;rw [LN] at this
   split at this
   ·exact (Lp.1 this).2
   ·exact this⟩
  refine LM.2 ⟨fun b wU hab=> ?_,ih (fun y hy=>hb y ZdH) hr⟩;obtain ⟨y,hy,rfl⟩:=Lr.1 wU;have e1:x.RU=y.RU:=hab.1;have e2:0 < y.RU:=hab.2;have hxs: ¬ x.Md=0:=fun e=>by
   have:=kx (hb x (by simp)) e
   omega
  have hys: ¬ y.Md=0:=fun e=>by
   have:=kx (hb y ZdH) e
   omega
  have:=h.2
  unfold Hu at this;rw [LN,if_pos (by simp [hxs]),Lt,Lp] at this;exact this.1 (Lr.2 ⟨y,L2.2 ⟨hy,by simp [hys]⟩,hab.1.symm⟩)
theorem uf {next:Int} {l:List aD} (ht: ∀ x∈l,fF next x=true) (h:rb l):nQ next l:=by
 have h1: ∀ x∈l,¬ x.Md=0→1≤x.RU∧x.RU < next:=fun x hx h0=>by
  have:=ht x hx
  simp only [fF,h0,decide_false,Qg] at this
  have:=bz.1 this
  omega
 refine ⟨h1,?_⟩
 induction l with
 | nil=>exact List.nodup_nil
 | cons x r ih=>
  obtain ⟨h2,h3⟩:=LM.1 h;have ih':=ih (fun y hy=>ht y ZdH) h3 (fun y hy=>h1 y ZdH);unfold Hu at ih' ⊢;rw [LN]
  split
  ·rename_i hx
   have hx0: ¬ x.Md=0:=by simpa using hx
   rw [Lt,Lp];refine ⟨fun hm=> ?_,ih'⟩;obtain ⟨y,hy,e⟩:=Lr.1 hm;have hy':=(L2.1 hy).1
   have:=h1 x (by simp) hx0
   exact h2 y.RU (Lr.2 ⟨y,hy',rfl⟩) ⟨e.symm,by omega⟩
  ·exact ih'
theorem i5 (p:aE):OpenR p↔aQ p:=by
 constructor
 ·intro h
  refine ⟨h.id,h.next,h.dl,h.fx,h.cD,h.cC,h.cb,h.dH,?_,h.aj,h.L9,h.ag,h.ae,h.ai,tW (fun x hx=>(cK h.L8 x hx).2) h.turns⟩;rw [nC,nC,h.L8,h.waits,Bool.true_and,Bool.and_true,PZ];intro x hx;by_cases h0:x.Md=0
  ·simp [fF,h0]
  ·have:=h.turns.1 x hx h0
   simp only [fF,h0,decide_false,Qg];exact bz.2 (by omega)
 ·intro h
  have hp:=h.L8;rw [nC,nC,J7,J7] at hp;exact ⟨h.id,h.next,h.dl,h.fx,h.cD,h.cC,h.cb,h.dH,hp.1.1,h.aj,h.L9,h.ag,h.ae,h.ai,uf (fun x hx=>PZ.1 hp.1.2 x hx) h.apart,hp.2⟩
end Go.Proofs.YtfncpmaefninjaaGreatDoor

namespace Go.Proofs.YtfncpmaefninjaaGreatDoor
open Go.RowKit
theorem vz (l:List dN) {j:Nat} (hj:j < l.length * 4):(fk.flat l)[j]? =o_ (xe (Cd l) (Cg l) (Ea l) (Ce l) j):=by
 have hi:j / 4 < l.length:=by omega
 have hx:l[j / 4]? =o_ l[j / 4] :=Kz hi;have hr:j % 4 < 4:=by omega
 have:=fk.jw hx (j:=j % 4) hr
 have e:j / 4 * fk.n+j % 4=j:=by show j / 4 * 4+j % 4=j; omega
 rw [e] at this;rw [this];have h4:j % 4=0∨j % 4=1∨j % 4=2∨j % 4=3:=by omega
 rcases h4 with h | h | h | h <;> rw [h] <;> simp [fk,CC,xe,h,Cd,Cg,Ea,Ce,hx]
theorem wa {w:w_} {a:Option d_} {l:List dN} (h:Row w a (fk.flat l)) (hl:0 < l.length): ∃ g,a=o_ ⟨g,0,n_⟩∧y9 w g l:=by
 obtain ⟨g,e,hc⟩:=h 0 _ (vz l (j:=0) (by omega));refine ⟨g,e,block_lt_of_cell hc,fun j hj=> ?_⟩;obtain ⟨g',e',hc'⟩:=h j _ (vz l hj);rw [e] at e';cases e';exact hc'
theorem Jm {w:w_} {a:Option d_} {l:List dN} (h:Row w a (fk.flat l)) {i:Nat} {x:dN} (hx:l[i]? =o_ x): ∃ g,a=o_ ⟨g,0,n_⟩∧w.cell? ⟨g,i * 4,n_⟩=o_ (i_ j_ x.1)∧w.cell? ⟨g,i * 4+1,n_⟩=o_ (i_ j_ x.2.1)∧w.cell? ⟨g,i * 4+2,n_⟩=o_ (i_ j_ x.2.2.1)∧w.cell? ⟨g,i * 4+3,n_⟩=o_ (t_ x.2.2.2):=by
 have h':fk.bU w a l:=⟨h,fun _ _ r hr=>by cases hr⟩
 obtain ⟨g,e,hc⟩:=h'.at hx;exact ⟨g,e,hc 0 _ rfl,hc 1 _ rfl,hc 2 _ rfl,hc 3 _ rfl⟩
theorem xd {l:List dN} (hs: ∀ o∈l,o.2.2.2.size≤1048576): ∀ i,i < l.length→(Ce l i).size≤1048576:=fun i hi=>by
 simp only [Ce,Kz hi,Option.getD_some];exact hs _ (List.getElem_mem hi)
structure ao.dX (x:ao):Prop where
 prog:x.prog.length≤1048576
 ops: ∀ o∈x.prog,o.2.2.2.size≤1048576
 held:x.held.size≤1048576
 got:x.got.size≤1048576
theorem xf:jm [] =false:=iS (fun h=>by have:=h.1; simp at this)
theorem tz (a:Option d_) (cap:Nat) (w:w_):
  k_ J3 84 #[s_ a 0 cap] w fun e w'=>e=r_ (b_ false)∧B_ w.heap.size w w':=by
 go_enter func84,ntmps84
 go_wp2
 go_loop [3] (fun i=>i=i_ j_ 0) (fun _=>0)
 case atStart=>rfl
 case round=>
  subst hrel;go_wp2;go_ret;exact ⟨rfl,Kp _ _⟩
theorem wQ (a:Option d_) (l:List dN) (cap:Nat) (w:w_) (hl:l.length≤1048576) (hs: ∀ o∈l,o.2.2.2.size≤1048576) (h:Row w a (fk.flat l)):
  k_ J3 84 #[s_ a l.length cap] w fun e w'=>e=r_ (b_ (jm l))∧B_ w.heap.size w w':=by
 cases l with
 | nil=>rw [xf]; exact tz a cap w
 | cons x r=>
  obtain ⟨g,rfl,hr⟩:=wa h (by simp);exact vv g _ cap _ _ _ _ w hl (xd hs) hr
theorem tu (a:Option d_) (cap:Nat) (w:w_):
  k_ J3 237 #[s_ a 0 cap] w fun e w'=>e=r_ (b_ false)∧B_ w.heap.size w w':=by
 go_enter func237,ntmps237
 go_wp2;go_ret;exact ⟨rfl,Kp _ _⟩
theorem wI (a:Option d_) (l:List dN) (cap:Nat) (w:w_) (hl:l.length≤1048576) (hs: ∀ o∈l,o.2.2.2.size≤1048576) (h:Row w a (fk.flat l)):
  k_ J3 237 #[s_ a l.length cap] w fun e w'=>e=r_ (b_ (jm l))∧B_ w.heap.size w w':=by
 cases l with
 | nil=>rw [xf]; exact tu a cap w
 | cons x r=>
  obtain ⟨g,rfl,hr⟩:=wa h (by simp);exact tV g _ cap _ _ _ _ w hl (xd hs) hr
end Go.Proofs.YtfncpmaefninjaaGreatDoor

namespace Go.Proofs.YtfncpmaefninjaaGreatDoor
def dF (a b:aD):Bool:=if a.RX=b.RX then decide (a.RU < b.RU) else decide (b.RX < a.RX)
def iy (r:Option aD) (x:aD):Option aD:=match r with
 | none=>o_ x
 | some b=>if dF x b then o_ x else o_ b
def jo (l:List aD):Option aD:=l.foldl iy n_
theorem ny (l:List aD) (x:aD):jo (l ++ [x])=iy (jo l) x:=by simp [jo]
theorem zp {r:Option aD} {x y:aD} (h:iy r x=o_ y):y=x∨r=o_ y:=by
 unfold iy at h
 exact ZbQ
theorem pN (r:Option aD) (x:aD): ∃ y,iy r x=o_ y:=by
 unfold iy
 split
 ·exact ⟨_,rfl⟩
 ·split <;> exact ⟨_,rfl⟩
def dO (f:aD→Bool) (l:List aD) (k:Nat) (i:Int):Prop:=match jo ((l.take k).filter f) with
 | none=>i= -1
 | some x=> ∃ n:Nat,i=n∧n < k∧l[n]? =o_ x
section
variable {f:aD→Bool} {l:List aD} {k:Nat} {i:Int} {x:aD}
theorem dO.start (f:aD→Bool) (l:List aD):dO f l 0 (-1):=by simp [dO,jo]
theorem rS (hx:l[k]? =o_ x):(l.take (k+1)).filter f=(l.take k).filter f ++ (if f x then [x] else []):=by
 rw [cj hx,List.filter_append];by_cases h:f x=true <;> simp [h]
theorem dO.skip (h:dO f l k i) (hx:l[k]? =o_ x) (hf:f x=false):dO f l (k+1) i:=by
 unfold dO at h ⊢;rw [rS hx,hf];exact Zbu
theorem dO.first (h:dO f l k i) (hi:i < 0) (hx:l[k]? =o_ x) (hf:f x=true):dO f l (k+1) k:=by
 unfold dO at h ⊢;rw [rS hx,hf];simp only [if_true];rw [ny]
 exact ZbN
theorem dO.got (h:dO f l k i) (hi: ¬ i < 0): ∃ (n:Nat) (y:aD),i=n∧n < k∧l[n]? =o_ y∧jo ((l.take k).filter f)=o_ y:=by
 unfold dO at h
 exact ZbU
theorem dO.next {n:Nat} {y:aD} (hn:n < k) (hy:l[n]? =o_ y) (he:jo ((l.take k).filter f)=o_ y) (hx:l[k]? =o_ x) (hf:f x=true):dO f l (k+1) (if dF x y then (k:Int) else (n:Int)):=by
 unfold dO;rw [rS hx,hf];simp only [if_true];rw [ny,he];simp only [iy];by_cases ha:dF x y=true
 ·simp only [ha,if_true]
  exact ⟨k,rfl,by omega,hx⟩
 ·simp only [ha,J5,if_false]
  exact ⟨n,rfl,by omega,hy⟩
end
def nL (l:List aD):Int:=match jo (l.filter fun x=>decide (x.Md=1)) with
 | none=>0
 | some x=>x.id
def da (p:aE):Int:=if bK p then nL p.L8 else 0
end Go.Proofs.YtfncpmaefninjaaGreatDoor

namespace Go.Proofs.YtfncpmaefninjaaGreatDoor
open Go.RowKit Go.Maps
structure fT (w:w_) (a:Option d_) (l:List ByteArray):Prop where
 len:l.length≤1048576
 short: ∀ s∈l,s.size≤1048576
 row:Row w a (bT.flat l)
theorem fT.below {w w':w_} {a:Option d_} {l:List ByteArray} (h:fT w a l) (hb:B_ w.heap.size w w'):fT w' a l:=⟨h.len,h.short,h.row.below hb⟩
theorem oy (a:Option d_) (l:List ByteArray) (cap:Nat) (Me:Int) (w:w_) (h:fT w a l):
  k_ J3 264 #[s_ a l.length cap,i_ j_ Me] w fun e w'=>e=r_ (b_ (cv Me 1 5 && dJ l Me))∧w'=w:=by
 have H:Hid (fT w a l):=h;have hl:=h.len;clear h;by_cases h1:Me < 1
 ·go_enter func264,ntmps264
  go_wp2;go_ret;exact ⟨al (by rw [mA h1]; rfl),rfl⟩
 by_cases h2:5 < Me
 ·go_enter func264,ntmps264
  go_wp2;go_ret;exact ⟨al (by rw [kR h2]; rfl),rfl⟩
 have HIn:Hid (cv Me 1 5=true):=eB (by omega) (by omega);by_cases h3:Me < (l.length:Int)
 ·have HT:Hid (dJ l Me=false):=by show dJ l Me=false; simp [dJ]; intro _; omega
  have e1:wrap64 (l.length:Int)=l.length:=by unfold wrap64; omega
  go_enter func264,ntmps264
  go_wp2;go_ret;exact ⟨al (by rw [HT.I,PP]),rfl⟩
 have HL:Hid (decide ((l.length:Int)≤Me)=true):=decide_eq_true (by omega);have e1:wrap64 (l.length:Int)=l.length:=by unfold wrap64; omega
 go_enter func264,ntmps264
 go_wp2_with fail
 go_loop [21] (fun i=> ∃ k:Nat,k≤l.length∧i=i_ j_ k∧Hid ((l.take k).all bw=true)) (fun i=>l.length - (intOf i).toNat)
 case atStart=>exact ⟨0,Ky _,rfl,(by simp:(l.take 0).all bw=true)⟩
 case round=>
  obtain ⟨k,hk,rfl,HA⟩:=hrel;by_cases hlt:k < l.length
  ·have i0:(0:Int)≤(k:Int):=by omega
   have i1:(k:Int) < (l.length:Int):=by omega
   obtain ⟨x,hx⟩: ∃ x,l[k]? =o_ x:=⟨_,Kz hlt⟩
   have HX:Hid (l[k]? =o_ x):=hx;obtain ⟨g,rfl,c0⟩:=zl H.I.row hx;have hxs:=H.I.short x (KA hx);clear hx;go_wp2_with fail;refine (iM x w hxs).mono ?_;rintro e w' ⟨rfl,rfl⟩;cases hp:bw x with
   | true=>
    exact Za0
   | false=>
    have HP:Hid (bw x=false):=hp;clear hp;go_wp2;go_ret;exact ⟨al (by rw [xL HX.I HP.I,PP]),rfl⟩
  ·have i1: ¬ (k:Int) < (l.length:Int):=by omega
   have HT:Hid (l.all bw=true):=by have:=HA.I; rwa [KF (by omega)] at this
   go_wp2;go_ret;exact ⟨al (by rw [HIn.I,dJ,HT.I,HL.I]; rfl),rfl⟩
theorem zS {id:Int} {I Mf:Bool} {max:Int} {Ma:List ByteArray} (h:(cv max 1 5 && dJ Ma max)=false):dj ⟨id,I,Mf,max,Ma⟩=false:=by
 simp only [dj];cases h1:cv max 1 5 <;> cases h2:dJ Ma max <;> simp_all
theorem Cu {id:Int} {I:Bool} {max:Int} {Ma:List ByteArray} (h:(cv max 1 5 && dJ Ma max)=true) (q:Bool):dj ⟨id,I,q,max,Ma⟩=(q || decide (max=1)):=by
 simp only [J7] at h;simp [dj,h.1,h.2]
def iI (Me:Int) (m:df) (id:Int) (ok:Bool):Bool:= !(cz m id).isSome && decide ((m.length:Int) < Me) && cv id 1 1000 && ok
def dD (w:w_) (b:Nat) (m:df) (ok:Bool) (id:Int) (cs:Array v_) (T:T_) (e:Ending) (w':w_):Prop:=
 e=r_ (b_ ok)∧(ok=false→B_ w.heap.size w w')∧(ok=true→ ∃ g,w.heap.size≤g∧w'.heap[g]? =o_ (c_ cs T)∧cF w' b (oK (id,g) m)∧w.grownBy w' (o_ b))
theorem ki {w w':w_} {b:Nat} {m:df} {ok:Bool} {id:Int} {cs:Array v_} {T:T_} (h:ok=false) (hb:B_ w.heap.size w w'):dD w b m ok id cs T (r_ (b_ false)) w':=by
 subst h;exact ⟨rfl,fun _=>hb,fun h=>by cases h⟩
structure fe (w W:w_) (S X b:Nat) (m:df) (Me:Int) (cs:Array v_) (T TS:T_):Prop where
 sh:W.heap[S]? =o_ (c_ #[i_ j_ Me,.map (o_ b)] TS)
 bx:W.heap[X]? =o_ (c_ cs T)
 mp:cF W b m
 cd:B_ w.heap.size w W
section
variable {w W W':w_} {S X b:Nat} {m:df} {Me:Int} {cs:Array v_} {T TS:T_}
theorem fe.below (h:fe w W S X b m Me cs T TS) (hb:B_ W.heap.size W W'):fe w W' S X b m Me cs T TS:=
 ⟨(hb.block _ (J2.1 h.sh).1).trans h.sh,(hb.block _ (J2.1 h.bx).1).trans h.bx,h.mp.below hb,h.cd.trans (hb.mono h.cd.size)⟩
theorem fe.start (w:w_) {b:Nat} {m:df} (h:cF w b m) (Me:Int) (cs:Array v_) (T TS:T_):fe w ((w.alloc (c_ #[i_ j_ Me,.map (o_ b)] TS)).alloc (c_ cs T)) w.heap.size (w.heap.size+1) b m Me cs T TS:=by
 have b1:B_ w.heap.size w (w.alloc (c_ #[i_ j_ Me,.map (o_ b)] TS)):=(Kp _ _).alloc (Ki _) _;have b2:B_ w.heap.size w ((w.alloc (c_ #[i_ j_ Me,.map (o_ b)] TS)).alloc (c_ cs T)):=b1.alloc b1.size _;exact ⟨(PU (by simp)).trans (Kj _ _),Kq _ _ _,h.below b2,b2⟩
theorem fe.drew (h:fe w W S X b m Me cs T TS):fe w W.drew S X b m Me cs T TS:=⟨h.sh,h.bx,h.mp.same rfl,h.cd.drew⟩
theorem fe.cells (h:fe w W S X b m Me cs T TS):W.cell? ⟨S,0,n_⟩=o_ (i_ j_ Me)∧W.cell? ⟨S,1,n_⟩=o_ (.map (o_ b)):=by
 have:=h.sh
 simp [World.cell?,this]
theorem fe.put (h:fe w W S X b m Me cs T TS) (hX:w.heap.size≤X) {t e:T_} (ht:Tryz.prog.underlying t=o_ (.map 2 e)) {id:Int} (hid:(Lit.int j_ id).wf=true) (hn:cz m id=n_) (hm:m.length≤1048576) (hXb: ¬ X=b):
  ∃ w',(Instr.mapUpdate t (.map (o_ b)) (i_ j_ id) (p_ (o_ ⟨X,0,n_⟩))).run J3 W= .ok () w'∧dD w b m true id cs T (r_ (b_ true)) w':=by
 obtain ⟨w',hrun,hmp,htn⟩:=h.mp.put ht hid X hn hm;refine ⟨w',hrun,⟨rfl,(fun h=>by cases h),fun _=>⟨X,hX,?_,hmp,?_⟩⟩⟩
 ·have:=htn.grown
  exact (this.block X (J2.1 h.bx).1 (fun e=>hXb (KC e))).trans h.bx
 ·have hg:=htn.grown
  exact ⟨hg.os.trans h.cd.os,hg.tape.trans h.cd.tape,hg.output.trans h.cd.output,LG h.cd.size hg.size,fun k hk hne=>(hg.block k (Nat.lt_of_lt_of_le hk h.cd.size) hne).trans (h.cd.block k hk)⟩
end
end Go.Proofs.YtfncpmaefninjaaGreatDoor

namespace Go.Proofs.YtfncpmaefninjaaGreatDoor
open Go.RowKit Go.Maps
section
variable {α:Type} {vs:α→Array v_} {num:α→Int} {T:T_}
def RW (num:α→Int) (l:List (α × Nat)):df:=l.map fun p=>(num p.1,p.2)
structure Shelf (vs:α→Array v_) (num:α→Int) (T:T_) (w:w_) (base b:Nat) (l:List (α × Nat)):Prop where
 map:cF w b (RW num l)
 box: ∀ p∈l,w.heap[p.2]? =o_ (c_ (vs p.1) T)
 nodup:(b :: l.map (·.2)).Nodup
 low: ∀ g∈b :: l.map (·.2),base≤g
theorem Shelf.lt {w:w_} {base b:Nat} {l:List (α × Nat)} (h:Shelf vs num T w base b l): ∀ g∈b :: l.map (·.2),g < w.heap.size:=fun g hg=>by
 rcases Kt.1 hg with rfl | hg
 ·exact h.map.lt
 ·obtain ⟨p,hp,rfl⟩:=Lr.1 hg
  exact (J2.1 (h.box p hp)).1
theorem Shelf.same {w w':w_} {base b:Nat} {l:List (α × Nat)} (h:Shelf vs num T w base b l) (hs: ∀ g∈b :: l.map (·.2),w'.heap[g]? =w.heap[g]?):Shelf vs num T w' base b l:=
 ⟨h.map.same (hs b (by simp)),fun p hp=>(hs p.2 (LB _ (Lr.2 ⟨p,hp,rfl⟩))).trans (h.box p hp),h.nodup,h.low⟩
theorem Shelf.below {w w':w_} {base b:Nat} {l:List (α × Nat)} (h:Shelf vs num T w base b l) (hb:B_ w.heap.size w w'):Shelf vs num T w' base b l:=h.same fun g hg=>hb.block g (h.lt g hg)
theorem Shelf.lower {w:w_} {base base' b:Nat} {l:List (α × Nat)} (h:Shelf vs num T w base b l) (hb:base'≤base):Shelf vs num T w base' b l:=⟨h.map,h.box,h.nodup,fun g hg=>LG hb (h.low g hg)⟩
theorem Shelf.none {w:w_} {base b:Nat} (hb:w.heap[b]? =o_ (.map #[] 0)) (hl:base≤b):Shelf vs num T w base b [] :=
 ⟨cF.Hh hb,(fun p hp=>by cases hp),by simp,fun g hg=>by simp at hg; subst hg; exact hl⟩
def fc (num:α→Int) (p:α × Nat):List (α × Nat)→List (α × Nat)
 | [] => [p]
 | y :: r=>if num p.1 < num y.1 then p :: y :: r else y :: fc num p r
theorem EE (p:α × Nat) (l:List (α × Nat)):RW num (fc num p l)=oK (num p.1,p.2) (RW num l):=by
 induction l with
 | nil=>rfl
 | cons y r ih=>
  simp only [fc,RW,Lt,oK] at ih ⊢
  split
  ·rfl
  ·simp only [Lt,ih]
theorem lC (p:α × Nat) (l:List (α × Nat)):(fc num p l).Perm (p :: l):=by
 induction l with
 | nil=>exact RA _
 | cons y r ih=>
  unfold fc
  split
  ·exact RA _
  ·exact (List.Perm.cons y ih).trans (List.Perm.swap p y r)
theorem Er {p:α × Nat} {l:List (α × Nat)} (h: ∀ q∈l,num q.1 < num p.1):fc num p l=l ++ [p] :=by
 induction l with
 | nil=>rfl
 | cons y r ih=>
  have:=h y (by simp)
  unfold fc;rw [if_neg (by omega),ih (fun q hq=>h q (by simp [hq]))];rfl
theorem bZ (l:List (α × Nat)):(RW num l).length=l.length:=by simp [RW]
theorem Shelf.lay {w w':w_} {base b:Nat} {l:List (α × Nat)} {x:α} {e:Ending} (h:Shelf vs num T w base b l) (hb:base≤w.heap.size) (hl:dD w b (RW num l) true (num x) (vs x) T e w'):
  ∃ g,w.heap.size≤g∧Shelf vs num T w' base b (fc num (x,g) l)∧w.grownBy w' (o_ b):=by
 obtain ⟨-,-,h3⟩:=hl;obtain ⟨g,hg,lD,hmap,hgr⟩:=h3 rfl;have hpm:((fc num (x,g) l).map (·.2)).Perm (g :: l.map (·.2)):=(lC (num:=num) (x,g) l).map (·.2);refine ⟨g,hg,⟨?_,fun p hp=> ?_,?_,fun k hk=> ?_⟩,hgr⟩
 ·rw [EE]; exact hmap
 ·rcases Kt.1 ((lC (num:=num) (x,g) l).mem_iff.1 hp) with rfl | hp
  ·exact lD
  ·have hne: ¬ p.2=b:=fun e=>by
    have:=(Lp.1 h.nodup).1
    exact this (Lr.2 ⟨p,hp,e⟩)
   exact (hgr.block p.2 (h.lt p.2 (LB _ (Lr.2 ⟨p,hp,rfl⟩))) (fun e=>hne (KC e))).trans (h.box p hp)
 ·refine ((List.Perm.cons b hpm).nodup_iff).2 ?_
  refine ((List.Perm.swap g b (l.map (·.2))).nodup_iff).2 ?_;refine Lp.2 ⟨fun hm=> ?_,h.nodup⟩
  have:=h.lt g hm
  omega
 ·rcases Kt.1 hk with rfl | hk
  ·exact h.low k (by simp)
  ·rcases Kt.1 (hpm.mem_iff.1 hk) with rfl | hk
   ·omega
   ·exact h.low k (LB _ hk)
def jN (vs:α→Array v_) (num:α→Int) (T:T_) (w:w_) (Me:Int) (ok:Bool) (list:List α) (e:Ending) (w':w_):Prop:=
 B_ w.heap.size w w'∧((ok=false∧e=r_ (u_ #[a_ #[i_ j_ 0,.map n_],b_ false]))∨
  (ok=true∧ ∃ b l,e=r_ (u_ #[a_ #[i_ j_ Me,.map (o_ b)],b_ true])∧l.map (·.1)=list∧Shelf vs num T w' w.heap.size b l))
structure eS (vs:α→Array v_) (num:α→Int) (T TS:T_) (w wr:w_) (Me:Int) (l:List (α × Nat)):Prop where
 res:wr.heap[w.heap.size]? =o_ (c_ #[i_ j_ 0,.map n_] TS)
 var:wr.heap[w.heap.size+1+1]? =o_ (c_ #[i_ j_ Me,.map (o_ (w.heap.size+1))] TS)
 eh:Shelf vs num T wr (w.heap.size+1) (w.heap.size+1) l
 cd:B_ w.heap.size w wr
theorem eS.below {TS:T_} {w wr w':w_} {Me:Int} {l:List (α × Nat)} (h:eS vs num T TS w wr Me l) (hb:B_ wr.heap.size wr w'):eS vs num T TS w w' Me l:=
 ⟨(hb.block _ (J2.1 h.res).1).trans h.res,(hb.block _ (J2.1 h.var).1).trans h.var,h.eh.below hb,h.cd.trans (hb.mono h.cd.size)⟩
theorem eS.start (TS:T_) (w:w_) (Me:Int):eS vs num T TS w (((w.alloc (c_ #[i_ j_ 0,.map n_] TS)).alloc (.map #[] 0)).alloc (c_ #[i_ j_ Me,.map (o_ (w.heap.size+1))] TS)) Me [] :=by
 have b1:B_ w.heap.size w (w.alloc (c_ #[i_ j_ 0,.map n_] TS)):=(Kp _ _).alloc (Ki _) _;have b2:=b1.alloc b1.size (.map #[] 0);have b3:=b2.alloc b2.size (c_ #[i_ j_ Me,.map (o_ (w.heap.size+1))] TS);refine ⟨?_,?_,Shelf.none ?_ (by omega),b3⟩
 ·rw [PU ZcT,PU (by simp),Kj]
 ·have:=Kj ((w.alloc (c_ #[i_ j_ 0,.map n_] TS)).alloc (.map #[] 0)) (c_ #[i_ j_ Me,.map (o_ (w.heap.size+1))] TS)
  simpa using this
 ·rw [PU (by simp)]
  exact Kq _ _ _
theorem eS.cells {TS:T_} {w wr:w_} {Me:Int} {l:List (α × Nat)} (h:eS vs num T TS w wr Me l):
  wr.cell? ⟨w.heap.size,0,n_⟩=o_ (i_ j_ 0)∧wr.cell? ⟨w.heap.size,1,n_⟩=o_ (.map n_)∧wr.cell? ⟨w.heap.size+1+1,0,n_⟩=o_ (i_ j_ Me)∧wr.cell? ⟨w.heap.size+1+1,1,n_⟩=o_ (.map (o_ (w.heap.size+1)))∧wr.frozen? ⟨w.heap.size,0,n_⟩=false∧wr.frozen? ⟨w.heap.size,1,n_⟩=false:=by
 have h1:=h.res;have h2:=h.var;refine ⟨by simp [World.cell?,h1],by simp [World.cell?,h1],by simp [World.cell?,h2],by simp [World.cell?,h2],Ko _ _ _ _ _ h1,Ko _ _ _ _ _ h1⟩
theorem eS.lay {TS:T_} {w wr w':w_} {Me:Int} {l:List (α × Nat)} {x:α} {e:Ending} (h:eS vs num T TS w wr Me l) (hl:dD wr (w.heap.size+1) (RW num l) true (num x) (vs x) T e w') (hr: ∀ q∈l,num q.1 < num x):
  ∃ g,eS vs num T TS w w' Me (l ++ [(x,g)]):=by
 obtain ⟨g,hg,hs,hgr⟩:=h.eh.lay (by have:=(J2.1 h.var).1; omega) hl;rw [Er hr] at hs;refine ⟨g,(hgr.block _ (J2.1 h.res).1 (by simp)).trans h.res,(hgr.block _ (J2.1 h.var).1 (by simp)).trans h.var,hs,?_⟩;exact h.cd.trans ⟨hgr.os,hgr.tape,hgr.output,hgr.size,fun k hk=>hgr.block k (by have:=h.cd.size; omega) (fun e=>by have:=KC e; omega)⟩
theorem xq {ok:α→Bool} : ∀ {l:List α} {last:Int},aw num ok last l=true→last≤bW num last l∧ ∀ y∈l,num y≤bW num last l
 | [],last,_=>⟨Int.le_refl _,fun y hy=>by cases hy⟩
 | x :: r,last,h=>by
  simp only [aw,J7,decide_eq_true_eq] at h;obtain ⟨h1,h2⟩:=xq h.2;simp only [bW];refine ⟨by omega,fun y hy=> ?_⟩;rcases Kt.1 hy with rfl | hy
  ·exact h1
  ·exact h2 y hy
theorem jB {ok:α→Bool} {l:List (α × Nat)} {list:List α} {last:Int} {x:α} (hm:l.map (·.1)=list) (h:aw num ok last list=true) (hx:bW num last list < num x): ∀ q∈l,num q.1 < num x:=fun q hq=>by
 have:=(xq h).2 q.1 (by rw [← hm]; exact Lr.2 ⟨q,hq,rfl⟩)
 omega
theorem Ej {l:List (α × Nat)} {x:α} (h: ∀ q∈l,num q.1 < num x):cz (RW num l) (num x)=n_:=by
 rw [qA];intro hm;simp only [RW,Lv,Lr] at hm;obtain ⟨q,hq,e⟩:=hm
 have:=h q hq
 simp only [Function.comp] at e;omega
theorem iC {ok:α→Bool} {list:List α} {k:Nat} {x:α} {Me:Int} {l:List (α × Nat)} (hx:list[k]? =o_ x) (hm:l.map (·.1)=list.take k) (oC:aw num ok 0 (list.take k)=true) (hlt:bW num 0 (list.take k) < num x) (h:iI Me (RW num l) (num x) (ok x)=false):
  (aw num ok 0 list && decide ((list.length:Int)≤max Me 0))=false:=by
 have hk:k < list.length:=(Lj.1 hx).1;have hn:=Ej (jB hm oC hlt);have hlen:l.length=k:=by
  have:=congrArg List.length hm
  simp only [KG,Lk] at this;omega
 simp only [iI,hn,bZ,hlen] at h;by_cases h1:(k:Int) < Me
 ·have:aw num ok 0 list=false:=bS hx (fun hh=>by
   rw [hh.1,hh.2.2,decide_eq_true h1] at h;simp at h)
  rw [this]; rfl
 ·have:decide ((list.length:Int)≤max Me 0)=false:=decide_eq_false (by omega)
  rw [this,PP]
theorem gM {ok:α→Bool} {list:List α} {k:Nat} {x:α} {Me:Int} {l:List (α × Nat)} (hx:list[k]? =o_ x) (hm:l.map (·.1)=list.take k) (oC:aw num ok 0 (list.take k)=true) (hlt:bW num 0 (list.take k) < num x) (h:iI Me (RW num l) (num x) (ok x)=true):
  aw num ok 0 (list.take (k+1))=true∧((k+1:Nat):Int)≤max Me 0:=by
 have hlen:l.length=k:=by
  have:=congrArg List.length hm
  have hk:k < list.length:=(Lj.1 hx).1;simp only [KG,Lk] at this;omega
 simp only [iI,J7,decide_eq_true_eq,bZ,hlen] at h;exact ⟨ed oC hx h.1.2 hlt h.2,by omega⟩
theorem eS.lu {TS:T_} {w wr:w_} {Me:Int} {l:List (α × Nat)} (h:eS vs num T TS w wr Me l) (v0 v1:v_):Shelf vs num T ((wr.setCell ⟨w.heap.size,0,n_⟩ v0).setCell ⟨w.heap.size,1,n_⟩ v1) w.heap.size (w.heap.size+1) l∧B_ w.heap.size w ((wr.setCell ⟨w.heap.size,0,n_⟩ v0).setCell ⟨w.heap.size,1,n_⟩ v1):=by
 refine ⟨(h.eh.same fun g hg=> ?_).lower (by omega),(h.cd.setCell (Ki _) _).setCell (Ki _) _⟩
 have:=h.eh.low g hg
 rw [K6 _ _ _ _ (by show g≠w.heap.size; omega),K6 _ _ _ _ (by show g≠w.heap.size; omega)]
end
end Go.Proofs.YtfncpmaefninjaaGreatDoor

namespace Go.Proofs.YtfncpmaefninjaaGreatDoor
open Go.RowKit
attribute [local go_sem ↓] Kc Kd
def aX (x:ao):Array v_:= #[i_ j_ x.id,i_ j_ x.RX,s_ x.aY x.prog.length x.bH,i_ j_ x.Md,i_ j_ x.pc,i_ j_ x.left,i_ j_ x.Mg,i_ j_ x.on,t_ x.held,t_ x.got,i_ j_ x.code,i_ j_ x.RU]
def eL (w:w_) (x:ao):Prop:=x.dX∧Row w x.aY (fk.flat x.prog)
theorem eL.below {w w':w_} {x:ao} (h:eL w x) (hb:B_ w.heap.size w w'):eL w' x:=⟨h.1,h.2.below hb⟩
theorem bo {W:w_} {X:Nat} {x:ao} (h:W.heap[X]? =o_ (c_ (aX x) 41)):W.cell? ⟨X,0,n_⟩=o_ (i_ j_ x.id)∧W.cell? ⟨X,1,n_⟩=o_ (i_ j_ x.RX)∧W.cell? ⟨X,2,n_⟩=o_ (s_ x.aY x.prog.length x.bH)∧W.cell? ⟨X,3,n_⟩=o_ (i_ j_ x.Md)∧W.cell? ⟨X,4,n_⟩=o_ (i_ j_ x.pc)∧W.cell? ⟨X,5,n_⟩=o_ (i_ j_ x.left)∧W.cell? ⟨X,6,n_⟩=o_ (i_ j_ x.Mg)∧W.cell? ⟨X,7,n_⟩=o_ (i_ j_ x.on)∧W.cell? ⟨X,8,n_⟩=o_ (t_ x.held)∧W.cell? ⟨X,9,n_⟩=o_ (t_ x.got)∧W.cell? ⟨X,10,n_⟩=o_ (i_ j_ x.code)∧W.cell? ⟨X,11,n_⟩=o_ (i_ j_ x.RU):=by
 unfold aX at h;simp [World.cell?,h]
theorem iK (x:ao) (w:w_):k_ J3 235 #[a_ (aX x)] w fun e w'=>e=r_ (i_ j_ x.id)∧B_ w.heap.size w w':=by
 unfold aX
 go_enter func235,ntmps235
 exact wl
theorem ob (v : v_) (w : w_) : Sem.run J3 (method 433 41 v "loop.example/g00313/impl.number") w = .ok (235, v) w := by kernel_rfl
theorem uB (v : v_) (w : w_) : Sem.run J3 (method 433 41 v "loop.example/g00313/impl.right") w = .ok (236, v) w := by kernel_rfl
theorem oD (w:w_):(zeroValue 64).run J3 w= .ok (p_ n_) w:=by kernel_rfl
theorem BP (Me:Int) (b:Nat) (m:df) (id:Int) (w:w_) (h:cF w b m) (hw:(Lit.int j_ id).wf=true):
  k_ J3 128 #[a_ #[i_ j_ Me,.map (o_ b)],i_ j_ id] w fun e w'=>e=r_ (b_ (cz m id).isSome)∧B_ w.heap.size w w':=by
 have hlk:=(h.below ((Kp _ w).alloc (Ki _) (c_ #[i_ j_ Me,.map (o_ b)] 69))).look underlying67 (oD _) hw true;simp only [if_true] at hlk;clear h hw
 go_enter func128,ntmps128
 exact wl
theorem kb (t:Int) (w:w_):k_ J3 242 #[i_ j_ t] w fun e w'=>e=r_ (b_ (cv t 1 2000000000))∧w'=w:=by
 by_cases h1:1≤t
 ·by_cases h2:t≤2000000000
  ·go_enter func242,ntmps242
   exact Zbn
  ·go_enter func242,ntmps242
   exact Za6
 ·go_enter func242,ntmps242
  exact Za7
theorem kn (x:ao) (w:w_) (hl:x.prog.length≤1048576):k_ J3 137 #[a_ (aX x)] w fun e w'=>e=r_ (b_ (dU x.toaD))∧B_ w.heap.size w w':=by
 unfold aX;have e1:wrap64 (x.prog.length:Int)=x.prog.length:=by unfold wrap64; omega
 by_cases h1:0≤x.pc
 ·by_cases h2:x.pc < (x.prog.length:Int)
  ·have HV:Hid (dU x.toaD=true):=eB h1 (by omega)
   go_enter func137,ntmps137
   exact ZaM
  ·have HV:Hid (dU x.toaD=false):=kR (by omega)
   go_enter func137,ntmps137
   exact ZaM
 ·have HV:Hid (dU x.toaD=false):=mA (by omega)
  go_enter func137,ntmps137
  exact ZaM
theorem xm {x:aD} (h:dU x=true): ∃ k:Nat,x.pc=k∧k < x.prog.length∧x.prog[k]? =o_ (opAt x):=by
 have:=bz.1 h
 refine ⟨x.pc.toNat,by omega,by omega,?_⟩;unfold opAt;rw [Kz (by omega)];rfl
theorem CP (x:ao) (w:w_) (hf:eL w x) (h:dU x.toaD=true):k_ J3 241 #[a_ (aX x)] w fun e w'=>e=r_ (b_ (jJ x.toaD))∧B_ w.heap.size w w':=by
 obtain ⟨k,hk,hkl,hop⟩:=xm h;have b1:B_ w.heap.size w (w.alloc (c_ (aX x) 41)):=(Kp _ _).alloc (Ki _) _;obtain ⟨g,hg,c0,c1,c2,c3⟩:=Jm (hf.2.below b1) hop;have HL:Hid (jJ x.toaD=if (opAt x.toaD).1=1 then decide (0≤x.left) && decide (x.left < (opAt x.toaD).2.1) else decide (x.left=0)):=rfl;have i0:(0:Int)≤(k:Int):=by omega
 have i1:(k:Int) < (x.prog.length:Int):=by omega
 clear h hop hf;generalize opAt x.toaD=o at *;obtain ⟨⟨id,RX,prog,Md,pc,left,Mg,on,held,got,code,RU⟩,aY,bH⟩:=x;simp only at hk hg i1 HL;subst hk hg;unfold aX at *;simp only at *;by_cases h1:o.1=1
 ·have Jt:Hid (jJ ⟨id,RX,prog,Md,k,left,Mg,on,held,got,code,RU⟩=(decide (0≤left) && decide (left < o.2.1))):=HL.I.trans (if_pos h1)
  have h1':(o.1 == 1)=true:=by simp [h1]
  clear h1 HL;by_cases h2:0≤left
  ·by_cases h3:left < o.2.1
   all_goals
    go_enter func241,ntmps241
    go_wp2;go_ret;exact ⟨al (by rw [Jt.I]; simp [h2,h3]),by go_grown⟩
  ·go_enter func241,ntmps241
   go_wp2;go_ret;exact ⟨al (by rw [Jt.I,decide_eq_false (by omega)]; rfl),by go_grown⟩
 ·have Jt:Hid (jJ ⟨id,RX,prog,Md,k,left,Mg,on,held,got,code,RU⟩=decide (left=0)):=HL.I.trans (if_neg h1)
  have h1':(o.1 == 1)=false:=by simp [h1]
  clear h1 HL
  go_enter func241,ntmps241
  go_wp2;go_ret;exact ⟨al (by rw [Jt.I]; by_cases h:left=0 <;> simp [h]),by go_grown⟩
end Go.Proofs.YtfncpmaefninjaaGreatDoor

namespace Go.Proofs.YtfncpmaefninjaaGreatDoor
open Go.RowKit
attribute [local go_sem ↓] Kc Kd
def bQ (x:au):Array v_:= #[i_ j_ x.id,i_ j_ x.max,s_ x.ak x.Ma.length x.aq]
def fM (w:w_) (x:au):Prop:=fT w x.ak x.Ma
theorem fM.below {w w':w_} {x:au} (h:fM w x) (hb:B_ w.heap.size w w'):fM w' x:=fT.below h hb
theorem ia {W:w_} {X:Nat} {x:au} (h:W.heap[X]? =o_ (c_ (bQ x) 96)):W.cell? ⟨X,0,n_⟩=o_ (i_ j_ x.id)∧W.cell? ⟨X,1,n_⟩=o_ (i_ j_ x.max)∧W.cell? ⟨X,2,n_⟩=o_ (s_ x.ak x.Ma.length x.aq):=by
 unfold bQ at h;simp [World.cell?,h]
theorem gP (x:au) (w:w_):k_ J3 262 #[a_ (bQ x)] w fun e w'=>e=r_ (i_ j_ x.id)∧B_ w.heap.size w w':=by
 unfold bQ
 go_enter func262,ntmps262
 exact wl
theorem mc (v : v_) (w : w_) : Sem.run J3 (method 433 96 v "loop.example/g00313/impl.number") w = .ok (262, v) w := by kernel_rfl
theorem se (v : v_) (w : w_) : Sem.run J3 (method 433 96 v "loop.example/g00313/impl.right") w = .ok (263, v) w := by kernel_rfl
theorem pS (w:w_):(zeroValue 168).run J3 w= .ok (p_ n_) w:=by kernel_rfl
theorem mE (Me:Int) (b:Nat) (m:df) (id:Int) (w:w_) (h:cF w b m) (hw:(Lit.int j_ id).wf=true):
  k_ J3 133 #[a_ #[i_ j_ Me,.map (o_ b)],i_ j_ id] w fun e w'=>e=r_ (b_ (cz m id).isSome)∧B_ w.heap.size w w':=by
 have hlk:=(h.below ((Kp _ w).alloc (Ki _) (c_ #[i_ j_ Me,.map (o_ b)] 81))).look underlying79 (pS _) hw true;simp only [if_true] at hlk;clear h hw
 go_enter func133,ntmps133
 exact wl
theorem Sr (x:au) (w:w_) (hf:fM w x):k_ J3 263 #[a_ (bQ x)] w fun e w'=>e=r_ (b_ (ct x.toci))∧B_ w.heap.size w w':=by
 have HF:Hid (fM w x):=hf;clear hf;unfold bQ
 go_enter func263,ntmps263
 go_wp2_with fail;refine (oy x.ak x.Ma x.aq x.max _ (fT.below HF.I ((Kp _ _).alloc (Ki _) _))).mono ?_;rintro e w1 ⟨rfl,hw1⟩;subst hw1;exact wl
end Go.Proofs.YtfncpmaefninjaaGreatDoor

namespace Go.Proofs.YtfncpmaefninjaaGreatDoor
open Go.RowKit
attribute [local go_sem ↓] Kc Kd
def cW (x:aM):Array v_:= #[i_ j_ x.id,b_ x.I,b_ x.Mf,i_ j_ x.max,s_ x.ak x.Ma.length x.aq]
def jf (w:w_) (x:aM):Prop:=fT w x.ak x.Ma
theorem jf.below {w w':w_} {x:aM} (h:jf w x) (hb:B_ w.heap.size w w'):jf w' x:=fT.below h hb
theorem gE {W:w_} {X:Nat} {x:aM} (h:W.heap[X]? =o_ (c_ (cW x) 115)):W.cell? ⟨X,0,n_⟩=o_ (i_ j_ x.id)∧W.cell? ⟨X,1,n_⟩=o_ (b_ x.I)∧W.cell? ⟨X,2,n_⟩=o_ (b_ x.Mf)∧W.cell? ⟨X,3,n_⟩=o_ (i_ j_ x.max)∧W.cell? ⟨X,4,n_⟩=o_ (s_ x.ak x.Ma.length x.aq):=by
 unfold cW at h;simp [World.cell?,h]
theorem iN (x:aM) (w:w_):k_ J3 267 #[a_ (cW x)] w fun e w'=>e=r_ (i_ j_ x.id)∧B_ w.heap.size w w':=by
 unfold cW
 go_enter func267,ntmps267
 exact wl
theorem nY (v : v_) (w : w_) : Sem.run J3 (method 433 115 v "loop.example/g00313/impl.number") w = .ok (267, v) w := by kernel_rfl
theorem vZ (v : v_) (w : w_) : Sem.run J3 (method 433 115 v "loop.example/g00313/impl.right") w = .ok (268, v) w := by kernel_rfl
theorem sK (w:w_):(zeroValue 169).run J3 w= .ok (p_ n_) w:=by kernel_rfl
theorem Bb (Me:Int) (b:Nat) (m:df) (id:Int) (w:w_) (h:cF w b m) (hw:(Lit.int j_ id).wf=true):
  k_ J3 134 #[a_ #[i_ j_ Me,.map (o_ b)],i_ j_ id] w fun e w'=>e=r_ (b_ (cz m id).isSome)∧B_ w.heap.size w w':=by
 have hlk:=(h.below ((Kp _ w).alloc (Ki _) (c_ #[i_ j_ Me,.map (o_ b)] 84))).look underlying82 (sK _) hw true;simp only [if_true] at hlk;clear h hw
 go_enter func134,ntmps134
 exact wl
theorem wG (x:aM) (w:w_) (hf:jf w x):k_ J3 268 #[a_ (cW x)] w fun e w'=>e=r_ (b_ (dj x.todS))∧B_ w.heap.size w w':=by
 have HF:Hid (jf w x):=hf;clear hf;obtain ⟨⟨id,I,Mf,max,Ma⟩,ak,aq⟩:=x;unfold cW;cases hp:(cv max 1 5 && dJ Ma max) with
 | false=>
  have HP:Hid ((cv max 1 5 && dJ Ma max)=false):=hp;clear hp
  go_enter func268,ntmps268
  go_wp2_with fail;refine (oy ak Ma aq max _ (fT.below HF.I ((Kp _ _).alloc (Ki _) _))).mono ?_;rintro e w1 ⟨rfl,hw1⟩;rw [HP.I];subst hw1;go_wp2;go_ret;exact ⟨al (zS HP.I).symm,(Kp _ _).alloc (Ki _) _⟩
 | true=>
  have HP:Hid ((cv max 1 5 && dJ Ma max)=true):=hp;clear hp;by_cases h1:max=1
  all_goals
   have HM:Hid (decide (max=1)=(max == 1)):=by show decide (max=1)=(max == 1); by_cases h:max=1 <;> simp [h]
   have h1':(max == 1)=decide (max=1):=HM.I.symm;cases Mf
  all_goals
   have HV:Hid (∀ q,dj ⟨id,I,q,max,Ma⟩=(q || decide (max=1))):=Cu HP.I;simp only [h1,decide_true,decide_false] at h1';clear h1
   go_enter func268,ntmps268
   go_wp2_with fail;refine (oy ak Ma aq max _ (fT.below HF.I ((Kp _ _).alloc (Ki _) _))).mono ?_;rintro e w1 ⟨rfl,hw1⟩;rw [HP.I];subst hw1;go_wp2;go_ret;exact ⟨al (by rw [HV.I,HM.I]; simp [h1']),(Kp _ _).alloc (Ki _) _⟩
end Go.Proofs.YtfncpmaefninjaaGreatDoor

namespace Go.Proofs.YtfncpmaefninjaaGreatDoor
open Go.RowKit
attribute [local go_sem ↓] Kc Kd
def eH (x:bD):Array v_:= #[i_ j_ x.id,i_ j_ x.n,i_ j_ x.max]
def kU (_:w_) (_:bD):Prop:=True
theorem kU.below {w w':w_} {x:bD} (_:kU w x) (_:B_ w.heap.size w w'):kU w' x:=trivial
theorem gm {W:w_} {X:Nat} {x:bD} (h:W.heap[X]? =o_ (c_ (eH x) 89)):W.cell? ⟨X,0,n_⟩=o_ (i_ j_ x.id)∧W.cell? ⟨X,1,n_⟩=o_ (i_ j_ x.n)∧W.cell? ⟨X,2,n_⟩=o_ (i_ j_ x.max):=by
 unfold eH at h;simp [World.cell?,h]
theorem jv (x:bD) (w:w_):k_ J3 253 #[a_ (eH x)] w fun e w'=>e=r_ (i_ j_ x.id)∧B_ w.heap.size w w':=by
 unfold eH
 go_enter func253,ntmps253
 exact wl
theorem pb (v : v_) (w : w_) : Sem.run J3 (method 433 89 v "loop.example/g00313/impl.number") w = .ok (253, v) w := by kernel_rfl
theorem wW (v : v_) (w : w_) : Sem.run J3 (method 433 89 v "loop.example/g00313/impl.right") w = .ok (254, v) w := by kernel_rfl
theorem vU (w:w_):(zeroValue 174).run J3 w= .ok (p_ n_) w:=by kernel_rfl
theorem tZ (Me:Int) (b:Nat) (m:df) (id:Int) (w:w_) (h:cF w b m) (hw:(Lit.int j_ id).wf=true):
  k_ J3 130 #[a_ #[i_ j_ Me,.map (o_ b)],i_ j_ id] w fun e w'=>e=r_ (b_ (cz m id).isSome)∧B_ w.heap.size w w':=by
 have hlk:=(h.below ((Kp _ w).alloc (Ki _) (c_ #[i_ j_ Me,.map (o_ b)] 72))).look underlying70 (vU _) hw true;simp only [if_true] at hlk;clear h hw
 go_enter func130,ntmps130
 exact wl
theorem ye (x:bD) (w:w_) (_:kU w x):k_ J3 254 #[a_ (eH x)] w fun e w'=>e=r_ (b_ (gw x))∧B_ w.heap.size w w':=by
 unfold eH;by_cases h1:1≤x.max
 ·by_cases h2:x.max≤1000
  ·by_cases h3:0≤x.n
   ·by_cases h4:x.n≤x.max
    all_goals
     go_enter func254,ntmps254
     go_wp2;go_ret;exact ⟨al (by simp [gw,cv, *] <;> omega),(Kp _ _).alloc (Ki _) _⟩
   ·exact Zas
  ·exact Zas
 ·exact Zas
end Go.Proofs.YtfncpmaefninjaaGreatDoor

namespace Go.Proofs.YtfncpmaefninjaaGreatDoor
open Go.RowKit
attribute [local go_sem ↓] Kc Kd
def cG (x:aB):Array v_:= #[i_ j_ x.id,b_ x.up]
def ix (_:w_) (_:aB):Prop:=True
theorem ix.below {w w':w_} {x:aB} (_:ix w x) (_:B_ w.heap.size w w'):ix w' x:=trivial
theorem kF {W:w_} {X:Nat} {x:aB} (h:W.heap[X]? =o_ (c_ (cG x) 91)):W.cell? ⟨X,0,n_⟩=o_ (i_ j_ x.id)∧W.cell? ⟨X,1,n_⟩=o_ (b_ x.up):=by
 unfold cG at h;simp [World.cell?,h]
theorem iw (x:aB) (w:w_):k_ J3 256 #[a_ (cG x)] w fun e w'=>e=r_ (i_ j_ x.id)∧B_ w.heap.size w w':=by
 unfold cG
 go_enter func256,ntmps256
 exact wl
theorem mT (v : v_) (w : w_) : Sem.run J3 (method 433 91 v "loop.example/g00313/impl.number") w = .ok (256, v) w := by kernel_rfl
theorem tp (v : v_) (w : w_) : Sem.run J3 (method 433 91 v "loop.example/g00313/impl.right") w = .ok (257, v) w := by kernel_rfl
theorem rE (w:w_):(zeroValue 177).run J3 w= .ok (p_ n_) w:=by kernel_rfl
theorem rj (Me:Int) (b:Nat) (m:df) (id:Int) (w:w_) (h:cF w b m) (hw:(Lit.int j_ id).wf=true):
  k_ J3 131 #[a_ #[i_ j_ Me,.map (o_ b)],i_ j_ id] w fun e w'=>e=r_ (b_ (cz m id).isSome)∧B_ w.heap.size w w':=by
 have hlk:=(h.below ((Kp _ w).alloc (Ki _) (c_ #[i_ j_ Me,.map (o_ b)] 75))).look underlying73 (rE _) hw true;simp only [if_true] at hlk;clear h hw
 go_enter func131,ntmps131
 exact wl
theorem tX (x:aB) (w:w_) (_:ix w x):k_ J3 257 #[a_ (cG x)] w fun e w'=>e=r_ (b_ (ey x))∧B_ w.heap.size w w':=by
 unfold cG
 go_enter func257,ntmps257
 exact wl
end Go.Proofs.YtfncpmaefninjaaGreatDoor

namespace Go.Proofs.YtfncpmaefninjaaGreatDoor
open Go.RowKit
attribute [local go_sem ↓] Kc Kd
def cI (x:az):Array v_:= #[i_ j_ x.id,b_ x.shown,t_ x.text]
def gX (_:w_) (x:az):Prop:=x.text.size≤1048576
theorem gX.below {w w':w_} {x:az} (h:gX w x) (_:B_ w.heap.size w w'):gX w' x:=h
theorem kJ {W:w_} {X:Nat} {x:az} (h:W.heap[X]? =o_ (c_ (cI x) 93)):W.cell? ⟨X,0,n_⟩=o_ (i_ j_ x.id)∧W.cell? ⟨X,1,n_⟩=o_ (b_ x.shown)∧W.cell? ⟨X,2,n_⟩=o_ (t_ x.text):=by
 unfold cI at h;simp [World.cell?,h]
theorem iq (x:az) (w:w_):k_ J3 259 #[a_ (cI x)] w fun e w'=>e=r_ (i_ j_ x.id)∧B_ w.heap.size w w':=by
 unfold cI
 go_enter func259,ntmps259
 exact wl
theorem nr (v : v_) (w : w_) : Sem.run J3 (method 433 93 v "loop.example/g00313/impl.number") w = .ok (259, v) w := by kernel_rfl
theorem tq (v : v_) (w : w_) : Sem.run J3 (method 433 93 v "loop.example/g00313/impl.right") w = .ok (260, v) w := by kernel_rfl
theorem qW (w:w_):(zeroValue 180).run J3 w= .ok (p_ n_) w:=by kernel_rfl
theorem qM (Me:Int) (b:Nat) (m:df) (id:Int) (w:w_) (h:cF w b m) (hw:(Lit.int j_ id).wf=true):
  k_ J3 132 #[a_ #[i_ j_ Me,.map (o_ b)],i_ j_ id] w fun e w'=>e=r_ (b_ (cz m id).isSome)∧B_ w.heap.size w w':=by
 have hlk:=(h.below ((Kp _ w).alloc (Ki _) (c_ #[i_ j_ Me,.map (o_ b)] 78))).look underlying76 (qW _) hw true;simp only [if_true] at hlk;clear h hw
 go_enter func132,ntmps132
 exact wl
theorem wd (x:az) (w:w_) (hf:gX w x):k_ J3 260 #[a_ (cI x)] w fun e w'=>e=r_ (b_ (cU x))∧B_ w.heap.size w w':=by
 have HF:Hid (gX w x):=hf;clear hf;unfold cI;obtain ⟨id,shown,text⟩:=x;cases hp:bw text with
 | false=>
  have HP:Hid (bw text=false):=hp;clear hp
  go_enter func260,ntmps260
  go_wp2_with fail;refine (iM text _ HF.I).mono ?_;rintro e w1 ⟨rfl,hw1⟩;rw [HP.I];subst hw1;go_wp2;go_ret;exact ⟨al (by simp [cU,HP.I]),(Kp _ _).alloc (Ki _) _⟩
 | true=>
  have HP:Hid (bw text=true):=hp;clear hp;by_cases hes:text.toList= []
  all_goals
   have hes':([] =text.toList)=(text.toList= []):=propext ⟨fun h=>h.symm,fun h=>h.symm⟩;cases shown
  all_goals
   go_enter func260,ntmps260
   go_wp2_with fail;refine (iM text _ HF.I).mono ?_;rintro e w1 ⟨rfl,hw1⟩;rw [HP.I];subst hw1;go_wp2;go_ret;exact ⟨al (by simp [cU,HP.I,bI,hes]),(Kp _ _).alloc (Ki _) _⟩
end Go.Proofs.YtfncpmaefninjaaGreatDoor

namespace Go.Proofs.YtfncpmaefninjaaGreatDoor
open Go.RowKit
theorem pi {Me:Int} {m:df} {id:Int} {ok vA vB vC vD:Bool} (hA:(cz m id).isSome=vA) (hB:decide (Me≤(m.length:Int))=vB) (hC:cv id 1 1000=vC) (hD:ok=vD):iI Me m id ok=(!vA && !vB && vC && vD):=by
 subst hA hB hC hD;have e:decide ((m.length:Int) < Me)= !decide (Me≤(m.length:Int)):=by
  by_cases h:Me≤(m.length:Int)
  ·simp [h]
  ·simp [h,Int.not_le.1 h]
 simp [iI,e]
end Go.Proofs.YtfncpmaefninjaaGreatDoor

namespace Go.Proofs
open Go.RowKit Go.Maps Go.Sort Go.Shelf
theorem Tryz.sortsA (m : Nat) : AnyZI.SortsIn J3 Tryz.sortedA_ren Fence.wide m :=
  ⟨fun blk off cap ss W hH hblk hsz => LO.2 (AnyM.slices_Sort_int Tryz.sortA blk off cap ss W hH hblk hsz),
   fun p cap W => LO.2 (AnyM.slices_Sort_int_none Tryz.sortA p cap W)⟩
namespace YtfncpmaefninjaaGreatDoor
theorem oA : ∀ {l1 l2 : List Int}, l1.Perm l2 → l1.Pairwise (· ≤ ·) → l2.Pairwise (· ≤ ·) → l1 = l2
  | [], l2, hp, _, _ => (List.nil_perm.1 hp).symm
  | a :: t, [], hp, _, _ => absurd (List.perm_nil.1 hp) (by simp)
  | a :: t, b :: s, hp, h1, h2 => by
    obtain ⟨ha, ht⟩ := LM.1 h1;obtain ⟨hb, hs⟩ := LM.1 h2;have hab : a = b := by
      have m1 : a ∈ b :: s := hp.mem_iff.1 (by simp);have m2 : b ∈ a :: t := hp.mem_iff.2 (by simp);rcases Kt.1 m1 with e | m1
      · exact e
      · rcases Kt.1 m2 with e | m2
        · exact e.symm
        · have := ha b m2
          have := hb a m1;omega
    subst hab;rw [oA (List.perm_cons a |>.1 hp) ht hs]
theorem lU (m : df) : intKeys (gA m) = m.map (·.1) := by
  simp only [intKeys, gA, Lv];rfl
theorem jG {m : df} (h : zP m) {ss : List Int} (hp : ss.Perm (intKeys (gA m))) : ss.mergeSort (fun x y => decide (x ≤ y)) = m.map (·.1) := by
  rw [lU] at hp;refine oA ((List.mergeSort_perm _ _).trans hp) ?_ ?_
  · have := List.pairwise_mergeSort (le := fun x y : Int => decide (x ≤ y)) (fun a b c h1 h2 => by simp at *; omega) (fun a b => by simp; omega) ss
    exact this.imp (fun {a b} h => by simpa using h)
  · rw [List.pairwise_map]
    exact List.Pairwise.imp (fun {a b} h => by omega) h
theorem cr {w : w_} {base n size : Nat} {e : T_} {v : v_} {xs : List v_} (h : w.ownsRow base e size v n xs) : ∃ a cap, v =s_ a n cap ∧ Row w a xs := by
  obtain ⟨hl, h2⟩ := h;rcases h2 with ⟨rfl, rfl⟩ | ⟨g, cap, cur, rfl, hb, hg, h3, h4, h5, h6⟩
  · have : xs = [] := List.eq_nil_of_length_eq_zero (by simpa using hl)
    subst this;exact ⟨n_, 0, rfl, Row.nothing _ _⟩
  · refine ⟨o_ ⟨g, 0, n_⟩, cap, rfl, fun j u hu => ⟨g, rfl, ?_⟩⟩
    rw [K5 w g j cur e (0, 0) hg];rw [← h6, List.getElem?_take] at hu
    split at hu
    · simpa using hu
    · cases hu
theorem cq {w : w_} {base base' n size : Nat} {e : T_} {v : v_} {xs : List v_} (h : w.ownsRow base e size v n xs) (hb : base' ≤ base) : w.ownsRow base' e size v n xs := by
  obtain ⟨hl, h2⟩ := h;refine ⟨hl, ?_⟩;rcases h2 with h2 | ⟨g, cap, cur, h1, h3, h4⟩
  · exact .inl h2
  · exact .inr ⟨g, cap, cur, h1, by omega, h4⟩
end YtfncpmaefninjaaGreatDoor
end Go.Proofs

namespace Go.Proofs.YtfncpmaefninjaaGreatDoor
open Go.RowKit
structure ol where
 id:Int
 next:Int
 bp:Nat
 bs:Nat
 be:Nat
 bb:Nat
 bf:Nat
 bq:Nat
def ol.cells (q:ol):Array v_:= #[i_ j_ q.id,i_ j_ q.next,i_ j_ 6,.map (o_ q.bp),i_ j_ 5,.map (o_ q.bs),i_ j_ 5,.map (o_ q.be),i_ j_ 5,.map (o_ q.bb),i_ j_ 5,.map (o_ q.bf),i_ j_ 5,.map (o_ q.bq)]
def fa (W:w_) (o:Nat) (q:ol):Prop:=W.heap[o]? =o_ (c_ q.cells 86)
theorem fa.below {W W':w_} {o:Nat} {q:ol} (h:fa W o q) (hb:B_ W.heap.size W W'):fa W' o q:=(hb.block o (J2.1 h).1).trans h
theorem fa.cell {W:w_} {o:Nat} {q:ol} (h:fa W o q) (i:Nat):W.cell? ⟨o,i,n_⟩=q.cells[i]? :=by
 unfold fa at h;simp [World.cell?,h]
structure fu (w W:w_) (o X:Nat) (q:ol) (x:ao) (ms me mb mf:df):Prop where
 opn:fa W o q
 box:W.heap[X]? =o_ (c_ (aX x) 41)
 ms:cF W q.bs ms
 me:cF W q.be me
 mb:cF W q.bb mb
 mf:cF W q.bf mf
 cd:B_ w.heap.size w W
theorem fu.below {w W W':w_} {o X:Nat} {q:ol} {x:ao} {ms me mb mf:df} (h:fu w W o X q x ms me mb mf) (hb:B_ W.heap.size W W'):fu w W' o X q x ms me mb mf:=
 ⟨h.opn.below hb,(hb.block _ (J2.1 h.box).1).trans h.box,h.ms.below hb,h.me.below hb,h.mb.below hb,h.mf.below hb,h.cd.trans (hb.mono h.cd.size)⟩
theorem fu.drew {w W:w_} {o X:Nat} {q:ol} {x:ao} {ms me mb mf:df} (h:fu w W o X q x ms me mb mf):fu w W.drew o X q x ms me mb mf:=h.below (Kp _ _).drew
def fw (ms me mb mf:df) (x:ao):Bool:=
 if x.Md=3 then (cz ms x.on).isSome else if x.Md=4 then (cz me x.on).isSome else if x.Md=5∨x.Md=6 then (cz mf x.on).isSome else if x.Md=7 then (cz mb x.on).isSome else true
end Go.Proofs.YtfncpmaefninjaaGreatDoor

namespace Go.Proofs.YtfncpmaefninjaaGreatDoor
open Go.RowKit
structure oV (w W:w_) (x:ao):Prop where
 box:W.heap[w.heap.size]? =o_ (c_ (aX x) 41)
 fit:eL W x
 cd:B_ w.heap.size w W
theorem oV.below {w W W':w_} {x:ao} (h:oV w W x) (hb:B_ W.heap.size W W'):oV w W' x:=
 ⟨(hb.block _ (J2.1 h.box).1).trans h.box,h.fit.below hb,h.cd.trans (hb.mono h.cd.size)⟩
theorem oV.start {w:w_} {x:ao} (h:eL w x):oV w (w.alloc (c_ (aX x) 41)) x:=by
 have b1:B_ w.heap.size w (w.alloc (c_ (aX x) 41)):=(Kp _ _).alloc (Ki _) _;exact ⟨Kj _ _,h.below b1,b1⟩
theorem p9 {s:ByteArray} (h:s.toList= []):bI s=true:=by simp [bI,h]
theorem sf {s:ByteArray} (h: ¬ s.toList= []):bI s=false:=by simp [bI,h]
theorem aA {p:Prop} (h:p):Hid p:=h
theorem SD {a b c d e f:Prop} (h1:a) (h2:b) (h3:c) (h4:d) (h5:e) (h6:f):a∧b∧c∧d∧e∧f:=⟨h1,h2,h3,h4,h5,h6⟩
theorem mu (a b:Int):(a == b)=decide (a=b):=by rw [Bool.eq_iff_iff]; simp
theorem Jh (a b c d:Bool):a=false∨(a=true∧b=false)∨(a=true∧b=true∧c=false)∨(a=true∧b=true∧c=true∧d=false)∨(a=true∧b=true∧c=true∧d=true):=by
 revert a b c d
 decide
theorem ways5 (a b c d e:Bool):a=false∨(a=true∧b=false)∨(a=true∧b=true∧c=false)∨(a=true∧b=true∧c=true∧d=false)∨(a=true∧b=true∧c=true∧d=true∧e=false)∨(a=true∧b=true∧c=true∧d=true∧e=true):=by
 revert a b c d e
 decide
theorem qL (a b c d:Bool):a=false∨(a=true∧b=false)∨(a=true∧b=true∧c=true)∨(a=true∧b=true∧c=false∧d=false)∨(a=true∧b=true∧c=false∧d=true):=by
 revert a b c d
 decide
theorem state0 {x:aD} (h:x.Md=0):bO x=((x.pc == 0) && (x.left == 0) && (x.Mg == 0) && (x.on == 0) && (x.RU == 0) && bI x.held):=by simp [bO,h,mu]
theorem Da (x:ao) (w:w_) (hf:eL w x) (hs:x.Md=0):k_ J3 239 #[a_ (aX x)] w fun e w'=>e=r_ (b_ (bO x.toaD))∧B_ w.heap.size w w':=by
 have HE:=aA (state0 hs);have HI:=aA (oV.start hf);clear hf;obtain ⟨⟨id,RX,prog,Md,pc,left,Mg,on,held,got,code,RU⟩,aY,bH⟩:=x;replace hs:Md=0:=hs;subst hs;obtain ⟨v0,h0⟩: ∃ v,(pc == 0)=v:=⟨_,rfl⟩
 obtain ⟨v1,h1⟩: ∃ v,(left == 0)=v:=⟨_,rfl⟩
 obtain ⟨v2,h2⟩: ∃ v,(Mg == 0)=v:=⟨_,rfl⟩
 obtain ⟨v3,h3⟩: ∃ v,(on == 0)=v:=⟨_,rfl⟩
 obtain ⟨v4,h4⟩: ∃ v,(RU == 0)=v:=⟨_,rfl⟩
 have HE:=aA (HE.I.trans (show _=(v0 && v1 && v2 && v3 && v4 && bI held) by simp only [h0,h1,h2,h3,h4]));obtain ⟨c0,c1,c2,c3,c4,c5,c6,c7,c8,c9,qF,pe⟩:=bo HI.I.box;unfold aX at *;rcases ways5 v0 v1 v2 v3 v4 with rfl | ⟨rfl,rfl⟩ | ⟨rfl,rfl,rfl⟩ | ⟨rfl,rfl,rfl,rfl⟩ | ⟨rfl,rfl,rfl,rfl,rfl⟩ | ⟨rfl,rfl,rfl,rfl,rfl⟩
 all_goals
  go_enter func239,ntmps239
  go_wp2;go_ret;exact ⟨al (by rw [HE.I]; simp [bI]),HI.I.cd⟩
theorem state1 {x:aD} (h:x.Md=1):bO x=(dU x && jJ x && (x.Mg == 0) && (x.on == 0) && bI x.held):=by simp [bO,h,mu]
theorem CL (x:ao) (w:w_) (hf:eL w x) (hs:x.Md=1):k_ J3 239 #[a_ (aX x)] w fun e w'=>e=r_ (b_ (bO x.toaD))∧B_ w.heap.size w w':=by
 have HE:=aA (state1 hs);have HI:=aA (oV.start hf);clear hf;obtain ⟨⟨id,RX,prog,Md,pc,left,Mg,on,held,got,code,RU⟩,aY,bH⟩:=x;replace hs:Md=1:=hs;subst hs;obtain ⟨v0,h0⟩: ∃ v,dU ⟨id,RX,prog,1,pc,left,Mg,on,held,got,code,RU⟩=v:=⟨_,rfl⟩
 obtain ⟨v1,h1⟩: ∃ v,jJ ⟨id,RX,prog,1,pc,left,Mg,on,held,got,code,RU⟩=v:=⟨_,rfl⟩
 obtain ⟨v2,h2⟩: ∃ v,(Mg == 0)=v:=⟨_,rfl⟩
 obtain ⟨v3,h3⟩: ∃ v,(on == 0)=v:=⟨_,rfl⟩
 have HE:=aA (HE.I.trans (show _=(v0 && v1 && v2 && v3 && bI held) by simp only [h0,h1,h2,h3]));have tc:=aA h0;clear h0;have I8:=aA h1;clear h1;obtain ⟨c0,c1,c2,c3,c4,c5,c6,c7,c8,c9,qF,pe⟩:=bo HI.I.box;unfold aX at *;rcases Jh v0 v1 v2 v3 with rfl | ⟨rfl,rfl⟩ | ⟨rfl,rfl,rfl⟩ | ⟨rfl,rfl,rfl,rfl⟩ | ⟨rfl,rfl,rfl,rfl⟩
 all_goals
  go_enter func239,ntmps239
  go_wp2_with (first | (go_at_call 137; refine (kn _ _ HI.I.fit.1.prog).mono ?_; rintro e w1 ⟨rfl,hb1⟩; have HI:=aA (HI.I.below hb1); obtain ⟨c0,c1,c2,c3,c4,c5,c6,c7,c8,c9,qF,pe⟩:=bo HI.I.box; clear hb1; rw [tc.I]) | (go_at_call 241; refine (CP _ _ HI.I.fit tc.I).mono ?_; rintro e w1 ⟨rfl,hb1⟩; have HI:=aA (HI.I.below hb1); obtain ⟨c0,c1,c2,c3,c4,c5,c6,c7,c8,c9,qF,pe⟩:=bo HI.I.box; clear hb1; rw [I8.I]));go_ret;exact ⟨al (by rw [HE.I]; simp [bI]),HI.I.cd⟩
theorem state2 {x:aD} (h:x.Md=2):bO x=(dU x && (x.left == 0) && cv x.Mg 1 2000000000 && (x.on == 0) && bI x.held):=by simp [bO,h,mu]
theorem Cw (x:ao) (w:w_) (hf:eL w x) (hs:x.Md=2):k_ J3 239 #[a_ (aX x)] w fun e w'=>e=r_ (b_ (bO x.toaD))∧B_ w.heap.size w w':=by
 have HE:=aA (state2 hs);have HI:=aA (oV.start hf);clear hf;obtain ⟨⟨id,RX,prog,Md,pc,left,Mg,on,held,got,code,RU⟩,aY,bH⟩:=x;replace hs:Md=2:=hs;subst hs;obtain ⟨v0,h0⟩: ∃ v,dU ⟨id,RX,prog,2,pc,left,Mg,on,held,got,code,RU⟩=v:=⟨_,rfl⟩
 obtain ⟨v1,h1⟩: ∃ v,(left == 0)=v:=⟨_,rfl⟩
 obtain ⟨v2,h2⟩: ∃ v,cv Mg 1 2000000000=v:=⟨_,rfl⟩
 obtain ⟨v3,h3⟩: ∃ v,(on == 0)=v:=⟨_,rfl⟩
 have HE:=aA (HE.I.trans (show _=(v0 && v1 && v2 && v3 && bI held) by simp only [h0,h1,h2,h3]));have tc:=aA h0;clear h0;have Hd:=aA h2;clear h2;obtain ⟨c0,c1,c2,c3,c4,c5,c6,c7,c8,c9,qF,pe⟩:=bo HI.I.box;unfold aX at *;rcases Jh v0 v1 v2 v3 with rfl | ⟨rfl,rfl⟩ | ⟨rfl,rfl,rfl⟩ | ⟨rfl,rfl,rfl,rfl⟩ | ⟨rfl,rfl,rfl,rfl⟩
 all_goals
  go_enter func239,ntmps239
  go_wp2_with (first | (go_at_call 137; refine (kn _ _ HI.I.fit.1.prog).mono ?_; rintro e w1 ⟨rfl,hb1⟩; have HI:=aA (HI.I.below hb1); obtain ⟨c0,c1,c2,c3,c4,c5,c6,c7,c8,c9,qF,pe⟩:=bo HI.I.box; clear hb1; rw [tc.I]) | (go_at_call 242; refine (kb Mg _).mono ?_; rintro e w1 ⟨rfl,hw1⟩; rw [Hd.I,hw1]; clear hw1 w1));go_ret;exact ⟨al (by rw [HE.I]; simp [bI]),HI.I.cd⟩
theorem state3 {x:aD} (h:x.Md=3):bO x=(dU x && (x.left == 0) && (cv x.Mg 1 2000000000 || (x.Mg == -1)) && bI x.held):=by simp [bO,h,mu,lh]
theorem CU (x:ao) (w:w_) (hf:eL w x) (hs:x.Md=3):k_ J3 239 #[a_ (aX x)] w fun e w'=>e=r_ (b_ (bO x.toaD))∧B_ w.heap.size w w':=by
 have HE:=aA (state3 hs);have HI:=aA (oV.start hf);clear hf;obtain ⟨⟨id,RX,prog,Md,pc,left,Mg,on,held,got,code,RU⟩,aY,bH⟩:=x;replace hs:Md=3:=hs;subst hs;obtain ⟨v0,h0⟩: ∃ v,dU ⟨id,RX,prog,3,pc,left,Mg,on,held,got,code,RU⟩=v:=⟨_,rfl⟩
 exact aa
theorem state4 {x:aD} (h:x.Md=4):bO x=(dU x && (x.left == 0) && (cv x.Mg 1 2000000000 || (x.Mg == -1)) && bI x.held):=by simp [bO,h,mu,lh]
theorem Cv (x:ao) (w:w_) (hf:eL w x) (hs:x.Md=4):k_ J3 239 #[a_ (aX x)] w fun e w'=>e=r_ (b_ (bO x.toaD))∧B_ w.heap.size w w':=by
 have HE:=aA (state4 hs);have HI:=aA (oV.start hf);clear hf;obtain ⟨⟨id,RX,prog,Md,pc,left,Mg,on,held,got,code,RU⟩,aY,bH⟩:=x;replace hs:Md=4:=hs;subst hs;obtain ⟨v0,h0⟩: ∃ v,dU ⟨id,RX,prog,4,pc,left,Mg,on,held,got,code,RU⟩=v:=⟨_,rfl⟩
 exact aa
theorem state5 {x:aD} (h:x.Md=5):bO x=(dU x && (x.left == 0) && (cv x.Mg 1 2000000000 || (x.Mg == -1))):=by simp [bO,h,mu,lh]
theorem Dp (x:ao) (w:w_) (hf:eL w x) (hs:x.Md=5):k_ J3 239 #[a_ (aX x)] w fun e w'=>e=r_ (b_ (bO x.toaD))∧B_ w.heap.size w w':=by
 have HE:=aA (state5 hs);have HI:=aA (oV.start hf);clear hf;obtain ⟨⟨id,RX,prog,Md,pc,left,Mg,on,held,got,code,RU⟩,aY,bH⟩:=x;replace hs:Md=5:=hs;subst hs;obtain ⟨v0,h0⟩: ∃ v,dU ⟨id,RX,prog,5,pc,left,Mg,on,held,got,code,RU⟩=v:=⟨_,rfl⟩
 obtain ⟨v1,h1⟩: ∃ v,(left == 0)=v:=⟨_,rfl⟩
 obtain ⟨v2,h2⟩: ∃ v,cv Mg 1 2000000000=v:=⟨_,rfl⟩
 obtain ⟨v3,h3⟩: ∃ v,(Mg == -1)=v:=⟨_,rfl⟩
 have HE:=aA (HE.I.trans (show _=(v0 && v1 && (v2 || v3)) by simp only [h0,h1,h2,h3]));have tc:=aA h0;clear h0;have Hd:=aA h2;clear h2;obtain ⟨c0,c1,c2,c3,c4,c5,c6,c7,c8,c9,qF,pe⟩:=bo HI.I.box;unfold aX at *;rcases qL v0 v1 v2 v3 with rfl | ⟨rfl,rfl⟩ | ⟨rfl,rfl,rfl⟩ | ⟨rfl,rfl,rfl,rfl⟩ | ⟨rfl,rfl,rfl,rfl⟩
 all_goals
  go_enter func239,ntmps239
  go_wp2_with (first | (go_at_call 137; refine (kn _ _ HI.I.fit.1.prog).mono ?_; rintro e w1 ⟨rfl,hb1⟩; have HI:=aA (HI.I.below hb1); obtain ⟨c0,c1,c2,c3,c4,c5,c6,c7,c8,c9,qF,pe⟩:=bo HI.I.box; clear hb1; rw [tc.I]) | (go_at_call 242; refine (kb Mg _).mono ?_; rintro e w1 ⟨rfl,hw1⟩; rw [Hd.I,hw1]; clear hw1 w1));go_ret;exact ⟨al (by rw [HE.I]; simp),HI.I.cd⟩
theorem state6 {x:aD} (h:x.Md=6):bO x=(dU x && (x.left == 0) && (cv x.Mg 1 2000000000 || (x.Mg == -1)) && bI x.held):=by simp [bO,h,mu,lh]
theorem DC (x:ao) (w:w_) (hf:eL w x) (hs:x.Md=6):k_ J3 239 #[a_ (aX x)] w fun e w'=>e=r_ (b_ (bO x.toaD))∧B_ w.heap.size w w':=by
 have HE:=aA (state6 hs);have HI:=aA (oV.start hf);clear hf;obtain ⟨⟨id,RX,prog,Md,pc,left,Mg,on,held,got,code,RU⟩,aY,bH⟩:=x;replace hs:Md=6:=hs;subst hs;obtain ⟨v0,h0⟩: ∃ v,dU ⟨id,RX,prog,6,pc,left,Mg,on,held,got,code,RU⟩=v:=⟨_,rfl⟩
 exact aa
theorem state7 {x:aD} (h:x.Md=7):bO x=(dU x && (x.left == 0) && (cv x.Mg 1 2000000000 || (x.Mg == -1)) && bI x.held):=by simp [bO,h,mu,lh]
theorem Db (x:ao) (w:w_) (hf:eL w x) (hs:x.Md=7):k_ J3 239 #[a_ (aX x)] w fun e w'=>e=r_ (b_ (bO x.toaD))∧B_ w.heap.size w w':=by
 have HE:=aA (state7 hs);have HI:=aA (oV.start hf);clear hf;obtain ⟨⟨id,RX,prog,Md,pc,left,Mg,on,held,got,code,RU⟩,aY,bH⟩:=x;replace hs:Md=7:=hs;subst hs;obtain ⟨v0,h0⟩: ∃ v,dU ⟨id,RX,prog,7,pc,left,Mg,on,held,got,code,RU⟩=v:=⟨_,rfl⟩
 exact aa
theorem zu (x:ao) (w:w_) (h0: ¬ x.Md=0) (h1: ¬ x.Md=1) (h2: ¬ x.Md=2) (h3: ¬ x.Md=3) (h4: ¬ x.Md=4) (h5: ¬ x.Md=5) (h6: ¬ x.Md=6) (h7: ¬ x.Md=7):k_ J3 239 #[a_ (aX x)] w fun e w'=>e=r_ (b_ (bO x.toaD))∧B_ w.heap.size w w':=by
 have HV:Hid (bO x.toaD=false):=by show bO x.toaD=false; simp [bO,h0,h1,h2,h3,h4,h5,h6,h7]
 have s0:(x.Md == 0)=false:=by simp [h0]
 have s1:(x.Md == 1)=false:=by simp [h1]
 have s2:(x.Md == 2)=false:=by simp [h2]
 have s3:(x.Md == 3)=false:=by simp [h3]
 have s4:(x.Md == 4)=false:=by simp [h4]
 have s5:(x.Md == 5)=false:=by simp [h5]
 have s6:(x.Md == 6)=false:=by simp [h6]
 have s7:(x.Md == 7)=false:=by simp [h7]
 clear h0 h1 h2 h3 h4 h5 h6 h7;unfold aX
 go_enter func239,ntmps239
 exact ZaM
theorem Am (x:ao) (w:w_) (hf:eL w x):k_ J3 239 #[a_ (aX x)] w fun e w'=>e=r_ (b_ (bO x.toaD))∧B_ w.heap.size w w':=by
 by_cases h0:x.Md=0
 ·exact Da x w hf h0
 by_cases h1:x.Md=1
 ·exact CL x w hf h1
 by_cases h2:x.Md=2
 ·exact Cw x w hf h2
 by_cases h3:x.Md=3
 ·exact CU x w hf h3
 by_cases h4:x.Md=4
 ·exact Cv x w hf h4
 by_cases h5:x.Md=5
 ·exact Dp x w hf h5
 by_cases h6:x.Md=6
 ·exact DC x w hf h6
 by_cases h7:x.Md=7
 ·exact Db x w hf h7
 exact zu x w h0 h1 h2 h3 h4 h5 h6 h7
end Go.Proofs.YtfncpmaefninjaaGreatDoor

namespace Go.Proofs.YtfncpmaefninjaaGreatDoor
open Go.RowKit
attribute [local go_sem ↓] Kc Kd
def yk (w:w_) (b:Nat) (m:df) (Me:Int) (x:bD) (w':w_):Prop:=(w'.cell? ⟨w.heap.size,0,n_⟩=o_ (i_ j_ Me)∧w'.cell? ⟨w.heap.size,1,n_⟩=o_ (.map (o_ b))∧(∀ ty,(Builtin.len_ #[70] ty #[.map (o_ b)]).run J3 w'= .ok (i_ j_ (m.length:Int)) w')∧w'.cell? ⟨w.heap.size+1,0,n_⟩=o_ (i_ j_ x.id)∧w'.cell? ⟨w.heap.size+1,1,n_⟩=o_ (i_ j_ x.n)∧w'.cell? ⟨w.heap.size+1,2,n_⟩=o_ (i_ j_ x.max))∧Hid (fe w w' w.heap.size (w.heap.size+1) b m Me (eH x) 89 72)∧Hid (kU w' x)
theorem jz {w w':w_} {b:Nat} {m:df} {Me:Int} {x:bD} (h:fe w w' w.heap.size (w.heap.size+1) b m Me (eH x) 89 72) (hf:kU w' x):yk w b m Me x w':=
 ⟨⟨h.cells.1,h.cells.2,fun ty=>h.mp.len underlying70 ty,gm h.bx⟩,h,hf⟩
theorem tU (Me:Int) (b:Nat) (m:df) (x:bD) (w:w_) (h:cF w b m) (hw:(Lit.int j_ x.id).wf=true) (hm:m.length≤1048576) (hf:kU w x):
  k_ J3 96 #[a_ #[i_ j_ Me,.map (o_ b)],a_ (eH x)] w fun e w'=>dD w b m (iI Me m x.id (gw x)) x.id (eH x) 89 e w':=by
 have HF:Hid (fe w ((w.alloc (c_ #[i_ j_ Me,.map (o_ b)] 72)).alloc (c_ (eH x) 89)) w.heap.size (w.heap.size+1) b m Me (eH x) 89 72):=fe.start w h Me _ _ _;have HW:Hid ((Lit.int j_ x.id).wf=true∧ ¬ w.heap.size+1=b∧m.length≤1048576):=⟨hw,by have:=h.lt; omega,hm⟩
 have HI:Hid (kU ((w.alloc (c_ #[i_ j_ Me,.map (o_ b)] 72)).alloc (c_ (eH x) 89)) x):=hf.below ((((Kp _ w).alloc (Ki _) _)).alloc (by simp) _);have hmn:=pb;have hmr:=wW;obtain ⟨s0,s1⟩:=HF.I.cells;obtain ⟨c0,c1,c2⟩:=gm HF.I.bx;clear h hw hf hm;unfold eH at *
 go_enter func96,ntmps96
 go_wp2_with fail;clear s0 s1 c0 c1 c2;obtain ⟨vA,hA⟩: ∃ v,(cz m x.id).isSome=v:=⟨_,rfl⟩
 obtain ⟨vB,F6⟩: ∃ v,decide (Me≤(m.length:Int))=v:=⟨_,rfl⟩
 obtain ⟨vC,hC⟩: ∃ v,cv x.id 1 1000=v:=⟨_,rfl⟩
 obtain ⟨vD,hD⟩: ∃ v,gw x=v:=⟨_,rfl⟩
 have HL:Hid (iI Me m x.id (gw x)=(!vA && !vB && vC && vD)∧(vA=false→cz m x.id=n_)):=⟨pi hA F6 hC hD,fun e=>PX.1 (PY.1 (hA.trans e))⟩
 have HA:Hid (Ending.returned (b_ (cz m x.id).isSome)=r_ (b_ vA)):=al hA;have HC:Hid (Ending.returned (b_ (cv x.id 1 1000))=r_ (b_ vC)):=al hC;have HD:Hid (Ending.returned (b_ (gw x))=r_ (b_ vD)):=al hD;clear hA hC hD;refine aT (yk w b m Me x) ZcS (jz HF.I.drew (HI.I.below (Kp _ _).drew)) ?_
 iterate 3 (refine agj ?_)
 (refine cl (i_ j_ x.id) 253 #[a_ #[i_ j_ x.id,i_ j_ x.n,i_ j_ x.max]] ?_ ?_ ?_; (intro w0 hS0; obtain ⟨⟨q0,q1,q2,q3,q4,q5⟩,hH⟩:=hS0; go_simp; try with_reducible rfl); (intro w0 hS0; refine (jv x w0).mono ?_; rintro e w2 ⟨rfl,hb2⟩; exact ⟨rfl,jz (hS0.2.1.I.below hb2) (hS0.2.2.I.below hb2)⟩); simp only [pt,sb,s0,s1])
 (refine cl (b_ vA) 130 #[a_ #[i_ j_ Me,.map (o_ b)],i_ j_ x.id] ?_ ?_ ?_; (intro w0 hS0; obtain ⟨⟨q0,q1,q2,q3,q4,q5⟩,hH⟩:=hS0; go_simp; try with_reducible rfl); (intro w0 hS0; refine (tZ Me b m x.id w0 hS0.2.1.I.mp HW.I.1).mono ?_; rintro e w2 ⟨rfl,hb2⟩; exact ⟨HA.I,jz (hS0.2.1.I.below hb2) (hS0.2.2.I.below hb2)⟩); simp only [pt,sb,s0,s1])
 (refine agj ?_)
 rcases vA.eq_false_or_eq_true with rfl | rfl
 focus iterate 6 (refine nl ?_; simp only [pt,sb,s0,s1])
 rotate_left
 focus iterate 6 (refine agj ?_)
 all_goals iterate 2 (refine agj ?_)
 rcases vB.eq_false_or_eq_true with rfl | rfl
 focus iterate 5 (refine nl ?_; simp only [pt,sb,s0,s1])
 rotate_left
 focus
  iterate 2 (refine agj ?_)
  (refine cl (i_ j_ x.id) 253 #[a_ #[i_ j_ x.id,i_ j_ x.n,i_ j_ x.max]] ?_ ?_ ?_; (intro w0 hS0; obtain ⟨⟨q0,q1,q2,q3,q4,q5⟩,hH⟩:=hS0; go_simp; try with_reducible rfl); (intro w0 hS0; refine (jv x w0).mono ?_; rintro e w2 ⟨rfl,hb2⟩; exact ⟨rfl,jz (hS0.2.1.I.below hb2) (hS0.2.2.I.below hb2)⟩); simp only [pt,sb,s0,s1])
  (refine cl (b_ vC) 129 #[i_ j_ x.id] ?_ ?_ ?_; (intro w0 hS0; obtain ⟨⟨q0,q1,q2,q3,q4,q5⟩,hH⟩:=hS0; go_simp; try with_reducible rfl); (intro w0 hS0; refine (eW x.id w0).mono ?_; rintro e w2 ⟨rfl,rfl⟩; exact ⟨HC.I,hS0⟩); simp only [pt,sb,s0,s1])
  (refine agj ?_)
 rotate_left
 focus iterate 5 (refine nl ?_; simp only [pt,sb,s0,s1])
 all_goals iterate 2 (refine agj ?_)
 rotate_right
 rcases vC.eq_false_or_eq_true with rfl | rfl
 focus
  iterate 2 (refine agj ?_)
  (refine cl (b_ vD) 254 #[a_ #[i_ j_ x.id,i_ j_ x.n,i_ j_ x.max]] ?_ ?_ ?_; (intro w0 hS0; obtain ⟨⟨q0,q1,q2,q3,q4,q5⟩,hH⟩:=hS0; go_simp; try with_reducible rfl); (intro w0 hS0; refine (ye x w0 hS0.2.2.I).mono ?_; rintro e w2 ⟨rfl,hb2⟩; exact ⟨HD.I,jz (hS0.2.1.I.below hb2) (hS0.2.2.I.below hb2)⟩); simp only [pt,sb,s0,s1])
  (refine agj ?_)
 rotate_left
 focus iterate 4 (refine nl ?_; simp only [pt,sb,s0,s1])
 rotate_left
 focus iterate 4 (refine nl ?_; simp only [pt,sb,s0,s1])
 rotate_left
 focus iterate 4 (refine nl ?_; simp only [pt,sb,s0,s1])
 rotate_left
 all_goals (refine agj ?_)
 all_goals refine bk ZcS ?_ _
 all_goals intro w1 cm
 rcases vD.eq_false_or_eq_true with rfl | rfl;rotate_left
 iterate 4
  exact ZaL
 go_wp2_with fail;refine eD (yk w b m Me x) 5 ZcS (jz cm.2.1.I.drew (cm.2.2.I.below (Kp _ _).drew)) ?_
 iterate 4 (refine ly 6 (v:= ?_) (o_ _) rfl rfl ZcS (fun _ _ _ h=>h) (bV ZcS ?_) ?_; rotate_left; (intro w0 hS0; obtain ⟨⟨q0,q1,q2,q3,q4,q5⟩,hH⟩:=hS0; go_simp; try with_reducible rfl); simp only [pt,sb,s0,s1])
 refine ly 6 (v:=i_ j_ x.id) (o_ _) rfl rfl ZcS (fun _ _ _ h=>h) (iZ (f:=253) (args:= #[a_ #[i_ j_ x.id,i_ j_ x.n,i_ j_ x.max]]) ZcS ?_ ?_) ?_
 ·exact ZcG
 ·intro w0 hS0
  refine (jv x w0).mono ?_;rintro e w2 ⟨rfl,hb2⟩;exact ⟨rfl,jz (hS0.2.1.I.below hb2) (hS0.2.2.I.below hb2)⟩
 simp only [pt,sb,s0,s1];refine fL rfl ZcS ZcS ZcS ?_;intro w1 cm;obtain ⟨w2,hput,hend⟩:=cm.2.1.I.put (by omega) underlying70 HW.I.1 (HL.I.2 (by trivial)) HW.I.2.2 HW.I.2.1;have HE:Hid (dD w b m true x.id (eH x) 89 (r_ (b_ true)) w2):=hend;exact Zak
end Go.Proofs.YtfncpmaefninjaaGreatDoor

namespace Go.Proofs.YtfncpmaefninjaaGreatDoor
open Go.RowKit
attribute [local go_sem ↓] Kc Kd
def sk (w:w_) (b:Nat) (m:df) (Me:Int) (x:aB) (w':w_):Prop:=(w'.cell? ⟨w.heap.size,0,n_⟩=o_ (i_ j_ Me)∧w'.cell? ⟨w.heap.size,1,n_⟩=o_ (.map (o_ b))∧(∀ ty,(Builtin.len_ #[73] ty #[.map (o_ b)]).run J3 w'= .ok (i_ j_ (m.length:Int)) w')∧w'.cell? ⟨w.heap.size+1,0,n_⟩=o_ (i_ j_ x.id)∧w'.cell? ⟨w.heap.size+1,1,n_⟩=o_ (b_ x.up))∧Hid (fe w w' w.heap.size (w.heap.size+1) b m Me (cG x) 91 75)∧Hid (ix w' x)
theorem ik {w w':w_} {b:Nat} {m:df} {Me:Int} {x:aB} (h:fe w w' w.heap.size (w.heap.size+1) b m Me (cG x) 91 75) (hf:ix w' x):sk w b m Me x w':=
 ⟨⟨h.cells.1,h.cells.2,fun ty=>h.mp.len underlying73 ty,kF h.bx⟩,h,hf⟩
theorem rC (Me:Int) (b:Nat) (m:df) (x:aB) (w:w_) (h:cF w b m) (hw:(Lit.int j_ x.id).wf=true) (hm:m.length≤1048576) (hf:ix w x):
  k_ J3 97 #[a_ #[i_ j_ Me,.map (o_ b)],a_ (cG x)] w fun e w'=>dD w b m (iI Me m x.id (ey x)) x.id (cG x) 91 e w':=by
 have HF:Hid (fe w ((w.alloc (c_ #[i_ j_ Me,.map (o_ b)] 75)).alloc (c_ (cG x) 91)) w.heap.size (w.heap.size+1) b m Me (cG x) 91 75):=fe.start w h Me _ _ _;have HW:Hid ((Lit.int j_ x.id).wf=true∧ ¬ w.heap.size+1=b∧m.length≤1048576):=⟨hw,by have:=h.lt; omega,hm⟩
 have HI:Hid (ix ((w.alloc (c_ #[i_ j_ Me,.map (o_ b)] 75)).alloc (c_ (cG x) 91)) x):=hf.below ((((Kp _ w).alloc (Ki _) _)).alloc (by simp) _);have hmn:=mT;have hmr:=tp;obtain ⟨s0,s1⟩:=HF.I.cells;obtain ⟨c0,c1⟩:=kF HF.I.bx;clear h hw hf hm;unfold cG at *
 go_enter func97,ntmps97
 go_wp2_with fail;clear s0 s1 c0 c1;obtain ⟨vA,hA⟩: ∃ v,(cz m x.id).isSome=v:=⟨_,rfl⟩
 obtain ⟨vB,F6⟩: ∃ v,decide (Me≤(m.length:Int))=v:=⟨_,rfl⟩
 obtain ⟨vC,hC⟩: ∃ v,cv x.id 1 1000=v:=⟨_,rfl⟩
 obtain ⟨vD,hD⟩: ∃ v,ey x=v:=⟨_,rfl⟩
 have HL:Hid (iI Me m x.id (ey x)=(!vA && !vB && vC && vD)∧(vA=false→cz m x.id=n_)):=⟨pi hA F6 hC hD,fun e=>PX.1 (PY.1 (hA.trans e))⟩
 have HA:Hid (Ending.returned (b_ (cz m x.id).isSome)=r_ (b_ vA)):=al hA;have HC:Hid (Ending.returned (b_ (cv x.id 1 1000))=r_ (b_ vC)):=al hC;have HD:Hid (Ending.returned (b_ (ey x))=r_ (b_ vD)):=al hD;clear hA hC hD;refine aT (sk w b m Me x) ZcS (ik HF.I.drew (HI.I.below (Kp _ _).drew)) ?_
 iterate 3 (refine agj ?_)
 (refine cl (i_ j_ x.id) 256 #[a_ #[i_ j_ x.id,b_ x.up]] ?_ ?_ ?_; (intro w0 hS0; obtain ⟨⟨q0,q1,q2,q3,q4⟩,hH⟩:=hS0; go_simp; try with_reducible rfl); (intro w0 hS0; refine (iw x w0).mono ?_; rintro e w2 ⟨rfl,hb2⟩; exact ⟨rfl,ik (hS0.2.1.I.below hb2) (hS0.2.2.I.below hb2)⟩); simp only [pt,sb,s0,s1])
 (refine cl (b_ vA) 131 #[a_ #[i_ j_ Me,.map (o_ b)],i_ j_ x.id] ?_ ?_ ?_; (intro w0 hS0; obtain ⟨⟨q0,q1,q2,q3,q4⟩,hH⟩:=hS0; go_simp; try with_reducible rfl); (intro w0 hS0; refine (rj Me b m x.id w0 hS0.2.1.I.mp HW.I.1).mono ?_; rintro e w2 ⟨rfl,hb2⟩; exact ⟨HA.I,ik (hS0.2.1.I.below hb2) (hS0.2.2.I.below hb2)⟩); simp only [pt,sb,s0,s1])
 (refine agj ?_)
 rcases vA.eq_false_or_eq_true with rfl | rfl
 focus iterate 6 (refine nl ?_; simp only [pt,sb,s0,s1])
 rotate_left
 focus iterate 6 (refine agj ?_)
 all_goals iterate 2 (refine agj ?_)
 rcases vB.eq_false_or_eq_true with rfl | rfl
 focus iterate 5 (refine nl ?_; simp only [pt,sb,s0,s1])
 rotate_left
 focus
  iterate 2 (refine agj ?_)
  (refine cl (i_ j_ x.id) 256 #[a_ #[i_ j_ x.id,b_ x.up]] ?_ ?_ ?_; (intro w0 hS0; obtain ⟨⟨q0,q1,q2,q3,q4⟩,hH⟩:=hS0; go_simp; try with_reducible rfl); (intro w0 hS0; refine (iw x w0).mono ?_; rintro e w2 ⟨rfl,hb2⟩; exact ⟨rfl,ik (hS0.2.1.I.below hb2) (hS0.2.2.I.below hb2)⟩); simp only [pt,sb,s0,s1])
  (refine cl (b_ vC) 129 #[i_ j_ x.id] ?_ ?_ ?_; (intro w0 hS0; obtain ⟨⟨q0,q1,q2,q3,q4⟩,hH⟩:=hS0; go_simp; try with_reducible rfl); (intro w0 hS0; refine (eW x.id w0).mono ?_; rintro e w2 ⟨rfl,rfl⟩; exact ⟨HC.I,hS0⟩); simp only [pt,sb,s0,s1])
  (refine agj ?_)
 rotate_left
 focus iterate 5 (refine nl ?_; simp only [pt,sb,s0,s1])
 all_goals iterate 2 (refine agj ?_)
 rotate_right
 rcases vC.eq_false_or_eq_true with rfl | rfl
 focus
  iterate 2 (refine agj ?_)
  (refine cl (b_ vD) 257 #[a_ #[i_ j_ x.id,b_ x.up]] ?_ ?_ ?_; (intro w0 hS0; obtain ⟨⟨q0,q1,q2,q3,q4⟩,hH⟩:=hS0; go_simp; try with_reducible rfl); (intro w0 hS0; refine (tX x w0 hS0.2.2.I).mono ?_; rintro e w2 ⟨rfl,hb2⟩; exact ⟨HD.I,ik (hS0.2.1.I.below hb2) (hS0.2.2.I.below hb2)⟩); simp only [pt,sb,s0,s1])
  (refine agj ?_)
 rotate_left
 focus iterate 4 (refine nl ?_; simp only [pt,sb,s0,s1])
 rotate_left
 focus iterate 4 (refine nl ?_; simp only [pt,sb,s0,s1])
 rotate_left
 focus iterate 4 (refine nl ?_; simp only [pt,sb,s0,s1])
 rotate_left
 all_goals (refine agj ?_)
 all_goals refine bk ZcS ?_ _
 all_goals intro w1 cm
 rcases vD.eq_false_or_eq_true with rfl | rfl;rotate_left
 iterate 4
  exact ZaL
 go_wp2_with fail;refine eD (sk w b m Me x) 5 ZcS (ik cm.2.1.I.drew (cm.2.2.I.below (Kp _ _).drew)) ?_
 iterate 4 (refine ly 6 (v:= ?_) (o_ _) rfl rfl ZcS (fun _ _ _ h=>h) (bV ZcS ?_) ?_; rotate_left; (intro w0 hS0; obtain ⟨⟨q0,q1,q2,q3,q4⟩,hH⟩:=hS0; go_simp; try with_reducible rfl); simp only [pt,sb,s0,s1])
 refine ly 6 (v:=i_ j_ x.id) (o_ _) rfl rfl ZcS (fun _ _ _ h=>h) (iZ (f:=256) (args:= #[a_ #[i_ j_ x.id,b_ x.up]]) ZcS ?_ ?_) ?_
 ·intro w0 hS0
  obtain ⟨⟨q0,q1,q2,q3,q4⟩,hH⟩:=hS0
  exact Fd
 ·intro w0 hS0
  refine (iw x w0).mono ?_;rintro e w2 ⟨rfl,hb2⟩;exact ⟨rfl,ik (hS0.2.1.I.below hb2) (hS0.2.2.I.below hb2)⟩
 simp only [pt,sb,s0,s1];refine fL rfl ZcS ZcS ZcS ?_;intro w1 cm;obtain ⟨w2,hput,hend⟩:=cm.2.1.I.put (by omega) underlying73 HW.I.1 (HL.I.2 (by trivial)) HW.I.2.2 HW.I.2.1;have HE:Hid (dD w b m true x.id (cG x) 91 (r_ (b_ true)) w2):=hend;exact Zak
end Go.Proofs.YtfncpmaefninjaaGreatDoor

namespace Go.Proofs.YtfncpmaefninjaaGreatDoor
open Go.RowKit
attribute [local go_sem ↓] Kc Kd
def rP (w:w_) (b:Nat) (m:df) (Me:Int) (x:az) (w':w_):Prop:=(w'.cell? ⟨w.heap.size,0,n_⟩=o_ (i_ j_ Me)∧w'.cell? ⟨w.heap.size,1,n_⟩=o_ (.map (o_ b))∧(∀ ty,(Builtin.len_ #[76] ty #[.map (o_ b)]).run J3 w'= .ok (i_ j_ (m.length:Int)) w')∧w'.cell? ⟨w.heap.size+1,0,n_⟩=o_ (i_ j_ x.id)∧w'.cell? ⟨w.heap.size+1,1,n_⟩=o_ (b_ x.shown)∧w'.cell? ⟨w.heap.size+1,2,n_⟩=o_ (t_ x.text))∧Hid (fe w w' w.heap.size (w.heap.size+1) b m Me (cI x) 93 78)∧Hid (gX w' x)
theorem ii {w w':w_} {b:Nat} {m:df} {Me:Int} {x:az} (h:fe w w' w.heap.size (w.heap.size+1) b m Me (cI x) 93 78) (hf:gX w' x):rP w b m Me x w':=
 ⟨⟨h.cells.1,h.cells.2,fun ty=>h.mp.len underlying76 ty,kJ h.bx⟩,h,hf⟩
theorem rr (Me:Int) (b:Nat) (m:df) (x:az) (w:w_) (h:cF w b m) (hw:(Lit.int j_ x.id).wf=true) (hm:m.length≤1048576) (hf:gX w x):
  k_ J3 98 #[a_ #[i_ j_ Me,.map (o_ b)],a_ (cI x)] w fun e w'=>dD w b m (iI Me m x.id (cU x)) x.id (cI x) 93 e w':=by
 have HF:Hid (fe w ((w.alloc (c_ #[i_ j_ Me,.map (o_ b)] 78)).alloc (c_ (cI x) 93)) w.heap.size (w.heap.size+1) b m Me (cI x) 93 78):=fe.start w h Me _ _ _;have HW:Hid ((Lit.int j_ x.id).wf=true∧ ¬ w.heap.size+1=b∧m.length≤1048576):=⟨hw,by have:=h.lt; omega,hm⟩
 have HI:Hid (gX ((w.alloc (c_ #[i_ j_ Me,.map (o_ b)] 78)).alloc (c_ (cI x) 93)) x):=hf.below ((((Kp _ w).alloc (Ki _) _)).alloc (by simp) _);have hmn:=nr;have hmr:=tq;obtain ⟨s0,s1⟩:=HF.I.cells;obtain ⟨c0,c1,c2⟩:=kJ HF.I.bx;clear h hw hf hm;unfold cI at *
 go_enter func98,ntmps98
 go_wp2_with fail;clear s0 s1 c0 c1 c2;obtain ⟨vA,hA⟩: ∃ v,(cz m x.id).isSome=v:=⟨_,rfl⟩
 obtain ⟨vB,F6⟩: ∃ v,decide (Me≤(m.length:Int))=v:=⟨_,rfl⟩
 obtain ⟨vC,hC⟩: ∃ v,cv x.id 1 1000=v:=⟨_,rfl⟩
 obtain ⟨vD,hD⟩: ∃ v,cU x=v:=⟨_,rfl⟩
 have HL:Hid (iI Me m x.id (cU x)=(!vA && !vB && vC && vD)∧(vA=false→cz m x.id=n_)):=⟨pi hA F6 hC hD,fun e=>PX.1 (PY.1 (hA.trans e))⟩
 have HA:Hid (Ending.returned (b_ (cz m x.id).isSome)=r_ (b_ vA)):=al hA;have HC:Hid (Ending.returned (b_ (cv x.id 1 1000))=r_ (b_ vC)):=al hC;have HD:Hid (Ending.returned (b_ (cU x))=r_ (b_ vD)):=al hD;clear hA hC hD;refine aT (rP w b m Me x) ZcS (ii HF.I.drew (HI.I.below (Kp _ _).drew)) ?_
 iterate 3 (refine agj ?_)
 (refine cl (i_ j_ x.id) 259 #[a_ #[i_ j_ x.id,b_ x.shown,t_ x.text]] ?_ ?_ ?_; (intro w0 hS0; obtain ⟨⟨q0,q1,q2,q3,q4,q5⟩,hH⟩:=hS0; go_simp; try with_reducible rfl); (intro w0 hS0; refine (iq x w0).mono ?_; rintro e w2 ⟨rfl,hb2⟩; exact ⟨rfl,ii (hS0.2.1.I.below hb2) (hS0.2.2.I.below hb2)⟩); simp only [pt,sb,s0,s1])
 (refine cl (b_ vA) 132 #[a_ #[i_ j_ Me,.map (o_ b)],i_ j_ x.id] ?_ ?_ ?_; (intro w0 hS0; obtain ⟨⟨q0,q1,q2,q3,q4,q5⟩,hH⟩:=hS0; go_simp; try with_reducible rfl); (intro w0 hS0; refine (qM Me b m x.id w0 hS0.2.1.I.mp HW.I.1).mono ?_; rintro e w2 ⟨rfl,hb2⟩; exact ⟨HA.I,ii (hS0.2.1.I.below hb2) (hS0.2.2.I.below hb2)⟩); simp only [pt,sb,s0,s1])
 (refine agj ?_)
 rcases vA.eq_false_or_eq_true with rfl | rfl
 focus iterate 6 (refine nl ?_; simp only [pt,sb,s0,s1])
 rotate_left
 focus iterate 6 (refine agj ?_)
 all_goals iterate 2 (refine agj ?_)
 rcases vB.eq_false_or_eq_true with rfl | rfl
 focus iterate 5 (refine nl ?_; simp only [pt,sb,s0,s1])
 rotate_left
 focus
  iterate 2 (refine agj ?_)
  (refine cl (i_ j_ x.id) 259 #[a_ #[i_ j_ x.id,b_ x.shown,t_ x.text]] ?_ ?_ ?_; (intro w0 hS0; obtain ⟨⟨q0,q1,q2,q3,q4,q5⟩,hH⟩:=hS0; go_simp; try with_reducible rfl); (intro w0 hS0; refine (iq x w0).mono ?_; rintro e w2 ⟨rfl,hb2⟩; exact ⟨rfl,ii (hS0.2.1.I.below hb2) (hS0.2.2.I.below hb2)⟩); simp only [pt,sb,s0,s1])
  (refine cl (b_ vC) 129 #[i_ j_ x.id] ?_ ?_ ?_; (intro w0 hS0; obtain ⟨⟨q0,q1,q2,q3,q4,q5⟩,hH⟩:=hS0; go_simp; try with_reducible rfl); (intro w0 hS0; refine (eW x.id w0).mono ?_; rintro e w2 ⟨rfl,rfl⟩; exact ⟨HC.I,hS0⟩); simp only [pt,sb,s0,s1])
  (refine agj ?_)
 rotate_left
 focus iterate 5 (refine nl ?_; simp only [pt,sb,s0,s1])
 all_goals iterate 2 (refine agj ?_)
 rotate_right
 rcases vC.eq_false_or_eq_true with rfl | rfl
 focus
  iterate 2 (refine agj ?_)
  (refine cl (b_ vD) 260 #[a_ #[i_ j_ x.id,b_ x.shown,t_ x.text]] ?_ ?_ ?_; (intro w0 hS0; obtain ⟨⟨q0,q1,q2,q3,q4,q5⟩,hH⟩:=hS0; go_simp; try with_reducible rfl); (intro w0 hS0; refine (wd x w0 hS0.2.2.I).mono ?_; rintro e w2 ⟨rfl,hb2⟩; exact ⟨HD.I,ii (hS0.2.1.I.below hb2) (hS0.2.2.I.below hb2)⟩); simp only [pt,sb,s0,s1])
  (refine agj ?_)
 rotate_left
 focus iterate 4 (refine nl ?_; simp only [pt,sb,s0,s1])
 rotate_left
 focus iterate 4 (refine nl ?_; simp only [pt,sb,s0,s1])
 rotate_left
 focus iterate 4 (refine nl ?_; simp only [pt,sb,s0,s1])
 rotate_left
 all_goals (refine agj ?_)
 all_goals refine bk ZcS ?_ _
 all_goals intro w1 cm
 rcases vD.eq_false_or_eq_true with rfl | rfl;rotate_left
 iterate 4
  exact ZaL
 go_wp2_with fail;refine eD (rP w b m Me x) 5 ZcS (ii cm.2.1.I.drew (cm.2.2.I.below (Kp _ _).drew)) ?_
 iterate 4 (refine ly 6 (v:= ?_) (o_ _) rfl rfl ZcS (fun _ _ _ h=>h) (bV ZcS ?_) ?_; rotate_left; (intro w0 hS0; obtain ⟨⟨q0,q1,q2,q3,q4,q5⟩,hH⟩:=hS0; go_simp; try with_reducible rfl); simp only [pt,sb,s0,s1])
 refine ly 6 (v:=i_ j_ x.id) (o_ _) rfl rfl ZcS (fun _ _ _ h=>h) (iZ (f:=259) (args:= #[a_ #[i_ j_ x.id,b_ x.shown,t_ x.text]]) ZcS ?_ ?_) ?_
 ·exact ZcG
 ·intro w0 hS0
  refine (iq x w0).mono ?_;rintro e w2 ⟨rfl,hb2⟩;exact ⟨rfl,ii (hS0.2.1.I.below hb2) (hS0.2.2.I.below hb2)⟩
 simp only [pt,sb,s0,s1];refine fL rfl ZcS ZcS ZcS ?_;intro w1 cm;obtain ⟨w2,hput,hend⟩:=cm.2.1.I.put (by omega) underlying76 HW.I.1 (HL.I.2 (by trivial)) HW.I.2.2 HW.I.2.1;have HE:Hid (dD w b m true x.id (cI x) 93 (r_ (b_ true)) w2):=hend;exact Zak
end Go.Proofs.YtfncpmaefninjaaGreatDoor

namespace Go.Proofs.YtfncpmaefninjaaGreatDoor
open Go.RowKit
attribute [local go_sem ↓] Kc Kd
def qq (w:w_) (b:Nat) (m:df) (Me:Int) (x:au) (w':w_):Prop:=(w'.cell? ⟨w.heap.size,0,n_⟩=o_ (i_ j_ Me)∧w'.cell? ⟨w.heap.size,1,n_⟩=o_ (.map (o_ b))∧(∀ ty,(Builtin.len_ #[79] ty #[.map (o_ b)]).run J3 w'= .ok (i_ j_ (m.length:Int)) w')∧w'.cell? ⟨w.heap.size+1,0,n_⟩=o_ (i_ j_ x.id)∧w'.cell? ⟨w.heap.size+1,1,n_⟩=o_ (i_ j_ x.max)∧w'.cell? ⟨w.heap.size+1,2,n_⟩=o_ (s_ x.ak x.Ma.length x.aq))∧Hid (fe w w' w.heap.size (w.heap.size+1) b m Me (bQ x) 96 81)∧Hid (fM w' x)
theorem gB {w w':w_} {b:Nat} {m:df} {Me:Int} {x:au} (h:fe w w' w.heap.size (w.heap.size+1) b m Me (bQ x) 96 81) (hf:fM w' x):qq w b m Me x w':=
 ⟨⟨h.cells.1,h.cells.2,fun ty=>h.mp.len underlying79 ty,ia h.bx⟩,h,hf⟩
theorem pV (Me:Int) (b:Nat) (m:df) (x:au) (w:w_) (h:cF w b m) (hw:(Lit.int j_ x.id).wf=true) (hm:m.length≤1048576) (hf:fM w x):
  k_ J3 99 #[a_ #[i_ j_ Me,.map (o_ b)],a_ (bQ x)] w fun e w'=>dD w b m (iI Me m x.id (ct x.toci)) x.id (bQ x) 96 e w':=by
 have HF:Hid (fe w ((w.alloc (c_ #[i_ j_ Me,.map (o_ b)] 81)).alloc (c_ (bQ x) 96)) w.heap.size (w.heap.size+1) b m Me (bQ x) 96 81):=fe.start w h Me _ _ _;have HW:Hid ((Lit.int j_ x.id).wf=true∧ ¬ w.heap.size+1=b∧m.length≤1048576):=⟨hw,by have:=h.lt; omega,hm⟩
 have HI:Hid (fM ((w.alloc (c_ #[i_ j_ Me,.map (o_ b)] 81)).alloc (c_ (bQ x) 96)) x):=hf.below ((((Kp _ w).alloc (Ki _) _)).alloc (by simp) _);have hmn:=mc;have hmr:=se;obtain ⟨s0,s1⟩:=HF.I.cells;obtain ⟨c0,c1,c2⟩:=ia HF.I.bx;clear h hw hf hm;unfold bQ at *
 go_enter func99,ntmps99
 go_wp2_with fail;clear s0 s1 c0 c1 c2;obtain ⟨vA,hA⟩: ∃ v,(cz m x.id).isSome=v:=⟨_,rfl⟩
 obtain ⟨vB,F6⟩: ∃ v,decide (Me≤(m.length:Int))=v:=⟨_,rfl⟩
 obtain ⟨vC,hC⟩: ∃ v,cv x.id 1 1000=v:=⟨_,rfl⟩
 obtain ⟨vD,hD⟩: ∃ v,ct x.toci=v:=⟨_,rfl⟩
 have HL:Hid (iI Me m x.id (ct x.toci)=(!vA && !vB && vC && vD)∧(vA=false→cz m x.id=n_)):=⟨pi hA F6 hC hD,fun e=>PX.1 (PY.1 (hA.trans e))⟩
 have HA:Hid (Ending.returned (b_ (cz m x.id).isSome)=r_ (b_ vA)):=al hA;have HC:Hid (Ending.returned (b_ (cv x.id 1 1000))=r_ (b_ vC)):=al hC;have HD:Hid (Ending.returned (b_ (ct x.toci))=r_ (b_ vD)):=al hD;clear hA hC hD;refine aT (qq w b m Me x) ZcS (gB HF.I.drew (HI.I.below (Kp _ _).drew)) ?_
 iterate 3 (refine agj ?_)
 (refine cl (i_ j_ x.id) 262 #[a_ #[i_ j_ x.id,i_ j_ x.max,s_ x.ak x.Ma.length x.aq]] ?_ ?_ ?_; (intro w0 hS0; obtain ⟨⟨q0,q1,q2,q3,q4,q5⟩,hH⟩:=hS0; go_simp; try with_reducible rfl); (intro w0 hS0; refine (gP x w0).mono ?_; rintro e w2 ⟨rfl,hb2⟩; exact ⟨rfl,gB (hS0.2.1.I.below hb2) (hS0.2.2.I.below hb2)⟩); simp only [pt,sb,s0,s1])
 (refine cl (b_ vA) 133 #[a_ #[i_ j_ Me,.map (o_ b)],i_ j_ x.id] ?_ ?_ ?_; (intro w0 hS0; obtain ⟨⟨q0,q1,q2,q3,q4,q5⟩,hH⟩:=hS0; go_simp; try with_reducible rfl); (intro w0 hS0; refine (mE Me b m x.id w0 hS0.2.1.I.mp HW.I.1).mono ?_; rintro e w2 ⟨rfl,hb2⟩; exact ⟨HA.I,gB (hS0.2.1.I.below hb2) (hS0.2.2.I.below hb2)⟩); simp only [pt,sb,s0,s1])
 (refine agj ?_)
 rcases vA.eq_false_or_eq_true with rfl | rfl
 focus iterate 6 (refine nl ?_; simp only [pt,sb,s0,s1])
 rotate_left
 focus iterate 6 (refine agj ?_)
 all_goals iterate 2 (refine agj ?_)
 rcases vB.eq_false_or_eq_true with rfl | rfl
 focus iterate 5 (refine nl ?_; simp only [pt,sb,s0,s1])
 rotate_left
 focus
  iterate 2 (refine agj ?_)
  (refine cl (i_ j_ x.id) 262 #[a_ #[i_ j_ x.id,i_ j_ x.max,s_ x.ak x.Ma.length x.aq]] ?_ ?_ ?_; (intro w0 hS0; obtain ⟨⟨q0,q1,q2,q3,q4,q5⟩,hH⟩:=hS0; go_simp; try with_reducible rfl); (intro w0 hS0; refine (gP x w0).mono ?_; rintro e w2 ⟨rfl,hb2⟩; exact ⟨rfl,gB (hS0.2.1.I.below hb2) (hS0.2.2.I.below hb2)⟩); simp only [pt,sb,s0,s1])
  (refine cl (b_ vC) 129 #[i_ j_ x.id] ?_ ?_ ?_; (intro w0 hS0; obtain ⟨⟨q0,q1,q2,q3,q4,q5⟩,hH⟩:=hS0; go_simp; try with_reducible rfl); (intro w0 hS0; refine (eW x.id w0).mono ?_; rintro e w2 ⟨rfl,rfl⟩; exact ⟨HC.I,hS0⟩); simp only [pt,sb,s0,s1])
  (refine agj ?_)
 rotate_left
 focus iterate 5 (refine nl ?_; simp only [pt,sb,s0,s1])
 all_goals iterate 2 (refine agj ?_)
 rotate_right
 rcases vC.eq_false_or_eq_true with rfl | rfl
 focus
  iterate 2 (refine agj ?_)
  (refine cl (b_ vD) 263 #[a_ #[i_ j_ x.id,i_ j_ x.max,s_ x.ak x.Ma.length x.aq]] ?_ ?_ ?_; (intro w0 hS0; obtain ⟨⟨q0,q1,q2,q3,q4,q5⟩,hH⟩:=hS0; go_simp; try with_reducible rfl); (intro w0 hS0; refine (Sr x w0 hS0.2.2.I).mono ?_; rintro e w2 ⟨rfl,hb2⟩; exact ⟨HD.I,gB (hS0.2.1.I.below hb2) (hS0.2.2.I.below hb2)⟩); simp only [pt,sb,s0,s1])
  (refine agj ?_)
 rotate_left
 focus iterate 4 (refine nl ?_; simp only [pt,sb,s0,s1])
 rotate_left
 focus iterate 4 (refine nl ?_; simp only [pt,sb,s0,s1])
 rotate_left
 focus iterate 4 (refine nl ?_; simp only [pt,sb,s0,s1])
 rotate_left
 all_goals (refine agj ?_)
 all_goals refine bk ZcS ?_ _
 all_goals intro w1 cm
 rcases vD.eq_false_or_eq_true with rfl | rfl;rotate_left
 iterate 4
  exact ZaL
 go_wp2_with fail;refine eD (qq w b m Me x) 5 ZcS (gB cm.2.1.I.drew (cm.2.2.I.below (Kp _ _).drew)) ?_
 iterate 4 (refine ly 6 (v:= ?_) (o_ _) rfl rfl ZcS (fun _ _ _ h=>h) (bV ZcS ?_) ?_; rotate_left; (intro w0 hS0; obtain ⟨⟨q0,q1,q2,q3,q4,q5⟩,hH⟩:=hS0; go_simp; try with_reducible rfl); simp only [pt,sb,s0,s1])
 refine ly 6 (v:=i_ j_ x.id) (o_ _) rfl rfl ZcS (fun _ _ _ h=>h) (iZ (f:=262) (args:= #[a_ #[i_ j_ x.id,i_ j_ x.max,s_ x.ak x.Ma.length x.aq]]) ZcS ?_ ?_) ?_
 ·exact ZcG
 ·intro w0 hS0
  refine (gP x w0).mono ?_;rintro e w2 ⟨rfl,hb2⟩;exact ⟨rfl,gB (hS0.2.1.I.below hb2) (hS0.2.2.I.below hb2)⟩
 simp only [pt,sb,s0,s1];refine fL rfl ZcS ZcS ZcS ?_;intro w1 cm;obtain ⟨w2,hput,hend⟩:=cm.2.1.I.put (by omega) underlying79 HW.I.1 (HL.I.2 (by trivial)) HW.I.2.2 HW.I.2.1;have HE:Hid (dD w b m true x.id (bQ x) 96 (r_ (b_ true)) w2):=hend;exact Zak
end Go.Proofs.YtfncpmaefninjaaGreatDoor

namespace Go.Proofs.YtfncpmaefninjaaGreatDoor
open Go.RowKit
attribute [local go_sem ↓] Kc Kd
def vk (w:w_) (b:Nat) (m:df) (Me:Int) (x:aM) (w':w_):Prop:=(w'.cell? ⟨w.heap.size,0,n_⟩=o_ (i_ j_ Me)∧w'.cell? ⟨w.heap.size,1,n_⟩=o_ (.map (o_ b))∧(∀ ty,(Builtin.len_ #[82] ty #[.map (o_ b)]).run J3 w'= .ok (i_ j_ (m.length:Int)) w')∧w'.cell? ⟨w.heap.size+1,0,n_⟩=o_ (i_ j_ x.id)∧w'.cell? ⟨w.heap.size+1,1,n_⟩=o_ (b_ x.I)∧w'.cell? ⟨w.heap.size+1,2,n_⟩=o_ (b_ x.Mf)∧w'.cell? ⟨w.heap.size+1,3,n_⟩=o_ (i_ j_ x.max)∧w'.cell? ⟨w.heap.size+1,4,n_⟩=o_ (s_ x.ak x.Ma.length x.aq))∧Hid (fe w w' w.heap.size (w.heap.size+1) b m Me (cW x) 115 84)∧Hid (jf w' x)
theorem iW {w w':w_} {b:Nat} {m:df} {Me:Int} {x:aM} (h:fe w w' w.heap.size (w.heap.size+1) b m Me (cW x) 115 84) (hf:jf w' x):vk w b m Me x w':=
 ⟨⟨h.cells.1,h.cells.2,fun ty=>h.mp.len underlying82 ty,gE h.bx⟩,h,hf⟩
theorem tb (Me:Int) (b:Nat) (m:df) (x:aM) (w:w_) (h:cF w b m) (hw:(Lit.int j_ x.id).wf=true) (hm:m.length≤1048576) (hf:jf w x):
  k_ J3 100 #[a_ #[i_ j_ Me,.map (o_ b)],a_ (cW x)] w fun e w'=>dD w b m (iI Me m x.id (dj x.todS)) x.id (cW x) 115 e w':=by
 have HF:Hid (fe w ((w.alloc (c_ #[i_ j_ Me,.map (o_ b)] 84)).alloc (c_ (cW x) 115)) w.heap.size (w.heap.size+1) b m Me (cW x) 115 84):=fe.start w h Me _ _ _;have HW:Hid ((Lit.int j_ x.id).wf=true∧ ¬ w.heap.size+1=b∧m.length≤1048576):=⟨hw,by have:=h.lt; omega,hm⟩
 have HI:Hid (jf ((w.alloc (c_ #[i_ j_ Me,.map (o_ b)] 84)).alloc (c_ (cW x) 115)) x):=hf.below ((((Kp _ w).alloc (Ki _) _)).alloc (by simp) _);have hmn:=nY;have hmr:=vZ;obtain ⟨s0,s1⟩:=HF.I.cells;obtain ⟨c0,c1,c2,c3,c4⟩:=gE HF.I.bx;clear h hw hf hm;unfold cW at *
 go_enter func100,ntmps100
 go_wp2_with fail;clear s0 s1 c0 c1 c2 c3 c4;obtain ⟨vA,hA⟩: ∃ v,(cz m x.id).isSome=v:=⟨_,rfl⟩
 obtain ⟨vB,F6⟩: ∃ v,decide (Me≤(m.length:Int))=v:=⟨_,rfl⟩
 obtain ⟨vC,hC⟩: ∃ v,cv x.id 1 1000=v:=⟨_,rfl⟩
 obtain ⟨vD,hD⟩: ∃ v,dj x.todS=v:=⟨_,rfl⟩
 have HL:Hid (iI Me m x.id (dj x.todS)=(!vA && !vB && vC && vD)∧(vA=false→cz m x.id=n_)):=⟨pi hA F6 hC hD,fun e=>PX.1 (PY.1 (hA.trans e))⟩
 have HA:Hid (Ending.returned (b_ (cz m x.id).isSome)=r_ (b_ vA)):=al hA;have HC:Hid (Ending.returned (b_ (cv x.id 1 1000))=r_ (b_ vC)):=al hC;have HD:Hid (Ending.returned (b_ (dj x.todS))=r_ (b_ vD)):=al hD;clear hA hC hD;refine aT (vk w b m Me x) ZcS (iW HF.I.drew (HI.I.below (Kp _ _).drew)) ?_
 iterate 3 (refine agj ?_)
 (refine cl (i_ j_ x.id) 267 #[a_ #[i_ j_ x.id,b_ x.I,b_ x.Mf,i_ j_ x.max,s_ x.ak x.Ma.length x.aq]] ?_ ?_ ?_; (intro w0 hS0; obtain ⟨⟨q0,q1,q2,q3,q4,q5,q6,q7⟩,hH⟩:=hS0; go_simp; try with_reducible rfl); (intro w0 hS0; refine (iN x w0).mono ?_; rintro e w2 ⟨rfl,hb2⟩; exact ⟨rfl,iW (hS0.2.1.I.below hb2) (hS0.2.2.I.below hb2)⟩); simp only [pt,sb,s0,s1])
 (refine cl (b_ vA) 134 #[a_ #[i_ j_ Me,.map (o_ b)],i_ j_ x.id] ?_ ?_ ?_; (intro w0 hS0; obtain ⟨⟨q0,q1,q2,q3,q4,q5,q6,q7⟩,hH⟩:=hS0; go_simp; try with_reducible rfl); (intro w0 hS0; refine (Bb Me b m x.id w0 hS0.2.1.I.mp HW.I.1).mono ?_; rintro e w2 ⟨rfl,hb2⟩; exact ⟨HA.I,iW (hS0.2.1.I.below hb2) (hS0.2.2.I.below hb2)⟩); simp only [pt,sb,s0,s1])
 (refine agj ?_)
 rcases vA.eq_false_or_eq_true with rfl | rfl
 focus iterate 6 (refine nl ?_; simp only [pt,sb,s0,s1])
 rotate_left
 focus iterate 6 (refine agj ?_)
 all_goals iterate 2 (refine agj ?_)
 rcases vB.eq_false_or_eq_true with rfl | rfl
 focus iterate 5 (refine nl ?_; simp only [pt,sb,s0,s1])
 rotate_left
 focus
  iterate 2 (refine agj ?_)
  (refine cl (i_ j_ x.id) 267 #[a_ #[i_ j_ x.id,b_ x.I,b_ x.Mf,i_ j_ x.max,s_ x.ak x.Ma.length x.aq]] ?_ ?_ ?_; (intro w0 hS0; obtain ⟨⟨q0,q1,q2,q3,q4,q5,q6,q7⟩,hH⟩:=hS0; go_simp; try with_reducible rfl); (intro w0 hS0; refine (iN x w0).mono ?_; rintro e w2 ⟨rfl,hb2⟩; exact ⟨rfl,iW (hS0.2.1.I.below hb2) (hS0.2.2.I.below hb2)⟩); simp only [pt,sb,s0,s1])
  (refine cl (b_ vC) 129 #[i_ j_ x.id] ?_ ?_ ?_; (intro w0 hS0; obtain ⟨⟨q0,q1,q2,q3,q4,q5,q6,q7⟩,hH⟩:=hS0; go_simp; try with_reducible rfl); (intro w0 hS0; refine (eW x.id w0).mono ?_; rintro e w2 ⟨rfl,rfl⟩; exact ⟨HC.I,hS0⟩); simp only [pt,sb,s0,s1])
  (refine agj ?_)
 rotate_left
 focus iterate 5 (refine nl ?_; simp only [pt,sb,s0,s1])
 all_goals iterate 2 (refine agj ?_)
 rotate_right
 rcases vC.eq_false_or_eq_true with rfl | rfl
 focus
  iterate 2 (refine agj ?_)
  (refine cl (b_ vD) 268 #[a_ #[i_ j_ x.id,b_ x.I,b_ x.Mf,i_ j_ x.max,s_ x.ak x.Ma.length x.aq]] ?_ ?_ ?_; (intro w0 hS0; obtain ⟨⟨q0,q1,q2,q3,q4,q5,q6,q7⟩,hH⟩:=hS0; go_simp; try with_reducible rfl); (intro w0 hS0; refine (wG x w0 hS0.2.2.I).mono ?_; rintro e w2 ⟨rfl,hb2⟩; exact ⟨HD.I,iW (hS0.2.1.I.below hb2) (hS0.2.2.I.below hb2)⟩); simp only [pt,sb,s0,s1])
  (refine agj ?_)
 rotate_left
 focus iterate 4 (refine nl ?_; simp only [pt,sb,s0,s1])
 rotate_left
 focus iterate 4 (refine nl ?_; simp only [pt,sb,s0,s1])
 rotate_left
 focus iterate 4 (refine nl ?_; simp only [pt,sb,s0,s1])
 rotate_left
 all_goals (refine agj ?_)
 all_goals refine bk ZcS ?_ _
 all_goals intro w1 cm
 rcases vD.eq_false_or_eq_true with rfl | rfl;rotate_left
 iterate 4
  exact ZaL
 go_wp2_with fail;refine eD (vk w b m Me x) 5 ZcS (iW cm.2.1.I.drew (cm.2.2.I.below (Kp _ _).drew)) ?_
 iterate 4 (refine ly 6 (v:= ?_) (o_ _) rfl rfl ZcS (fun _ _ _ h=>h) (bV ZcS ?_) ?_; rotate_left; (intro w0 hS0; obtain ⟨⟨q0,q1,q2,q3,q4,q5,q6,q7⟩,hH⟩:=hS0; go_simp; try with_reducible rfl); simp only [pt,sb,s0,s1])
 refine ly 6 (v:=i_ j_ x.id) (o_ _) rfl rfl ZcS (fun _ _ _ h=>h) (iZ (f:=267) (args:= #[a_ #[i_ j_ x.id,b_ x.I,b_ x.Mf,i_ j_ x.max,s_ x.ak x.Ma.length x.aq]]) ZcS ?_ ?_) ?_
 ·intro w0 hS0
  obtain ⟨⟨q0,q1,q2,q3,q4,q5,q6,q7⟩,hH⟩:=hS0
  exact Fd
 ·intro w0 hS0
  refine (iN x w0).mono ?_;rintro e w2 ⟨rfl,hb2⟩;exact ⟨rfl,iW (hS0.2.1.I.below hb2) (hS0.2.2.I.below hb2)⟩
 simp only [pt,sb,s0,s1];refine fL rfl ZcS ZcS ZcS ?_;intro w1 cm;obtain ⟨w2,hput,hend⟩:=cm.2.1.I.put (by omega) underlying82 HW.I.1 (HL.I.2 (by trivial)) HW.I.2.2 HW.I.2.1;have HE:Hid (dD w b m true x.id (cW x) 115 (r_ (b_ true)) w2):=hend;exact Zak
end Go.Proofs.YtfncpmaefninjaaGreatDoor
